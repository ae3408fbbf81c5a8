import Derived.Test.YtadkcdcdgphhpaaARPRd
namespace Go.Proofs.Ytadkcdcdgphhpaa.ArR
open Go.ChangeShapes Go.WideShapes Go.ChangeAt Go.RowKit Bs Rd EtR
set_option linter.unusedVariables false

set_option maxHeartbeats 2000000 in
theorem arp_short (B : Nat) (l : List UInt8) (w : World) (h : Rdr w B l) (hn : l.length < 28) :
    Calls Try.prog 81 #[.pointer (some ⟨B, 0, none⟩)] w fun ee w' => ee = .panicked (errP 1) ∧ w.grownBy w' (some B) := by
  have hB := h.lt
  have hne0 : w.heap.size ≠ B := by omega
  have H0 := hide (h.alloc (.cells #[.int .u16 0, .int .u8 0, .int .u8 0, .int .u8 0, .int .u8 0, .int .u8 0, .int .u8 0, .int .u32 0, .int .u8 0, .int .u8 0, .int .u8 0, .int .u8 0, .int .u8 0, .int .u8 0, .int .u32 0] 37))
  have G0 := hide (grown_alloc (grown_refl w (some B)) (.cells #[.int .u16 0, .int .u8 0, .int .u8 0, .int .u8 0, .int .u8 0, .int .u8 0, .int .u8 0, .int .u32 0, .int .u8 0, .int .u8 0, .int .u8 0, .int .u8 0, .int .u8 0, .int .u8 0, .int .u32 0] 37))
  have R0 : Hid ((w.alloc (.cells #[.int .u16 0, .int .u8 0, .int .u8 0, .int .u8 0, .int .u8 0, .int .u8 0, .int .u8 0, .int .u32 0, .int .u8 0, .int .u8 0, .int .u8 0, .int .u8 0, .int .u8 0, .int .u8 0, .int .u32 0] 37)).heap[w.heap.size]? = some (.cells #[.int .u16 0, .int .u8 0, .int .u8 0, .int .u8 0, .int .u8 0, .int .u8 0, .int .u8 0, .int .u32 0, .int .u8 0, .int .u8 0, .int .u8 0, .int .u8 0, .int .u8 0, .int .u8 0, .int .u32 0] 37 (0, 0))) := heap_alloc_new w _
  clear h
  go_enter Try.func81, Try.ntmps81
  go_wp2_with fail
  refine (need_no _ _ _ _ (unhide H0) (by omega)).mono ?_
  rintro ee wz ⟨rfl, rfl⟩
  exact ⟨rfl, rfl, unhide G0⟩

set_option maxHeartbeats 2000000 in
theorem arp_head (B : Nat) (h1 h2 h3 h4 h5 h6 o o' a b c d e f i1 i2 i3 i4 a' b' c' d' e' f' j1 j2 j3 j4 : UInt8) (l : List UInt8) (w : World) (h : Rdr w B (h1 :: h2 :: h3 :: h4 :: h5 :: h6 :: o :: o' :: a :: b :: c :: d :: e :: f :: i1 :: i2 :: i3 :: i4 :: a' :: b' :: c' :: d' :: e' :: f' :: j1 :: j2 :: j3 :: j4 :: l)) (hs : (h1 :: h2 :: h3 :: h4 :: h5 :: h6 :: o :: o' :: a :: b :: c :: d :: e :: f :: i1 :: i2 :: i3 :: i4 :: a' :: b' :: c' :: d' :: e' :: f' :: j1 :: j2 :: j3 :: j4 :: l).length ≤ maxLen) (hh : okHead h1 h2 h3 h4 h5 h6 = false) :
    Calls Try.prog 81 #[.pointer (some ⟨B, 0, none⟩)] w fun ee w' => ee = .panicked (errP 2) ∧ w.grownBy w' (some B) := by
  have hB := h.lt
  have hne0 : w.heap.size ≠ B := by omega
  have H0 := hide (h.alloc (.cells #[.int .u16 0, .int .u8 0, .int .u8 0, .int .u8 0, .int .u8 0, .int .u8 0, .int .u8 0, .int .u32 0, .int .u8 0, .int .u8 0, .int .u8 0, .int .u8 0, .int .u8 0, .int .u8 0, .int .u32 0] 37))
  have G0 := hide (grown_alloc (grown_refl w (some B)) (.cells #[.int .u16 0, .int .u8 0, .int .u8 0, .int .u8 0, .int .u8 0, .int .u8 0, .int .u8 0, .int .u32 0, .int .u8 0, .int .u8 0, .int .u8 0, .int .u8 0, .int .u8 0, .int .u8 0, .int .u32 0] 37))
  have R0 : Hid ((w.alloc (.cells #[.int .u16 0, .int .u8 0, .int .u8 0, .int .u8 0, .int .u8 0, .int .u8 0, .int .u8 0, .int .u32 0, .int .u8 0, .int .u8 0, .int .u8 0, .int .u8 0, .int .u8 0, .int .u8 0, .int .u32 0] 37)).heap[w.heap.size]? = some (.cells #[.int .u16 0, .int .u8 0, .int .u8 0, .int .u8 0, .int .u8 0, .int .u8 0, .int .u8 0, .int .u32 0, .int .u8 0, .int .u8 0, .int .u8 0, .int .u8 0, .int .u8 0, .int .u8 0, .int .u32 0] 37 (0, 0))) := heap_alloc_new w _
  clear h
  have T1 := hide (fun u hu => getHead_no B h1 h2 h3 h4 h5 h6 _ u hu hs hh)
  clear hh
  go_enter Try.func81, Try.ntmps81
  go_wp2_with fail
  refine (need_ok _ _ _ _ (unhide H0) (by simp only [List.length_cons]; omega)).mono ?_
  rintro ee wz ⟨rfl, rfl⟩
  go_wp2_with fail
  refine (unhide T1 _ (unhide H0)).mono ?_
  rintro ee wy ⟨rfl, gy⟩
  exact ⟨rfl, rfl, grown_trans (unhide G0) gy⟩

set_option maxHeartbeats 2000000 in
theorem arp_op (B : Nat) (h1 h2 h3 h4 h5 h6 o o' a b c d e f i1 i2 i3 i4 a' b' c' d' e' f' j1 j2 j3 j4 : UInt8) (l : List UInt8) (w : World) (h : Rdr w B (h1 :: h2 :: h3 :: h4 :: h5 :: h6 :: o :: o' :: a :: b :: c :: d :: e :: f :: i1 :: i2 :: i3 :: i4 :: a' :: b' :: c' :: d' :: e' :: f' :: j1 :: j2 :: j3 :: j4 :: l)) (hs : (h1 :: h2 :: h3 :: h4 :: h5 :: h6 :: o :: o' :: a :: b :: c :: d :: e :: f :: i1 :: i2 :: i3 :: i4 :: a' :: b' :: c' :: d' :: e' :: f' :: j1 :: j2 :: j3 :: j4 :: l).length ≤ maxLen) (hh : okHead h1 h2 h3 h4 h5 h6 = true) (ho : (256 * (o.toNat : Int) + (o'.toNat : Int) == 1 || 256 * (o.toNat : Int) + (o'.toNat : Int) == 2) = false) :
    Calls Try.prog 81 #[.pointer (some ⟨B, 0, none⟩)] w fun ee w' => ee = .panicked (errP 2) ∧ w.grownBy w' (some B) := by
  have hB := h.lt
  have hne0 : w.heap.size ≠ B := by omega
  have H0 := hide (h.alloc (.cells #[.int .u16 0, .int .u8 0, .int .u8 0, .int .u8 0, .int .u8 0, .int .u8 0, .int .u8 0, .int .u32 0, .int .u8 0, .int .u8 0, .int .u8 0, .int .u8 0, .int .u8 0, .int .u8 0, .int .u32 0] 37))
  have G0 := hide (grown_alloc (grown_refl w (some B)) (.cells #[.int .u16 0, .int .u8 0, .int .u8 0, .int .u8 0, .int .u8 0, .int .u8 0, .int .u8 0, .int .u32 0, .int .u8 0, .int .u8 0, .int .u8 0, .int .u8 0, .int .u8 0, .int .u8 0, .int .u32 0] 37))
  have R0 : Hid ((w.alloc (.cells #[.int .u16 0, .int .u8 0, .int .u8 0, .int .u8 0, .int .u8 0, .int .u8 0, .int .u8 0, .int .u32 0, .int .u8 0, .int .u8 0, .int .u8 0, .int .u8 0, .int .u8 0, .int .u8 0, .int .u32 0] 37)).heap[w.heap.size]? = some (.cells #[.int .u16 0, .int .u8 0, .int .u8 0, .int .u8 0, .int .u8 0, .int .u8 0, .int .u8 0, .int .u32 0, .int .u8 0, .int .u8 0, .int .u8 0, .int .u8 0, .int .u8 0, .int .u8 0, .int .u32 0] 37 (0, 0))) := heap_alloc_new w _
  clear h
  have T1 := hide (fun u hu => getHead_ok B h1 h2 h3 h4 h5 h6 _ u hu hs hh)
  have T2 := hide (fun u hu => getOp_no B o o' (a :: b :: c :: d :: e :: f :: i1 :: i2 :: i3 :: i4 :: a' :: b' :: c' :: d' :: e' :: f' :: j1 :: j2 :: j3 :: j4 :: l) u hu (by simp only [List.length_cons, maxLen] at hs ⊢; omega) ho)
  clear hh ho
  go_enter Try.func81, Try.ntmps81
  go_wp2_with fail
  refine (need_ok _ _ _ _ (unhide H0) (by simp only [List.length_cons]; omega)).mono ?_
  rintro ee wz ⟨rfl, rfl⟩
  go_wp2_with fail
  refine (unhide T1 _ (unhide H0)).mono ?_
  rintro ee w1 ⟨⟨vv, rfl⟩, k1, g1⟩
  have z1 : w.heap.size + 1 ≤ w1.heap.size := by have := g1.size; simpa using this
  have hne1 : w1.heap.size ≠ B := by omega
  have hlt0 : w.heap.size < w1.heap.size := by omega
  have H1 := hide (k1.alloc (.cells #[.int .u16 0, .int .u8 0, .int .u8 0, .int .u8 0, .int .u8 0, .int .u8 0, .int .u8 0, .int .u32 0, .int .u8 0, .int .u8 0, .int .u8 0, .int .u8 0, .int .u8 0, .int .u8 0, .int .u32 0] 37))
  have G1 := hide (grown_alloc (grown_trans (unhide G0) g1) (.cells #[.int .u16 0, .int .u8 0, .int .u8 0, .int .u8 0, .int .u8 0, .int .u8 0, .int .u8 0, .int .u32 0, .int .u8 0, .int .u8 0, .int .u8 0, .int .u8 0, .int .u8 0, .int .u8 0, .int .u32 0] 37))
  have E1 : Hid ((w1.alloc (.cells #[.int .u16 0, .int .u8 0, .int .u8 0, .int .u8 0, .int .u8 0, .int .u8 0, .int .u8 0, .int .u32 0, .int .u8 0, .int .u8 0, .int .u8 0, .int .u8 0, .int .u8 0, .int .u8 0, .int .u32 0] 37)).heap[w1.heap.size]? = some (.cells #[.int .u16 0, .int .u8 0, .int .u8 0, .int .u8 0, .int .u8 0, .int .u8 0, .int .u8 0, .int .u32 0, .int .u8 0, .int .u8 0, .int .u8 0, .int .u8 0, .int .u8 0, .int .u8 0, .int .u32 0] 37 (0, 0))) := heap_alloc_new w1 _
  have R1 : Hid ((w1.alloc (.cells #[.int .u16 0, .int .u8 0, .int .u8 0, .int .u8 0, .int .u8 0, .int .u8 0, .int .u8 0, .int .u32 0, .int .u8 0, .int .u8 0, .int .u8 0, .int .u8 0, .int .u8 0, .int .u8 0, .int .u32 0] 37)).heap[w.heap.size]? = some (.cells #[.int .u16 0, .int .u8 0, .int .u8 0, .int .u8 0, .int .u8 0, .int .u8 0, .int .u8 0, .int .u32 0, .int .u8 0, .int .u8 0, .int .u8 0, .int .u8 0, .int .u8 0, .int .u8 0, .int .u32 0] 37 (0, 0))) := by
    show _ = _
    rw [Below.heap_alloc _ _ _ (by omega)]
    exact (g1.block _ (lt_of_block (unhide R0)) (fun q => hne0 (by simpa using q))).trans (unhide R0)
  have Z1 := hide z1
  clear k1 g1 H0 G0 R0 z1
  go_wp2_with fail
  refine (unhide T2 _ (unhide H1)).mono ?_
  rintro ee wy ⟨rfl, gy⟩
  exact ⟨rfl, rfl, grown_trans (unhide G1) gy⟩

set_option maxHeartbeats 4000000 in
theorem arp_ok (B : Nat) (h1 h2 h3 h4 h5 h6 o o' a b c d e f i1 i2 i3 i4 a' b' c' d' e' f' j1 j2 j3 j4 : UInt8) (l : List UInt8) (w : World) (h : Rdr w B (h1 :: h2 :: h3 :: h4 :: h5 :: h6 :: o :: o' :: a :: b :: c :: d :: e :: f :: i1 :: i2 :: i3 :: i4 :: a' :: b' :: c' :: d' :: e' :: f' :: j1 :: j2 :: j3 :: j4 :: l)) (hs : (h1 :: h2 :: h3 :: h4 :: h5 :: h6 :: o :: o' :: a :: b :: c :: d :: e :: f :: i1 :: i2 :: i3 :: i4 :: a' :: b' :: c' :: d' :: e' :: f' :: j1 :: j2 :: j3 :: j4 :: l).length ≤ maxLen) (hh : okHead h1 h2 h3 h4 h5 h6 = true) (ho : (256 * (o.toNat : Int) + (o'.toNat : Int) == 1 || 256 * (o.toNat : Int) + (o'.toNat : Int) == 2) = true) :
    Calls Try.prog 81 #[.pointer (some ⟨B, 0, none⟩)] w fun ee w' => ee = .returned (.agg #[.int .u16 (256 * (o.toNat : Int) + (o'.toNat : Int)), .int .u8 a.toNat, .int .u8 b.toNat, .int .u8 c.toNat, .int .u8 d.toNat, .int .u8 e.toNat, .int .u8 f.toNat, .int .u32 (16777216 * (i1.toNat : Int) + 65536 * (i2.toNat : Int) + 256 * (i3.toNat : Int) + (i4.toNat : Int)), .int .u8 a'.toNat, .int .u8 b'.toNat, .int .u8 c'.toNat, .int .u8 d'.toNat, .int .u8 e'.toNat, .int .u8 f'.toNat, .int .u32 (16777216 * (j1.toNat : Int) + 65536 * (j2.toNat : Int) + 256 * (j3.toNat : Int) + (j4.toNat : Int))]) ∧ w.grownBy w' (some B) := by
  have hB := h.lt
  have hne0 : w.heap.size ≠ B := by omega
  have H0 := hide (h.alloc (.cells #[.int .u16 0, .int .u8 0, .int .u8 0, .int .u8 0, .int .u8 0, .int .u8 0, .int .u8 0, .int .u32 0, .int .u8 0, .int .u8 0, .int .u8 0, .int .u8 0, .int .u8 0, .int .u8 0, .int .u32 0] 37))
  have G0 := hide (grown_alloc (grown_refl w (some B)) (.cells #[.int .u16 0, .int .u8 0, .int .u8 0, .int .u8 0, .int .u8 0, .int .u8 0, .int .u8 0, .int .u32 0, .int .u8 0, .int .u8 0, .int .u8 0, .int .u8 0, .int .u8 0, .int .u8 0, .int .u32 0] 37))
  have R0 : Hid ((w.alloc (.cells #[.int .u16 0, .int .u8 0, .int .u8 0, .int .u8 0, .int .u8 0, .int .u8 0, .int .u8 0, .int .u32 0, .int .u8 0, .int .u8 0, .int .u8 0, .int .u8 0, .int .u8 0, .int .u8 0, .int .u32 0] 37)).heap[w.heap.size]? = some (.cells #[.int .u16 0, .int .u8 0, .int .u8 0, .int .u8 0, .int .u8 0, .int .u8 0, .int .u8 0, .int .u32 0, .int .u8 0, .int .u8 0, .int .u8 0, .int .u8 0, .int .u8 0, .int .u8 0, .int .u32 0] 37 (0, 0))) := heap_alloc_new w _
  clear h
  have T1 := hide (fun u hu => getHead_ok B h1 h2 h3 h4 h5 h6 _ u hu hs hh)
  have T2 := hide (fun u hu => getOp_ok B o o' (a :: b :: c :: d :: e :: f :: i1 :: i2 :: i3 :: i4 :: a' :: b' :: c' :: d' :: e' :: f' :: j1 :: j2 :: j3 :: j4 :: l) u hu (by simp only [List.length_cons, maxLen] at hs ⊢; omega) ho)
  have T4 := hide (fun u hu => address_ok B i1 i2 i3 i4 (a' :: b' :: c' :: d' :: e' :: f' :: j1 :: j2 :: j3 :: j4 :: l) u hu (by simp only [List.length_cons, maxLen] at hs ⊢; omega))
  have T6 := hide (fun u hu => address_ok B j1 j2 j3 j4 l u hu (by simp only [List.length_cons, maxLen] at hs ⊢; omega))
  obtain ⟨x, hx⟩ : ∃ x, x = 256 * (o.toNat : Int) + (o'.toNat : Int) := ⟨_, rfl⟩
  obtain ⟨y, hy⟩ : ∃ y, y = 16777216 * (i1.toNat : Int) + 65536 * (i2.toNat : Int) + 256 * (i3.toNat : Int) + (i4.toNat : Int) := ⟨_, rfl⟩
  obtain ⟨v, hv⟩ : ∃ v, v = 16777216 * (j1.toNat : Int) + 65536 * (j2.toNat : Int) + 256 * (j3.toNat : Int) + (j4.toNat : Int) := ⟨_, rfl⟩
  rw [← hx] at T2 ⊢
  rw [← hy] at T4 ⊢
  rw [← hv] at T6 ⊢
  clear hh ho hx hy hv
  go_enter Try.func81, Try.ntmps81
  go_wp2_with fail
  refine (need_ok _ _ _ _ (unhide H0) (by simp only [List.length_cons]; omega)).mono ?_
  rintro ee wz ⟨rfl, rfl⟩
  go_wp2_with fail
  refine (unhide T1 _ (unhide H0)).mono ?_
  rintro ee w1 ⟨⟨vv, rfl⟩, k1, g1⟩
  have z1 : w.heap.size + 1 ≤ w1.heap.size := by have := g1.size; simpa using this
  have hne1 : w1.heap.size ≠ B := by omega
  have hlt0 : w.heap.size < w1.heap.size := by omega
  have H1 := hide (k1.alloc (.cells #[.int .u16 0, .int .u8 0, .int .u8 0, .int .u8 0, .int .u8 0, .int .u8 0, .int .u8 0, .int .u32 0, .int .u8 0, .int .u8 0, .int .u8 0, .int .u8 0, .int .u8 0, .int .u8 0, .int .u32 0] 37))
  have G1 := hide (grown_alloc (grown_trans (unhide G0) g1) (.cells #[.int .u16 0, .int .u8 0, .int .u8 0, .int .u8 0, .int .u8 0, .int .u8 0, .int .u8 0, .int .u32 0, .int .u8 0, .int .u8 0, .int .u8 0, .int .u8 0, .int .u8 0, .int .u8 0, .int .u32 0] 37))
  have E1 : Hid ((w1.alloc (.cells #[.int .u16 0, .int .u8 0, .int .u8 0, .int .u8 0, .int .u8 0, .int .u8 0, .int .u8 0, .int .u32 0, .int .u8 0, .int .u8 0, .int .u8 0, .int .u8 0, .int .u8 0, .int .u8 0, .int .u32 0] 37)).heap[w1.heap.size]? = some (.cells #[.int .u16 0, .int .u8 0, .int .u8 0, .int .u8 0, .int .u8 0, .int .u8 0, .int .u8 0, .int .u32 0, .int .u8 0, .int .u8 0, .int .u8 0, .int .u8 0, .int .u8 0, .int .u8 0, .int .u32 0] 37 (0, 0))) := heap_alloc_new w1 _
  have R1 : Hid ((w1.alloc (.cells #[.int .u16 0, .int .u8 0, .int .u8 0, .int .u8 0, .int .u8 0, .int .u8 0, .int .u8 0, .int .u32 0, .int .u8 0, .int .u8 0, .int .u8 0, .int .u8 0, .int .u8 0, .int .u8 0, .int .u32 0] 37)).heap[w.heap.size]? = some (.cells #[.int .u16 0, .int .u8 0, .int .u8 0, .int .u8 0, .int .u8 0, .int .u8 0, .int .u8 0, .int .u32 0, .int .u8 0, .int .u8 0, .int .u8 0, .int .u8 0, .int .u8 0, .int .u8 0, .int .u32 0] 37 (0, 0))) := by
    show _ = _
    rw [Below.heap_alloc _ _ _ (by omega)]
    exact (g1.block _ (lt_of_block (unhide R0)) (fun q => hne0 (by simpa using q))).trans (unhide R0)
  have Z1 := hide z1
  clear k1 g1 H0 G0 R0 z1
  go_wp2_with fail
  refine (unhide T2 _ (unhide H1)).mono ?_
  rintro ee w2 ⟨rfl, k2, g2⟩
  have he : w2.heap[w1.heap.size]? = some (.cells #[.int .u16 0, .int .u8 0, .int .u8 0, .int .u8 0, .int .u8 0, .int .u8 0, .int .u8 0, .int .u32 0, .int .u8 0, .int .u8 0, .int .u8 0, .int .u8 0, .int .u8 0, .int .u8 0, .int .u32 0] 37 (0, 0)) := (g2.block _ (lt_of_block (unhide E1)) (fun q => hne1 (by simpa using q))).trans (unhide E1)
  have hr : w2.heap[w.heap.size]? = some (.cells #[.int .u16 0, .int .u8 0, .int .u8 0, .int .u8 0, .int .u8 0, .int .u8 0, .int .u8 0, .int .u32 0, .int .u8 0, .int .u8 0, .int .u8 0, .int .u8 0, .int .u8 0, .int .u8 0, .int .u32 0] 37 (0, 0)) := (g2.block _ (lt_of_block (unhide R1)) (fun q => hne0 (by simpa using q))).trans (unhide R1)
  have c2_0 : w2.cell? ⟨w1.heap.size, 0, none⟩ = some (.int .u16 0) := row_cell he rfl
  have f2 := row_free he
  have E2 : Hid ((w2.setCell ⟨w1.heap.size, 0, none⟩ (.int .u16 x)).heap[w1.heap.size]? = some (.cells #[.int .u16 x, .int .u8 0, .int .u8 0, .int .u8 0, .int .u8 0, .int .u8 0, .int .u8 0, .int .u32 0, .int .u8 0, .int .u8 0, .int .u8 0, .int .u8 0, .int .u8 0, .int .u8 0, .int .u32 0] 37 (0, 0))) := row_set (he) 0 (.int .u16 x)
  have H2 : Hid (Rdr (w2.setCell ⟨w1.heap.size, 0, none⟩ (.int .u16 x)) B (a :: b :: c :: d :: e :: f :: i1 :: i2 :: i3 :: i4 :: a' :: b' :: c' :: d' :: e' :: f' :: j1 :: j2 :: j3 :: j4 :: l)) := other (k2) hne1.symm _
  have G2 : Hid (w.grownBy (w2.setCell ⟨w1.heap.size, 0, none⟩ (.int .u16 x)) (some B)) := grown_new (grown_trans (unhide G1) g2) (Nat.le_of_lt hlt0) _
  have R2 : Hid ((w2.setCell ⟨w1.heap.size, 0, none⟩ (.int .u16 x)).heap[w.heap.size]? = some (.cells #[.int .u16 0, .int .u8 0, .int .u8 0, .int .u8 0, .int .u8 0, .int .u8 0, .int .u8 0, .int .u32 0, .int .u8 0, .int .u8 0, .int .u8 0, .int .u8 0, .int .u8 0, .int .u8 0, .int .u32 0] 37 (0, 0))) := by
    show _ = _
    rw [Below.heap_setCell _ _ _ _ (Nat.ne_of_lt hlt0)]; exact hr
  clear he hr k2 g2 H1 G1 E1 R1
  go_wp2_with fail
  refine (card_ok _ _ _ _ _ _ _ _ _ (unhide H2) (by simp only [List.length_cons, maxLen] at hs ⊢; omega)).mono ?_
  rintro ee w3 ⟨rfl, k3, g3⟩
  have he : w3.heap[w1.heap.size]? = some (.cells #[.int .u16 x, .int .u8 0, .int .u8 0, .int .u8 0, .int .u8 0, .int .u8 0, .int .u8 0, .int .u32 0, .int .u8 0, .int .u8 0, .int .u8 0, .int .u8 0, .int .u8 0, .int .u8 0, .int .u32 0] 37 (0, 0)) := (g3.block _ (lt_of_block (unhide E2)) (fun q => hne1 (by simpa using q))).trans (unhide E2)
  have hr : w3.heap[w.heap.size]? = some (.cells #[.int .u16 0, .int .u8 0, .int .u8 0, .int .u8 0, .int .u8 0, .int .u8 0, .int .u8 0, .int .u32 0, .int .u8 0, .int .u8 0, .int .u8 0, .int .u8 0, .int .u8 0, .int .u8 0, .int .u32 0] 37 (0, 0)) := (g3.block _ (lt_of_block (unhide R2)) (fun q => hne0 (by simpa using q))).trans (unhide R2)
  have c3_1 : w3.cell? ⟨w1.heap.size, 1, none⟩ = some (.int .u8 0) := row_cell he rfl
  have c3_2 : w3.cell? ⟨w1.heap.size, 2, none⟩ = some (.int .u8 0) := row_cell he rfl
  have c3_3 : w3.cell? ⟨w1.heap.size, 3, none⟩ = some (.int .u8 0) := row_cell he rfl
  have c3_4 : w3.cell? ⟨w1.heap.size, 4, none⟩ = some (.int .u8 0) := row_cell he rfl
  have c3_5 : w3.cell? ⟨w1.heap.size, 5, none⟩ = some (.int .u8 0) := row_cell he rfl
  have c3_6 : w3.cell? ⟨w1.heap.size, 6, none⟩ = some (.int .u8 0) := row_cell he rfl
  have f3 := row_free he
  have E3 : Hid (((((((w3.setCell ⟨w1.heap.size, 1, none⟩ (.int .u8 a.toNat)).setCell ⟨w1.heap.size, 2, none⟩ (.int .u8 b.toNat)).setCell ⟨w1.heap.size, 3, none⟩ (.int .u8 c.toNat)).setCell ⟨w1.heap.size, 4, none⟩ (.int .u8 d.toNat)).setCell ⟨w1.heap.size, 5, none⟩ (.int .u8 e.toNat)).setCell ⟨w1.heap.size, 6, none⟩ (.int .u8 f.toNat)).heap[w1.heap.size]? = some (.cells #[.int .u16 x, .int .u8 a.toNat, .int .u8 b.toNat, .int .u8 c.toNat, .int .u8 d.toNat, .int .u8 e.toNat, .int .u8 f.toNat, .int .u32 0, .int .u8 0, .int .u8 0, .int .u8 0, .int .u8 0, .int .u8 0, .int .u8 0, .int .u32 0] 37 (0, 0))) := row_set (row_set (row_set (row_set (row_set (row_set (he) 1 (.int .u8 a.toNat)) 2 (.int .u8 b.toNat)) 3 (.int .u8 c.toNat)) 4 (.int .u8 d.toNat)) 5 (.int .u8 e.toNat)) 6 (.int .u8 f.toNat)
  have H3 : Hid (Rdr ((((((w3.setCell ⟨w1.heap.size, 1, none⟩ (.int .u8 a.toNat)).setCell ⟨w1.heap.size, 2, none⟩ (.int .u8 b.toNat)).setCell ⟨w1.heap.size, 3, none⟩ (.int .u8 c.toNat)).setCell ⟨w1.heap.size, 4, none⟩ (.int .u8 d.toNat)).setCell ⟨w1.heap.size, 5, none⟩ (.int .u8 e.toNat)).setCell ⟨w1.heap.size, 6, none⟩ (.int .u8 f.toNat)) B (i1 :: i2 :: i3 :: i4 :: a' :: b' :: c' :: d' :: e' :: f' :: j1 :: j2 :: j3 :: j4 :: l)) := other (other (other (other (other (other (k3) hne1.symm _) hne1.symm _) hne1.symm _) hne1.symm _) hne1.symm _) hne1.symm _
  have G3 : Hid (w.grownBy ((((((w3.setCell ⟨w1.heap.size, 1, none⟩ (.int .u8 a.toNat)).setCell ⟨w1.heap.size, 2, none⟩ (.int .u8 b.toNat)).setCell ⟨w1.heap.size, 3, none⟩ (.int .u8 c.toNat)).setCell ⟨w1.heap.size, 4, none⟩ (.int .u8 d.toNat)).setCell ⟨w1.heap.size, 5, none⟩ (.int .u8 e.toNat)).setCell ⟨w1.heap.size, 6, none⟩ (.int .u8 f.toNat)) (some B)) := grown_new (grown_new (grown_new (grown_new (grown_new (grown_new (grown_trans (unhide G2) g3) (Nat.le_of_lt hlt0) _) (Nat.le_of_lt hlt0) _) (Nat.le_of_lt hlt0) _) (Nat.le_of_lt hlt0) _) (Nat.le_of_lt hlt0) _) (Nat.le_of_lt hlt0) _
  have R3 : Hid (((((((w3.setCell ⟨w1.heap.size, 1, none⟩ (.int .u8 a.toNat)).setCell ⟨w1.heap.size, 2, none⟩ (.int .u8 b.toNat)).setCell ⟨w1.heap.size, 3, none⟩ (.int .u8 c.toNat)).setCell ⟨w1.heap.size, 4, none⟩ (.int .u8 d.toNat)).setCell ⟨w1.heap.size, 5, none⟩ (.int .u8 e.toNat)).setCell ⟨w1.heap.size, 6, none⟩ (.int .u8 f.toNat)).heap[w.heap.size]? = some (.cells #[.int .u16 0, .int .u8 0, .int .u8 0, .int .u8 0, .int .u8 0, .int .u8 0, .int .u8 0, .int .u32 0, .int .u8 0, .int .u8 0, .int .u8 0, .int .u8 0, .int .u8 0, .int .u8 0, .int .u32 0] 37 (0, 0))) := by
    show _ = _
    rw [Below.heap_setCell _ _ _ _ (Nat.ne_of_lt hlt0), Below.heap_setCell _ _ _ _ (Nat.ne_of_lt hlt0), Below.heap_setCell _ _ _ _ (Nat.ne_of_lt hlt0), Below.heap_setCell _ _ _ _ (Nat.ne_of_lt hlt0), Below.heap_setCell _ _ _ _ (Nat.ne_of_lt hlt0), Below.heap_setCell _ _ _ _ (Nat.ne_of_lt hlt0)]; exact hr
  clear he hr k3 g3 H2 G2 E2 R2
  go_wp2_with fail
  refine (unhide T4 _ (unhide H3)).mono ?_
  rintro ee w4 ⟨rfl, k4, g4⟩
  have he : w4.heap[w1.heap.size]? = some (.cells #[.int .u16 x, .int .u8 a.toNat, .int .u8 b.toNat, .int .u8 c.toNat, .int .u8 d.toNat, .int .u8 e.toNat, .int .u8 f.toNat, .int .u32 0, .int .u8 0, .int .u8 0, .int .u8 0, .int .u8 0, .int .u8 0, .int .u8 0, .int .u32 0] 37 (0, 0)) := (g4.block _ (lt_of_block (unhide E3)) (fun q => hne1 (by simpa using q))).trans (unhide E3)
  have hr : w4.heap[w.heap.size]? = some (.cells #[.int .u16 0, .int .u8 0, .int .u8 0, .int .u8 0, .int .u8 0, .int .u8 0, .int .u8 0, .int .u32 0, .int .u8 0, .int .u8 0, .int .u8 0, .int .u8 0, .int .u8 0, .int .u8 0, .int .u32 0] 37 (0, 0)) := (g4.block _ (lt_of_block (unhide R3)) (fun q => hne0 (by simpa using q))).trans (unhide R3)
  have c4_7 : w4.cell? ⟨w1.heap.size, 7, none⟩ = some (.int .u32 0) := row_cell he rfl
  have f4 := row_free he
  have E4 : Hid ((w4.setCell ⟨w1.heap.size, 7, none⟩ (.int .u32 y)).heap[w1.heap.size]? = some (.cells #[.int .u16 x, .int .u8 a.toNat, .int .u8 b.toNat, .int .u8 c.toNat, .int .u8 d.toNat, .int .u8 e.toNat, .int .u8 f.toNat, .int .u32 y, .int .u8 0, .int .u8 0, .int .u8 0, .int .u8 0, .int .u8 0, .int .u8 0, .int .u32 0] 37 (0, 0))) := row_set (he) 7 (.int .u32 y)
  have H4 : Hid (Rdr (w4.setCell ⟨w1.heap.size, 7, none⟩ (.int .u32 y)) B (a' :: b' :: c' :: d' :: e' :: f' :: j1 :: j2 :: j3 :: j4 :: l)) := other (k4) hne1.symm _
  have G4 : Hid (w.grownBy (w4.setCell ⟨w1.heap.size, 7, none⟩ (.int .u32 y)) (some B)) := grown_new (grown_trans (unhide G3) g4) (Nat.le_of_lt hlt0) _
  have R4 : Hid ((w4.setCell ⟨w1.heap.size, 7, none⟩ (.int .u32 y)).heap[w.heap.size]? = some (.cells #[.int .u16 0, .int .u8 0, .int .u8 0, .int .u8 0, .int .u8 0, .int .u8 0, .int .u8 0, .int .u32 0, .int .u8 0, .int .u8 0, .int .u8 0, .int .u8 0, .int .u8 0, .int .u8 0, .int .u32 0] 37 (0, 0))) := by
    show _ = _
    rw [Below.heap_setCell _ _ _ _ (Nat.ne_of_lt hlt0)]; exact hr
  clear he hr k4 g4 H3 G3 E3 R3
  go_wp2_with fail
  refine (card_ok _ _ _ _ _ _ _ _ _ (unhide H4) (by simp only [List.length_cons, maxLen] at hs ⊢; omega)).mono ?_
  rintro ee w5 ⟨rfl, k5, g5⟩
  have he : w5.heap[w1.heap.size]? = some (.cells #[.int .u16 x, .int .u8 a.toNat, .int .u8 b.toNat, .int .u8 c.toNat, .int .u8 d.toNat, .int .u8 e.toNat, .int .u8 f.toNat, .int .u32 y, .int .u8 0, .int .u8 0, .int .u8 0, .int .u8 0, .int .u8 0, .int .u8 0, .int .u32 0] 37 (0, 0)) := (g5.block _ (lt_of_block (unhide E4)) (fun q => hne1 (by simpa using q))).trans (unhide E4)
  have hr : w5.heap[w.heap.size]? = some (.cells #[.int .u16 0, .int .u8 0, .int .u8 0, .int .u8 0, .int .u8 0, .int .u8 0, .int .u8 0, .int .u32 0, .int .u8 0, .int .u8 0, .int .u8 0, .int .u8 0, .int .u8 0, .int .u8 0, .int .u32 0] 37 (0, 0)) := (g5.block _ (lt_of_block (unhide R4)) (fun q => hne0 (by simpa using q))).trans (unhide R4)
  have c5_8 : w5.cell? ⟨w1.heap.size, 8, none⟩ = some (.int .u8 0) := row_cell he rfl
  have c5_9 : w5.cell? ⟨w1.heap.size, 9, none⟩ = some (.int .u8 0) := row_cell he rfl
  have c5_10 : w5.cell? ⟨w1.heap.size, 10, none⟩ = some (.int .u8 0) := row_cell he rfl
  have c5_11 : w5.cell? ⟨w1.heap.size, 11, none⟩ = some (.int .u8 0) := row_cell he rfl
  have c5_12 : w5.cell? ⟨w1.heap.size, 12, none⟩ = some (.int .u8 0) := row_cell he rfl
  have c5_13 : w5.cell? ⟨w1.heap.size, 13, none⟩ = some (.int .u8 0) := row_cell he rfl
  have f5 := row_free he
  have E5 : Hid (((((((w5.setCell ⟨w1.heap.size, 8, none⟩ (.int .u8 a'.toNat)).setCell ⟨w1.heap.size, 9, none⟩ (.int .u8 b'.toNat)).setCell ⟨w1.heap.size, 10, none⟩ (.int .u8 c'.toNat)).setCell ⟨w1.heap.size, 11, none⟩ (.int .u8 d'.toNat)).setCell ⟨w1.heap.size, 12, none⟩ (.int .u8 e'.toNat)).setCell ⟨w1.heap.size, 13, none⟩ (.int .u8 f'.toNat)).heap[w1.heap.size]? = some (.cells #[.int .u16 x, .int .u8 a.toNat, .int .u8 b.toNat, .int .u8 c.toNat, .int .u8 d.toNat, .int .u8 e.toNat, .int .u8 f.toNat, .int .u32 y, .int .u8 a'.toNat, .int .u8 b'.toNat, .int .u8 c'.toNat, .int .u8 d'.toNat, .int .u8 e'.toNat, .int .u8 f'.toNat, .int .u32 0] 37 (0, 0))) := row_set (row_set (row_set (row_set (row_set (row_set (he) 8 (.int .u8 a'.toNat)) 9 (.int .u8 b'.toNat)) 10 (.int .u8 c'.toNat)) 11 (.int .u8 d'.toNat)) 12 (.int .u8 e'.toNat)) 13 (.int .u8 f'.toNat)
  have H5 : Hid (Rdr ((((((w5.setCell ⟨w1.heap.size, 8, none⟩ (.int .u8 a'.toNat)).setCell ⟨w1.heap.size, 9, none⟩ (.int .u8 b'.toNat)).setCell ⟨w1.heap.size, 10, none⟩ (.int .u8 c'.toNat)).setCell ⟨w1.heap.size, 11, none⟩ (.int .u8 d'.toNat)).setCell ⟨w1.heap.size, 12, none⟩ (.int .u8 e'.toNat)).setCell ⟨w1.heap.size, 13, none⟩ (.int .u8 f'.toNat)) B (j1 :: j2 :: j3 :: j4 :: l)) := other (other (other (other (other (other (k5) hne1.symm _) hne1.symm _) hne1.symm _) hne1.symm _) hne1.symm _) hne1.symm _
  have G5 : Hid (w.grownBy ((((((w5.setCell ⟨w1.heap.size, 8, none⟩ (.int .u8 a'.toNat)).setCell ⟨w1.heap.size, 9, none⟩ (.int .u8 b'.toNat)).setCell ⟨w1.heap.size, 10, none⟩ (.int .u8 c'.toNat)).setCell ⟨w1.heap.size, 11, none⟩ (.int .u8 d'.toNat)).setCell ⟨w1.heap.size, 12, none⟩ (.int .u8 e'.toNat)).setCell ⟨w1.heap.size, 13, none⟩ (.int .u8 f'.toNat)) (some B)) := grown_new (grown_new (grown_new (grown_new (grown_new (grown_new (grown_trans (unhide G4) g5) (Nat.le_of_lt hlt0) _) (Nat.le_of_lt hlt0) _) (Nat.le_of_lt hlt0) _) (Nat.le_of_lt hlt0) _) (Nat.le_of_lt hlt0) _) (Nat.le_of_lt hlt0) _
  have R5 : Hid (((((((w5.setCell ⟨w1.heap.size, 8, none⟩ (.int .u8 a'.toNat)).setCell ⟨w1.heap.size, 9, none⟩ (.int .u8 b'.toNat)).setCell ⟨w1.heap.size, 10, none⟩ (.int .u8 c'.toNat)).setCell ⟨w1.heap.size, 11, none⟩ (.int .u8 d'.toNat)).setCell ⟨w1.heap.size, 12, none⟩ (.int .u8 e'.toNat)).setCell ⟨w1.heap.size, 13, none⟩ (.int .u8 f'.toNat)).heap[w.heap.size]? = some (.cells #[.int .u16 0, .int .u8 0, .int .u8 0, .int .u8 0, .int .u8 0, .int .u8 0, .int .u8 0, .int .u32 0, .int .u8 0, .int .u8 0, .int .u8 0, .int .u8 0, .int .u8 0, .int .u8 0, .int .u32 0] 37 (0, 0))) := by
    show _ = _
    rw [Below.heap_setCell _ _ _ _ (Nat.ne_of_lt hlt0), Below.heap_setCell _ _ _ _ (Nat.ne_of_lt hlt0), Below.heap_setCell _ _ _ _ (Nat.ne_of_lt hlt0), Below.heap_setCell _ _ _ _ (Nat.ne_of_lt hlt0), Below.heap_setCell _ _ _ _ (Nat.ne_of_lt hlt0), Below.heap_setCell _ _ _ _ (Nat.ne_of_lt hlt0)]; exact hr
  clear he hr k5 g5 H4 G4 E4 R4
  go_wp2_with fail
  refine (unhide T6 _ (unhide H5)).mono ?_
  rintro ee w6 ⟨rfl, k6, g6⟩
  have he : w6.heap[w1.heap.size]? = some (.cells #[.int .u16 x, .int .u8 a.toNat, .int .u8 b.toNat, .int .u8 c.toNat, .int .u8 d.toNat, .int .u8 e.toNat, .int .u8 f.toNat, .int .u32 y, .int .u8 a'.toNat, .int .u8 b'.toNat, .int .u8 c'.toNat, .int .u8 d'.toNat, .int .u8 e'.toNat, .int .u8 f'.toNat, .int .u32 0] 37 (0, 0)) := (g6.block _ (lt_of_block (unhide E5)) (fun q => hne1 (by simpa using q))).trans (unhide E5)
  have hr : w6.heap[w.heap.size]? = some (.cells #[.int .u16 0, .int .u8 0, .int .u8 0, .int .u8 0, .int .u8 0, .int .u8 0, .int .u8 0, .int .u32 0, .int .u8 0, .int .u8 0, .int .u8 0, .int .u8 0, .int .u8 0, .int .u8 0, .int .u32 0] 37 (0, 0)) := (g6.block _ (lt_of_block (unhide R5)) (fun q => hne0 (by simpa using q))).trans (unhide R5)
  have c6_0 : w6.cell? ⟨w1.heap.size, 0, none⟩ = some (.int .u16 x) := row_cell he rfl
  have c6_1 : w6.cell? ⟨w1.heap.size, 1, none⟩ = some (.int .u8 a.toNat) := row_cell he rfl
  have c6_2 : w6.cell? ⟨w1.heap.size, 2, none⟩ = some (.int .u8 b.toNat) := row_cell he rfl
  have c6_3 : w6.cell? ⟨w1.heap.size, 3, none⟩ = some (.int .u8 c.toNat) := row_cell he rfl
  have c6_4 : w6.cell? ⟨w1.heap.size, 4, none⟩ = some (.int .u8 d.toNat) := row_cell he rfl
  have c6_5 : w6.cell? ⟨w1.heap.size, 5, none⟩ = some (.int .u8 e.toNat) := row_cell he rfl
  have c6_6 : w6.cell? ⟨w1.heap.size, 6, none⟩ = some (.int .u8 f.toNat) := row_cell he rfl
  have c6_7 : w6.cell? ⟨w1.heap.size, 7, none⟩ = some (.int .u32 y) := row_cell he rfl
  have c6_8 : w6.cell? ⟨w1.heap.size, 8, none⟩ = some (.int .u8 a'.toNat) := row_cell he rfl
  have c6_9 : w6.cell? ⟨w1.heap.size, 9, none⟩ = some (.int .u8 b'.toNat) := row_cell he rfl
  have c6_10 : w6.cell? ⟨w1.heap.size, 10, none⟩ = some (.int .u8 c'.toNat) := row_cell he rfl
  have c6_11 : w6.cell? ⟨w1.heap.size, 11, none⟩ = some (.int .u8 d'.toNat) := row_cell he rfl
  have c6_12 : w6.cell? ⟨w1.heap.size, 12, none⟩ = some (.int .u8 e'.toNat) := row_cell he rfl
  have c6_13 : w6.cell? ⟨w1.heap.size, 13, none⟩ = some (.int .u8 f'.toNat) := row_cell he rfl
  have c6_14 : w6.cell? ⟨w1.heap.size, 14, none⟩ = some (.int .u32 0) := row_cell he rfl
  have f6 := row_free he
  have d0 : w6.cell? ⟨w.heap.size, 0, none⟩ = some (.int .u16 0) := row_cell hr rfl
  have d1 : w6.cell? ⟨w.heap.size, 1, none⟩ = some (.int .u8 0) := row_cell hr rfl
  have d2 : w6.cell? ⟨w.heap.size, 2, none⟩ = some (.int .u8 0) := row_cell hr rfl
  have d3 : w6.cell? ⟨w.heap.size, 3, none⟩ = some (.int .u8 0) := row_cell hr rfl
  have d4 : w6.cell? ⟨w.heap.size, 4, none⟩ = some (.int .u8 0) := row_cell hr rfl
  have d5 : w6.cell? ⟨w.heap.size, 5, none⟩ = some (.int .u8 0) := row_cell hr rfl
  have d6 : w6.cell? ⟨w.heap.size, 6, none⟩ = some (.int .u8 0) := row_cell hr rfl
  have d7 : w6.cell? ⟨w.heap.size, 7, none⟩ = some (.int .u32 0) := row_cell hr rfl
  have d8 : w6.cell? ⟨w.heap.size, 8, none⟩ = some (.int .u8 0) := row_cell hr rfl
  have d9 : w6.cell? ⟨w.heap.size, 9, none⟩ = some (.int .u8 0) := row_cell hr rfl
  have d10 : w6.cell? ⟨w.heap.size, 10, none⟩ = some (.int .u8 0) := row_cell hr rfl
  have d11 : w6.cell? ⟨w.heap.size, 11, none⟩ = some (.int .u8 0) := row_cell hr rfl
  have d12 : w6.cell? ⟨w.heap.size, 12, none⟩ = some (.int .u8 0) := row_cell hr rfl
  have d13 : w6.cell? ⟨w.heap.size, 13, none⟩ = some (.int .u8 0) := row_cell hr rfl
  have d14 : w6.cell? ⟨w.heap.size, 14, none⟩ = some (.int .u32 0) := row_cell hr rfl
  have kd := row_free hr
  have E6 : Hid ((w6.setCell ⟨w1.heap.size, 14, none⟩ (.int .u32 v)).heap[w1.heap.size]? = some (.cells #[.int .u16 x, .int .u8 a.toNat, .int .u8 b.toNat, .int .u8 c.toNat, .int .u8 d.toNat, .int .u8 e.toNat, .int .u8 f.toNat, .int .u32 y, .int .u8 a'.toNat, .int .u8 b'.toNat, .int .u8 c'.toNat, .int .u8 d'.toNat, .int .u8 e'.toNat, .int .u8 f'.toNat, .int .u32 v] 37 (0, 0))) := row_set (he) 14 (.int .u32 v)
  have H6 : Hid (Rdr (w6.setCell ⟨w1.heap.size, 14, none⟩ (.int .u32 v)) B (l)) := other (k6) hne1.symm _
  have G6 : Hid (w.grownBy (w6.setCell ⟨w1.heap.size, 14, none⟩ (.int .u32 v)) (some B)) := grown_new (grown_trans (unhide G5) g6) (Nat.le_of_lt hlt0) _
  have R6 : Hid ((w6.setCell ⟨w1.heap.size, 14, none⟩ (.int .u32 v)).heap[w.heap.size]? = some (.cells #[.int .u16 0, .int .u8 0, .int .u8 0, .int .u8 0, .int .u8 0, .int .u8 0, .int .u8 0, .int .u32 0, .int .u8 0, .int .u8 0, .int .u8 0, .int .u8 0, .int .u8 0, .int .u8 0, .int .u32 0] 37 (0, 0))) := by
    show _ = _
    rw [Below.heap_setCell _ _ _ _ (Nat.ne_of_lt hlt0)]; exact hr
  clear he hr k6 g6 H5 G5 E5 R5
  go_wp2
  refine bodyPost_ret (v := .agg #[.int .u16 x, .int .u8 a.toNat, .int .u8 b.toNat, .int .u8 c.toNat, .int .u8 d.toNat, .int .u8 e.toNat, .int .u8 f.toNat, .int .u32 y, .int .u8 a'.toNat, .int .u8 b'.toNat, .int .u8 c'.toNat, .int .u8 d'.toNat, .int .u8 e'.toNat, .int .u8 f'.toNat, .int .u32 v]) (by simp [results, Try.results81, go_sem, d0, d1, d2, d3, d4, d5, d6, d7, d8, d9, d10, d11, d12, d13, d14]) rfl ⟨rfl, ?_⟩
  iterate 15 refine grown_new ?_ (Nat.le_refl _) _
  exact unhide G6
end Go.Proofs.Ytadkcdcdgphhpaa.ArR

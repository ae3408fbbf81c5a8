import Derived.Test.YtadkcdcdgphhpaaDHAll
import Derived.Test.YtadkcdcdgphhpaaEtherRh
namespace Go.Proofs.Ytadkcdcdgphhpaa.Dh
open Go.ChangeShapes Go.WideShapes Go.ChangeAt Go.RowKit Bs Rd
open EtR (other grown_new row_cell row_free row_set)
set_option linter.unusedVariables false
set_option linter.unusedSimpArgs false

theorem isOp_any (n : Int) (w : World) : Calls Try.prog 125 #[.int .u8 n] w fun e w' => e = .returned (.bool (n == 1 || n == 2)) ∧ w' = w := by
  by_cases h1 : n = 1
  · subst h1
    go_enter Try.func125, Try.ntmps125
    go_wp2
    go_ret
    exact ⟨rfl, rfl⟩
  · have q : (n == 1) = false := by simpa using h1
    go_enter Try.func125, Try.ntmps125
    go_wp2
    go_ret
    exact ⟨by rw [q]; rfl, rfl⟩
theorem takeN_ok (B : Nat) (l : List UInt8) (n : Nat) (w : World) (h : Rdr w B l) (hn : n ≤ l.length) (hs : l.length ≤ maxLen) :
    Calls Try.prog 126 #[.pointer (some ⟨B, 0, none⟩), .int .i64 n] w fun e w' => e = .returned (.string ⟨(l.take n).toArray⟩) ∧ Rdr w' B (l.drop n) ∧ w.grownBy w' (some B) := by
  refine (take_ok B l n w h hn hs).mono ?_
  rintro e w1 ⟨rfl, rfl⟩
  exact ⟨rfl, h.set _, grown_set _⟩
theorem takeB_ok (B n : Nat) (s : ByteArray) (q l : List UInt8) (w : World) (h : Rdr w B l) (hl : l = s.data.toList ++ q) (hn : s.size = n) (hs : l.length ≤ maxLen) :
    Calls Try.prog 126 #[.pointer (some ⟨B, 0, none⟩), .int .i64 n] w fun e w' => e = .returned (.string s) ∧ Rdr w' B q ∧ w.grownBy w' (some B) := by
  have hz : s.data.toList.length = n := by rw [Array.length_toList]; exact hn
  have q1 : l.take n = s.data.toList := by rw [hl, ← hz, List.take_left]
  have q2 : l.drop n = q := by rw [hl, ← hz, List.drop_left]
  have t := takeN_ok B l n w h (by rw [hl, List.length_append]; omega) hs
  rw [q1, q2, str_eta] at t
  exact t
theorem take2_ok (B : Nat) (a b : UInt8) (l : List UInt8) (w : World) (h : Rdr w B (a :: b :: l)) (hs : (a :: b :: l).length ≤ maxLen) :
    Calls Try.prog 126 #[.pointer (some ⟨B, 0, none⟩), .int .i64 2] w fun e w' => e = .returned (.string ⟨#[a, b]⟩) ∧ Rdr w' B l ∧ w.grownBy w' (some B) := takeN_ok B (a :: b :: l) 2 w h (by simp) hs
theorem lens {m m1 m2 m3 m4 : List UInt8} {s1 sh sf sc : ByteArray} (e1 : m = s1.data.toList ++ m1) (e2 : m1 = sh.data.toList ++ m2) (e3 : m2 = sf.data.toList ++ m3) (e4 : m3 = sc.data.toList ++ m4) (z1 : s1.size = 10) (z2 : sh.size = 64) (z3 : sf.size = 128) (z4 : sc.size = 4) :
    m.length = 206 + m4.length ∧ m1.length = 196 + m4.length ∧ m2.length = 132 + m4.length ∧ m3.length = 4 + m4.length := by
  have a1 : m.length = s1.size + m1.length := by rw [e1, List.length_append, Array.length_toList]; rfl
  have a2 : m1.length = sh.size + m2.length := by rw [e2, List.length_append, Array.length_toList]; rfl
  have a3 : m2.length = sf.size + m3.length := by rw [e3, List.length_append, Array.length_toList]; rfl
  have a4 : m3.length = sc.size + m4.length := by rw [e4, List.length_append, Array.length_toList]; rfl
  omega
set_option maxHeartbeats 1000000 in
theorem op_ok (B : Nat) (a : UInt8) (l : List UInt8) (w : World) (h : Rdr w B (a :: l)) (hs : (a :: l).length ≤ maxLen) (ht : ((a.toNat : Int) == 1 || (a.toNat : Int) == 2) = true) :
    Calls Try.prog 124 #[.pointer (some ⟨B, 0, none⟩), .func (.func 120) #[] #[], .func (.func 125) #[] #[], .int .i64 2] w fun e w' => e = .returned (.int .u8 a.toNat) ∧ Rdr w' B l ∧ w.grownBy w' (some B) := by
  have HN := hide (byte_ok B a l w h hs)
  obtain ⟨x, hx⟩ : ∃ x, x = (a.toNat : Int) := ⟨_, rfl⟩
  rw [← hx] at HN ht ⊢
  have HT := hide ht
  have HI := hide (fun u => isOp_any x u)
  clear h hx hs ht
  go_enter Try.func124, Try.ntmps124
  go_wp2_with fail
  refine (unhide HN).mono ?_
  rintro e w1 ⟨rfl, h1, g1⟩
  have H1 := hide h1
  have G1 := hide g1
  clear h1 g1
  go_wp2_with fail
  refine (unhide HI _).mono ?_
  rintro e w2 ⟨rfl, rfl⟩
  rw [unhide HT]
  go_wp2_with fail
  refine (must_ok _ _).mono ?_
  rintro _ w3 ⟨rfl, rfl⟩
  go_wp2
  go_ret
  exact ⟨rfl, unhide H1, unhide G1⟩
set_option maxHeartbeats 1000000 in
theorem op_no (B : Nat) (a : UInt8) (l : List UInt8) (w : World) (h : Rdr w B (a :: l)) (hs : (a :: l).length ≤ maxLen) (ht : ((a.toNat : Int) == 1 || (a.toNat : Int) == 2) = false) :
    Calls Try.prog 124 #[.pointer (some ⟨B, 0, none⟩), .func (.func 120) #[] #[], .func (.func 125) #[] #[], .int .i64 2] w fun e w' => e = .panicked (errP 2) ∧ w.grownBy w' (some B) := by
  have HN := hide (byte_ok B a l w h hs)
  obtain ⟨x, hx⟩ : ∃ x, x = (a.toNat : Int) := ⟨_, rfl⟩
  rw [← hx] at HN ht
  have HT := hide ht
  have HI := hide (fun u => isOp_any x u)
  clear h hx hs ht
  go_enter Try.func124, Try.ntmps124
  go_wp2_with fail
  refine (unhide HN).mono ?_
  rintro e w1 ⟨rfl, h1, g1⟩
  have H1 := hide h1
  have G1 := hide g1
  clear h1 g1
  go_wp2_with fail
  refine (unhide HI _).mono ?_
  rintro e w2 ⟨rfl, rfl⟩
  rw [unhide HT]
  go_wp2_with fail
  refine (must_no _ _).mono ?_
  rintro _ w3 ⟨rfl, rfl⟩
  exact ⟨rfl, rfl, unhide G1⟩

theorem dhcp_short (B : Nat) (l : List UInt8) (w : World) (h : Rdr w B l) (hn : l.length < 240) :
    Calls Try.prog 94 #[.pointer (some ⟨B, 0, none⟩)] w fun ee w' => ee = .panicked (errP 1) ∧ w.grownBy w' (some B) := by
  have hB := h.lt
  have hne0 : w.heap.size ≠ B := by omega
  have H0 := hide (h.alloc (.cells #[.bool false, .int .u32 0, .int .u32 0, .int .u32 0, .int .u32 0, .int .u8 0, .int .u8 0, .int .u8 0, .int .u8 0, .int .u8 0, .int .u8 0, .slice none 0 0] 57))
  have G0 := hide (grown_alloc (grown_refl w (some B)) (.cells #[.bool false, .int .u32 0, .int .u32 0, .int .u32 0, .int .u32 0, .int .u8 0, .int .u8 0, .int .u8 0, .int .u8 0, .int .u8 0, .int .u8 0, .slice none 0 0] 57))
  have R0 : Hid ((w.alloc (.cells #[.bool false, .int .u32 0, .int .u32 0, .int .u32 0, .int .u32 0, .int .u8 0, .int .u8 0, .int .u8 0, .int .u8 0, .int .u8 0, .int .u8 0, .slice none 0 0] 57)).heap[w.heap.size]? = some (.cells #[.bool false, .int .u32 0, .int .u32 0, .int .u32 0, .int .u32 0, .int .u8 0, .int .u8 0, .int .u8 0, .int .u8 0, .int .u8 0, .int .u8 0, .slice none 0 0] 57 (0, 0))) := heap_alloc_new w _
  clear h
  go_enter Try.func94, Try.ntmps94
  go_wp2_with fail
  refine (need_no _ _ _ _ (unhide H0) (by omega)).mono ?_
  rintro ee wz ⟨rfl, hwz⟩
  exact ⟨rfl, rfl, by rw [hwz]; exact unhide G0⟩

set_option maxHeartbeats 1600000 in
set_option maxRecDepth 10000 in
theorem dhcp_op (B : Nat) (a0 a1 a2 a3 a4 a5 a6 a7 a8 a9 a10 a11 a12 a13 a14 a15 a16 a17 a18 a19 a20 a21 a22 a23 a24 a25 a26 a27 a28 a29 a30 a31 a32 a33 : UInt8) (m m1 m2 m3 m4 : List UInt8) (s1 sh sf sc : ByteArray) (w : World) (h : Rdr w B (a0 :: a1 :: a2 :: a3 :: a4 :: a5 :: a6 :: a7 :: a8 :: a9 :: a10 :: a11 :: a12 :: a13 :: a14 :: a15 :: a16 :: a17 :: a18 :: a19 :: a20 :: a21 :: a22 :: a23 :: a24 :: a25 :: a26 :: a27 :: a28 :: a29 :: a30 :: a31 :: a32 :: a33 :: m)) (hs : (a0 :: a1 :: a2 :: a3 :: a4 :: a5 :: a6 :: a7 :: a8 :: a9 :: a10 :: a11 :: a12 :: a13 :: a14 :: a15 :: a16 :: a17 :: a18 :: a19 :: a20 :: a21 :: a22 :: a23 :: a24 :: a25 :: a26 :: a27 :: a28 :: a29 :: a30 :: a31 :: a32 :: a33 :: m).length ≤ 1048576) (e1 : m = s1.data.toList ++ m1) (e2 : m1 = sh.data.toList ++ m2) (e3 : m2 = sf.data.toList ++ m3) (e4 : m3 = sc.data.toList ++ m4) (z1 : s1.size = 10) (z2 : sh.size = 64) (z3 : sf.size = 128) (z4 : sc.size = 4) (hop : ((a0.toNat : Int) == 1 || (a0.toNat : Int) == 2) = false) :
    Calls Try.prog 94 #[.pointer (some ⟨B, 0, none⟩)] w fun ee w' => ee = .panicked (errP 2) ∧ w.grownBy w' (some B) := by
  have hB := h.lt
  have hne0 : w.heap.size ≠ B := by omega
  have H0 := hide (h.alloc (.cells #[.bool false, .int .u32 0, .int .u32 0, .int .u32 0, .int .u32 0, .int .u8 0, .int .u8 0, .int .u8 0, .int .u8 0, .int .u8 0, .int .u8 0, .slice none 0 0] 57))
  have G0 := hide (grown_alloc (grown_refl w (some B)) (.cells #[.bool false, .int .u32 0, .int .u32 0, .int .u32 0, .int .u32 0, .int .u8 0, .int .u8 0, .int .u8 0, .int .u8 0, .int .u8 0, .int .u8 0, .slice none 0 0] 57))
  have R0 : Hid ((w.alloc (.cells #[.bool false, .int .u32 0, .int .u32 0, .int .u32 0, .int .u32 0, .int .u8 0, .int .u8 0, .int .u8 0, .int .u8 0, .int .u8 0, .int .u8 0, .slice none 0 0] 57)).heap[w.heap.size]? = some (.cells #[.bool false, .int .u32 0, .int .u32 0, .int .u32 0, .int .u32 0, .int .u8 0, .int .u8 0, .int .u8 0, .int .u8 0, .int .u8 0, .int .u8 0, .slice none 0 0] 57 (0, 0))) := heap_alloc_new w _
  have ls : m.length = 206 + m4.length ∧ m1.length = 196 + m4.length ∧ m2.length = 132 + m4.length ∧ m3.length = 4 + m4.length := lens e1 e2 e3 e4 z1 z2 z3 z4
  obtain ⟨l0, l1, l2, l3⟩ := ls
  have hsm : m4.length ≤ 1048400 := by simp only [List.length_cons] at hs; omega
  have HN0 := hide (show (240 : Int) ≤ ((a0 :: a1 :: a2 :: a3 :: a4 :: a5 :: a6 :: a7 :: a8 :: a9 :: a10 :: a11 :: a12 :: a13 :: a14 :: a15 :: a16 :: a17 :: a18 :: a19 :: a20 :: a21 :: a22 :: a23 :: a24 :: a25 :: a26 :: a27 :: a28 :: a29 :: a30 :: a31 :: a32 :: a33 :: m).length : Int) by simp only [List.length_cons]; omega)
  clear h
  have T1 := hide (fun u hu => op_no B a0 (a1 :: a2 :: a3 :: a4 :: a5 :: a6 :: a7 :: a8 :: a9 :: a10 :: a11 :: a12 :: a13 :: a14 :: a15 :: a16 :: a17 :: a18 :: a19 :: a20 :: a21 :: a22 :: a23 :: a24 :: a25 :: a26 :: a27 :: a28 :: a29 :: a30 :: a31 :: a32 :: a33 :: m) u hu (by simp only [List.length_cons, maxLen]; omega) hop)
  have z0 : (w.alloc (.cells #[.bool false, .int .u32 0, .int .u32 0, .int .u32 0, .int .u32 0, .int .u8 0, .int .u8 0, .int .u8 0, .int .u8 0, .int .u8 0, .int .u8 0, .slice none 0 0] 57)).heap.size = w.heap.size + 1 := by simp
  have hneV : w.heap.size + 1 ≠ B := by omega
  have hlt0 : w.heap.size < w.heap.size + 1 := by omega
  have H1 := hide ((unhide H0).alloc (.cells #[.bool false, .int .u32 0, .int .u32 0, .int .u32 0, .int .u32 0, .int .u8 0, .int .u8 0, .int .u8 0, .int .u8 0, .int .u8 0, .int .u8 0, .slice none 0 0] 57))
  have G1 := hide (grown_alloc (unhide G0) (.cells #[.bool false, .int .u32 0, .int .u32 0, .int .u32 0, .int .u32 0, .int .u8 0, .int .u8 0, .int .u8 0, .int .u8 0, .int .u8 0, .int .u8 0, .slice none 0 0] 57))
  have E1 : Hid (((w.alloc (.cells #[.bool false, .int .u32 0, .int .u32 0, .int .u32 0, .int .u32 0, .int .u8 0, .int .u8 0, .int .u8 0, .int .u8 0, .int .u8 0, .int .u8 0, .slice none 0 0] 57)).alloc (.cells #[.bool false, .int .u32 0, .int .u32 0, .int .u32 0, .int .u32 0, .int .u8 0, .int .u8 0, .int .u8 0, .int .u8 0, .int .u8 0, .int .u8 0, .slice none 0 0] 57)).heap[w.heap.size + 1]? = some (.cells #[.bool false, .int .u32 0, .int .u32 0, .int .u32 0, .int .u32 0, .int .u8 0, .int .u8 0, .int .u8 0, .int .u8 0, .int .u8 0, .int .u8 0, .slice none 0 0] 57 (0, 0))) := hide (by have q := heap_alloc_new (w.alloc (.cells #[.bool false, .int .u32 0, .int .u32 0, .int .u32 0, .int .u32 0, .int .u8 0, .int .u8 0, .int .u8 0, .int .u8 0, .int .u8 0, .int .u8 0, .slice none 0 0] 57)) (.cells #[.bool false, .int .u32 0, .int .u32 0, .int .u32 0, .int .u32 0, .int .u8 0, .int .u8 0, .int .u8 0, .int .u8 0, .int .u8 0, .int .u8 0, .slice none 0 0] 57); rw [z0] at q; exact q)
  have R1 : Hid (((w.alloc (.cells #[.bool false, .int .u32 0, .int .u32 0, .int .u32 0, .int .u32 0, .int .u8 0, .int .u8 0, .int .u8 0, .int .u8 0, .int .u8 0, .int .u8 0, .slice none 0 0] 57)).alloc (.cells #[.bool false, .int .u32 0, .int .u32 0, .int .u32 0, .int .u32 0, .int .u8 0, .int .u8 0, .int .u8 0, .int .u8 0, .int .u8 0, .int .u8 0, .slice none 0 0] 57)).heap[w.heap.size]? = some (.cells #[.bool false, .int .u32 0, .int .u32 0, .int .u32 0, .int .u32 0, .int .u8 0, .int .u8 0, .int .u8 0, .int .u8 0, .int .u8 0, .int .u8 0, .slice none 0 0] 57 (0, 0))) := hide (by rw [Below.heap_alloc _ _ _ (by omega)]; exact unhide R0)
  clear R0 z0
  have HZ2 := hide z2
  have HZ3 := hide z3
  clear e1 e2 e3 e4 z1 z2 z3 z4 l0 l1 l2 l3
  clear hop
  go_enter Try.func94, Try.ntmps94
  go_wp2_with fail
  refine (need_ok _ _ _ _ (unhide H0) (unhide HN0)).mono ?_
  rintro ee wz ⟨rfl, hwz⟩
  rw [hwz]
  clear hwz wz
  clear H0 G0
  go_wp2_with fail
  refine (unhide T1 _ (unhide H1)).mono ?_
  rintro ee wz ⟨rfl, gz⟩
  exact ⟨rfl, rfl, grown_trans (unhide G1) gz⟩

set_option maxHeartbeats 1600000 in
set_option maxRecDepth 10000 in
theorem dhcp_card (B : Nat) (a0 a1 a2 a3 a4 a5 a6 a7 a8 a9 a10 a11 a12 a13 a14 a15 a16 a17 a18 a19 a20 a21 a22 a23 a24 a25 a26 a27 a28 a29 a30 a31 a32 a33 : UInt8) (m m1 m2 m3 m4 : List UInt8) (s1 sh sf sc : ByteArray) (w : World) (h : Rdr w B (a0 :: a1 :: a2 :: a3 :: a4 :: a5 :: a6 :: a7 :: a8 :: a9 :: a10 :: a11 :: a12 :: a13 :: a14 :: a15 :: a16 :: a17 :: a18 :: a19 :: a20 :: a21 :: a22 :: a23 :: a24 :: a25 :: a26 :: a27 :: a28 :: a29 :: a30 :: a31 :: a32 :: a33 :: m)) (hs : (a0 :: a1 :: a2 :: a3 :: a4 :: a5 :: a6 :: a7 :: a8 :: a9 :: a10 :: a11 :: a12 :: a13 :: a14 :: a15 :: a16 :: a17 :: a18 :: a19 :: a20 :: a21 :: a22 :: a23 :: a24 :: a25 :: a26 :: a27 :: a28 :: a29 :: a30 :: a31 :: a32 :: a33 :: m).length ≤ 1048576) (e1 : m = s1.data.toList ++ m1) (e2 : m1 = sh.data.toList ++ m2) (e3 : m2 = sf.data.toList ++ m3) (e4 : m3 = sc.data.toList ++ m4) (z1 : s1.size = 10) (z2 : sh.size = 64) (z3 : sf.size = 128) (z4 : sc.size = 4) (rp : Bool) (hop : ((a0.toNat : Int) == 1 || (a0.toNat : Int) == 2) = true) (hrp : ((a0.toNat : Int) == 2) = rp) (hne : ¬ (a1 = 1 ∧ a2 = 6)) :
    Calls Try.prog 94 #[.pointer (some ⟨B, 0, none⟩)] w fun ee w' => ee = .panicked (errP 2) ∧ w.grownBy w' (some B) := by
  have hB := h.lt
  have hne0 : w.heap.size ≠ B := by omega
  have H0 := hide (h.alloc (.cells #[.bool false, .int .u32 0, .int .u32 0, .int .u32 0, .int .u32 0, .int .u8 0, .int .u8 0, .int .u8 0, .int .u8 0, .int .u8 0, .int .u8 0, .slice none 0 0] 57))
  have G0 := hide (grown_alloc (grown_refl w (some B)) (.cells #[.bool false, .int .u32 0, .int .u32 0, .int .u32 0, .int .u32 0, .int .u8 0, .int .u8 0, .int .u8 0, .int .u8 0, .int .u8 0, .int .u8 0, .slice none 0 0] 57))
  have R0 : Hid ((w.alloc (.cells #[.bool false, .int .u32 0, .int .u32 0, .int .u32 0, .int .u32 0, .int .u8 0, .int .u8 0, .int .u8 0, .int .u8 0, .int .u8 0, .int .u8 0, .slice none 0 0] 57)).heap[w.heap.size]? = some (.cells #[.bool false, .int .u32 0, .int .u32 0, .int .u32 0, .int .u32 0, .int .u8 0, .int .u8 0, .int .u8 0, .int .u8 0, .int .u8 0, .int .u8 0, .slice none 0 0] 57 (0, 0))) := heap_alloc_new w _
  have ls : m.length = 206 + m4.length ∧ m1.length = 196 + m4.length ∧ m2.length = 132 + m4.length ∧ m3.length = 4 + m4.length := lens e1 e2 e3 e4 z1 z2 z3 z4
  obtain ⟨l0, l1, l2, l3⟩ := ls
  have hsm : m4.length ≤ 1048400 := by simp only [List.length_cons] at hs; omega
  have HN0 := hide (show (240 : Int) ≤ ((a0 :: a1 :: a2 :: a3 :: a4 :: a5 :: a6 :: a7 :: a8 :: a9 :: a10 :: a11 :: a12 :: a13 :: a14 :: a15 :: a16 :: a17 :: a18 :: a19 :: a20 :: a21 :: a22 :: a23 :: a24 :: a25 :: a26 :: a27 :: a28 :: a29 :: a30 :: a31 :: a32 :: a33 :: m).length : Int) by simp only [List.length_cons]; omega)
  clear h
  have T1 := hide (fun u hu => op_ok B a0 (a1 :: a2 :: a3 :: a4 :: a5 :: a6 :: a7 :: a8 :: a9 :: a10 :: a11 :: a12 :: a13 :: a14 :: a15 :: a16 :: a17 :: a18 :: a19 :: a20 :: a21 :: a22 :: a23 :: a24 :: a25 :: a26 :: a27 :: a28 :: a29 :: a30 :: a31 :: a32 :: a33 :: m) u hu (by simp only [List.length_cons, maxLen]; omega) hop)
  have T2 := hide (fun u hu => take2_ok B a1 a2 (a3 :: a4 :: a5 :: a6 :: a7 :: a8 :: a9 :: a10 :: a11 :: a12 :: a13 :: a14 :: a15 :: a16 :: a17 :: a18 :: a19 :: a20 :: a21 :: a22 :: a23 :: a24 :: a25 :: a26 :: a27 :: a28 :: a29 :: a30 :: a31 :: a32 :: a33 :: m) u hu (by simp only [List.length_cons, maxLen]; omega))
  have z0 : (w.alloc (.cells #[.bool false, .int .u32 0, .int .u32 0, .int .u32 0, .int .u32 0, .int .u8 0, .int .u8 0, .int .u8 0, .int .u8 0, .int .u8 0, .int .u8 0, .slice none 0 0] 57)).heap.size = w.heap.size + 1 := by simp
  have hneV : w.heap.size + 1 ≠ B := by omega
  have hlt0 : w.heap.size < w.heap.size + 1 := by omega
  have H1 := hide ((unhide H0).alloc (.cells #[.bool false, .int .u32 0, .int .u32 0, .int .u32 0, .int .u32 0, .int .u8 0, .int .u8 0, .int .u8 0, .int .u8 0, .int .u8 0, .int .u8 0, .slice none 0 0] 57))
  have G1 := hide (grown_alloc (unhide G0) (.cells #[.bool false, .int .u32 0, .int .u32 0, .int .u32 0, .int .u32 0, .int .u8 0, .int .u8 0, .int .u8 0, .int .u8 0, .int .u8 0, .int .u8 0, .slice none 0 0] 57))
  have E1 : Hid (((w.alloc (.cells #[.bool false, .int .u32 0, .int .u32 0, .int .u32 0, .int .u32 0, .int .u8 0, .int .u8 0, .int .u8 0, .int .u8 0, .int .u8 0, .int .u8 0, .slice none 0 0] 57)).alloc (.cells #[.bool false, .int .u32 0, .int .u32 0, .int .u32 0, .int .u32 0, .int .u8 0, .int .u8 0, .int .u8 0, .int .u8 0, .int .u8 0, .int .u8 0, .slice none 0 0] 57)).heap[w.heap.size + 1]? = some (.cells #[.bool false, .int .u32 0, .int .u32 0, .int .u32 0, .int .u32 0, .int .u8 0, .int .u8 0, .int .u8 0, .int .u8 0, .int .u8 0, .int .u8 0, .slice none 0 0] 57 (0, 0))) := hide (by have q := heap_alloc_new (w.alloc (.cells #[.bool false, .int .u32 0, .int .u32 0, .int .u32 0, .int .u32 0, .int .u8 0, .int .u8 0, .int .u8 0, .int .u8 0, .int .u8 0, .int .u8 0, .slice none 0 0] 57)) (.cells #[.bool false, .int .u32 0, .int .u32 0, .int .u32 0, .int .u32 0, .int .u8 0, .int .u8 0, .int .u8 0, .int .u8 0, .int .u8 0, .int .u8 0, .slice none 0 0] 57); rw [z0] at q; exact q)
  have R1 : Hid (((w.alloc (.cells #[.bool false, .int .u32 0, .int .u32 0, .int .u32 0, .int .u32 0, .int .u8 0, .int .u8 0, .int .u8 0, .int .u8 0, .int .u8 0, .int .u8 0, .slice none 0 0] 57)).alloc (.cells #[.bool false, .int .u32 0, .int .u32 0, .int .u32 0, .int .u32 0, .int .u8 0, .int .u8 0, .int .u8 0, .int .u8 0, .int .u8 0, .int .u8 0, .slice none 0 0] 57)).heap[w.heap.size]? = some (.cells #[.bool false, .int .u32 0, .int .u32 0, .int .u32 0, .int .u32 0, .int .u8 0, .int .u8 0, .int .u8 0, .int .u8 0, .int .u8 0, .int .u8 0, .slice none 0 0] 57 (0, 0))) := hide (by rw [Below.heap_alloc _ _ _ (by omega)]; exact unhide R0)
  clear R0 z0
  have HZ2 := hide z2
  have HZ3 := hide z3
  clear e1 e2 e3 e4 z1 z2 z3 z4 l0 l1 l2 l3
  clear hop
  go_enter Try.func94, Try.ntmps94
  go_wp2_with fail
  refine (need_ok _ _ _ _ (unhide H0) (unhide HN0)).mono ?_
  rintro ee wz ⟨rfl, hwz⟩
  rw [hwz]
  clear hwz wz
  clear H0 G0
  go_wp2_with fail
  refine (unhide T1 _ (unhide H1)).mono ?_
  rintro ee w2 ⟨rfl, k2, g2⟩
  have hr : w2.heap[w.heap.size]? = some (.cells #[.bool false, .int .u32 0, .int .u32 0, .int .u32 0, .int .u32 0, .int .u8 0, .int .u8 0, .int .u8 0, .int .u8 0, .int .u8 0, .int .u8 0, .slice none 0 0] 57 (0, 0)) := (g2.block _ (lt_of_block (unhide R1)) (fun q => hne0 (by simpa using q))).trans (unhide R1)
  have he : w2.heap[w.heap.size + 1]? = some (.cells #[.bool false, .int .u32 0, .int .u32 0, .int .u32 0, .int .u32 0, .int .u8 0, .int .u8 0, .int .u8 0, .int .u8 0, .int .u8 0, .int .u8 0, .slice none 0 0] 57 (0, 0)) := (g2.block _ (lt_of_block (unhide E1)) (fun q => hneV (by simpa using q))).trans (unhide E1)
  have c2_0 : w2.cell? ⟨w.heap.size + 1, 0, none⟩ = some (.bool false) := row_cell he rfl
  have f2 := row_free he
  have E2 : Hid ((w2.setCell ⟨w.heap.size + 1, 0, none⟩ (.bool rp)).heap[w.heap.size + 1]? = some (.cells #[.bool rp, .int .u32 0, .int .u32 0, .int .u32 0, .int .u32 0, .int .u8 0, .int .u8 0, .int .u8 0, .int .u8 0, .int .u8 0, .int .u8 0, .slice none 0 0] 57 (0, 0))) := row_set he 0 (.bool rp)
  have H2 : Hid (Rdr (w2.setCell ⟨w.heap.size + 1, 0, none⟩ (.bool rp)) B (a1 :: a2 :: a3 :: a4 :: a5 :: a6 :: a7 :: a8 :: a9 :: a10 :: a11 :: a12 :: a13 :: a14 :: a15 :: a16 :: a17 :: a18 :: a19 :: a20 :: a21 :: a22 :: a23 :: a24 :: a25 :: a26 :: a27 :: a28 :: a29 :: a30 :: a31 :: a32 :: a33 :: m)) := other k2 hneV.symm _
  have G2 : Hid (w.grownBy (w2.setCell ⟨w.heap.size + 1, 0, none⟩ (.bool rp)) (some B)) := grown_new (grown_trans (unhide G1) g2) (Nat.le_of_lt hlt0) _
  have R2 : Hid ((w2.setCell ⟨w.heap.size + 1, 0, none⟩ (.bool rp)).heap[w.heap.size]? = some (.cells #[.bool false, .int .u32 0, .int .u32 0, .int .u32 0, .int .u32 0, .int .u8 0, .int .u8 0, .int .u8 0, .int .u8 0, .int .u8 0, .int .u8 0, .slice none 0 0] 57 (0, 0))) := by
    show _ = _
    rw [Below.heap_setCell _ _ _ _ (Nat.ne_of_lt hlt0)]; exact hr
  clear hr k2 g2 H1 G1 R1 he E1
  go_wp2_with fail
  refine (unhide T2 _ (unhide H2)).mono ?_
  rintro ee w9 ⟨rfl, k9, g9⟩
  have G9 := hide (grown_trans (unhide G2) g9)
  clear k9 g9
  go_wp2_with fail
  refine (must_else _ (by simpa using hne) _ _).mono ?_
  rintro ee wz ⟨rfl, hwz⟩
  exact ⟨rfl, rfl, by rw [hwz]; exact unhide G9⟩

set_option maxHeartbeats 1600000 in
set_option maxRecDepth 10000 in
theorem dhcp_cookie (B : Nat) (a0 a3 a4 a5 a6 a7 a8 a9 a10 a11 a12 a13 a14 a15 a16 a17 a18 a19 a20 a21 a22 a23 a24 a25 a26 a27 a28 a29 a30 a31 a32 a33 : UInt8) (m m1 m2 m3 m4 : List UInt8) (s1 sh sf sc : ByteArray) (w : World) (h : Rdr w B (a0 :: 1 :: 6 :: a3 :: a4 :: a5 :: a6 :: a7 :: a8 :: a9 :: a10 :: a11 :: a12 :: a13 :: a14 :: a15 :: a16 :: a17 :: a18 :: a19 :: a20 :: a21 :: a22 :: a23 :: a24 :: a25 :: a26 :: a27 :: a28 :: a29 :: a30 :: a31 :: a32 :: a33 :: m)) (hs : (a0 :: 1 :: 6 :: a3 :: a4 :: a5 :: a6 :: a7 :: a8 :: a9 :: a10 :: a11 :: a12 :: a13 :: a14 :: a15 :: a16 :: a17 :: a18 :: a19 :: a20 :: a21 :: a22 :: a23 :: a24 :: a25 :: a26 :: a27 :: a28 :: a29 :: a30 :: a31 :: a32 :: a33 :: m).length ≤ 1048576) (e1 : m = s1.data.toList ++ m1) (e2 : m1 = sh.data.toList ++ m2) (e3 : m2 = sf.data.toList ++ m3) (e4 : m3 = sc.data.toList ++ m4) (z1 : s1.size = 10) (z2 : sh.size = 64) (z3 : sf.size = 128) (z4 : sc.size = 4) (rp : Bool) (hop : ((a0.toNat : Int) == 1 || (a0.toNat : Int) == 2) = true) (hrp : ((a0.toNat : Int) == 2) = rp) (hne : ¬ sc.data.toList = [99, 130, 83, 99]) :
    Calls Try.prog 94 #[.pointer (some ⟨B, 0, none⟩)] w fun ee w' => ee = .panicked (errP 2) ∧ w.grownBy w' (some B) := by
  have hB := h.lt
  have hne0 : w.heap.size ≠ B := by omega
  have H0 := hide (h.alloc (.cells #[.bool false, .int .u32 0, .int .u32 0, .int .u32 0, .int .u32 0, .int .u8 0, .int .u8 0, .int .u8 0, .int .u8 0, .int .u8 0, .int .u8 0, .slice none 0 0] 57))
  have G0 := hide (grown_alloc (grown_refl w (some B)) (.cells #[.bool false, .int .u32 0, .int .u32 0, .int .u32 0, .int .u32 0, .int .u8 0, .int .u8 0, .int .u8 0, .int .u8 0, .int .u8 0, .int .u8 0, .slice none 0 0] 57))
  have R0 : Hid ((w.alloc (.cells #[.bool false, .int .u32 0, .int .u32 0, .int .u32 0, .int .u32 0, .int .u8 0, .int .u8 0, .int .u8 0, .int .u8 0, .int .u8 0, .int .u8 0, .slice none 0 0] 57)).heap[w.heap.size]? = some (.cells #[.bool false, .int .u32 0, .int .u32 0, .int .u32 0, .int .u32 0, .int .u8 0, .int .u8 0, .int .u8 0, .int .u8 0, .int .u8 0, .int .u8 0, .slice none 0 0] 57 (0, 0))) := heap_alloc_new w _
  have ls : m.length = 206 + m4.length ∧ m1.length = 196 + m4.length ∧ m2.length = 132 + m4.length ∧ m3.length = 4 + m4.length := lens e1 e2 e3 e4 z1 z2 z3 z4
  obtain ⟨l0, l1, l2, l3⟩ := ls
  have hsm : m4.length ≤ 1048400 := by simp only [List.length_cons] at hs; omega
  have HN0 := hide (show (240 : Int) ≤ ((a0 :: 1 :: 6 :: a3 :: a4 :: a5 :: a6 :: a7 :: a8 :: a9 :: a10 :: a11 :: a12 :: a13 :: a14 :: a15 :: a16 :: a17 :: a18 :: a19 :: a20 :: a21 :: a22 :: a23 :: a24 :: a25 :: a26 :: a27 :: a28 :: a29 :: a30 :: a31 :: a32 :: a33 :: m).length : Int) by simp only [List.length_cons]; omega)
  clear h
  have T1 := hide (fun u hu => op_ok B a0 (1 :: 6 :: a3 :: a4 :: a5 :: a6 :: a7 :: a8 :: a9 :: a10 :: a11 :: a12 :: a13 :: a14 :: a15 :: a16 :: a17 :: a18 :: a19 :: a20 :: a21 :: a22 :: a23 :: a24 :: a25 :: a26 :: a27 :: a28 :: a29 :: a30 :: a31 :: a32 :: a33 :: m) u hu (by simp only [List.length_cons, maxLen]; omega) hop)
  have T2 := hide (fun u hu => take2_ok B 1 6 (a3 :: a4 :: a5 :: a6 :: a7 :: a8 :: a9 :: a10 :: a11 :: a12 :: a13 :: a14 :: a15 :: a16 :: a17 :: a18 :: a19 :: a20 :: a21 :: a22 :: a23 :: a24 :: a25 :: a26 :: a27 :: a28 :: a29 :: a30 :: a31 :: a32 :: a33 :: m) u hu (by simp only [List.length_cons, maxLen]; omega))
  have T3 := hide (fun u hu => byte_ok B a3 (a4 :: a5 :: a6 :: a7 :: a8 :: a9 :: a10 :: a11 :: a12 :: a13 :: a14 :: a15 :: a16 :: a17 :: a18 :: a19 :: a20 :: a21 :: a22 :: a23 :: a24 :: a25 :: a26 :: a27 :: a28 :: a29 :: a30 :: a31 :: a32 :: a33 :: m) u hu (by simp only [List.length_cons, maxLen]; omega))
  have T4 := hide (fun u hu => long_ok B a4 a5 a6 a7 (a8 :: a9 :: a10 :: a11 :: a12 :: a13 :: a14 :: a15 :: a16 :: a17 :: a18 :: a19 :: a20 :: a21 :: a22 :: a23 :: a24 :: a25 :: a26 :: a27 :: a28 :: a29 :: a30 :: a31 :: a32 :: a33 :: m) u hu (by simp only [List.length_cons, maxLen]; omega))
  have T5 := hide (fun u hu => long_ok B a8 a9 a10 a11 (a12 :: a13 :: a14 :: a15 :: a16 :: a17 :: a18 :: a19 :: a20 :: a21 :: a22 :: a23 :: a24 :: a25 :: a26 :: a27 :: a28 :: a29 :: a30 :: a31 :: a32 :: a33 :: m) u hu (by simp only [List.length_cons, maxLen]; omega))
  have T6 := hide (fun u hu => address_ok B a12 a13 a14 a15 (a16 :: a17 :: a18 :: a19 :: a20 :: a21 :: a22 :: a23 :: a24 :: a25 :: a26 :: a27 :: a28 :: a29 :: a30 :: a31 :: a32 :: a33 :: m) u hu (by simp only [List.length_cons, maxLen]; omega))
  have T7 := hide (fun u hu => address_ok B a16 a17 a18 a19 (a20 :: a21 :: a22 :: a23 :: a24 :: a25 :: a26 :: a27 :: a28 :: a29 :: a30 :: a31 :: a32 :: a33 :: m) u hu (by simp only [List.length_cons, maxLen]; omega))
  have T8 := hide (fun u hu => address_ok B a20 a21 a22 a23 (a24 :: a25 :: a26 :: a27 :: a28 :: a29 :: a30 :: a31 :: a32 :: a33 :: m) u hu (by simp only [List.length_cons, maxLen]; omega))
  have T9 := hide (fun u hu => address_ok B a24 a25 a26 a27 (a28 :: a29 :: a30 :: a31 :: a32 :: a33 :: m) u hu (by simp only [List.length_cons, maxLen]; omega))
  have T10 := hide (fun u hu => card_ok B a28 a29 a30 a31 a32 a33 (m) u hu (by simp only [List.length_cons, maxLen]; omega))
  have T11 := hide (fun u hu => takeB_ok B 10 s1 m1 m u hu e1 z1 (by simp only [maxLen]; omega))
  have T12 := hide (fun u hu => takeB_ok B 64 sh m2 m1 u hu e2 z2 (by simp only [maxLen]; omega))
  have T13 := hide (fun u hu => takeB_ok B 128 sf m3 m2 u hu e3 z3 (by simp only [maxLen]; omega))
  have T14 := hide (fun u hu => takeB_ok B 4 sc m4 m3 u hu e4 z4 (by simp only [maxLen]; omega))
  obtain ⟨x4, hx4⟩ : ∃ x, x = 16777216 * (a4.toNat : Int) + 65536 * (a5.toNat : Int) + 256 * (a6.toNat : Int) + (a7.toNat : Int) := ⟨_, rfl⟩
  obtain ⟨x12, hx12⟩ : ∃ x, x = 16777216 * (a12.toNat : Int) + 65536 * (a13.toNat : Int) + 256 * (a14.toNat : Int) + (a15.toNat : Int) := ⟨_, rfl⟩
  obtain ⟨x16, hx16⟩ : ∃ x, x = 16777216 * (a16.toNat : Int) + 65536 * (a17.toNat : Int) + 256 * (a18.toNat : Int) + (a19.toNat : Int) := ⟨_, rfl⟩
  obtain ⟨x20, hx20⟩ : ∃ x, x = 16777216 * (a20.toNat : Int) + 65536 * (a21.toNat : Int) + 256 * (a22.toNat : Int) + (a23.toNat : Int) := ⟨_, rfl⟩
  rw [← hx4] at T4
  have HX4 := hide hx4
  clear hx4
  rw [← hx12] at T6
  have HX12 := hide hx12
  clear hx12
  rw [← hx16] at T7
  have HX16 := hide hx16
  clear hx16
  rw [← hx20] at T8
  have HX20 := hide hx20
  clear hx20
  have z0 : (w.alloc (.cells #[.bool false, .int .u32 0, .int .u32 0, .int .u32 0, .int .u32 0, .int .u8 0, .int .u8 0, .int .u8 0, .int .u8 0, .int .u8 0, .int .u8 0, .slice none 0 0] 57)).heap.size = w.heap.size + 1 := by simp
  have hneV : w.heap.size + 1 ≠ B := by omega
  have hlt0 : w.heap.size < w.heap.size + 1 := by omega
  have H1 := hide ((unhide H0).alloc (.cells #[.bool false, .int .u32 0, .int .u32 0, .int .u32 0, .int .u32 0, .int .u8 0, .int .u8 0, .int .u8 0, .int .u8 0, .int .u8 0, .int .u8 0, .slice none 0 0] 57))
  have G1 := hide (grown_alloc (unhide G0) (.cells #[.bool false, .int .u32 0, .int .u32 0, .int .u32 0, .int .u32 0, .int .u8 0, .int .u8 0, .int .u8 0, .int .u8 0, .int .u8 0, .int .u8 0, .slice none 0 0] 57))
  have E1 : Hid (((w.alloc (.cells #[.bool false, .int .u32 0, .int .u32 0, .int .u32 0, .int .u32 0, .int .u8 0, .int .u8 0, .int .u8 0, .int .u8 0, .int .u8 0, .int .u8 0, .slice none 0 0] 57)).alloc (.cells #[.bool false, .int .u32 0, .int .u32 0, .int .u32 0, .int .u32 0, .int .u8 0, .int .u8 0, .int .u8 0, .int .u8 0, .int .u8 0, .int .u8 0, .slice none 0 0] 57)).heap[w.heap.size + 1]? = some (.cells #[.bool false, .int .u32 0, .int .u32 0, .int .u32 0, .int .u32 0, .int .u8 0, .int .u8 0, .int .u8 0, .int .u8 0, .int .u8 0, .int .u8 0, .slice none 0 0] 57 (0, 0))) := hide (by have q := heap_alloc_new (w.alloc (.cells #[.bool false, .int .u32 0, .int .u32 0, .int .u32 0, .int .u32 0, .int .u8 0, .int .u8 0, .int .u8 0, .int .u8 0, .int .u8 0, .int .u8 0, .slice none 0 0] 57)) (.cells #[.bool false, .int .u32 0, .int .u32 0, .int .u32 0, .int .u32 0, .int .u8 0, .int .u8 0, .int .u8 0, .int .u8 0, .int .u8 0, .int .u8 0, .slice none 0 0] 57); rw [z0] at q; exact q)
  have R1 : Hid (((w.alloc (.cells #[.bool false, .int .u32 0, .int .u32 0, .int .u32 0, .int .u32 0, .int .u8 0, .int .u8 0, .int .u8 0, .int .u8 0, .int .u8 0, .int .u8 0, .slice none 0 0] 57)).alloc (.cells #[.bool false, .int .u32 0, .int .u32 0, .int .u32 0, .int .u32 0, .int .u8 0, .int .u8 0, .int .u8 0, .int .u8 0, .int .u8 0, .int .u8 0, .slice none 0 0] 57)).heap[w.heap.size]? = some (.cells #[.bool false, .int .u32 0, .int .u32 0, .int .u32 0, .int .u32 0, .int .u8 0, .int .u8 0, .int .u8 0, .int .u8 0, .int .u8 0, .int .u8 0, .slice none 0 0] 57 (0, 0))) := hide (by rw [Below.heap_alloc _ _ _ (by omega)]; exact unhide R0)
  clear R0 z0
  have HZ2 := hide z2
  have HZ3 := hide z3
  clear e1 e2 e3 e4 z1 z2 z3 z4 l0 l1 l2 l3
  clear hop
  go_enter Try.func94, Try.ntmps94
  go_wp2_with fail
  refine (need_ok _ _ _ _ (unhide H0) (unhide HN0)).mono ?_
  rintro ee wz ⟨rfl, hwz⟩
  rw [hwz]
  clear hwz wz
  clear H0 G0
  go_wp2_with fail
  refine (unhide T1 _ (unhide H1)).mono ?_
  rintro ee w2 ⟨rfl, k2, g2⟩
  have hr : w2.heap[w.heap.size]? = some (.cells #[.bool false, .int .u32 0, .int .u32 0, .int .u32 0, .int .u32 0, .int .u8 0, .int .u8 0, .int .u8 0, .int .u8 0, .int .u8 0, .int .u8 0, .slice none 0 0] 57 (0, 0)) := (g2.block _ (lt_of_block (unhide R1)) (fun q => hne0 (by simpa using q))).trans (unhide R1)
  have he : w2.heap[w.heap.size + 1]? = some (.cells #[.bool false, .int .u32 0, .int .u32 0, .int .u32 0, .int .u32 0, .int .u8 0, .int .u8 0, .int .u8 0, .int .u8 0, .int .u8 0, .int .u8 0, .slice none 0 0] 57 (0, 0)) := (g2.block _ (lt_of_block (unhide E1)) (fun q => hneV (by simpa using q))).trans (unhide E1)
  have c2_0 : w2.cell? ⟨w.heap.size + 1, 0, none⟩ = some (.bool false) := row_cell he rfl
  have f2 := row_free he
  have E2 : Hid ((w2.setCell ⟨w.heap.size + 1, 0, none⟩ (.bool rp)).heap[w.heap.size + 1]? = some (.cells #[.bool rp, .int .u32 0, .int .u32 0, .int .u32 0, .int .u32 0, .int .u8 0, .int .u8 0, .int .u8 0, .int .u8 0, .int .u8 0, .int .u8 0, .slice none 0 0] 57 (0, 0))) := row_set he 0 (.bool rp)
  have H2 : Hid (Rdr (w2.setCell ⟨w.heap.size + 1, 0, none⟩ (.bool rp)) B (1 :: 6 :: a3 :: a4 :: a5 :: a6 :: a7 :: a8 :: a9 :: a10 :: a11 :: a12 :: a13 :: a14 :: a15 :: a16 :: a17 :: a18 :: a19 :: a20 :: a21 :: a22 :: a23 :: a24 :: a25 :: a26 :: a27 :: a28 :: a29 :: a30 :: a31 :: a32 :: a33 :: m)) := other k2 hneV.symm _
  have G2 : Hid (w.grownBy (w2.setCell ⟨w.heap.size + 1, 0, none⟩ (.bool rp)) (some B)) := grown_new (grown_trans (unhide G1) g2) (Nat.le_of_lt hlt0) _
  have R2 : Hid ((w2.setCell ⟨w.heap.size + 1, 0, none⟩ (.bool rp)).heap[w.heap.size]? = some (.cells #[.bool false, .int .u32 0, .int .u32 0, .int .u32 0, .int .u32 0, .int .u8 0, .int .u8 0, .int .u8 0, .int .u8 0, .int .u8 0, .int .u8 0, .slice none 0 0] 57 (0, 0))) := by
    show _ = _
    rw [Below.heap_setCell _ _ _ _ (Nat.ne_of_lt hlt0)]; exact hr
  clear hr k2 g2 H1 G1 R1 he E1
  go_wp2_with fail
  refine (unhide T2 _ (unhide H2)).mono ?_
  rintro ee w3 ⟨rfl, k3, g3⟩
  have hr : w3.heap[w.heap.size]? = some (.cells #[.bool false, .int .u32 0, .int .u32 0, .int .u32 0, .int .u32 0, .int .u8 0, .int .u8 0, .int .u8 0, .int .u8 0, .int .u8 0, .int .u8 0, .slice none 0 0] 57 (0, 0)) := (g3.block _ (lt_of_block (unhide R2)) (fun q => hne0 (by simpa using q))).trans (unhide R2)
  have he : w3.heap[w.heap.size + 1]? = some (.cells #[.bool rp, .int .u32 0, .int .u32 0, .int .u32 0, .int .u32 0, .int .u8 0, .int .u8 0, .int .u8 0, .int .u8 0, .int .u8 0, .int .u8 0, .slice none 0 0] 57 (0, 0)) := (g3.block _ (lt_of_block (unhide E2)) (fun q => hneV (by simpa using q))).trans (unhide E2)
  have H3 := hide k3
  have G3 := hide (grown_trans (unhide G2) g3)
  have R3 := hide hr
  have E3 := hide he
  clear hr k3 g3 H2 G2 R2 he E2
  go_wp2_with fail
  refine (must_if _ (by simp) _ _).mono ?_
  rintro ee wz ⟨rfl, hwz⟩
  rw [hwz]
  clear hwz wz
  go_wp2_with fail
  refine (unhide T3 _ (unhide H3)).mono ?_
  rintro ee w4 ⟨rfl, k4, g4⟩
  have hr : w4.heap[w.heap.size]? = some (.cells #[.bool false, .int .u32 0, .int .u32 0, .int .u32 0, .int .u32 0, .int .u8 0, .int .u8 0, .int .u8 0, .int .u8 0, .int .u8 0, .int .u8 0, .slice none 0 0] 57 (0, 0)) := (g4.block _ (lt_of_block (unhide R3)) (fun q => hne0 (by simpa using q))).trans (unhide R3)
  have he : w4.heap[w.heap.size + 1]? = some (.cells #[.bool rp, .int .u32 0, .int .u32 0, .int .u32 0, .int .u32 0, .int .u8 0, .int .u8 0, .int .u8 0, .int .u8 0, .int .u8 0, .int .u8 0, .slice none 0 0] 57 (0, 0)) := (g4.block _ (lt_of_block (unhide E3)) (fun q => hneV (by simpa using q))).trans (unhide E3)
  have H4 := hide k4
  have G4 := hide (grown_trans (unhide G3) g4)
  have R4 := hide hr
  have E4 := hide he
  clear hr k4 g4 H3 G3 R3 he E3
  go_wp2_with fail
  refine (unhide T4 _ (unhide H4)).mono ?_
  rintro ee w5 ⟨rfl, k5, g5⟩
  have hr : w5.heap[w.heap.size]? = some (.cells #[.bool false, .int .u32 0, .int .u32 0, .int .u32 0, .int .u32 0, .int .u8 0, .int .u8 0, .int .u8 0, .int .u8 0, .int .u8 0, .int .u8 0, .slice none 0 0] 57 (0, 0)) := (g5.block _ (lt_of_block (unhide R4)) (fun q => hne0 (by simpa using q))).trans (unhide R4)
  have he : w5.heap[w.heap.size + 1]? = some (.cells #[.bool rp, .int .u32 0, .int .u32 0, .int .u32 0, .int .u32 0, .int .u8 0, .int .u8 0, .int .u8 0, .int .u8 0, .int .u8 0, .int .u8 0, .slice none 0 0] 57 (0, 0)) := (g5.block _ (lt_of_block (unhide E4)) (fun q => hneV (by simpa using q))).trans (unhide E4)
  have c5_1 : w5.cell? ⟨w.heap.size + 1, 1, none⟩ = some (.int .u32 0) := row_cell he rfl
  have f5 := row_free he
  have E5 : Hid ((w5.setCell ⟨w.heap.size + 1, 1, none⟩ (.int .u32 x4)).heap[w.heap.size + 1]? = some (.cells #[.bool rp, .int .u32 x4, .int .u32 0, .int .u32 0, .int .u32 0, .int .u8 0, .int .u8 0, .int .u8 0, .int .u8 0, .int .u8 0, .int .u8 0, .slice none 0 0] 57 (0, 0))) := row_set he 1 (.int .u32 x4)
  have H5 : Hid (Rdr (w5.setCell ⟨w.heap.size + 1, 1, none⟩ (.int .u32 x4)) B (a8 :: a9 :: a10 :: a11 :: a12 :: a13 :: a14 :: a15 :: a16 :: a17 :: a18 :: a19 :: a20 :: a21 :: a22 :: a23 :: a24 :: a25 :: a26 :: a27 :: a28 :: a29 :: a30 :: a31 :: a32 :: a33 :: m)) := other k5 hneV.symm _
  have G5 : Hid (w.grownBy (w5.setCell ⟨w.heap.size + 1, 1, none⟩ (.int .u32 x4)) (some B)) := grown_new (grown_trans (unhide G4) g5) (Nat.le_of_lt hlt0) _
  have R5 : Hid ((w5.setCell ⟨w.heap.size + 1, 1, none⟩ (.int .u32 x4)).heap[w.heap.size]? = some (.cells #[.bool false, .int .u32 0, .int .u32 0, .int .u32 0, .int .u32 0, .int .u8 0, .int .u8 0, .int .u8 0, .int .u8 0, .int .u8 0, .int .u8 0, .slice none 0 0] 57 (0, 0))) := by
    show _ = _
    rw [Below.heap_setCell _ _ _ _ (Nat.ne_of_lt hlt0)]; exact hr
  clear hr k5 g5 H4 G4 R4 he E4
  go_wp2_with fail
  refine (unhide T5 _ (unhide H5)).mono ?_
  rintro ee w6 ⟨rfl, k6, g6⟩
  have hr : w6.heap[w.heap.size]? = some (.cells #[.bool false, .int .u32 0, .int .u32 0, .int .u32 0, .int .u32 0, .int .u8 0, .int .u8 0, .int .u8 0, .int .u8 0, .int .u8 0, .int .u8 0, .slice none 0 0] 57 (0, 0)) := (g6.block _ (lt_of_block (unhide R5)) (fun q => hne0 (by simpa using q))).trans (unhide R5)
  have he : w6.heap[w.heap.size + 1]? = some (.cells #[.bool rp, .int .u32 x4, .int .u32 0, .int .u32 0, .int .u32 0, .int .u8 0, .int .u8 0, .int .u8 0, .int .u8 0, .int .u8 0, .int .u8 0, .slice none 0 0] 57 (0, 0)) := (g6.block _ (lt_of_block (unhide E5)) (fun q => hneV (by simpa using q))).trans (unhide E5)
  have H6 := hide k6
  have G6 := hide (grown_trans (unhide G5) g6)
  have R6 := hide hr
  have E6 := hide he
  clear hr k6 g6 H5 G5 R5 he E5
  go_wp2_with fail
  refine (unhide T6 _ (unhide H6)).mono ?_
  rintro ee w7 ⟨rfl, k7, g7⟩
  have hr : w7.heap[w.heap.size]? = some (.cells #[.bool false, .int .u32 0, .int .u32 0, .int .u32 0, .int .u32 0, .int .u8 0, .int .u8 0, .int .u8 0, .int .u8 0, .int .u8 0, .int .u8 0, .slice none 0 0] 57 (0, 0)) := (g7.block _ (lt_of_block (unhide R6)) (fun q => hne0 (by simpa using q))).trans (unhide R6)
  have he : w7.heap[w.heap.size + 1]? = some (.cells #[.bool rp, .int .u32 x4, .int .u32 0, .int .u32 0, .int .u32 0, .int .u8 0, .int .u8 0, .int .u8 0, .int .u8 0, .int .u8 0, .int .u8 0, .slice none 0 0] 57 (0, 0)) := (g7.block _ (lt_of_block (unhide E6)) (fun q => hneV (by simpa using q))).trans (unhide E6)
  have c7_2 : w7.cell? ⟨w.heap.size + 1, 2, none⟩ = some (.int .u32 0) := row_cell he rfl
  have f7 := row_free he
  have E7 : Hid ((w7.setCell ⟨w.heap.size + 1, 2, none⟩ (.int .u32 x12)).heap[w.heap.size + 1]? = some (.cells #[.bool rp, .int .u32 x4, .int .u32 x12, .int .u32 0, .int .u32 0, .int .u8 0, .int .u8 0, .int .u8 0, .int .u8 0, .int .u8 0, .int .u8 0, .slice none 0 0] 57 (0, 0))) := row_set he 2 (.int .u32 x12)
  have H7 : Hid (Rdr (w7.setCell ⟨w.heap.size + 1, 2, none⟩ (.int .u32 x12)) B (a16 :: a17 :: a18 :: a19 :: a20 :: a21 :: a22 :: a23 :: a24 :: a25 :: a26 :: a27 :: a28 :: a29 :: a30 :: a31 :: a32 :: a33 :: m)) := other k7 hneV.symm _
  have G7 : Hid (w.grownBy (w7.setCell ⟨w.heap.size + 1, 2, none⟩ (.int .u32 x12)) (some B)) := grown_new (grown_trans (unhide G6) g7) (Nat.le_of_lt hlt0) _
  have R7 : Hid ((w7.setCell ⟨w.heap.size + 1, 2, none⟩ (.int .u32 x12)).heap[w.heap.size]? = some (.cells #[.bool false, .int .u32 0, .int .u32 0, .int .u32 0, .int .u32 0, .int .u8 0, .int .u8 0, .int .u8 0, .int .u8 0, .int .u8 0, .int .u8 0, .slice none 0 0] 57 (0, 0))) := by
    show _ = _
    rw [Below.heap_setCell _ _ _ _ (Nat.ne_of_lt hlt0)]; exact hr
  clear hr k7 g7 H6 G6 R6 he E6
  go_wp2_with fail
  refine (unhide T7 _ (unhide H7)).mono ?_
  rintro ee w8 ⟨rfl, k8, g8⟩
  have hr : w8.heap[w.heap.size]? = some (.cells #[.bool false, .int .u32 0, .int .u32 0, .int .u32 0, .int .u32 0, .int .u8 0, .int .u8 0, .int .u8 0, .int .u8 0, .int .u8 0, .int .u8 0, .slice none 0 0] 57 (0, 0)) := (g8.block _ (lt_of_block (unhide R7)) (fun q => hne0 (by simpa using q))).trans (unhide R7)
  have he : w8.heap[w.heap.size + 1]? = some (.cells #[.bool rp, .int .u32 x4, .int .u32 x12, .int .u32 0, .int .u32 0, .int .u8 0, .int .u8 0, .int .u8 0, .int .u8 0, .int .u8 0, .int .u8 0, .slice none 0 0] 57 (0, 0)) := (g8.block _ (lt_of_block (unhide E7)) (fun q => hneV (by simpa using q))).trans (unhide E7)
  have c8_3 : w8.cell? ⟨w.heap.size + 1, 3, none⟩ = some (.int .u32 0) := row_cell he rfl
  have f8 := row_free he
  have E8 : Hid ((w8.setCell ⟨w.heap.size + 1, 3, none⟩ (.int .u32 x16)).heap[w.heap.size + 1]? = some (.cells #[.bool rp, .int .u32 x4, .int .u32 x12, .int .u32 x16, .int .u32 0, .int .u8 0, .int .u8 0, .int .u8 0, .int .u8 0, .int .u8 0, .int .u8 0, .slice none 0 0] 57 (0, 0))) := row_set he 3 (.int .u32 x16)
  have H8 : Hid (Rdr (w8.setCell ⟨w.heap.size + 1, 3, none⟩ (.int .u32 x16)) B (a20 :: a21 :: a22 :: a23 :: a24 :: a25 :: a26 :: a27 :: a28 :: a29 :: a30 :: a31 :: a32 :: a33 :: m)) := other k8 hneV.symm _
  have G8 : Hid (w.grownBy (w8.setCell ⟨w.heap.size + 1, 3, none⟩ (.int .u32 x16)) (some B)) := grown_new (grown_trans (unhide G7) g8) (Nat.le_of_lt hlt0) _
  have R8 : Hid ((w8.setCell ⟨w.heap.size + 1, 3, none⟩ (.int .u32 x16)).heap[w.heap.size]? = some (.cells #[.bool false, .int .u32 0, .int .u32 0, .int .u32 0, .int .u32 0, .int .u8 0, .int .u8 0, .int .u8 0, .int .u8 0, .int .u8 0, .int .u8 0, .slice none 0 0] 57 (0, 0))) := by
    show _ = _
    rw [Below.heap_setCell _ _ _ _ (Nat.ne_of_lt hlt0)]; exact hr
  clear hr k8 g8 H7 G7 R7 he E7
  go_wp2_with fail
  refine (unhide T8 _ (unhide H8)).mono ?_
  rintro ee w9 ⟨rfl, k9, g9⟩
  have hr : w9.heap[w.heap.size]? = some (.cells #[.bool false, .int .u32 0, .int .u32 0, .int .u32 0, .int .u32 0, .int .u8 0, .int .u8 0, .int .u8 0, .int .u8 0, .int .u8 0, .int .u8 0, .slice none 0 0] 57 (0, 0)) := (g9.block _ (lt_of_block (unhide R8)) (fun q => hne0 (by simpa using q))).trans (unhide R8)
  have he : w9.heap[w.heap.size + 1]? = some (.cells #[.bool rp, .int .u32 x4, .int .u32 x12, .int .u32 x16, .int .u32 0, .int .u8 0, .int .u8 0, .int .u8 0, .int .u8 0, .int .u8 0, .int .u8 0, .slice none 0 0] 57 (0, 0)) := (g9.block _ (lt_of_block (unhide E8)) (fun q => hneV (by simpa using q))).trans (unhide E8)
  have c9_4 : w9.cell? ⟨w.heap.size + 1, 4, none⟩ = some (.int .u32 0) := row_cell he rfl
  have f9 := row_free he
  have E9 : Hid ((w9.setCell ⟨w.heap.size + 1, 4, none⟩ (.int .u32 x20)).heap[w.heap.size + 1]? = some (.cells #[.bool rp, .int .u32 x4, .int .u32 x12, .int .u32 x16, .int .u32 x20, .int .u8 0, .int .u8 0, .int .u8 0, .int .u8 0, .int .u8 0, .int .u8 0, .slice none 0 0] 57 (0, 0))) := row_set he 4 (.int .u32 x20)
  have H9 : Hid (Rdr (w9.setCell ⟨w.heap.size + 1, 4, none⟩ (.int .u32 x20)) B (a24 :: a25 :: a26 :: a27 :: a28 :: a29 :: a30 :: a31 :: a32 :: a33 :: m)) := other k9 hneV.symm _
  have G9 : Hid (w.grownBy (w9.setCell ⟨w.heap.size + 1, 4, none⟩ (.int .u32 x20)) (some B)) := grown_new (grown_trans (unhide G8) g9) (Nat.le_of_lt hlt0) _
  have R9 : Hid ((w9.setCell ⟨w.heap.size + 1, 4, none⟩ (.int .u32 x20)).heap[w.heap.size]? = some (.cells #[.bool false, .int .u32 0, .int .u32 0, .int .u32 0, .int .u32 0, .int .u8 0, .int .u8 0, .int .u8 0, .int .u8 0, .int .u8 0, .int .u8 0, .slice none 0 0] 57 (0, 0))) := by
    show _ = _
    rw [Below.heap_setCell _ _ _ _ (Nat.ne_of_lt hlt0)]; exact hr
  clear hr k9 g9 H8 G8 R8 he E8
  go_wp2_with fail
  refine (unhide T9 _ (unhide H9)).mono ?_
  rintro ee w10 ⟨rfl, k10, g10⟩
  have hr : w10.heap[w.heap.size]? = some (.cells #[.bool false, .int .u32 0, .int .u32 0, .int .u32 0, .int .u32 0, .int .u8 0, .int .u8 0, .int .u8 0, .int .u8 0, .int .u8 0, .int .u8 0, .slice none 0 0] 57 (0, 0)) := (g10.block _ (lt_of_block (unhide R9)) (fun q => hne0 (by simpa using q))).trans (unhide R9)
  have he : w10.heap[w.heap.size + 1]? = some (.cells #[.bool rp, .int .u32 x4, .int .u32 x12, .int .u32 x16, .int .u32 x20, .int .u8 0, .int .u8 0, .int .u8 0, .int .u8 0, .int .u8 0, .int .u8 0, .slice none 0 0] 57 (0, 0)) := (g10.block _ (lt_of_block (unhide E9)) (fun q => hneV (by simpa using q))).trans (unhide E9)
  have H10 := hide k10
  have G10 := hide (grown_trans (unhide G9) g10)
  have R10 := hide hr
  have E10 := hide he
  clear hr k10 g10 H9 G9 R9 he E9
  go_wp2_with fail
  refine (unhide T10 _ (unhide H10)).mono ?_
  rintro ee w11 ⟨rfl, k11, g11⟩
  have hr : w11.heap[w.heap.size]? = some (.cells #[.bool false, .int .u32 0, .int .u32 0, .int .u32 0, .int .u32 0, .int .u8 0, .int .u8 0, .int .u8 0, .int .u8 0, .int .u8 0, .int .u8 0, .slice none 0 0] 57 (0, 0)) := (g11.block _ (lt_of_block (unhide R10)) (fun q => hne0 (by simpa using q))).trans (unhide R10)
  have he : w11.heap[w.heap.size + 1]? = some (.cells #[.bool rp, .int .u32 x4, .int .u32 x12, .int .u32 x16, .int .u32 x20, .int .u8 0, .int .u8 0, .int .u8 0, .int .u8 0, .int .u8 0, .int .u8 0, .slice none 0 0] 57 (0, 0)) := (g11.block _ (lt_of_block (unhide E10)) (fun q => hneV (by simpa using q))).trans (unhide E10)
  have c11_5 : w11.cell? ⟨w.heap.size + 1, 5, none⟩ = some (.int .u8 0) := row_cell he rfl
  have c11_6 : w11.cell? ⟨w.heap.size + 1, 6, none⟩ = some (.int .u8 0) := row_cell he rfl
  have c11_7 : w11.cell? ⟨w.heap.size + 1, 7, none⟩ = some (.int .u8 0) := row_cell he rfl
  have c11_8 : w11.cell? ⟨w.heap.size + 1, 8, none⟩ = some (.int .u8 0) := row_cell he rfl
  have c11_9 : w11.cell? ⟨w.heap.size + 1, 9, none⟩ = some (.int .u8 0) := row_cell he rfl
  have c11_10 : w11.cell? ⟨w.heap.size + 1, 10, none⟩ = some (.int .u8 0) := row_cell he rfl
  have f11 := row_free he
  have e11_0 : (w11.setCell ⟨w.heap.size + 1, 5, none⟩ (.int .u8 a28.toNat)).heap[w.heap.size + 1]? = some (.cells #[.bool rp, .int .u32 x4, .int .u32 x12, .int .u32 x16, .int .u32 x20, .int .u8 a28.toNat, .int .u8 0, .int .u8 0, .int .u8 0, .int .u8 0, .int .u8 0, .slice none 0 0] 57 (0, 0)) := row_set he 5 (.int .u8 a28.toNat)
  have e11_1 : ((w11.setCell ⟨w.heap.size + 1, 5, none⟩ (.int .u8 a28.toNat)).setCell ⟨w.heap.size + 1, 6, none⟩ (.int .u8 a29.toNat)).heap[w.heap.size + 1]? = some (.cells #[.bool rp, .int .u32 x4, .int .u32 x12, .int .u32 x16, .int .u32 x20, .int .u8 a28.toNat, .int .u8 a29.toNat, .int .u8 0, .int .u8 0, .int .u8 0, .int .u8 0, .slice none 0 0] 57 (0, 0)) := row_set e11_0 6 (.int .u8 a29.toNat)
  have e11_2 : (((w11.setCell ⟨w.heap.size + 1, 5, none⟩ (.int .u8 a28.toNat)).setCell ⟨w.heap.size + 1, 6, none⟩ (.int .u8 a29.toNat)).setCell ⟨w.heap.size + 1, 7, none⟩ (.int .u8 a30.toNat)).heap[w.heap.size + 1]? = some (.cells #[.bool rp, .int .u32 x4, .int .u32 x12, .int .u32 x16, .int .u32 x20, .int .u8 a28.toNat, .int .u8 a29.toNat, .int .u8 a30.toNat, .int .u8 0, .int .u8 0, .int .u8 0, .slice none 0 0] 57 (0, 0)) := row_set e11_1 7 (.int .u8 a30.toNat)
  have e11_3 : ((((w11.setCell ⟨w.heap.size + 1, 5, none⟩ (.int .u8 a28.toNat)).setCell ⟨w.heap.size + 1, 6, none⟩ (.int .u8 a29.toNat)).setCell ⟨w.heap.size + 1, 7, none⟩ (.int .u8 a30.toNat)).setCell ⟨w.heap.size + 1, 8, none⟩ (.int .u8 a31.toNat)).heap[w.heap.size + 1]? = some (.cells #[.bool rp, .int .u32 x4, .int .u32 x12, .int .u32 x16, .int .u32 x20, .int .u8 a28.toNat, .int .u8 a29.toNat, .int .u8 a30.toNat, .int .u8 a31.toNat, .int .u8 0, .int .u8 0, .slice none 0 0] 57 (0, 0)) := row_set e11_2 8 (.int .u8 a31.toNat)
  have e11_4 : (((((w11.setCell ⟨w.heap.size + 1, 5, none⟩ (.int .u8 a28.toNat)).setCell ⟨w.heap.size + 1, 6, none⟩ (.int .u8 a29.toNat)).setCell ⟨w.heap.size + 1, 7, none⟩ (.int .u8 a30.toNat)).setCell ⟨w.heap.size + 1, 8, none⟩ (.int .u8 a31.toNat)).setCell ⟨w.heap.size + 1, 9, none⟩ (.int .u8 a32.toNat)).heap[w.heap.size + 1]? = some (.cells #[.bool rp, .int .u32 x4, .int .u32 x12, .int .u32 x16, .int .u32 x20, .int .u8 a28.toNat, .int .u8 a29.toNat, .int .u8 a30.toNat, .int .u8 a31.toNat, .int .u8 a32.toNat, .int .u8 0, .slice none 0 0] 57 (0, 0)) := row_set e11_3 9 (.int .u8 a32.toNat)
  have e11_5 : ((((((w11.setCell ⟨w.heap.size + 1, 5, none⟩ (.int .u8 a28.toNat)).setCell ⟨w.heap.size + 1, 6, none⟩ (.int .u8 a29.toNat)).setCell ⟨w.heap.size + 1, 7, none⟩ (.int .u8 a30.toNat)).setCell ⟨w.heap.size + 1, 8, none⟩ (.int .u8 a31.toNat)).setCell ⟨w.heap.size + 1, 9, none⟩ (.int .u8 a32.toNat)).setCell ⟨w.heap.size + 1, 10, none⟩ (.int .u8 a33.toNat)).heap[w.heap.size + 1]? = some (.cells #[.bool rp, .int .u32 x4, .int .u32 x12, .int .u32 x16, .int .u32 x20, .int .u8 a28.toNat, .int .u8 a29.toNat, .int .u8 a30.toNat, .int .u8 a31.toNat, .int .u8 a32.toNat, .int .u8 a33.toNat, .slice none 0 0] 57 (0, 0)) := row_set e11_4 10 (.int .u8 a33.toNat)
  have E11 := hide e11_5
  have H11 : Hid (Rdr ((((((w11.setCell ⟨w.heap.size + 1, 5, none⟩ (.int .u8 a28.toNat)).setCell ⟨w.heap.size + 1, 6, none⟩ (.int .u8 a29.toNat)).setCell ⟨w.heap.size + 1, 7, none⟩ (.int .u8 a30.toNat)).setCell ⟨w.heap.size + 1, 8, none⟩ (.int .u8 a31.toNat)).setCell ⟨w.heap.size + 1, 9, none⟩ (.int .u8 a32.toNat)).setCell ⟨w.heap.size + 1, 10, none⟩ (.int .u8 a33.toNat)) B (m)) := (other (other (other (other (other (other k11 hneV.symm _) hneV.symm _) hneV.symm _) hneV.symm _) hneV.symm _) hneV.symm _)
  have G11 : Hid (w.grownBy ((((((w11.setCell ⟨w.heap.size + 1, 5, none⟩ (.int .u8 a28.toNat)).setCell ⟨w.heap.size + 1, 6, none⟩ (.int .u8 a29.toNat)).setCell ⟨w.heap.size + 1, 7, none⟩ (.int .u8 a30.toNat)).setCell ⟨w.heap.size + 1, 8, none⟩ (.int .u8 a31.toNat)).setCell ⟨w.heap.size + 1, 9, none⟩ (.int .u8 a32.toNat)).setCell ⟨w.heap.size + 1, 10, none⟩ (.int .u8 a33.toNat)) (some B)) := (grown_new (grown_new (grown_new (grown_new (grown_new (grown_new (grown_trans (unhide G10) g11) (Nat.le_of_lt hlt0) _) (Nat.le_of_lt hlt0) _) (Nat.le_of_lt hlt0) _) (Nat.le_of_lt hlt0) _) (Nat.le_of_lt hlt0) _) (Nat.le_of_lt hlt0) _)
  have R11 : Hid (((((((w11.setCell ⟨w.heap.size + 1, 5, none⟩ (.int .u8 a28.toNat)).setCell ⟨w.heap.size + 1, 6, none⟩ (.int .u8 a29.toNat)).setCell ⟨w.heap.size + 1, 7, none⟩ (.int .u8 a30.toNat)).setCell ⟨w.heap.size + 1, 8, none⟩ (.int .u8 a31.toNat)).setCell ⟨w.heap.size + 1, 9, none⟩ (.int .u8 a32.toNat)).setCell ⟨w.heap.size + 1, 10, none⟩ (.int .u8 a33.toNat)).heap[w.heap.size]? = some (.cells #[.bool false, .int .u32 0, .int .u32 0, .int .u32 0, .int .u32 0, .int .u8 0, .int .u8 0, .int .u8 0, .int .u8 0, .int .u8 0, .int .u8 0, .slice none 0 0] 57 (0, 0))) := by
    show _ = _
    rw [Below.heap_setCell _ _ _ _ (Nat.ne_of_lt hlt0), Below.heap_setCell _ _ _ _ (Nat.ne_of_lt hlt0), Below.heap_setCell _ _ _ _ (Nat.ne_of_lt hlt0), Below.heap_setCell _ _ _ _ (Nat.ne_of_lt hlt0), Below.heap_setCell _ _ _ _ (Nat.ne_of_lt hlt0), Below.heap_setCell _ _ _ _ (Nat.ne_of_lt hlt0)]; exact hr
  clear hr he k11 g11 H10 G10 R10 E10 e11_0 e11_1 e11_2 e11_3 e11_4 e11_5
  go_wp2_with fail
  refine (unhide T11 _ (unhide H11)).mono ?_
  rintro ee w12 ⟨rfl, k12, g12⟩
  have hr : w12.heap[w.heap.size]? = some (.cells #[.bool false, .int .u32 0, .int .u32 0, .int .u32 0, .int .u32 0, .int .u8 0, .int .u8 0, .int .u8 0, .int .u8 0, .int .u8 0, .int .u8 0, .slice none 0 0] 57 (0, 0)) := (g12.block _ (lt_of_block (unhide R11)) (fun q => hne0 (by simpa using q))).trans (unhide R11)
  have he : w12.heap[w.heap.size + 1]? = some (.cells #[.bool rp, .int .u32 x4, .int .u32 x12, .int .u32 x16, .int .u32 x20, .int .u8 a28.toNat, .int .u8 a29.toNat, .int .u8 a30.toNat, .int .u8 a31.toNat, .int .u8 a32.toNat, .int .u8 a33.toNat, .slice none 0 0] 57 (0, 0)) := (g12.block _ (lt_of_block (unhide E11)) (fun q => hneV (by simpa using q))).trans (unhide E11)
  have H12 := hide k12
  have G12 := hide (grown_trans (unhide G11) g12)
  have R12 := hide hr
  have E12 := hide he
  clear hr k12 g12 H11 G11 R11 he E11
  go_wp2_with fail
  refine (unhide T12 _ (unhide H12)).mono ?_
  rintro ee w13 ⟨rfl, k13, g13⟩
  have hr : w13.heap[w.heap.size]? = some (.cells #[.bool false, .int .u32 0, .int .u32 0, .int .u32 0, .int .u32 0, .int .u8 0, .int .u8 0, .int .u8 0, .int .u8 0, .int .u8 0, .int .u8 0, .slice none 0 0] 57 (0, 0)) := (g13.block _ (lt_of_block (unhide R12)) (fun q => hne0 (by simpa using q))).trans (unhide R12)
  have he : w13.heap[w.heap.size + 1]? = some (.cells #[.bool rp, .int .u32 x4, .int .u32 x12, .int .u32 x16, .int .u32 x20, .int .u8 a28.toNat, .int .u8 a29.toNat, .int .u8 a30.toNat, .int .u8 a31.toNat, .int .u8 a32.toNat, .int .u8 a33.toNat, .slice none 0 0] 57 (0, 0)) := (g13.block _ (lt_of_block (unhide E12)) (fun q => hneV (by simpa using q))).trans (unhide E12)
  have H13 := hide k13
  have G13 := hide (grown_trans (unhide G12) g13)
  have R13 := hide hr
  have E13 := hide he
  clear hr k13 g13 H12 G12 R12 he E12
  go_wp2_with fail
  refine (unhide T13 _ (unhide H13)).mono ?_
  rintro ee w14 ⟨rfl, k14, g14⟩
  have hr : w14.heap[w.heap.size]? = some (.cells #[.bool false, .int .u32 0, .int .u32 0, .int .u32 0, .int .u32 0, .int .u8 0, .int .u8 0, .int .u8 0, .int .u8 0, .int .u8 0, .int .u8 0, .slice none 0 0] 57 (0, 0)) := (g14.block _ (lt_of_block (unhide R13)) (fun q => hne0 (by simpa using q))).trans (unhide R13)
  have he : w14.heap[w.heap.size + 1]? = some (.cells #[.bool rp, .int .u32 x4, .int .u32 x12, .int .u32 x16, .int .u32 x20, .int .u8 a28.toNat, .int .u8 a29.toNat, .int .u8 a30.toNat, .int .u8 a31.toNat, .int .u8 a32.toNat, .int .u8 a33.toNat, .slice none 0 0] 57 (0, 0)) := (g14.block _ (lt_of_block (unhide E13)) (fun q => hneV (by simpa using q))).trans (unhide E13)
  have H14 := hide k14
  have G14 := hide (grown_trans (unhide G13) g14)
  have R14 := hide hr
  have E14 := hide he
  clear hr k14 g14 H13 G13 R13 he E13
  go_wp2_with fail
  refine (unhide T14 _ (unhide H14)).mono ?_
  rintro ee w99 ⟨rfl, k99, g99⟩
  have G99 := hide (grown_trans (unhide G14) g99)
  clear k99 g99
  go_wp2_with fail
  refine (must_else _ (by have q := hne; rw [← ByteArray.toList_eq] at q; simpa using q) _ _).mono ?_
  rintro ee wz ⟨rfl, hwz⟩
  exact ⟨rfl, rfl, by rw [hwz]; exact unhide G99⟩

/-- what the reader of a message answers, its head being right -/
def DhPost (l : List UInt8) (host file : ByteArray) (B : Nat) (w : World) (val : Value → Value) (e : Ending) (w' : World) : Prop :=
  w.grownBy w' (some B) ∧ (if optK l host.data.toList file.data.toList = 0 then ∃ ao cp, e = .returned (val (.slice ao (optL l host.data.toList file.data.toList).length cp)) ∧ w'.ownsRow w.heap.size 87 2 (.slice ao (optL l host.data.toList file.data.toList).length cp) (optL l host.data.toList file.data.toList).length (cellsO (optL l host.data.toList file.data.toList)) else e = .panicked (errP (optK l host.data.toList file.data.toList)))

set_option maxHeartbeats 1600000 in
set_option maxRecDepth 10000 in
theorem dhcp_all (B : Nat) (a0 a3 a4 a5 a6 a7 a8 a9 a10 a11 a12 a13 a14 a15 a16 a17 a18 a19 a20 a21 a22 a23 a24 a25 a26 a27 a28 a29 a30 a31 a32 a33 : UInt8) (m m1 m2 m3 m4 : List UInt8) (s1 sh sf sc : ByteArray) (w : World) (h : Rdr w B (a0 :: 1 :: 6 :: a3 :: a4 :: a5 :: a6 :: a7 :: a8 :: a9 :: a10 :: a11 :: a12 :: a13 :: a14 :: a15 :: a16 :: a17 :: a18 :: a19 :: a20 :: a21 :: a22 :: a23 :: a24 :: a25 :: a26 :: a27 :: a28 :: a29 :: a30 :: a31 :: a32 :: a33 :: m)) (hs : (a0 :: 1 :: 6 :: a3 :: a4 :: a5 :: a6 :: a7 :: a8 :: a9 :: a10 :: a11 :: a12 :: a13 :: a14 :: a15 :: a16 :: a17 :: a18 :: a19 :: a20 :: a21 :: a22 :: a23 :: a24 :: a25 :: a26 :: a27 :: a28 :: a29 :: a30 :: a31 :: a32 :: a33 :: m).length ≤ 1048576) (e1 : m = s1.data.toList ++ m1) (e2 : m1 = sh.data.toList ++ m2) (e3 : m2 = sf.data.toList ++ m3) (e4 : m3 = sc.data.toList ++ m4) (z1 : s1.size = 10) (z2 : sh.size = 64) (z3 : sf.size = 128) (z4 : sc.size = 4) (rp : Bool) (hop : ((a0.toNat : Int) == 1 || (a0.toNat : Int) == 2) = true) (hrp : ((a0.toNat : Int) == 2) = rp) (heq : sc.data.toList = [99, 130, 83, 99]) :
    Calls Try.prog 94 #[.pointer (some ⟨B, 0, none⟩)] w fun ee w' => DhPost m4 sh sf B w (fun v => .agg #[.bool rp, .int .u32 (16777216 * (a4.toNat : Int) + 65536 * (a5.toNat : Int) + 256 * (a6.toNat : Int) + (a7.toNat : Int)), .int .u32 (16777216 * (a12.toNat : Int) + 65536 * (a13.toNat : Int) + 256 * (a14.toNat : Int) + (a15.toNat : Int)), .int .u32 (16777216 * (a16.toNat : Int) + 65536 * (a17.toNat : Int) + 256 * (a18.toNat : Int) + (a19.toNat : Int)), .int .u32 (16777216 * (a20.toNat : Int) + 65536 * (a21.toNat : Int) + 256 * (a22.toNat : Int) + (a23.toNat : Int)), .int .u8 a28.toNat, .int .u8 a29.toNat, .int .u8 a30.toNat, .int .u8 a31.toNat, .int .u8 a32.toNat, .int .u8 a33.toNat, v]) ee w' := by
  have HEQ := hide heq
  clear heq
  have hB := h.lt
  have hne0 : w.heap.size ≠ B := by omega
  have H0 := hide (h.alloc (.cells #[.bool false, .int .u32 0, .int .u32 0, .int .u32 0, .int .u32 0, .int .u8 0, .int .u8 0, .int .u8 0, .int .u8 0, .int .u8 0, .int .u8 0, .slice none 0 0] 57))
  have G0 := hide (grown_alloc (grown_refl w (some B)) (.cells #[.bool false, .int .u32 0, .int .u32 0, .int .u32 0, .int .u32 0, .int .u8 0, .int .u8 0, .int .u8 0, .int .u8 0, .int .u8 0, .int .u8 0, .slice none 0 0] 57))
  have R0 : Hid ((w.alloc (.cells #[.bool false, .int .u32 0, .int .u32 0, .int .u32 0, .int .u32 0, .int .u8 0, .int .u8 0, .int .u8 0, .int .u8 0, .int .u8 0, .int .u8 0, .slice none 0 0] 57)).heap[w.heap.size]? = some (.cells #[.bool false, .int .u32 0, .int .u32 0, .int .u32 0, .int .u32 0, .int .u8 0, .int .u8 0, .int .u8 0, .int .u8 0, .int .u8 0, .int .u8 0, .slice none 0 0] 57 (0, 0))) := heap_alloc_new w _
  have ls : m.length = 206 + m4.length ∧ m1.length = 196 + m4.length ∧ m2.length = 132 + m4.length ∧ m3.length = 4 + m4.length := lens e1 e2 e3 e4 z1 z2 z3 z4
  obtain ⟨l0, l1, l2, l3⟩ := ls
  have hsm : m4.length ≤ 1048400 := by simp only [List.length_cons] at hs; omega
  have HN0 := hide (show (240 : Int) ≤ ((a0 :: 1 :: 6 :: a3 :: a4 :: a5 :: a6 :: a7 :: a8 :: a9 :: a10 :: a11 :: a12 :: a13 :: a14 :: a15 :: a16 :: a17 :: a18 :: a19 :: a20 :: a21 :: a22 :: a23 :: a24 :: a25 :: a26 :: a27 :: a28 :: a29 :: a30 :: a31 :: a32 :: a33 :: m).length : Int) by simp only [List.length_cons]; omega)
  clear h
  have T1 := hide (fun u hu => op_ok B a0 (1 :: 6 :: a3 :: a4 :: a5 :: a6 :: a7 :: a8 :: a9 :: a10 :: a11 :: a12 :: a13 :: a14 :: a15 :: a16 :: a17 :: a18 :: a19 :: a20 :: a21 :: a22 :: a23 :: a24 :: a25 :: a26 :: a27 :: a28 :: a29 :: a30 :: a31 :: a32 :: a33 :: m) u hu (by simp only [List.length_cons, maxLen]; omega) hop)
  have T2 := hide (fun u hu => take2_ok B 1 6 (a3 :: a4 :: a5 :: a6 :: a7 :: a8 :: a9 :: a10 :: a11 :: a12 :: a13 :: a14 :: a15 :: a16 :: a17 :: a18 :: a19 :: a20 :: a21 :: a22 :: a23 :: a24 :: a25 :: a26 :: a27 :: a28 :: a29 :: a30 :: a31 :: a32 :: a33 :: m) u hu (by simp only [List.length_cons, maxLen]; omega))
  have T3 := hide (fun u hu => byte_ok B a3 (a4 :: a5 :: a6 :: a7 :: a8 :: a9 :: a10 :: a11 :: a12 :: a13 :: a14 :: a15 :: a16 :: a17 :: a18 :: a19 :: a20 :: a21 :: a22 :: a23 :: a24 :: a25 :: a26 :: a27 :: a28 :: a29 :: a30 :: a31 :: a32 :: a33 :: m) u hu (by simp only [List.length_cons, maxLen]; omega))
  have T4 := hide (fun u hu => long_ok B a4 a5 a6 a7 (a8 :: a9 :: a10 :: a11 :: a12 :: a13 :: a14 :: a15 :: a16 :: a17 :: a18 :: a19 :: a20 :: a21 :: a22 :: a23 :: a24 :: a25 :: a26 :: a27 :: a28 :: a29 :: a30 :: a31 :: a32 :: a33 :: m) u hu (by simp only [List.length_cons, maxLen]; omega))
  have T5 := hide (fun u hu => long_ok B a8 a9 a10 a11 (a12 :: a13 :: a14 :: a15 :: a16 :: a17 :: a18 :: a19 :: a20 :: a21 :: a22 :: a23 :: a24 :: a25 :: a26 :: a27 :: a28 :: a29 :: a30 :: a31 :: a32 :: a33 :: m) u hu (by simp only [List.length_cons, maxLen]; omega))
  have T6 := hide (fun u hu => address_ok B a12 a13 a14 a15 (a16 :: a17 :: a18 :: a19 :: a20 :: a21 :: a22 :: a23 :: a24 :: a25 :: a26 :: a27 :: a28 :: a29 :: a30 :: a31 :: a32 :: a33 :: m) u hu (by simp only [List.length_cons, maxLen]; omega))
  have T7 := hide (fun u hu => address_ok B a16 a17 a18 a19 (a20 :: a21 :: a22 :: a23 :: a24 :: a25 :: a26 :: a27 :: a28 :: a29 :: a30 :: a31 :: a32 :: a33 :: m) u hu (by simp only [List.length_cons, maxLen]; omega))
  have T8 := hide (fun u hu => address_ok B a20 a21 a22 a23 (a24 :: a25 :: a26 :: a27 :: a28 :: a29 :: a30 :: a31 :: a32 :: a33 :: m) u hu (by simp only [List.length_cons, maxLen]; omega))
  have T9 := hide (fun u hu => address_ok B a24 a25 a26 a27 (a28 :: a29 :: a30 :: a31 :: a32 :: a33 :: m) u hu (by simp only [List.length_cons, maxLen]; omega))
  have T10 := hide (fun u hu => card_ok B a28 a29 a30 a31 a32 a33 (m) u hu (by simp only [List.length_cons, maxLen]; omega))
  have T11 := hide (fun u hu => takeB_ok B 10 s1 m1 m u hu e1 z1 (by simp only [maxLen]; omega))
  have T12 := hide (fun u hu => takeB_ok B 64 sh m2 m1 u hu e2 z2 (by simp only [maxLen]; omega))
  have T13 := hide (fun u hu => takeB_ok B 128 sf m3 m2 u hu e3 z3 (by simp only [maxLen]; omega))
  have T14 := hide (fun u hu => takeB_ok B 4 sc m4 m3 u hu e4 z4 (by simp only [maxLen]; omega))
  obtain ⟨x4, hx4⟩ : ∃ x, x = 16777216 * (a4.toNat : Int) + 65536 * (a5.toNat : Int) + 256 * (a6.toNat : Int) + (a7.toNat : Int) := ⟨_, rfl⟩
  obtain ⟨x12, hx12⟩ : ∃ x, x = 16777216 * (a12.toNat : Int) + 65536 * (a13.toNat : Int) + 256 * (a14.toNat : Int) + (a15.toNat : Int) := ⟨_, rfl⟩
  obtain ⟨x16, hx16⟩ : ∃ x, x = 16777216 * (a16.toNat : Int) + 65536 * (a17.toNat : Int) + 256 * (a18.toNat : Int) + (a19.toNat : Int) := ⟨_, rfl⟩
  obtain ⟨x20, hx20⟩ : ∃ x, x = 16777216 * (a20.toNat : Int) + 65536 * (a21.toNat : Int) + 256 * (a22.toNat : Int) + (a23.toNat : Int) := ⟨_, rfl⟩
  rw [← hx4] at T4
  have HX4 := hide hx4
  clear hx4
  rw [← hx12] at T6
  have HX12 := hide hx12
  clear hx12
  rw [← hx16] at T7
  have HX16 := hide hx16
  clear hx16
  rw [← hx20] at T8
  have HX20 := hide hx20
  clear hx20
  have z0 : (w.alloc (.cells #[.bool false, .int .u32 0, .int .u32 0, .int .u32 0, .int .u32 0, .int .u8 0, .int .u8 0, .int .u8 0, .int .u8 0, .int .u8 0, .int .u8 0, .slice none 0 0] 57)).heap.size = w.heap.size + 1 := by simp
  have hneV : w.heap.size + 1 ≠ B := by omega
  have hlt0 : w.heap.size < w.heap.size + 1 := by omega
  have H1 := hide ((unhide H0).alloc (.cells #[.bool false, .int .u32 0, .int .u32 0, .int .u32 0, .int .u32 0, .int .u8 0, .int .u8 0, .int .u8 0, .int .u8 0, .int .u8 0, .int .u8 0, .slice none 0 0] 57))
  have G1 := hide (grown_alloc (unhide G0) (.cells #[.bool false, .int .u32 0, .int .u32 0, .int .u32 0, .int .u32 0, .int .u8 0, .int .u8 0, .int .u8 0, .int .u8 0, .int .u8 0, .int .u8 0, .slice none 0 0] 57))
  have E1 : Hid (((w.alloc (.cells #[.bool false, .int .u32 0, .int .u32 0, .int .u32 0, .int .u32 0, .int .u8 0, .int .u8 0, .int .u8 0, .int .u8 0, .int .u8 0, .int .u8 0, .slice none 0 0] 57)).alloc (.cells #[.bool false, .int .u32 0, .int .u32 0, .int .u32 0, .int .u32 0, .int .u8 0, .int .u8 0, .int .u8 0, .int .u8 0, .int .u8 0, .int .u8 0, .slice none 0 0] 57)).heap[w.heap.size + 1]? = some (.cells #[.bool false, .int .u32 0, .int .u32 0, .int .u32 0, .int .u32 0, .int .u8 0, .int .u8 0, .int .u8 0, .int .u8 0, .int .u8 0, .int .u8 0, .slice none 0 0] 57 (0, 0))) := hide (by have q := heap_alloc_new (w.alloc (.cells #[.bool false, .int .u32 0, .int .u32 0, .int .u32 0, .int .u32 0, .int .u8 0, .int .u8 0, .int .u8 0, .int .u8 0, .int .u8 0, .int .u8 0, .slice none 0 0] 57)) (.cells #[.bool false, .int .u32 0, .int .u32 0, .int .u32 0, .int .u32 0, .int .u8 0, .int .u8 0, .int .u8 0, .int .u8 0, .int .u8 0, .int .u8 0, .slice none 0 0] 57); rw [z0] at q; exact q)
  have R1 : Hid (((w.alloc (.cells #[.bool false, .int .u32 0, .int .u32 0, .int .u32 0, .int .u32 0, .int .u8 0, .int .u8 0, .int .u8 0, .int .u8 0, .int .u8 0, .int .u8 0, .slice none 0 0] 57)).alloc (.cells #[.bool false, .int .u32 0, .int .u32 0, .int .u32 0, .int .u32 0, .int .u8 0, .int .u8 0, .int .u8 0, .int .u8 0, .int .u8 0, .int .u8 0, .slice none 0 0] 57)).heap[w.heap.size]? = some (.cells #[.bool false, .int .u32 0, .int .u32 0, .int .u32 0, .int .u32 0, .int .u8 0, .int .u8 0, .int .u8 0, .int .u8 0, .int .u8 0, .int .u8 0, .slice none 0 0] 57 (0, 0))) := hide (by rw [Below.heap_alloc _ _ _ (by omega)]; exact unhide R0)
  clear R0 z0
  have HZ2 := hide z2
  have HZ3 := hide z3
  clear e1 e2 e3 e4 z1 z2 z3 z4 l0 l1 l2 l3
  clear hop
  go_enter Try.func94, Try.ntmps94
  go_wp2_with fail
  refine (need_ok _ _ _ _ (unhide H0) (unhide HN0)).mono ?_
  rintro ee wz ⟨rfl, hwz⟩
  rw [hwz]
  clear hwz wz
  clear H0 G0
  go_wp2_with fail
  refine (unhide T1 _ (unhide H1)).mono ?_
  rintro ee w2 ⟨rfl, k2, g2⟩
  have hr : w2.heap[w.heap.size]? = some (.cells #[.bool false, .int .u32 0, .int .u32 0, .int .u32 0, .int .u32 0, .int .u8 0, .int .u8 0, .int .u8 0, .int .u8 0, .int .u8 0, .int .u8 0, .slice none 0 0] 57 (0, 0)) := (g2.block _ (lt_of_block (unhide R1)) (fun q => hne0 (by simpa using q))).trans (unhide R1)
  have he : w2.heap[w.heap.size + 1]? = some (.cells #[.bool false, .int .u32 0, .int .u32 0, .int .u32 0, .int .u32 0, .int .u8 0, .int .u8 0, .int .u8 0, .int .u8 0, .int .u8 0, .int .u8 0, .slice none 0 0] 57 (0, 0)) := (g2.block _ (lt_of_block (unhide E1)) (fun q => hneV (by simpa using q))).trans (unhide E1)
  have c2_0 : w2.cell? ⟨w.heap.size + 1, 0, none⟩ = some (.bool false) := row_cell he rfl
  have f2 := row_free he
  have E2 : Hid ((w2.setCell ⟨w.heap.size + 1, 0, none⟩ (.bool rp)).heap[w.heap.size + 1]? = some (.cells #[.bool rp, .int .u32 0, .int .u32 0, .int .u32 0, .int .u32 0, .int .u8 0, .int .u8 0, .int .u8 0, .int .u8 0, .int .u8 0, .int .u8 0, .slice none 0 0] 57 (0, 0))) := row_set he 0 (.bool rp)
  have H2 : Hid (Rdr (w2.setCell ⟨w.heap.size + 1, 0, none⟩ (.bool rp)) B (1 :: 6 :: a3 :: a4 :: a5 :: a6 :: a7 :: a8 :: a9 :: a10 :: a11 :: a12 :: a13 :: a14 :: a15 :: a16 :: a17 :: a18 :: a19 :: a20 :: a21 :: a22 :: a23 :: a24 :: a25 :: a26 :: a27 :: a28 :: a29 :: a30 :: a31 :: a32 :: a33 :: m)) := other k2 hneV.symm _
  have G2 : Hid (w.grownBy (w2.setCell ⟨w.heap.size + 1, 0, none⟩ (.bool rp)) (some B)) := grown_new (grown_trans (unhide G1) g2) (Nat.le_of_lt hlt0) _
  have R2 : Hid ((w2.setCell ⟨w.heap.size + 1, 0, none⟩ (.bool rp)).heap[w.heap.size]? = some (.cells #[.bool false, .int .u32 0, .int .u32 0, .int .u32 0, .int .u32 0, .int .u8 0, .int .u8 0, .int .u8 0, .int .u8 0, .int .u8 0, .int .u8 0, .slice none 0 0] 57 (0, 0))) := by
    show _ = _
    rw [Below.heap_setCell _ _ _ _ (Nat.ne_of_lt hlt0)]; exact hr
  clear hr k2 g2 H1 G1 R1 he E1
  go_wp2_with fail
  refine (unhide T2 _ (unhide H2)).mono ?_
  rintro ee w3 ⟨rfl, k3, g3⟩
  have hr : w3.heap[w.heap.size]? = some (.cells #[.bool false, .int .u32 0, .int .u32 0, .int .u32 0, .int .u32 0, .int .u8 0, .int .u8 0, .int .u8 0, .int .u8 0, .int .u8 0, .int .u8 0, .slice none 0 0] 57 (0, 0)) := (g3.block _ (lt_of_block (unhide R2)) (fun q => hne0 (by simpa using q))).trans (unhide R2)
  have he : w3.heap[w.heap.size + 1]? = some (.cells #[.bool rp, .int .u32 0, .int .u32 0, .int .u32 0, .int .u32 0, .int .u8 0, .int .u8 0, .int .u8 0, .int .u8 0, .int .u8 0, .int .u8 0, .slice none 0 0] 57 (0, 0)) := (g3.block _ (lt_of_block (unhide E2)) (fun q => hneV (by simpa using q))).trans (unhide E2)
  have H3 := hide k3
  have G3 := hide (grown_trans (unhide G2) g3)
  have R3 := hide hr
  have E3 := hide he
  clear hr k3 g3 H2 G2 R2 he E2
  go_wp2_with fail
  refine (must_if _ (by simp) _ _).mono ?_
  rintro ee wz ⟨rfl, hwz⟩
  rw [hwz]
  clear hwz wz
  go_wp2_with fail
  refine (unhide T3 _ (unhide H3)).mono ?_
  rintro ee w4 ⟨rfl, k4, g4⟩
  have hr : w4.heap[w.heap.size]? = some (.cells #[.bool false, .int .u32 0, .int .u32 0, .int .u32 0, .int .u32 0, .int .u8 0, .int .u8 0, .int .u8 0, .int .u8 0, .int .u8 0, .int .u8 0, .slice none 0 0] 57 (0, 0)) := (g4.block _ (lt_of_block (unhide R3)) (fun q => hne0 (by simpa using q))).trans (unhide R3)
  have he : w4.heap[w.heap.size + 1]? = some (.cells #[.bool rp, .int .u32 0, .int .u32 0, .int .u32 0, .int .u32 0, .int .u8 0, .int .u8 0, .int .u8 0, .int .u8 0, .int .u8 0, .int .u8 0, .slice none 0 0] 57 (0, 0)) := (g4.block _ (lt_of_block (unhide E3)) (fun q => hneV (by simpa using q))).trans (unhide E3)
  have H4 := hide k4
  have G4 := hide (grown_trans (unhide G3) g4)
  have R4 := hide hr
  have E4 := hide he
  clear hr k4 g4 H3 G3 R3 he E3
  go_wp2_with fail
  refine (unhide T4 _ (unhide H4)).mono ?_
  rintro ee w5 ⟨rfl, k5, g5⟩
  have hr : w5.heap[w.heap.size]? = some (.cells #[.bool false, .int .u32 0, .int .u32 0, .int .u32 0, .int .u32 0, .int .u8 0, .int .u8 0, .int .u8 0, .int .u8 0, .int .u8 0, .int .u8 0, .slice none 0 0] 57 (0, 0)) := (g5.block _ (lt_of_block (unhide R4)) (fun q => hne0 (by simpa using q))).trans (unhide R4)
  have he : w5.heap[w.heap.size + 1]? = some (.cells #[.bool rp, .int .u32 0, .int .u32 0, .int .u32 0, .int .u32 0, .int .u8 0, .int .u8 0, .int .u8 0, .int .u8 0, .int .u8 0, .int .u8 0, .slice none 0 0] 57 (0, 0)) := (g5.block _ (lt_of_block (unhide E4)) (fun q => hneV (by simpa using q))).trans (unhide E4)
  have c5_1 : w5.cell? ⟨w.heap.size + 1, 1, none⟩ = some (.int .u32 0) := row_cell he rfl
  have f5 := row_free he
  have E5 : Hid ((w5.setCell ⟨w.heap.size + 1, 1, none⟩ (.int .u32 x4)).heap[w.heap.size + 1]? = some (.cells #[.bool rp, .int .u32 x4, .int .u32 0, .int .u32 0, .int .u32 0, .int .u8 0, .int .u8 0, .int .u8 0, .int .u8 0, .int .u8 0, .int .u8 0, .slice none 0 0] 57 (0, 0))) := row_set he 1 (.int .u32 x4)
  have H5 : Hid (Rdr (w5.setCell ⟨w.heap.size + 1, 1, none⟩ (.int .u32 x4)) B (a8 :: a9 :: a10 :: a11 :: a12 :: a13 :: a14 :: a15 :: a16 :: a17 :: a18 :: a19 :: a20 :: a21 :: a22 :: a23 :: a24 :: a25 :: a26 :: a27 :: a28 :: a29 :: a30 :: a31 :: a32 :: a33 :: m)) := other k5 hneV.symm _
  have G5 : Hid (w.grownBy (w5.setCell ⟨w.heap.size + 1, 1, none⟩ (.int .u32 x4)) (some B)) := grown_new (grown_trans (unhide G4) g5) (Nat.le_of_lt hlt0) _
  have R5 : Hid ((w5.setCell ⟨w.heap.size + 1, 1, none⟩ (.int .u32 x4)).heap[w.heap.size]? = some (.cells #[.bool false, .int .u32 0, .int .u32 0, .int .u32 0, .int .u32 0, .int .u8 0, .int .u8 0, .int .u8 0, .int .u8 0, .int .u8 0, .int .u8 0, .slice none 0 0] 57 (0, 0))) := by
    show _ = _
    rw [Below.heap_setCell _ _ _ _ (Nat.ne_of_lt hlt0)]; exact hr
  clear hr k5 g5 H4 G4 R4 he E4
  go_wp2_with fail
  refine (unhide T5 _ (unhide H5)).mono ?_
  rintro ee w6 ⟨rfl, k6, g6⟩
  have hr : w6.heap[w.heap.size]? = some (.cells #[.bool false, .int .u32 0, .int .u32 0, .int .u32 0, .int .u32 0, .int .u8 0, .int .u8 0, .int .u8 0, .int .u8 0, .int .u8 0, .int .u8 0, .slice none 0 0] 57 (0, 0)) := (g6.block _ (lt_of_block (unhide R5)) (fun q => hne0 (by simpa using q))).trans (unhide R5)
  have he : w6.heap[w.heap.size + 1]? = some (.cells #[.bool rp, .int .u32 x4, .int .u32 0, .int .u32 0, .int .u32 0, .int .u8 0, .int .u8 0, .int .u8 0, .int .u8 0, .int .u8 0, .int .u8 0, .slice none 0 0] 57 (0, 0)) := (g6.block _ (lt_of_block (unhide E5)) (fun q => hneV (by simpa using q))).trans (unhide E5)
  have H6 := hide k6
  have G6 := hide (grown_trans (unhide G5) g6)
  have R6 := hide hr
  have E6 := hide he
  clear hr k6 g6 H5 G5 R5 he E5
  go_wp2_with fail
  refine (unhide T6 _ (unhide H6)).mono ?_
  rintro ee w7 ⟨rfl, k7, g7⟩
  have hr : w7.heap[w.heap.size]? = some (.cells #[.bool false, .int .u32 0, .int .u32 0, .int .u32 0, .int .u32 0, .int .u8 0, .int .u8 0, .int .u8 0, .int .u8 0, .int .u8 0, .int .u8 0, .slice none 0 0] 57 (0, 0)) := (g7.block _ (lt_of_block (unhide R6)) (fun q => hne0 (by simpa using q))).trans (unhide R6)
  have he : w7.heap[w.heap.size + 1]? = some (.cells #[.bool rp, .int .u32 x4, .int .u32 0, .int .u32 0, .int .u32 0, .int .u8 0, .int .u8 0, .int .u8 0, .int .u8 0, .int .u8 0, .int .u8 0, .slice none 0 0] 57 (0, 0)) := (g7.block _ (lt_of_block (unhide E6)) (fun q => hneV (by simpa using q))).trans (unhide E6)
  have c7_2 : w7.cell? ⟨w.heap.size + 1, 2, none⟩ = some (.int .u32 0) := row_cell he rfl
  have f7 := row_free he
  have E7 : Hid ((w7.setCell ⟨w.heap.size + 1, 2, none⟩ (.int .u32 x12)).heap[w.heap.size + 1]? = some (.cells #[.bool rp, .int .u32 x4, .int .u32 x12, .int .u32 0, .int .u32 0, .int .u8 0, .int .u8 0, .int .u8 0, .int .u8 0, .int .u8 0, .int .u8 0, .slice none 0 0] 57 (0, 0))) := row_set he 2 (.int .u32 x12)
  have H7 : Hid (Rdr (w7.setCell ⟨w.heap.size + 1, 2, none⟩ (.int .u32 x12)) B (a16 :: a17 :: a18 :: a19 :: a20 :: a21 :: a22 :: a23 :: a24 :: a25 :: a26 :: a27 :: a28 :: a29 :: a30 :: a31 :: a32 :: a33 :: m)) := other k7 hneV.symm _
  have G7 : Hid (w.grownBy (w7.setCell ⟨w.heap.size + 1, 2, none⟩ (.int .u32 x12)) (some B)) := grown_new (grown_trans (unhide G6) g7) (Nat.le_of_lt hlt0) _
  have R7 : Hid ((w7.setCell ⟨w.heap.size + 1, 2, none⟩ (.int .u32 x12)).heap[w.heap.size]? = some (.cells #[.bool false, .int .u32 0, .int .u32 0, .int .u32 0, .int .u32 0, .int .u8 0, .int .u8 0, .int .u8 0, .int .u8 0, .int .u8 0, .int .u8 0, .slice none 0 0] 57 (0, 0))) := by
    show _ = _
    rw [Below.heap_setCell _ _ _ _ (Nat.ne_of_lt hlt0)]; exact hr
  clear hr k7 g7 H6 G6 R6 he E6
  go_wp2_with fail
  refine (unhide T7 _ (unhide H7)).mono ?_
  rintro ee w8 ⟨rfl, k8, g8⟩
  have hr : w8.heap[w.heap.size]? = some (.cells #[.bool false, .int .u32 0, .int .u32 0, .int .u32 0, .int .u32 0, .int .u8 0, .int .u8 0, .int .u8 0, .int .u8 0, .int .u8 0, .int .u8 0, .slice none 0 0] 57 (0, 0)) := (g8.block _ (lt_of_block (unhide R7)) (fun q => hne0 (by simpa using q))).trans (unhide R7)
  have he : w8.heap[w.heap.size + 1]? = some (.cells #[.bool rp, .int .u32 x4, .int .u32 x12, .int .u32 0, .int .u32 0, .int .u8 0, .int .u8 0, .int .u8 0, .int .u8 0, .int .u8 0, .int .u8 0, .slice none 0 0] 57 (0, 0)) := (g8.block _ (lt_of_block (unhide E7)) (fun q => hneV (by simpa using q))).trans (unhide E7)
  have c8_3 : w8.cell? ⟨w.heap.size + 1, 3, none⟩ = some (.int .u32 0) := row_cell he rfl
  have f8 := row_free he
  have E8 : Hid ((w8.setCell ⟨w.heap.size + 1, 3, none⟩ (.int .u32 x16)).heap[w.heap.size + 1]? = some (.cells #[.bool rp, .int .u32 x4, .int .u32 x12, .int .u32 x16, .int .u32 0, .int .u8 0, .int .u8 0, .int .u8 0, .int .u8 0, .int .u8 0, .int .u8 0, .slice none 0 0] 57 (0, 0))) := row_set he 3 (.int .u32 x16)
  have H8 : Hid (Rdr (w8.setCell ⟨w.heap.size + 1, 3, none⟩ (.int .u32 x16)) B (a20 :: a21 :: a22 :: a23 :: a24 :: a25 :: a26 :: a27 :: a28 :: a29 :: a30 :: a31 :: a32 :: a33 :: m)) := other k8 hneV.symm _
  have G8 : Hid (w.grownBy (w8.setCell ⟨w.heap.size + 1, 3, none⟩ (.int .u32 x16)) (some B)) := grown_new (grown_trans (unhide G7) g8) (Nat.le_of_lt hlt0) _
  have R8 : Hid ((w8.setCell ⟨w.heap.size + 1, 3, none⟩ (.int .u32 x16)).heap[w.heap.size]? = some (.cells #[.bool false, .int .u32 0, .int .u32 0, .int .u32 0, .int .u32 0, .int .u8 0, .int .u8 0, .int .u8 0, .int .u8 0, .int .u8 0, .int .u8 0, .slice none 0 0] 57 (0, 0))) := by
    show _ = _
    rw [Below.heap_setCell _ _ _ _ (Nat.ne_of_lt hlt0)]; exact hr
  clear hr k8 g8 H7 G7 R7 he E7
  go_wp2_with fail
  refine (unhide T8 _ (unhide H8)).mono ?_
  rintro ee w9 ⟨rfl, k9, g9⟩
  have hr : w9.heap[w.heap.size]? = some (.cells #[.bool false, .int .u32 0, .int .u32 0, .int .u32 0, .int .u32 0, .int .u8 0, .int .u8 0, .int .u8 0, .int .u8 0, .int .u8 0, .int .u8 0, .slice none 0 0] 57 (0, 0)) := (g9.block _ (lt_of_block (unhide R8)) (fun q => hne0 (by simpa using q))).trans (unhide R8)
  have he : w9.heap[w.heap.size + 1]? = some (.cells #[.bool rp, .int .u32 x4, .int .u32 x12, .int .u32 x16, .int .u32 0, .int .u8 0, .int .u8 0, .int .u8 0, .int .u8 0, .int .u8 0, .int .u8 0, .slice none 0 0] 57 (0, 0)) := (g9.block _ (lt_of_block (unhide E8)) (fun q => hneV (by simpa using q))).trans (unhide E8)
  have c9_4 : w9.cell? ⟨w.heap.size + 1, 4, none⟩ = some (.int .u32 0) := row_cell he rfl
  have f9 := row_free he
  have E9 : Hid ((w9.setCell ⟨w.heap.size + 1, 4, none⟩ (.int .u32 x20)).heap[w.heap.size + 1]? = some (.cells #[.bool rp, .int .u32 x4, .int .u32 x12, .int .u32 x16, .int .u32 x20, .int .u8 0, .int .u8 0, .int .u8 0, .int .u8 0, .int .u8 0, .int .u8 0, .slice none 0 0] 57 (0, 0))) := row_set he 4 (.int .u32 x20)
  have H9 : Hid (Rdr (w9.setCell ⟨w.heap.size + 1, 4, none⟩ (.int .u32 x20)) B (a24 :: a25 :: a26 :: a27 :: a28 :: a29 :: a30 :: a31 :: a32 :: a33 :: m)) := other k9 hneV.symm _
  have G9 : Hid (w.grownBy (w9.setCell ⟨w.heap.size + 1, 4, none⟩ (.int .u32 x20)) (some B)) := grown_new (grown_trans (unhide G8) g9) (Nat.le_of_lt hlt0) _
  have R9 : Hid ((w9.setCell ⟨w.heap.size + 1, 4, none⟩ (.int .u32 x20)).heap[w.heap.size]? = some (.cells #[.bool false, .int .u32 0, .int .u32 0, .int .u32 0, .int .u32 0, .int .u8 0, .int .u8 0, .int .u8 0, .int .u8 0, .int .u8 0, .int .u8 0, .slice none 0 0] 57 (0, 0))) := by
    show _ = _
    rw [Below.heap_setCell _ _ _ _ (Nat.ne_of_lt hlt0)]; exact hr
  clear hr k9 g9 H8 G8 R8 he E8
  go_wp2_with fail
  refine (unhide T9 _ (unhide H9)).mono ?_
  rintro ee w10 ⟨rfl, k10, g10⟩
  have hr : w10.heap[w.heap.size]? = some (.cells #[.bool false, .int .u32 0, .int .u32 0, .int .u32 0, .int .u32 0, .int .u8 0, .int .u8 0, .int .u8 0, .int .u8 0, .int .u8 0, .int .u8 0, .slice none 0 0] 57 (0, 0)) := (g10.block _ (lt_of_block (unhide R9)) (fun q => hne0 (by simpa using q))).trans (unhide R9)
  have he : w10.heap[w.heap.size + 1]? = some (.cells #[.bool rp, .int .u32 x4, .int .u32 x12, .int .u32 x16, .int .u32 x20, .int .u8 0, .int .u8 0, .int .u8 0, .int .u8 0, .int .u8 0, .int .u8 0, .slice none 0 0] 57 (0, 0)) := (g10.block _ (lt_of_block (unhide E9)) (fun q => hneV (by simpa using q))).trans (unhide E9)
  have H10 := hide k10
  have G10 := hide (grown_trans (unhide G9) g10)
  have R10 := hide hr
  have E10 := hide he
  clear hr k10 g10 H9 G9 R9 he E9
  go_wp2_with fail
  refine (unhide T10 _ (unhide H10)).mono ?_
  rintro ee w11 ⟨rfl, k11, g11⟩
  have hr : w11.heap[w.heap.size]? = some (.cells #[.bool false, .int .u32 0, .int .u32 0, .int .u32 0, .int .u32 0, .int .u8 0, .int .u8 0, .int .u8 0, .int .u8 0, .int .u8 0, .int .u8 0, .slice none 0 0] 57 (0, 0)) := (g11.block _ (lt_of_block (unhide R10)) (fun q => hne0 (by simpa using q))).trans (unhide R10)
  have he : w11.heap[w.heap.size + 1]? = some (.cells #[.bool rp, .int .u32 x4, .int .u32 x12, .int .u32 x16, .int .u32 x20, .int .u8 0, .int .u8 0, .int .u8 0, .int .u8 0, .int .u8 0, .int .u8 0, .slice none 0 0] 57 (0, 0)) := (g11.block _ (lt_of_block (unhide E10)) (fun q => hneV (by simpa using q))).trans (unhide E10)
  have c11_5 : w11.cell? ⟨w.heap.size + 1, 5, none⟩ = some (.int .u8 0) := row_cell he rfl
  have c11_6 : w11.cell? ⟨w.heap.size + 1, 6, none⟩ = some (.int .u8 0) := row_cell he rfl
  have c11_7 : w11.cell? ⟨w.heap.size + 1, 7, none⟩ = some (.int .u8 0) := row_cell he rfl
  have c11_8 : w11.cell? ⟨w.heap.size + 1, 8, none⟩ = some (.int .u8 0) := row_cell he rfl
  have c11_9 : w11.cell? ⟨w.heap.size + 1, 9, none⟩ = some (.int .u8 0) := row_cell he rfl
  have c11_10 : w11.cell? ⟨w.heap.size + 1, 10, none⟩ = some (.int .u8 0) := row_cell he rfl
  have f11 := row_free he
  have e11_0 : (w11.setCell ⟨w.heap.size + 1, 5, none⟩ (.int .u8 a28.toNat)).heap[w.heap.size + 1]? = some (.cells #[.bool rp, .int .u32 x4, .int .u32 x12, .int .u32 x16, .int .u32 x20, .int .u8 a28.toNat, .int .u8 0, .int .u8 0, .int .u8 0, .int .u8 0, .int .u8 0, .slice none 0 0] 57 (0, 0)) := row_set he 5 (.int .u8 a28.toNat)
  have e11_1 : ((w11.setCell ⟨w.heap.size + 1, 5, none⟩ (.int .u8 a28.toNat)).setCell ⟨w.heap.size + 1, 6, none⟩ (.int .u8 a29.toNat)).heap[w.heap.size + 1]? = some (.cells #[.bool rp, .int .u32 x4, .int .u32 x12, .int .u32 x16, .int .u32 x20, .int .u8 a28.toNat, .int .u8 a29.toNat, .int .u8 0, .int .u8 0, .int .u8 0, .int .u8 0, .slice none 0 0] 57 (0, 0)) := row_set e11_0 6 (.int .u8 a29.toNat)
  have e11_2 : (((w11.setCell ⟨w.heap.size + 1, 5, none⟩ (.int .u8 a28.toNat)).setCell ⟨w.heap.size + 1, 6, none⟩ (.int .u8 a29.toNat)).setCell ⟨w.heap.size + 1, 7, none⟩ (.int .u8 a30.toNat)).heap[w.heap.size + 1]? = some (.cells #[.bool rp, .int .u32 x4, .int .u32 x12, .int .u32 x16, .int .u32 x20, .int .u8 a28.toNat, .int .u8 a29.toNat, .int .u8 a30.toNat, .int .u8 0, .int .u8 0, .int .u8 0, .slice none 0 0] 57 (0, 0)) := row_set e11_1 7 (.int .u8 a30.toNat)
  have e11_3 : ((((w11.setCell ⟨w.heap.size + 1, 5, none⟩ (.int .u8 a28.toNat)).setCell ⟨w.heap.size + 1, 6, none⟩ (.int .u8 a29.toNat)).setCell ⟨w.heap.size + 1, 7, none⟩ (.int .u8 a30.toNat)).setCell ⟨w.heap.size + 1, 8, none⟩ (.int .u8 a31.toNat)).heap[w.heap.size + 1]? = some (.cells #[.bool rp, .int .u32 x4, .int .u32 x12, .int .u32 x16, .int .u32 x20, .int .u8 a28.toNat, .int .u8 a29.toNat, .int .u8 a30.toNat, .int .u8 a31.toNat, .int .u8 0, .int .u8 0, .slice none 0 0] 57 (0, 0)) := row_set e11_2 8 (.int .u8 a31.toNat)
  have e11_4 : (((((w11.setCell ⟨w.heap.size + 1, 5, none⟩ (.int .u8 a28.toNat)).setCell ⟨w.heap.size + 1, 6, none⟩ (.int .u8 a29.toNat)).setCell ⟨w.heap.size + 1, 7, none⟩ (.int .u8 a30.toNat)).setCell ⟨w.heap.size + 1, 8, none⟩ (.int .u8 a31.toNat)).setCell ⟨w.heap.size + 1, 9, none⟩ (.int .u8 a32.toNat)).heap[w.heap.size + 1]? = some (.cells #[.bool rp, .int .u32 x4, .int .u32 x12, .int .u32 x16, .int .u32 x20, .int .u8 a28.toNat, .int .u8 a29.toNat, .int .u8 a30.toNat, .int .u8 a31.toNat, .int .u8 a32.toNat, .int .u8 0, .slice none 0 0] 57 (0, 0)) := row_set e11_3 9 (.int .u8 a32.toNat)
  have e11_5 : ((((((w11.setCell ⟨w.heap.size + 1, 5, none⟩ (.int .u8 a28.toNat)).setCell ⟨w.heap.size + 1, 6, none⟩ (.int .u8 a29.toNat)).setCell ⟨w.heap.size + 1, 7, none⟩ (.int .u8 a30.toNat)).setCell ⟨w.heap.size + 1, 8, none⟩ (.int .u8 a31.toNat)).setCell ⟨w.heap.size + 1, 9, none⟩ (.int .u8 a32.toNat)).setCell ⟨w.heap.size + 1, 10, none⟩ (.int .u8 a33.toNat)).heap[w.heap.size + 1]? = some (.cells #[.bool rp, .int .u32 x4, .int .u32 x12, .int .u32 x16, .int .u32 x20, .int .u8 a28.toNat, .int .u8 a29.toNat, .int .u8 a30.toNat, .int .u8 a31.toNat, .int .u8 a32.toNat, .int .u8 a33.toNat, .slice none 0 0] 57 (0, 0)) := row_set e11_4 10 (.int .u8 a33.toNat)
  have E11 := hide e11_5
  have H11 : Hid (Rdr ((((((w11.setCell ⟨w.heap.size + 1, 5, none⟩ (.int .u8 a28.toNat)).setCell ⟨w.heap.size + 1, 6, none⟩ (.int .u8 a29.toNat)).setCell ⟨w.heap.size + 1, 7, none⟩ (.int .u8 a30.toNat)).setCell ⟨w.heap.size + 1, 8, none⟩ (.int .u8 a31.toNat)).setCell ⟨w.heap.size + 1, 9, none⟩ (.int .u8 a32.toNat)).setCell ⟨w.heap.size + 1, 10, none⟩ (.int .u8 a33.toNat)) B (m)) := (other (other (other (other (other (other k11 hneV.symm _) hneV.symm _) hneV.symm _) hneV.symm _) hneV.symm _) hneV.symm _)
  have G11 : Hid (w.grownBy ((((((w11.setCell ⟨w.heap.size + 1, 5, none⟩ (.int .u8 a28.toNat)).setCell ⟨w.heap.size + 1, 6, none⟩ (.int .u8 a29.toNat)).setCell ⟨w.heap.size + 1, 7, none⟩ (.int .u8 a30.toNat)).setCell ⟨w.heap.size + 1, 8, none⟩ (.int .u8 a31.toNat)).setCell ⟨w.heap.size + 1, 9, none⟩ (.int .u8 a32.toNat)).setCell ⟨w.heap.size + 1, 10, none⟩ (.int .u8 a33.toNat)) (some B)) := (grown_new (grown_new (grown_new (grown_new (grown_new (grown_new (grown_trans (unhide G10) g11) (Nat.le_of_lt hlt0) _) (Nat.le_of_lt hlt0) _) (Nat.le_of_lt hlt0) _) (Nat.le_of_lt hlt0) _) (Nat.le_of_lt hlt0) _) (Nat.le_of_lt hlt0) _)
  have R11 : Hid (((((((w11.setCell ⟨w.heap.size + 1, 5, none⟩ (.int .u8 a28.toNat)).setCell ⟨w.heap.size + 1, 6, none⟩ (.int .u8 a29.toNat)).setCell ⟨w.heap.size + 1, 7, none⟩ (.int .u8 a30.toNat)).setCell ⟨w.heap.size + 1, 8, none⟩ (.int .u8 a31.toNat)).setCell ⟨w.heap.size + 1, 9, none⟩ (.int .u8 a32.toNat)).setCell ⟨w.heap.size + 1, 10, none⟩ (.int .u8 a33.toNat)).heap[w.heap.size]? = some (.cells #[.bool false, .int .u32 0, .int .u32 0, .int .u32 0, .int .u32 0, .int .u8 0, .int .u8 0, .int .u8 0, .int .u8 0, .int .u8 0, .int .u8 0, .slice none 0 0] 57 (0, 0))) := by
    show _ = _
    rw [Below.heap_setCell _ _ _ _ (Nat.ne_of_lt hlt0), Below.heap_setCell _ _ _ _ (Nat.ne_of_lt hlt0), Below.heap_setCell _ _ _ _ (Nat.ne_of_lt hlt0), Below.heap_setCell _ _ _ _ (Nat.ne_of_lt hlt0), Below.heap_setCell _ _ _ _ (Nat.ne_of_lt hlt0), Below.heap_setCell _ _ _ _ (Nat.ne_of_lt hlt0)]; exact hr
  clear hr he k11 g11 H10 G10 R10 E10 e11_0 e11_1 e11_2 e11_3 e11_4 e11_5
  go_wp2_with fail
  refine (unhide T11 _ (unhide H11)).mono ?_
  rintro ee w12 ⟨rfl, k12, g12⟩
  have hr : w12.heap[w.heap.size]? = some (.cells #[.bool false, .int .u32 0, .int .u32 0, .int .u32 0, .int .u32 0, .int .u8 0, .int .u8 0, .int .u8 0, .int .u8 0, .int .u8 0, .int .u8 0, .slice none 0 0] 57 (0, 0)) := (g12.block _ (lt_of_block (unhide R11)) (fun q => hne0 (by simpa using q))).trans (unhide R11)
  have he : w12.heap[w.heap.size + 1]? = some (.cells #[.bool rp, .int .u32 x4, .int .u32 x12, .int .u32 x16, .int .u32 x20, .int .u8 a28.toNat, .int .u8 a29.toNat, .int .u8 a30.toNat, .int .u8 a31.toNat, .int .u8 a32.toNat, .int .u8 a33.toNat, .slice none 0 0] 57 (0, 0)) := (g12.block _ (lt_of_block (unhide E11)) (fun q => hneV (by simpa using q))).trans (unhide E11)
  have H12 := hide k12
  have G12 := hide (grown_trans (unhide G11) g12)
  have R12 := hide hr
  have E12 := hide he
  clear hr k12 g12 H11 G11 R11 he E11
  go_wp2_with fail
  refine (unhide T12 _ (unhide H12)).mono ?_
  rintro ee w13 ⟨rfl, k13, g13⟩
  have hr : w13.heap[w.heap.size]? = some (.cells #[.bool false, .int .u32 0, .int .u32 0, .int .u32 0, .int .u32 0, .int .u8 0, .int .u8 0, .int .u8 0, .int .u8 0, .int .u8 0, .int .u8 0, .slice none 0 0] 57 (0, 0)) := (g13.block _ (lt_of_block (unhide R12)) (fun q => hne0 (by simpa using q))).trans (unhide R12)
  have he : w13.heap[w.heap.size + 1]? = some (.cells #[.bool rp, .int .u32 x4, .int .u32 x12, .int .u32 x16, .int .u32 x20, .int .u8 a28.toNat, .int .u8 a29.toNat, .int .u8 a30.toNat, .int .u8 a31.toNat, .int .u8 a32.toNat, .int .u8 a33.toNat, .slice none 0 0] 57 (0, 0)) := (g13.block _ (lt_of_block (unhide E12)) (fun q => hneV (by simpa using q))).trans (unhide E12)
  have H13 := hide k13
  have G13 := hide (grown_trans (unhide G12) g13)
  have R13 := hide hr
  have E13 := hide he
  clear hr k13 g13 H12 G12 R12 he E12
  go_wp2_with fail
  refine (unhide T13 _ (unhide H13)).mono ?_
  rintro ee w14 ⟨rfl, k14, g14⟩
  have hr : w14.heap[w.heap.size]? = some (.cells #[.bool false, .int .u32 0, .int .u32 0, .int .u32 0, .int .u32 0, .int .u8 0, .int .u8 0, .int .u8 0, .int .u8 0, .int .u8 0, .int .u8 0, .slice none 0 0] 57 (0, 0)) := (g14.block _ (lt_of_block (unhide R13)) (fun q => hne0 (by simpa using q))).trans (unhide R13)
  have he : w14.heap[w.heap.size + 1]? = some (.cells #[.bool rp, .int .u32 x4, .int .u32 x12, .int .u32 x16, .int .u32 x20, .int .u8 a28.toNat, .int .u8 a29.toNat, .int .u8 a30.toNat, .int .u8 a31.toNat, .int .u8 a32.toNat, .int .u8 a33.toNat, .slice none 0 0] 57 (0, 0)) := (g14.block _ (lt_of_block (unhide E13)) (fun q => hneV (by simpa using q))).trans (unhide E13)
  have H14 := hide k14
  have G14 := hide (grown_trans (unhide G13) g14)
  have R14 := hide hr
  have E14 := hide he
  clear hr k14 g14 H13 G13 R13 he E13
  go_wp2_with fail
  refine (unhide T14 _ (unhide H14)).mono ?_
  rintro ee w15 ⟨rfl, k15, g15⟩
  have hr : w15.heap[w.heap.size]? = some (.cells #[.bool false, .int .u32 0, .int .u32 0, .int .u32 0, .int .u32 0, .int .u8 0, .int .u8 0, .int .u8 0, .int .u8 0, .int .u8 0, .int .u8 0, .slice none 0 0] 57 (0, 0)) := (g15.block _ (lt_of_block (unhide R14)) (fun q => hne0 (by simpa using q))).trans (unhide R14)
  have he : w15.heap[w.heap.size + 1]? = some (.cells #[.bool rp, .int .u32 x4, .int .u32 x12, .int .u32 x16, .int .u32 x20, .int .u8 a28.toNat, .int .u8 a29.toNat, .int .u8 a30.toNat, .int .u8 a31.toNat, .int .u8 a32.toNat, .int .u8 a33.toNat, .slice none 0 0] 57 (0, 0)) := (g15.block _ (lt_of_block (unhide E14)) (fun q => hneV (by simpa using q))).trans (unhide E14)
  have H15 := hide k15
  have G15 := hide (grown_trans (unhide G14) g15)
  have R15 := hide hr
  have E15 := hide he
  clear hr he k15 g15 H14 G14 R14 E14
  go_wp2_with fail
  refine (must_if _ (by have q := unhide HEQ; rw [← ByteArray.toList_eq] at q; simpa using q) _ _).mono ?_
  rintro ee wz ⟨rfl, hwz⟩
  rw [hwz]
  clear hwz wz
  have HAL := hide (all_any B m4 sh sf w15 (unhide H15) (by omega) (by have := unhide HZ2; omega) (by have := unhide HZ3; omega))
  have hzn : w.heap.size + 2 ≤ w15.heap.size := by have := lt_of_block (unhide E15); omega
  clear hs
  go_wp2_with fail
  refine (unhide HAL).mono ?_
  rintro ee wx ⟨gx, hpost⟩
  by_cases hk0 : optK m4 sh.data.toList sf.data.toList = 0
  · rw [if_pos hk0] at hpost
    obtain ⟨v, rfl, hown⟩ := hpost
    obtain ⟨ao, cp, hv⟩ := own_slice hown
    have hr : wx.heap[w.heap.size]? = some (.cells #[.bool false, .int .u32 0, .int .u32 0, .int .u32 0, .int .u32 0, .int .u8 0, .int .u8 0, .int .u8 0, .int .u8 0, .int .u8 0, .int .u8 0, .slice none 0 0] 57 (0, 0)) := (gx.block _ (lt_of_block (unhide R15)) (fun q => hne0 (by simpa using q))).trans (unhide R15)
    have he : wx.heap[w.heap.size + 1]? = some (.cells #[.bool rp, .int .u32 x4, .int .u32 x12, .int .u32 x16, .int .u32 x20, .int .u8 a28.toNat, .int .u8 a29.toNat, .int .u8 a30.toNat, .int .u8 a31.toNat, .int .u8 a32.toNat, .int .u8 a33.toNat, .slice none 0 0] 57 (0, 0)) := (gx.block _ (lt_of_block (unhide E15)) (fun q => hneV (by simpa using q))).trans (unhide E15)
    have c0 : wx.cell? ⟨w.heap.size + 1, 0, none⟩ = some (.bool rp) := row_cell he rfl
    have c1 : wx.cell? ⟨w.heap.size + 1, 1, none⟩ = some (.int .u32 x4) := row_cell he rfl
    have c2 : wx.cell? ⟨w.heap.size + 1, 2, none⟩ = some (.int .u32 x12) := row_cell he rfl
    have c3 : wx.cell? ⟨w.heap.size + 1, 3, none⟩ = some (.int .u32 x16) := row_cell he rfl
    have c4 : wx.cell? ⟨w.heap.size + 1, 4, none⟩ = some (.int .u32 x20) := row_cell he rfl
    have c5 : wx.cell? ⟨w.heap.size + 1, 5, none⟩ = some (.int .u8 a28.toNat) := row_cell he rfl
    have c6 : wx.cell? ⟨w.heap.size + 1, 6, none⟩ = some (.int .u8 a29.toNat) := row_cell he rfl
    have c7 : wx.cell? ⟨w.heap.size + 1, 7, none⟩ = some (.int .u8 a30.toNat) := row_cell he rfl
    have c8 : wx.cell? ⟨w.heap.size + 1, 8, none⟩ = some (.int .u8 a31.toNat) := row_cell he rfl
    have c9 : wx.cell? ⟨w.heap.size + 1, 9, none⟩ = some (.int .u8 a32.toNat) := row_cell he rfl
    have c10 : wx.cell? ⟨w.heap.size + 1, 10, none⟩ = some (.int .u8 a33.toNat) := row_cell he rfl
    have c11 : wx.cell? ⟨w.heap.size + 1, 11, none⟩ = some (.slice none 0 0) := row_cell he rfl
    have ff := row_free he
    have d0 : wx.cell? ⟨w.heap.size, 0, none⟩ = some (.bool false) := row_cell hr rfl
    have d1 : wx.cell? ⟨w.heap.size, 1, none⟩ = some (.int .u32 0) := row_cell hr rfl
    have d2 : wx.cell? ⟨w.heap.size, 2, none⟩ = some (.int .u32 0) := row_cell hr rfl
    have d3 : wx.cell? ⟨w.heap.size, 3, none⟩ = some (.int .u32 0) := row_cell hr rfl
    have d4 : wx.cell? ⟨w.heap.size, 4, none⟩ = some (.int .u32 0) := row_cell hr rfl
    have d5 : wx.cell? ⟨w.heap.size, 5, none⟩ = some (.int .u8 0) := row_cell hr rfl
    have d6 : wx.cell? ⟨w.heap.size, 6, none⟩ = some (.int .u8 0) := row_cell hr rfl
    have d7 : wx.cell? ⟨w.heap.size, 7, none⟩ = some (.int .u8 0) := row_cell hr rfl
    have d8 : wx.cell? ⟨w.heap.size, 8, none⟩ = some (.int .u8 0) := row_cell hr rfl
    have d9 : wx.cell? ⟨w.heap.size, 9, none⟩ = some (.int .u8 0) := row_cell hr rfl
    have d10 : wx.cell? ⟨w.heap.size, 10, none⟩ = some (.int .u8 0) := row_cell hr rfl
    have d11 : wx.cell? ⟨w.heap.size, 11, none⟩ = some (.slice none 0 0) := row_cell hr rfl
    have kd := row_free hr
    have GX := hide (grown_trans (unhide G15) gx)
    have OW := hide hown
    have HK0 := hide hk0
    obtain ⟨LN, hLN⟩ : ∃ LN, LN = (optL m4 sh.data.toList sf.data.toList).length := ⟨_, rfl⟩
    rw [← hLN] at hv
    subst hv
    have HLN := hide hLN
    clear hown gx hr he hk0 hLN HAL
    go_wp2
    refine bodyPost_ret (v := .agg #[.bool rp, .int .u32 x4, .int .u32 x12, .int .u32 x16, .int .u32 x20, .int .u8 a28.toNat, .int .u8 a29.toNat, .int .u8 a30.toNat, .int .u8 a31.toNat, .int .u8 a32.toNat, .int .u8 a33.toNat, .slice ao LN cp]) (by simp [results, Try.results94, go_sem, d0, d1, d2, d3, d4, d5, d6, d7, d8, d9, d10, d11]) rfl ?_
    refine ⟨?_, ?_⟩
    · iterate 13 refine grown_new ?_ (by first | exact Nat.le_refl _ | exact Nat.le_succ _) _
      exact unhide GX
    · rw [if_pos (unhide HK0)]
      refine ⟨ao, cp, ?_, ?_⟩
      · rw [← unhide HLN, unhide HX4, unhide HX12, unhide HX16, unhide HX20]
      · rw [← unhide HLN]
        refine own_mono (b := w15.heap.size) ?_ (by omega)
        iterate 13 refine ownsRow_setCell_below ?_ (by first | (show w.heap.size < _; omega) | (show w.heap.size + 1 < _; omega)) _
        have q := unhide OW
        rw [← unhide HLN] at q
        exact q
  · rw [if_neg hk0] at hpost
    subst hpost
    refine ⟨rfl, grown_trans (unhide G15) gx, ?_⟩
    rw [if_neg hk0]

end Go.Proofs.Ytadkcdcdgphhpaa.Dh

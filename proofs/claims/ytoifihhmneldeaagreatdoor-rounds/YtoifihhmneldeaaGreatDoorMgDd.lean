import Derived.Test.YtoifihhmneldeaaGreatDoorMgDc
import Derived.Test.YtoifihhmneldeaaGreatDoorEtherRh
import Derived.Test.YtoifihhmneldeaaGreatDoorMgDb
namespace Go.Proofs.YtoifihhmneldeaaGreatDoor.Dh
open Go.ChangeShapes Go.WideShapes Go.ChangeAt Go.RowKit Bs Rd
open EtR (other grown_new row_cell row_free row_set)
set_option linter.unusedVariables false
set_option linter.unusedSimpArgs false

theorem isOp_any (n : Int) (w : World) : Calls Tryz.prog 89 #[.int .u8 n] w fun e w' => e = .returned (.bool (n == 1 || n == 2)) ∧ w' = w := by
  by_cases h1 : n = 1
  · subst h1
    go_enter Tryz.func89, Tryz.ntmps89
    go_wp2
    go_ret
    exact ⟨rfl, rfl⟩
  · have q : (n == 1) = false := by simpa using h1
    go_enter Tryz.func89, Tryz.ntmps89
    go_wp2
    go_ret
    exact ⟨by rw [q]; rfl, rfl⟩
theorem takeN_ok (B : Nat) (l : List UInt8) (n : Nat) (w : World) (h : Rdr w B l) (hn : n ≤ l.length) (hs : l.length ≤ maxLen) :
    Calls Tryz.prog 80 #[.pointer (some ⟨B, 0, none⟩), .int .i64 n] w fun e w' => e = .returned (.string ⟨(l.take n).toArray⟩) ∧ Rdr w' B (l.drop n) ∧ w.grownBy w' (some B) := by
  refine (take_ok B l n w h hn hs).mono ?_
  rintro e w1 ⟨rfl, rfl⟩
  exact ⟨rfl, h.set _, grown_set _⟩
theorem takeB_ok (B n : Nat) (s : ByteArray) (q l : List UInt8) (w : World) (h : Rdr w B l) (hl : l = s.data.toList ++ q) (hn : s.size = n) (hs : l.length ≤ maxLen) :
    Calls Tryz.prog 80 #[.pointer (some ⟨B, 0, none⟩), .int .i64 n] w fun e w' => e = .returned (.string s) ∧ Rdr w' B q ∧ w.grownBy w' (some B) := by
  have hz : s.data.toList.length = n := by rw [Array.length_toList]; exact hn
  have q1 : l.take n = s.data.toList := by rw [hl, ← hz, List.take_left]
  have q2 : l.drop n = q := by rw [hl, ← hz, List.drop_left]
  have t := takeN_ok B l n w h (by rw [hl, List.length_append]; omega) hs
  rw [q1, q2, str_eta] at t
  exact t
theorem take2_ok (B : Nat) (a b : UInt8) (l : List UInt8) (w : World) (h : Rdr w B (a :: b :: l)) (hs : (a :: b :: l).length ≤ maxLen) :
    Calls Tryz.prog 80 #[.pointer (some ⟨B, 0, none⟩), .int .i64 2] w fun e w' => e = .returned (.string ⟨#[a, b]⟩) ∧ Rdr w' B l ∧ w.grownBy w' (some B) := takeN_ok B (a :: b :: l) 2 w h (by simp) hs
theorem lens {m m1 m2 m3 m4 : List UInt8} {s1 sh sf sc : ByteArray} (e1 : m = s1.data.toList ++ m1) (e2 : m1 = sh.data.toList ++ m2) (e3 : m2 = sf.data.toList ++ m3) (e4 : m3 = sc.data.toList ++ m4) (z1 : s1.size = 10) (z2 : sh.size = 64) (z3 : sf.size = 128) (z4 : sc.size = 4) :
    m.length = 206 + m4.length ∧ m1.length = 196 + m4.length ∧ m2.length = 132 + m4.length ∧ m3.length = 4 + m4.length := by
  have a1 : m.length = s1.size + m1.length := by rw [e1, List.length_append, Array.length_toList]; rfl
  have a2 : m1.length = sh.size + m2.length := by rw [e2, List.length_append, Array.length_toList]; rfl
  have a3 : m2.length = sf.size + m3.length := by rw [e3, List.length_append, Array.length_toList]; rfl
  have a4 : m3.length = sc.size + m4.length := by rw [e4, List.length_append, Array.length_toList]; rfl
  omega
set_option maxHeartbeats 1000000 in
theorem op_ok (B : Nat) (a : UInt8) (l : List UInt8) (w : World) (h : Rdr w B (a :: l)) (hs : (a :: l).length ≤ maxLen) (ht : ((a.toNat : Int) == 1 || (a.toNat : Int) == 2) = true) :
    Calls Tryz.prog 88 #[.pointer (some ⟨B, 0, none⟩), .func (.func 63) #[] #[], .func (.func 89) #[] #[], .int .i64 2] w fun e w' => e = .returned (.int .u8 a.toNat) ∧ Rdr w' B l ∧ w.grownBy w' (some B) := by
  have HN := hide (byte_ok B a l w h hs)
  obtain ⟨x, hx⟩ : ∃ x, x = (a.toNat : Int) := ⟨_, rfl⟩
  rw [← hx] at HN ht ⊢
  have HT := hide ht
  have HI := hide (fun u => isOp_any x u)
  clear h hx hs ht
  go_enter Tryz.func88, Tryz.ntmps88
  go_wp2_with fail
  refine (unhide HN).mono ?_
  rintro e w1 ⟨rfl, h1, g1⟩
  have H1 := hide h1
  have G1 := hide g1
  clear h1 g1
  go_wp2_with fail
  refine (unhide HI _).mono ?_
  rintro e w2 ⟨rfl, rfl⟩
  rw [unhide HT]
  go_wp2_with fail
  refine (must_ok _ _).mono ?_
  rintro _ w3 ⟨rfl, rfl⟩
  go_wp2
  go_ret
  exact ⟨rfl, unhide H1, unhide G1⟩
set_option maxHeartbeats 1000000 in
theorem op_no (B : Nat) (a : UInt8) (l : List UInt8) (w : World) (h : Rdr w B (a :: l)) (hs : (a :: l).length ≤ maxLen) (ht : ((a.toNat : Int) == 1 || (a.toNat : Int) == 2) = false) :
    Calls Tryz.prog 88 #[.pointer (some ⟨B, 0, none⟩), .func (.func 63) #[] #[], .func (.func 89) #[] #[], .int .i64 2] w fun e w' => e = .panicked (errP 2) ∧ w.grownBy w' (some B) := by
  have HN := hide (byte_ok B a l w h hs)
  obtain ⟨x, hx⟩ : ∃ x, x = (a.toNat : Int) := ⟨_, rfl⟩
  rw [← hx] at HN ht
  have HT := hide ht
  have HI := hide (fun u => isOp_any x u)
  clear h hx hs ht
  go_enter Tryz.func88, Tryz.ntmps88
  go_wp2_with fail
  refine (unhide HN).mono ?_
  rintro e w1 ⟨rfl, h1, g1⟩
  have H1 := hide h1
  have G1 := hide g1
  clear h1 g1
  go_wp2_with fail
  refine (unhide HI _).mono ?_
  rintro e w2 ⟨rfl, rfl⟩
  rw [unhide HT]
  go_wp2_with fail
  refine (must_no _ _).mono ?_
  rintro _ w3 ⟨rfl, rfl⟩
  exact ⟨rfl, rfl, unhide G1⟩

theorem dhcp_short (B : Nat) (l : List UInt8) (w : World) (h : Rdr w B l) (hn : l.length < 240) :
    Calls Tryz.prog 74 #[.pointer (some ⟨B, 0, none⟩)] w fun ee w' => ee = .panicked (errP 1) ∧ w.grownBy w' (some B) := by
  have hB := h.lt
  have hne0 : w.heap.size ≠ B := by omega
  have H0 := hide (h.alloc (.cells #[.bool false, .int .u32 0, .int .u32 0, .int .u32 0, .int .u32 0, .int .u8 0, .int .u8 0, .int .u8 0, .int .u8 0, .int .u8 0, .int .u8 0, .slice none 0 0] 56))
  have G0 := hide (grown_alloc (grown_refl w (some B)) (.cells #[.bool false, .int .u32 0, .int .u32 0, .int .u32 0, .int .u32 0, .int .u8 0, .int .u8 0, .int .u8 0, .int .u8 0, .int .u8 0, .int .u8 0, .slice none 0 0] 56))
  have R0 : Hid ((w.alloc (.cells #[.bool false, .int .u32 0, .int .u32 0, .int .u32 0, .int .u32 0, .int .u8 0, .int .u8 0, .int .u8 0, .int .u8 0, .int .u8 0, .int .u8 0, .slice none 0 0] 56)).heap[w.heap.size]? = some (.cells #[.bool false, .int .u32 0, .int .u32 0, .int .u32 0, .int .u32 0, .int .u8 0, .int .u8 0, .int .u8 0, .int .u8 0, .int .u8 0, .int .u8 0, .slice none 0 0] 56 (0, 0))) := heap_alloc_new w _
  clear h
  go_enter Tryz.func74, Tryz.ntmps74
  go_wp2_with fail
  refine (need_no _ _ _ _ (unhide H0) (by omega)).mono ?_
  rintro ee wz ⟨rfl, hwz⟩
  exact ⟨rfl, rfl, by rw [hwz]; exact unhide G0⟩

set_option maxHeartbeats 1600000 in
set_option maxRecDepth 10000 in
theorem dhcp_op (B : Nat) (a0 a1 a2 a3 a4 a5 a6 a7 a8 a9 a10 a11 a12 a13 a14 a15 a16 a17 a18 a19 a20 a21 a22 a23 a24 a25 a26 a27 a28 a29 a30 a31 a32 a33 : UInt8) (m m1 m2 m3 m4 : List UInt8) (s1 sh sf sc : ByteArray) (w : World) (h : Rdr w B (a0 :: a1 :: a2 :: a3 :: a4 :: a5 :: a6 :: a7 :: a8 :: a9 :: a10 :: a11 :: a12 :: a13 :: a14 :: a15 :: a16 :: a17 :: a18 :: a19 :: a20 :: a21 :: a22 :: a23 :: a24 :: a25 :: a26 :: a27 :: a28 :: a29 :: a30 :: a31 :: a32 :: a33 :: m)) (hs : (a0 :: a1 :: a2 :: a3 :: a4 :: a5 :: a6 :: a7 :: a8 :: a9 :: a10 :: a11 :: a12 :: a13 :: a14 :: a15 :: a16 :: a17 :: a18 :: a19 :: a20 :: a21 :: a22 :: a23 :: a24 :: a25 :: a26 :: a27 :: a28 :: a29 :: a30 :: a31 :: a32 :: a33 :: m).length ≤ 1048576) (e1 : m = s1.data.toList ++ m1) (e2 : m1 = sh.data.toList ++ m2) (e3 : m2 = sf.data.toList ++ m3) (e4 : m3 = sc.data.toList ++ m4) (z1 : s1.size = 10) (z2 : sh.size = 64) (z3 : sf.size = 128) (z4 : sc.size = 4) (hop : ((a0.toNat : Int) == 1 || (a0.toNat : Int) == 2) = false) :
    Calls Tryz.prog 74 #[.pointer (some ⟨B, 0, none⟩)] w fun ee w' => ee = .panicked (errP 2) ∧ w.grownBy w' (some B) := by
  have hB := h.lt
  have hne0 : w.heap.size ≠ B := by omega
  have H0 := hide (h.alloc (.cells #[.bool false, .int .u32 0, .int .u32 0, .int .u32 0, .int .u32 0, .int .u8 0, .int .u8 0, .int .u8 0, .int .u8 0, .int .u8 0, .int .u8 0, .slice none 0 0] 56))
  have G0 := hide (grown_alloc (grown_refl w (some B)) (.cells #[.bool false, .int .u32 0, .int .u32 0, .int .u32 0, .int .u32 0, .int .u8 0, .int .u8 0, .int .u8 0, .int .u8 0, .int .u8 0, .int .u8 0, .slice none 0 0] 56))
  have R0 : Hid ((w.alloc (.cells #[.bool false, .int .u32 0, .int .u32 0, .int .u32 0, .int .u32 0, .int .u8 0, .int .u8 0, .int .u8 0, .int .u8 0, .int .u8 0, .int .u8 0, .slice none 0 0] 56)).heap[w.heap.size]? = some (.cells #[.bool false, .int .u32 0, .int .u32 0, .int .u32 0, .int .u32 0, .int .u8 0, .int .u8 0, .int .u8 0, .int .u8 0, .int .u8 0, .int .u8 0, .slice none 0 0] 56 (0, 0))) := heap_alloc_new w _
  have ls : m.length = 206 + m4.length ∧ m1.length = 196 + m4.length ∧ m2.length = 132 + m4.length ∧ m3.length = 4 + m4.length := lens e1 e2 e3 e4 z1 z2 z3 z4
  obtain ⟨l0, l1, l2, l3⟩ := ls
  have hsm : m4.length ≤ 1048400 := by simp only [List.length_cons] at hs; omega
  have HN0 := hide (show (240 : Int) ≤ ((a0 :: a1 :: a2 :: a3 :: a4 :: a5 :: a6 :: a7 :: a8 :: a9 :: a10 :: a11 :: a12 :: a13 :: a14 :: a15 :: a16 :: a17 :: a18 :: a19 :: a20 :: a21 :: a22 :: a23 :: a24 :: a25 :: a26 :: a27 :: a28 :: a29 :: a30 :: a31 :: a32 :: a33 :: m).length : Int) by simp only [List.length_cons]; omega)
  clear h
  have T1 := hide (fun u hu => op_no B a0 (a1 :: a2 :: a3 :: a4 :: a5 :: a6 :: a7 :: a8 :: a9 :: a10 :: a11 :: a12 :: a13 :: a14 :: a15 :: a16 :: a17 :: a18 :: a19 :: a20 :: a21 :: a22 :: a23 :: a24 :: a25 :: a26 :: a27 :: a28 :: a29 :: a30 :: a31 :: a32 :: a33 :: m) u hu (by simp only [List.length_cons, maxLen]; omega) hop)
  have z0 : (w.alloc (.cells #[.bool false, .int .u32 0, .int .u32 0, .int .u32 0, .int .u32 0, .int .u8 0, .int .u8 0, .int .u8 0, .int .u8 0, .int .u8 0, .int .u8 0, .slice none 0 0] 56)).heap.size = w.heap.size + 1 := by simp
  have hneV : w.heap.size + 1 ≠ B := by omega
  have hlt0 : w.heap.size < w.heap.size + 1 := by omega
  have H1 := hide ((unhide H0).alloc (.cells #[.bool false, .int .u32 0, .int .u32 0, .int .u32 0, .int .u32 0, .int .u8 0, .int .u8 0, .int .u8 0, .int .u8 0, .int .u8 0, .int .u8 0, .slice none 0 0] 56))
  have G1 := hide (grown_alloc (unhide G0) (.cells #[.bool false, .int .u32 0, .int .u32 0, .int .u32 0, .int .u32 0, .int .u8 0, .int .u8 0, .int .u8 0, .int .u8 0, .int .u8 0, .int .u8 0, .slice none 0 0] 56))
  have E1 : Hid (((w.alloc (.cells #[.bool false, .int .u32 0, .int .u32 0, .int .u32 0, .int .u32 0, .int .u8 0, .int .u8 0, .int .u8 0, .int .u8 0, .int .u8 0, .int .u8 0, .slice none 0 0] 56)).alloc (.cells #[.bool false, .int .u32 0, .int .u32 0, .int .u32 0, .int .u32 0, .int .u8 0, .int .u8 0, .int .u8 0, .int .u8 0, .int .u8 0, .int .u8 0, .slice none 0 0] 56)).heap[w.heap.size + 1]? = some (.cells #[.bool false, .int .u32 0, .int .u32 0, .int .u32 0, .int .u32 0, .int .u8 0, .int .u8 0, .int .u8 0, .int .u8 0, .int .u8 0, .int .u8 0, .slice none 0 0] 56 (0, 0))) := hide (by have q := heap_alloc_new (w.alloc (.cells #[.bool false, .int .u32 0, .int .u32 0, .int .u32 0, .int .u32 0, .int .u8 0, .int .u8 0, .int .u8 0, .int .u8 0, .int .u8 0, .int .u8 0, .slice none 0 0] 56)) (.cells #[.bool false, .int .u32 0, .int .u32 0, .int .u32 0, .int .u32 0, .int .u8 0, .int .u8 0, .int .u8 0, .int .u8 0, .int .u8 0, .int .u8 0, .slice none 0 0] 56); rw [z0] at q; exact q)
  have R1 : Hid (((w.alloc (.cells #[.bool false, .int .u32 0, .int .u32 0, .int .u32 0, .int .u32 0, .int .u8 0, .int .u8 0, .int .u8 0, .int .u8 0, .int .u8 0, .int .u8 0, .slice none 0 0] 56)).alloc (.cells #[.bool false, .int .u32 0, .int .u32 0, .int .u32 0, .int .u32 0, .int .u8 0, .int .u8 0, .int .u8 0, .int .u8 0, .int .u8 0, .int .u8 0, .slice none 0 0] 56)).heap[w.heap.size]? = some (.cells #[.bool false, .int .u32 0, .int .u32 0, .int .u32 0, .int .u32 0, .int .u8 0, .int .u8 0, .int .u8 0, .int .u8 0, .int .u8 0, .int .u8 0, .slice none 0 0] 56 (0, 0))) := hide (by rw [Below.heap_alloc _ _ _ (by omega)]; exact unhide R0)
  clear R0 z0
  have HZ2 := hide z2
  have HZ3 := hide z3
  clear e1 e2 e3 e4 z1 z2 z3 z4 l0 l1 l2 l3
  clear hop
  go_enter Tryz.func74, Tryz.ntmps74
  go_wp2_with fail
  refine (need_ok _ _ _ _ (unhide H0) (unhide HN0)).mono ?_
  rintro ee wz ⟨rfl, hwz⟩
  rw [hwz]
  clear hwz wz
  clear H0 G0
  go_wp2_with fail
  refine (unhide T1 _ (unhide H1)).mono ?_
  rintro ee wz ⟨rfl, gz⟩
  exact ⟨rfl, rfl, grown_trans (unhide G1) gz⟩

set_option maxHeartbeats 1600000 in
set_option maxRecDepth 10000 in
theorem dhcp_card (B : Nat) (a0 a1 a2 a3 a4 a5 a6 a7 a8 a9 a10 a11 a12 a13 a14 a15 a16 a17 a18 a19 a20 a21 a22 a23 a24 a25 a26 a27 a28 a29 a30 a31 a32 a33 : UInt8) (m m1 m2 m3 m4 : List UInt8) (s1 sh sf sc : ByteArray) (w : World) (h : Rdr w B (a0 :: a1 :: a2 :: a3 :: a4 :: a5 :: a6 :: a7 :: a8 :: a9 :: a10 :: a11 :: a12 :: a13 :: a14 :: a15 :: a16 :: a17 :: a18 :: a19 :: a20 :: a21 :: a22 :: a23 :: a24 :: a25 :: a26 :: a27 :: a28 :: a29 :: a30 :: a31 :: a32 :: a33 :: m)) (hs : (a0 :: a1 :: a2 :: a3 :: a4 :: a5 :: a6 :: a7 :: a8 :: a9 :: a10 :: a11 :: a12 :: a13 :: a14 :: a15 :: a16 :: a17 :: a18 :: a19 :: a20 :: a21 :: a22 :: a23 :: a24 :: a25 :: a26 :: a27 :: a28 :: a29 :: a30 :: a31 :: a32 :: a33 :: m).length ≤ 1048576) (e1 : m = s1.data.toList ++ m1) (e2 : m1 = sh.data.toList ++ m2) (e3 : m2 = sf.data.toList ++ m3) (e4 : m3 = sc.data.toList ++ m4) (z1 : s1.size = 10) (z2 : sh.size = 64) (z3 : sf.size = 128) (z4 : sc.size = 4) (rp : Bool) (hop : ((a0.toNat : Int) == 1 || (a0.toNat : Int) == 2) = true) (hrp : ((a0.toNat : Int) == 2) = rp) (hne : ¬ (a1 = 1 ∧ a2 = 6)) :
    Calls Tryz.prog 74 #[.pointer (some ⟨B, 0, none⟩)] w fun ee w' => ee = .panicked (errP 2) ∧ w.grownBy w' (some B) := by
  have hB := h.lt
  have hne0 : w.heap.size ≠ B := by omega
  have H0 := hide (h.alloc (.cells #[.bool false, .int .u32 0, .int .u32 0, .int .u32 0, .int .u32 0, .int .u8 0, .int .u8 0, .int .u8 0, .int .u8 0, .int .u8 0, .int .u8 0, .slice none 0 0] 56))
  have G0 := hide (grown_alloc (grown_refl w (some B)) (.cells #[.bool false, .int .u32 0, .int .u32 0, .int .u32 0, .int .u32 0, .int .u8 0, .int .u8 0, .int .u8 0, .int .u8 0, .int .u8 0, .int .u8 0, .slice none 0 0] 56))
  have R0 : Hid ((w.alloc (.cells #[.bool false, .int .u32 0, .int .u32 0, .int .u32 0, .int .u32 0, .int .u8 0, .int .u8 0, .int .u8 0, .int .u8 0, .int .u8 0, .int .u8 0, .slice none 0 0] 56)).heap[w.heap.size]? = some (.cells #[.bool false, .int .u32 0, .int .u32 0, .int .u32 0, .int .u32 0, .int .u8 0, .int .u8 0, .int .u8 0, .int .u8 0, .int .u8 0, .int .u8 0, .slice none 0 0] 56 (0, 0))) := heap_alloc_new w _
  have ls : m.length = 206 + m4.length ∧ m1.length = 196 + m4.length ∧ m2.length = 132 + m4.length ∧ m3.length = 4 + m4.length := lens e1 e2 e3 e4 z1 z2 z3 z4
  obtain ⟨l0, l1, l2, l3⟩ := ls
  have hsm : m4.length ≤ 1048400 := by simp only [List.length_cons] at hs; omega
  have HN0 := hide (show (240 : Int) ≤ ((a0 :: a1 :: a2 :: a3 :: a4 :: a5 :: a6 :: a7 :: a8 :: a9 :: a10 :: a11 :: a12 :: a13 :: a14 :: a15 :: a16 :: a17 :: a18 :: a19 :: a20 :: a21 :: a22 :: a23 :: a24 :: a25 :: a26 :: a27 :: a28 :: a29 :: a30 :: a31 :: a32 :: a33 :: m).length : Int) by simp only [List.length_cons]; omega)
  clear h
  have T1 := hide (fun u hu => op_ok B a0 (a1 :: a2 :: a3 :: a4 :: a5 :: a6 :: a7 :: a8 :: a9 :: a10 :: a11 :: a12 :: a13 :: a14 :: a15 :: a16 :: a17 :: a18 :: a19 :: a20 :: a21 :: a22 :: a23 :: a24 :: a25 :: a26 :: a27 :: a28 :: a29 :: a30 :: a31 :: a32 :: a33 :: m) u hu (by simp only [List.length_cons, maxLen]; omega) hop)
  have T2 := hide (fun u hu => take2_ok B a1 a2 (a3 :: a4 :: a5 :: a6 :: a7 :: a8 :: a9 :: a10 :: a11 :: a12 :: a13 :: a14 :: a15 :: a16 :: a17 :: a18 :: a19 :: a20 :: a21 :: a22 :: a23 :: a24 :: a25 :: a26 :: a27 :: a28 :: a29 :: a30 :: a31 :: a32 :: a33 :: m) u hu (by simp only [List.length_cons, maxLen]; omega))
  have z0 : (w.alloc (.cells #[.bool false, .int .u32 0, .int .u32 0, .int .u32 0, .int .u32 0, .int .u8 0, .int .u8 0, .int .u8 0, .int .u8 0, .int .u8 0, .int .u8 0, .slice none 0 0] 56)).heap.size = w.heap.size + 1 := by simp
  have hneV : w.heap.size + 1 ≠ B := by omega
  have hlt0 : w.heap.size < w.heap.size + 1 := by omega
  have H1 := hide ((unhide H0).alloc (.cells #[.bool false, .int .u32 0, .int .u32 0, .int .u32 0, .int .u32 0, .int .u8 0, .int .u8 0, .int .u8 0, .int .u8 0, .int .u8 0, .int .u8 0, .slice none 0 0] 56))
  have G1 := hide (grown_alloc (unhide G0) (.cells #[.bool false, .int .u32 0, .int .u32 0, .int .u32 0, .int .u32 0, .int .u8 0, .int .u8 0, .int .u8 0, .int .u8 0, .int .u8 0, .int .u8 0, .slice none 0 0] 56))
  have E1 : Hid (((w.alloc (.cells #[.bool false, .int .u32 0, .int .u32 0, .int .u32 0, .int .u32 0, .int .u8 0, .int .u8 0, .int .u8 0, .int .u8 0, .int .u8 0, .int .u8 0, .slice none 0 0] 56)).alloc (.cells #[.bool false, .int .u32 0, .int .u32 0, .int .u32 0, .int .u32 0, .int .u8 0, .int .u8 0, .int .u8 0, .int .u8 0, .int .u8 0, .int .u8 0, .slice none 0 0] 56)).heap[w.heap.size + 1]? = some (.cells #[.bool false, .int .u32 0, .int .u32 0, .int .u32 0, .int .u32 0, .int .u8 0, .int .u8 0, .int .u8 0, .int .u8 0, .int .u8 0, .int .u8 0, .slice none 0 0] 56 (0, 0))) := hide (by have q := heap_alloc_new (w.alloc (.cells #[.bool false, .int .u32 0, .int .u32 0, .int .u32 0, .int .u32 0, .int .u8 0, .int .u8 0, .int .u8 0, .int .u8 0, .int .u8 0, .int .u8 0, .slice none 0 0] 56)) (.cells #[.bool false, .int .u32 0, .int .u32 0, .int .u32 0, .int .u32 0, .int .u8 0, .int .u8 0, .int .u8 0, .int .u8 0, .int .u8 0, .int .u8 0, .slice none 0 0] 56); rw [z0] at q; exact q)
  have R1 : Hid (((w.alloc (.cells #[.bool false, .int .u32 0, .int .u32 0, .int .u32 0, .int .u32 0, .int .u8 0, .int .u8 0, .int .u8 0, .int .u8 0, .int .u8 0, .int .u8 0, .slice none 0 0] 56)).alloc (.cells #[.bool false, .int .u32 0, .int .u32 0, .int .u32 0, .int .u32 0, .int .u8 0, .int .u8 0, .int .u8 0, .int .u8 0, .int .u8 0, .int .u8 0, .slice none 0 0] 56)).heap[w.heap.size]? = some (.cells #[.bool false, .int .u32 0, .int .u32 0, .int .u32 0, .int .u32 0, .int .u8 0, .int .u8 0, .int .u8 0, .int .u8 0, .int .u8 0, .int .u8 0, .slice none 0 0] 56 (0, 0))) := hide (by rw [Below.heap_alloc _ _ _ (by omega)]; exact unhide R0)
  clear R0 z0
  have HZ2 := hide z2
  have HZ3 := hide z3
  clear e1 e2 e3 e4 z1 z2 z3 z4 l0 l1 l2 l3
  clear hop
  go_enter Tryz.func74, Tryz.ntmps74
  go_wp2_with fail
  refine (need_ok _ _ _ _ (unhide H0) (unhide HN0)).mono ?_
  rintro ee wz ⟨rfl, hwz⟩
  rw [hwz]
  clear hwz wz
  clear H0 G0
  go_wp2_with fail
  refine (unhide T1 _ (unhide H1)).mono ?_
  rintro ee w2 ⟨rfl, k2, g2⟩
  have hr : w2.heap[w.heap.size]? = some (.cells #[.bool false, .int .u32 0, .int .u32 0, .int .u32 0, .int .u32 0, .int .u8 0, .int .u8 0, .int .u8 0, .int .u8 0, .int .u8 0, .int .u8 0, .slice none 0 0] 56 (0, 0)) := (g2.block _ (lt_of_block (unhide R1)) (fun q => hne0 (by simpa using q))).trans (unhide R1)
  have he : w2.heap[w.heap.size + 1]? = some (.cells #[.bool false, .int .u32 0, .int .u32 0, .int .u32 0, .int .u32 0, .int .u8 0, .int .u8 0, .int .u8 0, .int .u8 0, .int .u8 0, .int .u8 0, .slice none 0 0] 56 (0, 0)) := (g2.block _ (lt_of_block (unhide E1)) (fun q => hneV (by simpa using q))).trans (unhide E1)
  have c2_0 : w2.cell? ⟨w.heap.size + 1, 0, none⟩ = some (.bool false) := row_cell he rfl
  have f2 := row_free he
  have E2 : Hid ((w2.setCell ⟨w.heap.size + 1, 0, none⟩ (.bool rp)).heap[w.heap.size + 1]? = some (.cells #[.bool rp, .int .u32 0, .int .u32 0, .int .u32 0, .int .u32 0, .int .u8 0, .int .u8 0, .int .u8 0, .int .u8 0, .int .u8 0, .int .u8 0, .slice none 0 0] 56 (0, 0))) := row_set he 0 (.bool rp)
  have H2 : Hid (Rdr (w2.setCell ⟨w.heap.size + 1, 0, none⟩ (.bool rp)) B (a1 :: a2 :: a3 :: a4 :: a5 :: a6 :: a7 :: a8 :: a9 :: a10 :: a11 :: a12 :: a13 :: a14 :: a15 :: a16 :: a17 :: a18 :: a19 :: a20 :: a21 :: a22 :: a23 :: a24 :: a25 :: a26 :: a27 :: a28 :: a29 :: a30 :: a31 :: a32 :: a33 :: m)) := other k2 hneV.symm _
  have G2 : Hid (w.grownBy (w2.setCell ⟨w.heap.size + 1, 0, none⟩ (.bool rp)) (some B)) := grown_new (grown_trans (unhide G1) g2) (Nat.le_of_lt hlt0) _
  have R2 : Hid ((w2.setCell ⟨w.heap.size + 1, 0, none⟩ (.bool rp)).heap[w.heap.size]? = some (.cells #[.bool false, .int .u32 0, .int .u32 0, .int .u32 0, .int .u32 0, .int .u8 0, .int .u8 0, .int .u8 0, .int .u8 0, .int .u8 0, .int .u8 0, .slice none 0 0] 56 (0, 0))) := by
    show _ = _
    rw [Below.heap_setCell _ _ _ _ (Nat.ne_of_lt hlt0)]; exact hr
  clear hr k2 g2 H1 G1 R1 he E1
  go_wp2_with fail
  refine (unhide T2 _ (unhide H2)).mono ?_
  rintro ee w9 ⟨rfl, k9, g9⟩
  have G9 := hide (grown_trans (unhide G2) g9)
  clear k9 g9
  go_wp2_with fail
  refine (must_else _ (by simpa using hne) _ _).mono ?_
  rintro ee wz ⟨rfl, hwz⟩
  exact ⟨rfl, rfl, by rw [hwz]; exact unhide G9⟩

set_option maxHeartbeats 1600000 in
set_option maxRecDepth 10000 in
theorem dhcp_cookie (B : Nat) (a0 a3 a4 a5 a6 a7 a8 a9 a10 a11 a12 a13 a14 a15 a16 a17 a18 a19 a20 a21 a22 a23 a24 a25 a26 a27 a28 a29 a30 a31 a32 a33 : UInt8) (m m1 m2 m3 m4 : List UInt8) (s1 sh sf sc : ByteArray) (w : World) (h : Rdr w B (a0 :: 1 :: 6 :: a3 :: a4 :: a5 :: a6 :: a7 :: a8 :: a9 :: a10 :: a11 :: a12 :: a13 :: a14 :: a15 :: a16 :: a17 :: a18 :: a19 :: a20 :: a21 :: a22 :: a23 :: a24 :: a25 :: a26 :: a27 :: a28 :: a29 :: a30 :: a31 :: a32 :: a33 :: m)) (hs : (a0 :: 1 :: 6 :: a3 :: a4 :: a5 :: a6 :: a7 :: a8 :: a9 :: a10 :: a11 :: a12 :: a13 :: a14 :: a15 :: a16 :: a17 :: a18 :: a19 :: a20 :: a21 :: a22 :: a23 :: a24 :: a25 :: a26 :: a27 :: a28 :: a29 :: a30 :: a31 :: a32 :: a33 :: m).length ≤ 1048576) (e1 : m = s1.data.toList ++ m1) (e2 : m1 = sh.data.toList ++ m2) (e3 : m2 = sf.data.toList ++ m3) (e4 : m3 = sc.data.toList ++ m4) (z1 : s1.size = 10) (z2 : sh.size = 64) (z3 : sf.size = 128) (z4 : sc.size = 4) (rp : Bool) (hop : ((a0.toNat : Int) == 1 || (a0.toNat : Int) == 2) = true) (hrp : ((a0.toNat : Int) == 2) = rp) (hne : ¬ sc.data.toList = [99, 130, 83, 99]) :
    Calls Tryz.prog 74 #[.pointer (some ⟨B, 0, none⟩)] w fun ee w' => ee = .panicked (errP 2) ∧ w.grownBy w' (some B) := by
  have hB := h.lt
  have hne0 : w.heap.size ≠ B := by omega
  have H0 := hide (h.alloc (.cells #[.bool false, .int .u32 0, .int .u32 0, .int .u32 0, .int .u32 0, .int .u8 0, .int .u8 0, .int .u8 0, .int .u8 0, .int .u8 0, .int .u8 0, .slice none 0 0] 56))
  have G0 := hide (grown_alloc (grown_refl w (some B)) (.cells #[.bool false, .int .u32 0, .int .u32 0, .int .u32 0, .int .u32 0, .int .u8 0, .int .u8 0, .int .u8 0, .int .u8 0, .int .u8 0, .int .u8 0, .slice none 0 0] 56))
  have R0 : Hid ((w.alloc (.cells #[.bool false, .int .u32 0, .int .u32 0, .int .u32 0, .int .u32 0, .int .u8 0, .int .u8 0, .int .u8 0, .int .u8 0, .int .u8 0, .int .u8 0, .slice none 0 0] 56)).heap[w.heap.size]? = some (.cells #[.bool false, .int .u32 0, .int .u32 0, .int .u32 0, .int .u32 0, .int .u8 0, .int .u8 0, .int .u8 0, .int .u8 0, .int .u8 0, .int .u8 0, .slice none 0 0] 56 (0, 0))) := heap_alloc_new w _
  have ls : m.length = 206 + m4.length ∧ m1.length = 196 + m4.length ∧ m2.length = 132 + m4.length ∧ m3.length = 4 + m4.length := lens e1 e2 e3 e4 z1 z2 z3 z4
  obtain ⟨l0, l1, l2, l3⟩ := ls
  have hsm : m4.length ≤ 1048400 := by simp only [List.length_cons] at hs; omega
  have HN0 := hide (show (240 : Int) ≤ ((a0 :: 1 :: 6 :: a3 :: a4 :: a5 :: a6 :: a7 :: a8 :: a9 :: a10 :: a11 :: a12 :: a13 :: a14 :: a15 :: a16 :: a17 :: a18 :: a19 :: a20 :: a21 :: a22 :: a23 :: a24 :: a25 :: a26 :: a27 :: a28 :: a29 :: a30 :: a31 :: a32 :: a33 :: m).length : Int) by simp only [List.length_cons]; omega)
  clear h
  have T1 := hide (fun u hu => op_ok B a0 (1 :: 6 :: a3 :: a4 :: a5 :: a6 :: a7 :: a8 :: a9 :: a10 :: a11 :: a12 :: a13 :: a14 :: a15 :: a16 :: a17 :: a18 :: a19 :: a20 :: a21 :: a22 :: a23 :: a24 :: a25 :: a26 :: a27 :: a28 :: a29 :: a30 :: a31 :: a32 :: a33 :: m) u hu (by simp only [List.length_cons, maxLen]; omega) hop)
  have T2 := hide (fun u hu => take2_ok B 1 6 (a3 :: a4 :: a5 :: a6 :: a7 :: a8 :: a9 :: a10 :: a11 :: a12 :: a13 :: a14 :: a15 :: a16 :: a17 :: a18 :: a19 :: a20 :: a21 :: a22 :: a23 :: a24 :: a25 :: a26 :: a27 :: a28 :: a29 :: a30 :: a31 :: a32 :: a33 :: m) u hu (by simp only [List.length_cons, maxLen]; omega))
  have T3 := hide (fun u hu => byte_ok B a3 (a4 :: a5 :: a6 :: a7 :: a8 :: a9 :: a10 :: a11 :: a12 :: a13 :: a14 :: a15 :: a16 :: a17 :: a18 :: a19 :: a20 :: a21 :: a22 :: a23 :: a24 :: a25 :: a26 :: a27 :: a28 :: a29 :: a30 :: a31 :: a32 :: a33 :: m) u hu (by simp only [List.length_cons, maxLen]; omega))
  have T4 := hide (fun u hu => long_ok B a4 a5 a6 a7 (a8 :: a9 :: a10 :: a11 :: a12 :: a13 :: a14 :: a15 :: a16 :: a17 :: a18 :: a19 :: a20 :: a21 :: a22 :: a23 :: a24 :: a25 :: a26 :: a27 :: a28 :: a29 :: a30 :: a31 :: a32 :: a33 :: m) u hu (by simp only [List.length_cons, maxLen]; omega))
  have T5 := hide (fun u hu => long_ok B a8 a9 a10 a11 (a12 :: a13 :: a14 :: a15 :: a16 :: a17 :: a18 :: a19 :: a20 :: a21 :: a22 :: a23 :: a24 :: a25 :: a26 :: a27 :: a28 :: a29 :: a30 :: a31 :: a32 :: a33 :: m) u hu (by simp only [List.length_cons, maxLen]; omega))
  have T6 := hide (fun u hu => address_ok B a12 a13 a14 a15 (a16 :: a17 :: a18 :: a19 :: a20 :: a21 :: a22 :: a23 :: a24 :: a25 :: a26 :: a27 :: a28 :: a29 :: a30 :: a31 :: a32 :: a33 :: m) u hu (by simp only [List.length_cons, maxLen]; omega))
  have T7 := hide (fun u hu => address_ok B a16 a17 a18 a19 (a20 :: a21 :: a22 :: a23 :: a24 :: a25 :: a26 :: a27 :: a28 :: a29 :: a30 :: a31 :: a32 :: a33 :: m) u hu (by simp only [List.length_cons, maxLen]; omega))
  have T8 := hide (fun u hu => address_ok B a20 a21 a22 a23 (a24 :: a25 :: a26 :: a27 :: a28 :: a29 :: a30 :: a31 :: a32 :: a33 :: m) u hu (by simp only [List.length_cons, maxLen]; omega))
  have T9 := hide (fun u hu => address_ok B a24 a25 a26 a27 (a28 :: a29 :: a30 :: a31 :: a32 :: a33 :: m) u hu (by simp only [List.length_cons, maxLen]; omega))
  have T10 := hide (fun u hu => card_ok B a28 a29 a30 a31 a32 a33 (m) u hu (by simp only [List.length_cons, maxLen]; omega))
  have T11 := hide (fun u hu => takeB_ok B 10 s1 m1 m u hu e1 z1 (by simp only [maxLen]; omega))
  have T12 := hide (fun u hu => takeB_ok B 64 sh m2 m1 u hu e2 z2 (by simp only [maxLen]; omega))
  have T13 := hide (fun u hu => takeB_ok B 128 sf m3 m2 u hu e3 z3 (by simp only [maxLen]; omega))
  have T14 := hide (fun u hu => takeB_ok B 4 sc m4 m3 u hu e4 z4 (by simp only [maxLen]; omega))
  obtain ⟨x4, hx4⟩ : ∃ x, x = 16777216 * (a4.toNat : Int) + 65536 * (a5.toNat : Int) + 256 * (a6.toNat : Int) + (a7.toNat : Int) := ⟨_, rfl⟩
  obtain ⟨x12, hx12⟩ : ∃ x, x = 16777216 * (a12.toNat : Int) + 65536 * (a13.toNat : Int) + 256 * (a14.toNat : Int) + (a15.toNat : Int) := ⟨_, rfl⟩
  obtain ⟨x16, hx16⟩ : ∃ x, x = 16777216 * (a16.toNat : Int) + 65536 * (a17.toNat : Int) + 256 * (a18.toNat : Int) + (a19.toNat : Int) := ⟨_, rfl⟩
  obtain ⟨x20, hx20⟩ : ∃ x, x = 16777216 * (a20.toNat : Int) + 65536 * (a21.toNat : Int) + 256 * (a22.toNat : Int) + (a23.toNat : Int) := ⟨_, rfl⟩
  rw [← hx4] at T4
  have HX4 := hide hx4
  clear hx4
  rw [← hx12] at T6
  have HX12 := hide hx12
  clear hx12
  rw [← hx16] at T7
  have HX16 := hide hx16
  clear hx16
  rw [← hx20] at T8
  have HX20 := hide hx20
  clear hx20
  have z0 : (w.alloc (.cells #[.bool false, .int .u32 0, .int .u32 0, .int .u32 0, .int .u32 0, .int .u8 0, .int .u8 0, .int .u8 0, .int .u8 0, .int .u8 0, .int .u8 0, .slice none 0 0] 56)).heap.size = w.heap.size + 1 := by simp
  have hneV : w.heap.size + 1 ≠ B := by omega
  have hlt0 : w.heap.size < w.heap.size + 1 := by omega
  have H1 := hide ((unhide H0).alloc (.cells #[.bool false, .int .u32 0, .int .u32 0, .int .u32 0, .int .u32 0, .int .u8 0, .int .u8 0, .int .u8 0, .int .u8 0, .int .u8 0, .int .u8 0, .slice none 0 0] 56))
  have G1 := hide (grown_alloc (unhide G0) (.cells #[.bool false, .int .u32 0, .int .u32 0, .int .u32 0, .int .u32 0, .int .u8 0, .int .u8 0, .int .u8 0, .int .u8 0, .int .u8 0, .int .u8 0, .slice none 0 0] 56))
  have E1 : Hid (((w.alloc (.cells #[.bool false, .int .u32 0, .int .u32 0, .int .u32 0, .int .u32 0, .int .u8 0, .int .u8 0, .int .u8 0, .int .u8 0, .int .u8 0, .int .u8 0, .slice none 0 0] 56)).alloc (.cells #[.bool false, .int .u32 0, .int .u32 0, .int .u32 0, .int .u32 0, .int .u8 0, .int .u8 0, .int .u8 0, .int .u8 0, .int .u8 0, .int .u8 0, .slice none 0 0] 56)).heap[w.heap.size + 1]? = some (.cells #[.bool false, .int .u32 0, .int .u32 0, .int .u32 0, .int .u32 0, .int .u8 0, .int .u8 0, .int .u8 0, .int .u8 0, .int .u8 0, .int .u8 0, .slice none 0 0] 56 (0, 0))) := hide (by have q := heap_alloc_new (w.alloc (.cells #[.bool false, .int .u32 0, .int .u32 0, .int .u32 0, .int .u32 0, .int .u8 0, .int .u8 0, .int .u8 0, .int .u8 0, .int .u8 0, .int .u8 0, .slice none 0 0] 56)) (.cells #[.bool false, .int .u32 0, .int .u32 0, .int .u32 0, .int .u32 0, .int .u8 0, .int .u8 0, .int .u8 0, .int .u8 0, .int .u8 0, .int .u8 0, .slice none 0 0] 56); rw [z0] at q; exact q)
  have R1 : Hid (((w.alloc (.cells #[.bool false, .int .u32 0, .int .u32 0, .int .u32 0, .int .u32 0, .int .u8 0, .int .u8 0, .int .u8 0, .int .u8 0, .int .u8 0, .int .u8 0, .slice none 0 0] 56)).alloc (.cells #[.bool false, .int .u32 0, .int .u32 0, .int .u32 0, .int .u32 0, .int .u8 0, .int .u8 0, .int .u8 0, .int .u8 0, .int .u8 0, .int .u8 0, .slice none 0 0] 56)).heap[w.heap.size]? = some (.cells #[.bool false, .int .u32 0, .int .u32 0, .int .u32 0, .int .u32 0, .int .u8 0, .int .u8 0, .int .u8 0, .int .u8 0, .int .u8 0, .int .u8 0, .slice none 0 0] 56 (0, 0))) := hide (by rw [Below.heap_alloc _ _ _ (by omega)]; exact unhide R0)
  clear R0 z0
  have HZ2 := hide z2
  have HZ3 := hide z3
  clear e1 e2 e3 e4 z1 z2 z3 z4 l0 l1 l2 l3
  clear hop
  go_enter Tryz.func74, Tryz.ntmps74
  go_wp2_with fail
  refine (need_ok _ _ _ _ (unhide H0) (unhide HN0)).mono ?_
  rintro ee wz ⟨rfl, hwz⟩
  rw [hwz]
  clear hwz wz
  clear H0 G0
  go_wp2_with fail
  refine (unhide T1 _ (unhide H1)).mono ?_
  rintro ee w2 ⟨rfl, k2, g2⟩
  have hr : w2.heap[w.heap.size]? = some (.cells #[.bool false, .int .u32 0, .int .u32 0, .int .u32 0, .int .u32 0, .int .u8 0, .int .u8 0, .int .u8 0, .int .u8 0, .int .u8 0, .int .u8 0, .slice none 0 0] 56 (0, 0)) := (g2.block _ (lt_of_block (unhide R1)) (fun q => hne0 (by simpa using q))).trans (unhide R1)
  have he : w2.heap[w.heap.size + 1]? = some (.cells #[.bool false, .int .u32 0, .int .u32 0, .int .u32 0, .int .u32 0, .int .u8 0, .int .u8 0, .int .u8 0, .int .u8 0, .int .u8 0, .int .u8 0, .slice none 0 0] 56 (0, 0)) := (g2.block _ (lt_of_block (unhide E1)) (fun q => hneV (by simpa using q))).trans (unhide E1)
  have c2_0 : w2.cell? ⟨w.heap.size + 1, 0, none⟩ = some (.bool false) := row_cell he rfl
  have f2 := row_free he
  have E2 : Hid ((w2.setCell ⟨w.heap.size + 1, 0, none⟩ (.bool rp)).heap[w.heap.size + 1]? = some (.cells #[.bool rp, .int .u32 0, .int .u32 0, .int .u32 0, .int .u32 0, .int .u8 0, .int .u8 0, .int .u8 0, .int .u8 0, .int .u8 0, .int .u8 0, .slice none 0 0] 56 (0, 0))) := row_set he 0 (.bool rp)
  have H2 : Hid (Rdr (w2.setCell ⟨w.heap.size + 1, 0, none⟩ (.bool rp)) B (1 :: 6 :: a3 :: a4 :: a5 :: a6 :: a7 :: a8 :: a9 :: a10 :: a11 :: a12 :: a13 :: a14 :: a15 :: a16 :: a17 :: a18 :: a19 :: a20 :: a21 :: a22 :: a23 :: a24 :: a25 :: a26 :: a27 :: a28 :: a29 :: a30 :: a31 :: a32 :: a33 :: m)) := other k2 hneV.symm _
  have G2 : Hid (w.grownBy (w2.setCell ⟨w.heap.size + 1, 0, none⟩ (.bool rp)) (some B)) := grown_new (grown_trans (unhide G1) g2) (Nat.le_of_lt hlt0) _
  have R2 : Hid ((w2.setCell ⟨w.heap.size + 1, 0, none⟩ (.bool rp)).heap[w.heap.size]? = some (.cells #[.bool false, .int .u32 0, .int .u32 0, .int .u32 0, .int .u32 0, .int .u8 0, .int .u8 0, .int .u8 0, .int .u8 0, .int .u8 0, .int .u8 0, .slice none 0 0] 56 (0, 0))) := by
    show _ = _
    rw [Below.heap_setCell _ _ _ _ (Nat.ne_of_lt hlt0)]; exact hr
  clear hr k2 g2 H1 G1 R1 he E1
  go_wp2_with fail
  refine (unhide T2 _ (unhide H2)).mono ?_
  rintro ee w3 ⟨rfl, k3, g3⟩
  have hr : w3.heap[w.heap.size]? = some (.cells #[.bool false, .int .u32 0, .int .u32 0, .int .u32 0, .int .u32 0, .int .u8 0, .int .u8 0, .int .u8 0, .int .u8 0, .int .u8 0, .int .u8 0, .slice none 0 0] 56 (0, 0)) := (g3.block _ (lt_of_block (unhide R2)) (fun q => hne0 (by simpa using q))).trans (unhide R2)
  have he : w3.heap[w.heap.size + 1]? = some (.cells #[.bool rp, .int .u32 0, .int .u32 0, .int .u32 0, .int .u32 0, .int .u8 0, .int .u8 0, .int .u8 0, .int .u8 0, .int .u8 0, .int .u8 0, .slice none 0 0] 56 (0, 0)) := (g3.block _ (lt_of_block (unhide E2)) (fun q => hneV (by simpa using q))).trans (unhide E2)
  have H3 := hide k3
  have G3 := hide (grown_trans (unhide G2) g3)
  have R3 := hide hr
  have E3 := hide he
  clear hr k3 g3 H2 G2 R2 he E2
  go_wp2_with fail
  refine (must_if _ (by simp) _ _).mono ?_
  rintro ee wz ⟨rfl, hwz⟩
  rw [hwz]
  clear hwz wz
  go_wp2_with fail
  refine (unhide T3 _ (unhide H3)).mono ?_
  rintro ee w4 ⟨rfl, k4, g4⟩
  have hr : w4.heap[w.heap.size]? = some (.cells #[.bool false, .int .u32 0, .int .u32 0, .int .u32 0, .int .u32 0, .int .u8 0, .int .u8 0, .int .u8 0, .int .u8 0, .int .u8 0, .int .u8 0, .slice none 0 0] 56 (0, 0)) := (g4.block _ (lt_of_block (unhide R3)) (fun q => hne0 (by simpa using q))).trans (unhide R3)
  have he : w4.heap[w.heap.size + 1]? = some (.cells #[.bool rp, .int .u32 0, .int .u32 0, .int .u32 0, .int .u32 0, .int .u8 0, .int .u8 0, .int .u8 0, .int .u8 0, .int .u8 0, .int .u8 0, .slice none 0 0] 56 (0, 0)) := (g4.block _ (lt_of_block (unhide E3)) (fun q => hneV (by simpa using q))).trans (unhide E3)
  have H4 := hide k4
  have G4 := hide (grown_trans (unhide G3) g4)
  have R4 := hide hr
  have E4 := hide he
  clear hr k4 g4 H3 G3 R3 he E3
  go_wp2_with fail
  refine (unhide T4 _ (unhide H4)).mono ?_
  rintro ee w5 ⟨rfl, k5, g5⟩
  have hr : w5.heap[w.heap.size]? = some (.cells #[.bool false, .int .u32 0, .int .u32 0, .int .u32 0, .int .u32 0, .int .u8 0, .int .u8 0, .int .u8 0, .int .u8 0, .int .u8 0, .int .u8 0, .slice none 0 0] 56 (0, 0)) := (g5.block _ (lt_of_block (unhide R4)) (fun q => hne0 (by simpa using q))).trans (unhide R4)
  have he : w5.heap[w.heap.size + 1]? = some (.cells #[.bool rp, .int .u32 0, .int .u32 0, .int .u32 0, .int .u32 0, .int .u8 0, .int .u8 0, .int .u8 0, .int .u8 0, .int .u8 0, .int .u8 0, .slice none 0 0] 56 (0, 0)) := (g5.block _ (lt_of_block (unhide E4)) (fun q => hneV (by simpa using q))).trans (unhide E4)
  have c5_1 : w5.cell? ⟨w.heap.size + 1, 1, none⟩ = some (.int .u32 0) := row_cell he rfl
  have f5 := row_free he
  have E5 : Hid ((w5.setCell ⟨w.heap.size + 1, 1, none⟩ (.int .u32 x4)).heap[w.heap.size + 1]? = some (.cells #[.bool rp, .int .u32 x4, .int .u32 0, .int .u32 0, .int .u32 0, .int .u8 0, .int .u8 0, .int .u8 0, .int .u8 0, .int .u8 0, .int .u8 0, .slice none 0 0] 56 (0, 0))) := row_set he 1 (.int .u32 x4)
  have H5 : Hid (Rdr (w5.setCell ⟨w.heap.size + 1, 1, none⟩ (.int .u32 x4)) B (a8 :: a9 :: a10 :: a11 :: a12 :: a13 :: a14 :: a15 :: a16 :: a17 :: a18 :: a19 :: a20 :: a21 :: a22 :: a23 :: a24 :: a25 :: a26 :: a27 :: a28 :: a29 :: a30 :: a31 :: a32 :: a33 :: m)) := other k5 hneV.symm _
  have G5 : Hid (w.grownBy (w5.setCell ⟨w.heap.size + 1, 1, none⟩ (.int .u32 x4)) (some B)) := grown_new (grown_trans (unhide G4) g5) (Nat.le_of_lt hlt0) _
  have R5 : Hid ((w5.setCell ⟨w.heap.size + 1, 1, none⟩ (.int .u32 x4)).heap[w.heap.size]? = some (.cells #[.bool false, .int .u32 0, .int .u32 0, .int .u32 0, .int .u32 0, .int .u8 0, .int .u8 0, .int .u8 0, .int .u8 0, .int .u8 0, .int .u8 0, .slice none 0 0] 56 (0, 0))) := by
    show _ = _
    rw [Below.heap_setCell _ _ _ _ (Nat.ne_of_lt hlt0)]; exact hr
  clear hr k5 g5 H4 G4 R4 he E4
  go_wp2_with fail
  refine (unhide T5 _ (unhide H5)).mono ?_
  rintro ee w6 ⟨rfl, k6, g6⟩
  have hr : w6.heap[w.heap.size]? = some (.cells #[.bool false, .int .u32 0, .int .u32 0, .int .u32 0, .int .u32 0, .int .u8 0, .int .u8 0, .int .u8 0, .int .u8 0, .int .u8 0, .int .u8 0, .slice none 0 0] 56 (0, 0)) := (g6.block _ (lt_of_block (unhide R5)) (fun q => hne0 (by simpa using q))).trans (unhide R5)
  have he : w6.heap[w.heap.size + 1]? = some (.cells #[.bool rp, .int .u32 x4, .int .u32 0, .int .u32 0, .int .u32 0, .int .u8 0, .int .u8 0, .int .u8 0, .int .u8 0, .int .u8 0, .int .u8 0, .slice none 0 0] 56 (0, 0)) := (g6.block _ (lt_of_block (unhide E5)) (fun q => hneV (by simpa using q))).trans (unhide E5)
  have H6 := hide k6
  have G6 := hide (grown_trans (unhide G5) g6)
  have R6 := hide hr
  have E6 := hide he
  clear hr k6 g6 H5 G5 R5 he E5
  go_wp2_with fail
  refine (unhide T6 _ (unhide H6)).mono ?_
  rintro ee w7 ⟨rfl, k7, g7⟩
  have hr : w7.heap[w.heap.size]? = some (.cells #[.bool false, .int .u32 0, .int .u32 0, .int .u32 0, .int .u32 0, .int .u8 0, .int .u8 0, .int .u8 0, .int .u8 0, .int .u8 0, .int .u8 0, .slice none 0 0] 56 (0, 0)) := (g7.block _ (lt_of_block (unhide R6)) (fun q => hne0 (by simpa using q))).trans (unhide R6)
  have he : w7.heap[w.heap.size + 1]? = some (.cells #[.bool rp, .int .u32 x4, .int .u32 0, .int .u32 0, .int .u32 0, .int .u8 0, .int .u8 0, .int .u8 0, .int .u8 0, .int .u8 0, .int .u8 0, .slice none 0 0] 56 (0, 0)) := (g7.block _ (lt_of_block (unhide E6)) (fun q => hneV (by simpa using q))).trans (unhide E6)
  have c7_2 : w7.cell? ⟨w.heap.size + 1, 2, none⟩ = some (.int .u32 0) := row_cell he rfl
  have f7 := row_free he
  have E7 : Hid ((w7.setCell ⟨w.heap.size + 1, 2, none⟩ (.int .u32 x12)).heap[w.heap.size + 1]? = some (.cells #[.bool rp, .int .u32 x4, .int .u32 x12, .int .u32 0, .int .u32 0, .int .u8 0, .int .u8 0, .int .u8 0, .int .u8 0, .int .u8 0, .int .u8 0, .slice none 0 0] 56 (0, 0))) := row_set he 2 (.int .u32 x12)
  have H7 : Hid (Rdr (w7.setCell ⟨w.heap.size + 1, 2, none⟩ (.int .u32 x12)) B (a16 :: a17 :: a18 :: a19 :: a20 :: a21 :: a22 :: a23 :: a24 :: a25 :: a26 :: a27 :: a28 :: a29 :: a30 :: a31 :: a32 :: a33 :: m)) := other k7 hneV.symm _
  have G7 : Hid (w.grownBy (w7.setCell ⟨w.heap.size + 1, 2, none⟩ (.int .u32 x12)) (some B)) := grown_new (grown_trans (unhide G6) g7) (Nat.le_of_lt hlt0) _
  have R7 : Hid ((w7.setCell ⟨w.heap.size + 1, 2, none⟩ (.int .u32 x12)).heap[w.heap.size]? = some (.cells #[.bool false, .int .u32 0, .int .u32 0, .int .u32 0, .int .u32 0, .int .u8 0, .int .u8 0, .int .u8 0, .int .u8 0, .int .u8 0, .int .u8 0, .slice none 0 0] 56 (0, 0))) := by
    show _ = _
    rw [Below.heap_setCell _ _ _ _ (Nat.ne_of_lt hlt0)]; exact hr
  clear hr k7 g7 H6 G6 R6 he E6
  go_wp2_with fail
  refine (unhide T7 _ (unhide H7)).mono ?_
  rintro ee w8 ⟨rfl, k8, g8⟩
  have hr : w8.heap[w.heap.size]? = some (.cells #[.bool false, .int .u32 0, .int .u32 0, .int .u32 0, .int .u32 0, .int .u8 0, .int .u8 0, .int .u8 0, .int .u8 0, .int .u8 0, .int .u8 0, .slice none 0 0] 56 (0, 0)) := (g8.block _ (lt_of_block (unhide R7)) (fun q => hne0 (by simpa using q))).trans (unhide R7)
  have he : w8.heap[w.heap.size + 1]? = some (.cells #[.bool rp, .int .u32 x4, .int .u32 x12, .int .u32 0, .int .u32 0, .int .u8 0, .int .u8 0, .int .u8 0, .int .u8 0, .int .u8 0, .int .u8 0, .slice none 0 0] 56 (0, 0)) := (g8.block _ (lt_of_block (unhide E7)) (fun q => hneV (by simpa using q))).trans (unhide E7)
  have c8_3 : w8.cell? ⟨w.heap.size + 1, 3, none⟩ = some (.int .u32 0) := row_cell he rfl
  have f8 := row_free he
  have E8 : Hid ((w8.setCell ⟨w.heap.size + 1, 3, none⟩ (.int .u32 x16)).heap[w.heap.size + 1]? = some (.cells #[.bool rp, .int .u32 x4, .int .u32 x12, .int .u32 x16, .int .u32 0, .int .u8 0, .int .u8 0, .int .u8 0, .int .u8 0, .int .u8 0, .int .u8 0, .slice none 0 0] 56 (0, 0))) := row_set he 3 (.int .u32 x16)
  have H8 : Hid (Rdr (w8.setCell ⟨w.heap.size + 1, 3, none⟩ (.int .u32 x16)) B (a20 :: a21 :: a22 :: a23 :: a24 :: a25 :: a26 :: a27 :: a28 :: a29 :: a30 :: a31 :: a32 :: a33 :: m)) := other k8 hneV.symm _
  have G8 : Hid (w.grownBy (w8.setCell ⟨w.heap.size + 1, 3, none⟩ (.int .u32 x16)) (some B)) := grown_new (grown_trans (unhide G7) g8) (Nat.le_of_lt hlt0) _
  have R8 : Hid ((w8.setCell ⟨w.heap.size + 1, 3, none⟩ (.int .u32 x16)).heap[w.heap.size]? = some (.cells #[.bool false, .int .u32 0, .int .u32 0, .int .u32 0, .int .u32 0, .int .u8 0, .int .u8 0, .int .u8 0, .int .u8 0, .int .u8 0, .int .u8 0, .slice none 0 0] 56 (0, 0))) := by
    show _ = _
    rw [Below.heap_setCell _ _ _ _ (Nat.ne_of_lt hlt0)]; exact hr
  clear hr k8 g8 H7 G7 R7 he E7
  go_wp2_with fail
  refine (unhide T8 _ (unhide H8)).mono ?_
  rintro ee w9 ⟨rfl, k9, g9⟩
  have hr : w9.heap[w.heap.size]? = some (.cells #[.bool false, .int .u32 0, .int .u32 0, .int .u32 0, .int .u32 0, .int .u8 0, .int .u8 0, .int .u8 0, .int .u8 0, .int .u8 0, .int .u8 0, .slice none 0 0] 56 (0, 0)) := (g9.block _ (lt_of_block (unhide R8)) (fun q => hne0 (by simpa using q))).trans (unhide R8)
  have he : w9.heap[w.heap.size + 1]? = some (.cells #[.bool rp, .int .u32 x4, .int .u32 x12, .int .u32 x16, .int .u32 0, .int .u8 0, .int .u8 0, .int .u8 0, .int .u8 0, .int .u8 0, .int .u8 0, .slice none 0 0] 56 (0, 0)) := (g9.block _ (lt_of_block (unhide E8)) (fun q => hneV (by simpa using q))).trans (unhide E8)
  have c9_4 : w9.cell? ⟨w.heap.size + 1, 4, none⟩ = some (.int .u32 0) := row_cell he rfl
  have f9 := row_free he
  have E9 : Hid ((w9.setCell ⟨w.heap.size + 1, 4, none⟩ (.int .u32 x20)).heap[w.heap.size + 1]? = some (.cells #[.bool rp, .int .u32 x4, .int .u32 x12, .int .u32 x16, .int .u32 x20, .int .u8 0, .int .u8 0, .int .u8 0, .int .u8 0, .int .u8 0, .int .u8 0, .slice none 0 0] 56 (0, 0))) := row_set he 4 (.int .u32 x20)
  have H9 : Hid (Rdr (w9.setCell ⟨w.heap.size + 1, 4, none⟩ (.int .u32 x20)) B (a24 :: a25 :: a26 :: a27 :: a28 :: a29 :: a30 :: a31 :: a32 :: a33 :: m)) := other k9 hneV.symm _
  have G9 : Hid (w.grownBy (w9.setCell ⟨w.heap.size + 1, 4, none⟩ (.int .u32 x20)) (some B)) := grown_new (grown_trans (unhide G8) g9) (Nat.le_of_lt hlt0) _
  have R9 : Hid ((w9.setCell ⟨w.heap.size + 1, 4, none⟩ (.int .u32 x20)).heap[w.heap.size]? = some (.cells #[.bool false, .int .u32 0, .int .u32 0, .int .u32 0, .int .u32 0, .int .u8 0, .int .u8 0, .int .u8 0, .int .u8 0, .int .u8 0, .int .u8 0, .slice none 0 0] 56 (0, 0))) := by
    show _ = _
    rw [Below.heap_setCell _ _ _ _ (Nat.ne_of_lt hlt0)]; exact hr
  clear hr k9 g9 H8 G8 R8 he E8
  go_wp2_with fail
  refine (unhide T9 _ (unhide H9)).mono ?_
  rintro ee w10 ⟨rfl, k10, g10⟩
  have hr : w10.heap[w.heap.size]? = some (.cells #[.bool false, .int .u32 0, .int .u32 0, .int .u32 0, .int .u32 0, .int .u8 0, .int .u8 0, .int .u8 0, .int .u8 0, .int .u8 0, .int .u8 0, .slice none 0 0] 56 (0, 0)) := (g10.block _ (lt_of_block (unhide R9)) (fun q => hne0 (by simpa using q))).trans (unhide R9)
  have he : w10.heap[w.heap.size + 1]? = some (.cells #[.bool rp, .int .u32 x4, .int .u32 x12, .int .u32 x16, .int .u32 x20, .int .u8 0, .int .u8 0, .int .u8 0, .int .u8 0, .int .u8 0, .int .u8 0, .slice none 0 0] 56 (0, 0)) := (g10.block _ (lt_of_block (unhide E9)) (fun q => hneV (by simpa using q))).trans (unhide E9)
  have H10 := hide k10
  have G10 := hide (grown_trans (unhide G9) g10)
  have R10 := hide hr
  have E10 := hide he
  clear hr k10 g10 H9 G9 R9 he E9
  go_wp2_with fail
  refine (unhide T10 _ (unhide H10)).mono ?_
  rintro ee w11 ⟨rfl, k11, g11⟩
  have hr : w11.heap[w.heap.size]? = some (.cells #[.bool false, .int .u32 0, .int .u32 0, .int .u32 0, .int .u32 0, .int .u8 0, .int .u8 0, .int .u8 0, .int .u8 0, .int .u8 0, .int .u8 0, .slice none 0 0] 56 (0, 0)) := (g11.block _ (lt_of_block (unhide R10)) (fun q => hne0 (by simpa using q))).trans (unhide R10)
  have he : w11.heap[w.heap.size + 1]? = some (.cells #[.bool rp, .int .u32 x4, .int .u32 x12, .int .u32 x16, .int .u32 x20, .int .u8 0, .int .u8 0, .int .u8 0, .int .u8 0, .int .u8 0, .int .u8 0, .slice none 0 0] 56 (0, 0)) := (g11.block _ (lt_of_block (unhide E10)) (fun q => hneV (by simpa using q))).trans (unhide E10)
  have c11_5 : w11.cell? ⟨w.heap.size + 1, 5, none⟩ = some (.int .u8 0) := row_cell he rfl
  have c11_6 : w11.cell? ⟨w.heap.size + 1, 6, none⟩ = some (.int .u8 0) := row_cell he rfl
  have c11_7 : w11.cell? ⟨w.heap.size + 1, 7, none⟩ = some (.int .u8 0) := row_cell he rfl
  have c11_8 : w11.cell? ⟨w.heap.size + 1, 8, none⟩ = some (.int .u8 0) := row_cell he rfl
  have c11_9 : w11.cell? ⟨w.heap.size + 1, 9, none⟩ = some (.int .u8 0) := row_cell he rfl
  have c11_10 : w11.cell? ⟨w.heap.size + 1, 10, none⟩ = some (.int .u8 0) := row_cell he rfl
  have f11 := row_free he
  have e11_0 : (w11.setCell ⟨w.heap.size + 1, 5, none⟩ (.int .u8 a28.toNat)).heap[w.heap.size + 1]? = some (.cells #[.bool rp, .int .u32 x4, .int .u32 x12, .int .u32 x16, .int .u32 x20, .int .u8 a28.toNat, .int .u8 0, .int .u8 0, .int .u8 0, .int .u8 0, .int .u8 0, .slice none 0 0] 56 (0, 0)) := row_set he 5 (.int .u8 a28.toNat)
  have e11_1 : ((w11.setCell ⟨w.heap.size + 1, 5, none⟩ (.int .u8 a28.toNat)).setCell ⟨w.heap.size + 1, 6, none⟩ (.int .u8 a29.toNat)).heap[w.heap.size + 1]? = some (.cells #[.bool rp, .int .u32 x4, .int .u32 x12, .int .u32 x16, .int .u32 x20, .int .u8 a28.toNat, .int .u8 a29.toNat, .int .u8 0, .int .u8 0, .int .u8 0, .int .u8 0, .slice none 0 0] 56 (0, 0)) := row_set e11_0 6 (.int .u8 a29.toNat)
  have e11_2 : (((w11.setCell ⟨w.heap.size + 1, 5, none⟩ (.int .u8 a28.toNat)).setCell ⟨w.heap.size + 1, 6, none⟩ (.int .u8 a29.toNat)).setCell ⟨w.heap.size + 1, 7, none⟩ (.int .u8 a30.toNat)).heap[w.heap.size + 1]? = some (.cells #[.bool rp, .int .u32 x4, .int .u32 x12, .int .u32 x16, .int .u32 x20, .int .u8 a28.toNat, .int .u8 a29.toNat, .int .u8 a30.toNat, .int .u8 0, .int .u8 0, .int .u8 0, .slice none 0 0] 56 (0, 0)) := row_set e11_1 7 (.int .u8 a30.toNat)
  have e11_3 : ((((w11.setCell ⟨w.heap.size + 1, 5, none⟩ (.int .u8 a28.toNat)).setCell ⟨w.heap.size + 1, 6, none⟩ (.int .u8 a29.toNat)).setCell ⟨w.heap.size + 1, 7, none⟩ (.int .u8 a30.toNat)).setCell ⟨w.heap.size + 1, 8, none⟩ (.int .u8 a31.toNat)).heap[w.heap.size + 1]? = some (.cells #[.bool rp, .int .u32 x4, .int .u32 x12, .int .u32 x16, .int .u32 x20, .int .u8 a28.toNat, .int .u8 a29.toNat, .int .u8 a30.toNat, .int .u8 a31.toNat, .int .u8 0, .int .u8 0, .slice none 0 0] 56 (0, 0)) := row_set e11_2 8 (.int .u8 a31.toNat)
  have e11_4 : (((((w11.setCell ⟨w.heap.size + 1, 5, none⟩ (.int .u8 a28.toNat)).setCell ⟨w.heap.size + 1, 6, none⟩ (.int .u8 a29.toNat)).setCell ⟨w.heap.size + 1, 7, none⟩ (.int .u8 a30.toNat)).setCell ⟨w.heap.size + 1, 8, none⟩ (.int .u8 a31.toNat)).setCell ⟨w.heap.size + 1, 9, none⟩ (.int .u8 a32.toNat)).heap[w.heap.size + 1]? = some (.cells #[.bool rp, .int .u32 x4, .int .u32 x12, .int .u32 x16, .int .u32 x20, .int .u8 a28.toNat, .int .u8 a29.toNat, .int .u8 a30.toNat, .int .u8 a31.toNat, .int .u8 a32.toNat, .int .u8 0, .slice none 0 0] 56 (0, 0)) := row_set e11_3 9 (.int .u8 a32.toNat)
  have e11_5 : ((((((w11.setCell ⟨w.heap.size + 1, 5, none⟩ (.int .u8 a28.toNat)).setCell ⟨w.heap.size + 1, 6, none⟩ (.int .u8 a29.toNat)).setCell ⟨w.heap.size + 1, 7, none⟩ (.int .u8 a30.toNat)).setCell ⟨w.heap.size + 1, 8, none⟩ (.int .u8 a31.toNat)).setCell ⟨w.heap.size + 1, 9, none⟩ (.int .u8 a32.toNat)).setCell ⟨w.heap.size + 1, 10, none⟩ (.int .u8 a33.toNat)).heap[w.heap.size + 1]? = some (.cells #[.bool rp, .int .u32 x4, .int .u32 x12, .int .u32 x16, .int .u32 x20, .int .u8 a28.toNat, .int .u8 a29.toNat, .int .u8 a30.toNat, .int .u8 a31.toNat, .int .u8 a32.toNat, .int .u8 a33.toNat, .slice none 0 0] 56 (0, 0)) := row_set e11_4 10 (.int .u8 a33.toNat)
  have E11 := hide e11_5
  have H11 : Hid (Rdr ((((((w11.setCell ⟨w.heap.size + 1, 5, none⟩ (.int .u8 a28.toNat)).setCell ⟨w.heap.size + 1, 6, none⟩ (.int .u8 a29.toNat)).setCell ⟨w.heap.size + 1, 7, none⟩ (.int .u8 a30.toNat)).setCell ⟨w.heap.size + 1, 8, none⟩ (.int .u8 a31.toNat)).setCell ⟨w.heap.size + 1, 9, none⟩ (.int .u8 a32.toNat)).setCell ⟨w.heap.size + 1, 10, none⟩ (.int .u8 a33.toNat)) B (m)) := (other (other (other (other (other (other k11 hneV.symm _) hneV.symm _) hneV.symm _) hneV.symm _) hneV.symm _) hneV.symm _)
  have G11 : Hid (w.grownBy ((((((w11.setCell ⟨w.heap.size + 1, 5, none⟩ (.int .u8 a28.toNat)).setCell ⟨w.heap.size + 1, 6, none⟩ (.int .u8 a29.toNat)).setCell ⟨w.heap.size + 1, 7, none⟩ (.int .u8 a30.toNat)).setCell ⟨w.heap.size + 1, 8, none⟩ (.int .u8 a31.toNat)).setCell ⟨w.heap.size + 1, 9, none⟩ (.int .u8 a32.toNat)).setCell ⟨w.heap.size + 1, 10, none⟩ (.int .u8 a33.toNat)) (some B)) := (grown_new (grown_new (grown_new (grown_new (grown_new (grown_new (grown_trans (unhide G10) g11) (Nat.le_of_lt hlt0) _) (Nat.le_of_lt hlt0) _) (Nat.le_of_lt hlt0) _) (Nat.le_of_lt hlt0) _) (Nat.le_of_lt hlt0) _) (Nat.le_of_lt hlt0) _)
  have R11 : Hid (((((((w11.setCell ⟨w.heap.size + 1, 5, none⟩ (.int .u8 a28.toNat)).setCell ⟨w.heap.size + 1, 6, none⟩ (.int .u8 a29.toNat)).setCell ⟨w.heap.size + 1, 7, none⟩ (.int .u8 a30.toNat)).setCell ⟨w.heap.size + 1, 8, none⟩ (.int .u8 a31.toNat)).setCell ⟨w.heap.size + 1, 9, none⟩ (.int .u8 a32.toNat)).setCell ⟨w.heap.size + 1, 10, none⟩ (.int .u8 a33.toNat)).heap[w.heap.size]? = some (.cells #[.bool false, .int .u32 0, .int .u32 0, .int .u32 0, .int .u32 0, .int .u8 0, .int .u8 0, .int .u8 0, .int .u8 0, .int .u8 0, .int .u8 0, .slice none 0 0] 56 (0, 0))) := by
    show _ = _
    rw [Below.heap_setCell _ _ _ _ (Nat.ne_of_lt hlt0), Below.heap_setCell _ _ _ _ (Nat.ne_of_lt hlt0), Below.heap_setCell _ _ _ _ (Nat.ne_of_lt hlt0), Below.heap_setCell _ _ _ _ (Nat.ne_of_lt hlt0), Below.heap_setCell _ _ _ _ (Nat.ne_of_lt hlt0), Below.heap_setCell _ _ _ _ (Nat.ne_of_lt hlt0)]; exact hr
  clear hr he k11 g11 H10 G10 R10 E10 e11_0 e11_1 e11_2 e11_3 e11_4 e11_5
  go_wp2_with fail
  refine (unhide T11 _ (unhide H11)).mono ?_
  rintro ee w12 ⟨rfl, k12, g12⟩
  have hr : w12.heap[w.heap.size]? = some (.cells #[.bool false, .int .u32 0, .int .u32 0, .int .u32 0, .int .u32 0, .int .u8 0, .int .u8 0, .int .u8 0, .int .u8 0, .int .u8 0, .int .u8 0, .slice none 0 0] 56 (0, 0)) := (g12.block _ (lt_of_block (unhide R11)) (fun q => hne0 (by simpa using q))).trans (unhide R11)
  have he : w12.heap[w.heap.size + 1]? = some (.cells #[.bool rp, .int .u32 x4, .int .u32 x12, .int .u32 x16, .int .u32 x20, .int .u8 a28.toNat, .int .u8 a29.toNat, .int .u8 a30.toNat, .int .u8 a31.toNat, .int .u8 a32.toNat, .int .u8 a33.toNat, .slice none 0 0] 56 (0, 0)) := (g12.block _ (lt_of_block (unhide E11)) (fun q => hneV (by simpa using q))).trans (unhide E11)
  have H12 := hide k12
  have G12 := hide (grown_trans (unhide G11) g12)
  have R12 := hide hr
  have E12 := hide he
  clear hr k12 g12 H11 G11 R11 he E11
  go_wp2_with fail
  refine (unhide T12 _ (unhide H12)).mono ?_
  rintro ee w13 ⟨rfl, k13, g13⟩
  have hr : w13.heap[w.heap.size]? = some (.cells #[.bool false, .int .u32 0, .int .u32 0, .int .u32 0, .int .u32 0, .int .u8 0, .int .u8 0, .int .u8 0, .int .u8 0, .int .u8 0, .int .u8 0, .slice none 0 0] 56 (0, 0)) := (g13.block _ (lt_of_block (unhide R12)) (fun q => hne0 (by simpa using q))).trans (unhide R12)
  have he : w13.heap[w.heap.size + 1]? = some (.cells #[.bool rp, .int .u32 x4, .int .u32 x12, .int .u32 x16, .int .u32 x20, .int .u8 a28.toNat, .int .u8 a29.toNat, .int .u8 a30.toNat, .int .u8 a31.toNat, .int .u8 a32.toNat, .int .u8 a33.toNat, .slice none 0 0] 56 (0, 0)) := (g13.block _ (lt_of_block (unhide E12)) (fun q => hneV (by simpa using q))).trans (unhide E12)
  have H13 := hide k13
  have G13 := hide (grown_trans (unhide G12) g13)
  have R13 := hide hr
  have E13 := hide he
  clear hr k13 g13 H12 G12 R12 he E12
  go_wp2_with fail
  refine (unhide T13 _ (unhide H13)).mono ?_
  rintro ee w14 ⟨rfl, k14, g14⟩
  have hr : w14.heap[w.heap.size]? = some (.cells #[.bool false, .int .u32 0, .int .u32 0, .int .u32 0, .int .u32 0, .int .u8 0, .int .u8 0, .int .u8 0, .int .u8 0, .int .u8 0, .int .u8 0, .slice none 0 0] 56 (0, 0)) := (g14.block _ (lt_of_block (unhide R13)) (fun q => hne0 (by simpa using q))).trans (unhide R13)
  have he : w14.heap[w.heap.size + 1]? = some (.cells #[.bool rp, .int .u32 x4, .int .u32 x12, .int .u32 x16, .int .u32 x20, .int .u8 a28.toNat, .int .u8 a29.toNat, .int .u8 a30.toNat, .int .u8 a31.toNat, .int .u8 a32.toNat, .int .u8 a33.toNat, .slice none 0 0] 56 (0, 0)) := (g14.block _ (lt_of_block (unhide E13)) (fun q => hneV (by simpa using q))).trans (unhide E13)
  have H14 := hide k14
  have G14 := hide (grown_trans (unhide G13) g14)
  have R14 := hide hr
  have E14 := hide he
  clear hr k14 g14 H13 G13 R13 he E13
  go_wp2_with fail
  refine (unhide T14 _ (unhide H14)).mono ?_
  rintro ee w99 ⟨rfl, k99, g99⟩
  have G99 := hide (grown_trans (unhide G14) g99)
  clear k99 g99
  go_wp2_with fail
  refine (must_else _ (by have q := hne; rw [← ByteArray.toList_eq] at q; simpa using q) _ _).mono ?_
  rintro ee wz ⟨rfl, hwz⟩
  exact ⟨rfl, rfl, by rw [hwz]; exact unhide G99⟩

/-- what the reader of a message answers, its head being right -/
def DhPost (l : List UInt8) (host file : ByteArray) (B : Nat) (w : World) (val : Value → Value) (e : Ending) (w' : World) : Prop :=
  w.grownBy w' (some B) ∧ (if optK l host.data.toList file.data.toList = 0 then ∃ ao cp, e = .returned (val (.slice ao (optL l host.data.toList file.data.toList).length cp)) ∧ w'.ownsRow w.heap.size 53 2 (.slice ao (optL l host.data.toList file.data.toList).length cp) (optL l host.data.toList file.data.toList).length (cellsO (optL l host.data.toList file.data.toList)) else e = .panicked (errP (optK l host.data.toList file.data.toList)))

set_option maxHeartbeats 1600000 in
set_option maxRecDepth 10000 in
theorem dhcp_all (B : Nat) (a0 a3 a4 a5 a6 a7 a8 a9 a10 a11 a12 a13 a14 a15 a16 a17 a18 a19 a20 a21 a22 a23 a24 a25 a26 a27 a28 a29 a30 a31 a32 a33 : UInt8) (m m1 m2 m3 m4 : List UInt8) (s1 sh sf sc : ByteArray) (w : World) (h : Rdr w B (a0 :: 1 :: 6 :: a3 :: a4 :: a5 :: a6 :: a7 :: a8 :: a9 :: a10 :: a11 :: a12 :: a13 :: a14 :: a15 :: a16 :: a17 :: a18 :: a19 :: a20 :: a21 :: a22 :: a23 :: a24 :: a25 :: a26 :: a27 :: a28 :: a29 :: a30 :: a31 :: a32 :: a33 :: m)) (hs : (a0 :: 1 :: 6 :: a3 :: a4 :: a5 :: a6 :: a7 :: a8 :: a9 :: a10 :: a11 :: a12 :: a13 :: a14 :: a15 :: a16 :: a17 :: a18 :: a19 :: a20 :: a21 :: a22 :: a23 :: a24 :: a25 :: a26 :: a27 :: a28 :: a29 :: a30 :: a31 :: a32 :: a33 :: m).length ≤ 1048576) (e1 : m = s1.data.toList ++ m1) (e2 : m1 = sh.data.toList ++ m2) (e3 : m2 = sf.data.toList ++ m3) (e4 : m3 = sc.data.toList ++ m4) (z1 : s1.size = 10) (z2 : sh.size = 64) (z3 : sf.size = 128) (z4 : sc.size = 4) (rp : Bool) (hop : ((a0.toNat : Int) == 1 || (a0.toNat : Int) == 2) = true) (hrp : ((a0.toNat : Int) == 2) = rp) (heq : sc.data.toList = [99, 130, 83, 99]) :
    Calls Tryz.prog 74 #[.pointer (some ⟨B, 0, none⟩)] w fun ee w' => DhPost m4 sh sf B w (fun v => .agg #[.bool rp, .int .u32 (16777216 * (a4.toNat : Int) + 65536 * (a5.toNat : Int) + 256 * (a6.toNat : Int) + (a7.toNat : Int)), .int .u32 (16777216 * (a12.toNat : Int) + 65536 * (a13.toNat : Int) + 256 * (a14.toNat : Int) + (a15.toNat : Int)), .int .u32 (16777216 * (a16.toNat : Int) + 65536 * (a17.toNat : Int) + 256 * (a18.toNat : Int) + (a19.toNat : Int)), .int .u32 (16777216 * (a20.toNat : Int) + 65536 * (a21.toNat : Int) + 256 * (a22.toNat : Int) + (a23.toNat : Int)), .int .u8 a28.toNat, .int .u8 a29.toNat, .int .u8 a30.toNat, .int .u8 a31.toNat, .int .u8 a32.toNat, .int .u8 a33.toNat, v]) ee w' := by
  have HEQ := hide heq
  clear heq
  have hB := h.lt
  have hne0 : w.heap.size ≠ B := by omega
  have H0 := hide (h.alloc (.cells #[.bool false, .int .u32 0, .int .u32 0, .int .u32 0, .int .u32 0, .int .u8 0, .int .u8 0, .int .u8 0, .int .u8 0, .int .u8 0, .int .u8 0, .slice none 0 0] 56))
  have G0 := hide (grown_alloc (grown_refl w (some B)) (.cells #[.bool false, .int .u32 0, .int .u32 0, .int .u32 0, .int .u32 0, .int .u8 0, .int .u8 0, .int .u8 0, .int .u8 0, .int .u8 0, .int .u8 0, .slice none 0 0] 56))
  have R0 : Hid ((w.alloc (.cells #[.bool false, .int .u32 0, .int .u32 0, .int .u32 0, .int .u32 0, .int .u8 0, .int .u8 0, .int .u8 0, .int .u8 0, .int .u8 0, .int .u8 0, .slice none 0 0] 56)).heap[w.heap.size]? = some (.cells #[.bool false, .int .u32 0, .int .u32 0, .int .u32 0, .int .u32 0, .int .u8 0, .int .u8 0, .int .u8 0, .int .u8 0, .int .u8 0, .int .u8 0, .slice none 0 0] 56 (0, 0))) := heap_alloc_new w _
  have ls : m.length = 206 + m4.length ∧ m1.length = 196 + m4.length ∧ m2.length = 132 + m4.length ∧ m3.length = 4 + m4.length := lens e1 e2 e3 e4 z1 z2 z3 z4
  obtain ⟨l0, l1, l2, l3⟩ := ls
  have hsm : m4.length ≤ 1048400 := by simp only [List.length_cons] at hs; omega
  have HN0 := hide (show (240 : Int) ≤ ((a0 :: 1 :: 6 :: a3 :: a4 :: a5 :: a6 :: a7 :: a8 :: a9 :: a10 :: a11 :: a12 :: a13 :: a14 :: a15 :: a16 :: a17 :: a18 :: a19 :: a20 :: a21 :: a22 :: a23 :: a24 :: a25 :: a26 :: a27 :: a28 :: a29 :: a30 :: a31 :: a32 :: a33 :: m).length : Int) by simp only [List.length_cons]; omega)
  clear h
  have T1 := hide (fun u hu => op_ok B a0 (1 :: 6 :: a3 :: a4 :: a5 :: a6 :: a7 :: a8 :: a9 :: a10 :: a11 :: a12 :: a13 :: a14 :: a15 :: a16 :: a17 :: a18 :: a19 :: a20 :: a21 :: a22 :: a23 :: a24 :: a25 :: a26 :: a27 :: a28 :: a29 :: a30 :: a31 :: a32 :: a33 :: m) u hu (by simp only [List.length_cons, maxLen]; omega) hop)
  have T2 := hide (fun u hu => take2_ok B 1 6 (a3 :: a4 :: a5 :: a6 :: a7 :: a8 :: a9 :: a10 :: a11 :: a12 :: a13 :: a14 :: a15 :: a16 :: a17 :: a18 :: a19 :: a20 :: a21 :: a22 :: a23 :: a24 :: a25 :: a26 :: a27 :: a28 :: a29 :: a30 :: a31 :: a32 :: a33 :: m) u hu (by simp only [List.length_cons, maxLen]; omega))
  have T3 := hide (fun u hu => byte_ok B a3 (a4 :: a5 :: a6 :: a7 :: a8 :: a9 :: a10 :: a11 :: a12 :: a13 :: a14 :: a15 :: a16 :: a17 :: a18 :: a19 :: a20 :: a21 :: a22 :: a23 :: a24 :: a25 :: a26 :: a27 :: a28 :: a29 :: a30 :: a31 :: a32 :: a33 :: m) u hu (by simp only [List.length_cons, maxLen]; omega))
  have T4 := hide (fun u hu => long_ok B a4 a5 a6 a7 (a8 :: a9 :: a10 :: a11 :: a12 :: a13 :: a14 :: a15 :: a16 :: a17 :: a18 :: a19 :: a20 :: a21 :: a22 :: a23 :: a24 :: a25 :: a26 :: a27 :: a28 :: a29 :: a30 :: a31 :: a32 :: a33 :: m) u hu (by simp only [List.length_cons, maxLen]; omega))
  have T5 := hide (fun u hu => long_ok B a8 a9 a10 a11 (a12 :: a13 :: a14 :: a15 :: a16 :: a17 :: a18 :: a19 :: a20 :: a21 :: a22 :: a23 :: a24 :: a25 :: a26 :: a27 :: a28 :: a29 :: a30 :: a31 :: a32 :: a33 :: m) u hu (by simp only [List.length_cons, maxLen]; omega))
  have T6 := hide (fun u hu => address_ok B a12 a13 a14 a15 (a16 :: a17 :: a18 :: a19 :: a20 :: a21 :: a22 :: a23 :: a24 :: a25 :: a26 :: a27 :: a28 :: a29 :: a30 :: a31 :: a32 :: a33 :: m) u hu (by simp only [List.length_cons, maxLen]; omega))
  have T7 := hide (fun u hu => address_ok B a16 a17 a18 a19 (a20 :: a21 :: a22 :: a23 :: a24 :: a25 :: a26 :: a27 :: a28 :: a29 :: a30 :: a31 :: a32 :: a33 :: m) u hu (by simp only [List.length_cons, maxLen]; omega))
  have T8 := hide (fun u hu => address_ok B a20 a21 a22 a23 (a24 :: a25 :: a26 :: a27 :: a28 :: a29 :: a30 :: a31 :: a32 :: a33 :: m) u hu (by simp only [List.length_cons, maxLen]; omega))
  have T9 := hide (fun u hu => address_ok B a24 a25 a26 a27 (a28 :: a29 :: a30 :: a31 :: a32 :: a33 :: m) u hu (by simp only [List.length_cons, maxLen]; omega))
  have T10 := hide (fun u hu => card_ok B a28 a29 a30 a31 a32 a33 (m) u hu (by simp only [List.length_cons, maxLen]; omega))
  have T11 := hide (fun u hu => takeB_ok B 10 s1 m1 m u hu e1 z1 (by simp only [maxLen]; omega))
  have T12 := hide (fun u hu => takeB_ok B 64 sh m2 m1 u hu e2 z2 (by simp only [maxLen]; omega))
  have T13 := hide (fun u hu => takeB_ok B 128 sf m3 m2 u hu e3 z3 (by simp only [maxLen]; omega))
  have T14 := hide (fun u hu => takeB_ok B 4 sc m4 m3 u hu e4 z4 (by simp only [maxLen]; omega))
  obtain ⟨x4, hx4⟩ : ∃ x, x = 16777216 * (a4.toNat : Int) + 65536 * (a5.toNat : Int) + 256 * (a6.toNat : Int) + (a7.toNat : Int) := ⟨_, rfl⟩
  obtain ⟨x12, hx12⟩ : ∃ x, x = 16777216 * (a12.toNat : Int) + 65536 * (a13.toNat : Int) + 256 * (a14.toNat : Int) + (a15.toNat : Int) := ⟨_, rfl⟩
  obtain ⟨x16, hx16⟩ : ∃ x, x = 16777216 * (a16.toNat : Int) + 65536 * (a17.toNat : Int) + 256 * (a18.toNat : Int) + (a19.toNat : Int) := ⟨_, rfl⟩
  obtain ⟨x20, hx20⟩ : ∃ x, x = 16777216 * (a20.toNat : Int) + 65536 * (a21.toNat : Int) + 256 * (a22.toNat : Int) + (a23.toNat : Int) := ⟨_, rfl⟩
  rw [← hx4] at T4
  have HX4 := hide hx4
  clear hx4
  rw [← hx12] at T6
  have HX12 := hide hx12
  clear hx12
  rw [← hx16] at T7
  have HX16 := hide hx16
  clear hx16
  rw [← hx20] at T8
  have HX20 := hide hx20
  clear hx20
  have z0 : (w.alloc (.cells #[.bool false, .int .u32 0, .int .u32 0, .int .u32 0, .int .u32 0, .int .u8 0, .int .u8 0, .int .u8 0, .int .u8 0, .int .u8 0, .int .u8 0, .slice none 0 0] 56)).heap.size = w.heap.size + 1 := by simp
  have hneV : w.heap.size + 1 ≠ B := by omega
  have hlt0 : w.heap.size < w.heap.size + 1 := by omega
  have H1 := hide ((unhide H0).alloc (.cells #[.bool false, .int .u32 0, .int .u32 0, .int .u32 0, .int .u32 0, .int .u8 0, .int .u8 0, .int .u8 0, .int .u8 0, .int .u8 0, .int .u8 0, .slice none 0 0] 56))
  have G1 := hide (grown_alloc (unhide G0) (.cells #[.bool false, .int .u32 0, .int .u32 0, .int .u32 0, .int .u32 0, .int .u8 0, .int .u8 0, .int .u8 0, .int .u8 0, .int .u8 0, .int .u8 0, .slice none 0 0] 56))
  have E1 : Hid (((w.alloc (.cells #[.bool false, .int .u32 0, .int .u32 0, .int .u32 0, .int .u32 0, .int .u8 0, .int .u8 0, .int .u8 0, .int .u8 0, .int .u8 0, .int .u8 0, .slice none 0 0] 56)).alloc (.cells #[.bool false, .int .u32 0, .int .u32 0, .int .u32 0, .int .u32 0, .int .u8 0, .int .u8 0, .int .u8 0, .int .u8 0, .int .u8 0, .int .u8 0, .slice none 0 0] 56)).heap[w.heap.size + 1]? = some (.cells #[.bool false, .int .u32 0, .int .u32 0, .int .u32 0, .int .u32 0, .int .u8 0, .int .u8 0, .int .u8 0, .int .u8 0, .int .u8 0, .int .u8 0, .slice none 0 0] 56 (0, 0))) := hide (by have q := heap_alloc_new (w.alloc (.cells #[.bool false, .int .u32 0, .int .u32 0, .int .u32 0, .int .u32 0, .int .u8 0, .int .u8 0, .int .u8 0, .int .u8 0, .int .u8 0, .int .u8 0, .slice none 0 0] 56)) (.cells #[.bool false, .int .u32 0, .int .u32 0, .int .u32 0, .int .u32 0, .int .u8 0, .int .u8 0, .int .u8 0, .int .u8 0, .int .u8 0, .int .u8 0, .slice none 0 0] 56); rw [z0] at q; exact q)
  have R1 : Hid (((w.alloc (.cells #[.bool false, .int .u32 0, .int .u32 0, .int .u32 0, .int .u32 0, .int .u8 0, .int .u8 0, .int .u8 0, .int .u8 0, .int .u8 0, .int .u8 0, .slice none 0 0] 56)).alloc (.cells #[.bool false, .int .u32 0, .int .u32 0, .int .u32 0, .int .u32 0, .int .u8 0, .int .u8 0, .int .u8 0, .int .u8 0, .int .u8 0, .int .u8 0, .slice none 0 0] 56)).heap[w.heap.size]? = some (.cells #[.bool false, .int .u32 0, .int .u32 0, .int .u32 0, .int .u32 0, .int .u8 0, .int .u8 0, .int .u8 0, .int .u8 0, .int .u8 0, .int .u8 0, .slice none 0 0] 56 (0, 0))) := hide (by rw [Below.heap_alloc _ _ _ (by omega)]; exact unhide R0)
  clear R0 z0
  have HZ2 := hide z2
  have HZ3 := hide z3
  clear e1 e2 e3 e4 z1 z2 z3 z4 l0 l1 l2 l3
  clear hop
  go_enter Tryz.func74, Tryz.ntmps74
  go_wp2_with fail
  refine (need_ok _ _ _ _ (unhide H0) (unhide HN0)).mono ?_
  rintro ee wz ⟨rfl, hwz⟩
  rw [hwz]
  clear hwz wz
  clear H0 G0
  go_wp2_with fail
  refine (unhide T1 _ (unhide H1)).mono ?_
  rintro ee w2 ⟨rfl, k2, g2⟩
  have hr : w2.heap[w.heap.size]? = some (.cells #[.bool false, .int .u32 0, .int .u32 0, .int .u32 0, .int .u32 0, .int .u8 0, .int .u8 0, .int .u8 0, .int .u8 0, .int .u8 0, .int .u8 0, .slice none 0 0] 56 (0, 0)) := (g2.block _ (lt_of_block (unhide R1)) (fun q => hne0 (by simpa using q))).trans (unhide R1)
  have he : w2.heap[w.heap.size + 1]? = some (.cells #[.bool false, .int .u32 0, .int .u32 0, .int .u32 0, .int .u32 0, .int .u8 0, .int .u8 0, .int .u8 0, .int .u8 0, .int .u8 0, .int .u8 0, .slice none 0 0] 56 (0, 0)) := (g2.block _ (lt_of_block (unhide E1)) (fun q => hneV (by simpa using q))).trans (unhide E1)
  have c2_0 : w2.cell? ⟨w.heap.size + 1, 0, none⟩ = some (.bool false) := row_cell he rfl
  have f2 := row_free he
  have E2 : Hid ((w2.setCell ⟨w.heap.size + 1, 0, none⟩ (.bool rp)).heap[w.heap.size + 1]? = some (.cells #[.bool rp, .int .u32 0, .int .u32 0, .int .u32 0, .int .u32 0, .int .u8 0, .int .u8 0, .int .u8 0, .int .u8 0, .int .u8 0, .int .u8 0, .slice none 0 0] 56 (0, 0))) := row_set he 0 (.bool rp)
  have H2 : Hid (Rdr (w2.setCell ⟨w.heap.size + 1, 0, none⟩ (.bool rp)) B (1 :: 6 :: a3 :: a4 :: a5 :: a6 :: a7 :: a8 :: a9 :: a10 :: a11 :: a12 :: a13 :: a14 :: a15 :: a16 :: a17 :: a18 :: a19 :: a20 :: a21 :: a22 :: a23 :: a24 :: a25 :: a26 :: a27 :: a28 :: a29 :: a30 :: a31 :: a32 :: a33 :: m)) := other k2 hneV.symm _
  have G2 : Hid (w.grownBy (w2.setCell ⟨w.heap.size + 1, 0, none⟩ (.bool rp)) (some B)) := grown_new (grown_trans (unhide G1) g2) (Nat.le_of_lt hlt0) _
  have R2 : Hid ((w2.setCell ⟨w.heap.size + 1, 0, none⟩ (.bool rp)).heap[w.heap.size]? = some (.cells #[.bool false, .int .u32 0, .int .u32 0, .int .u32 0, .int .u32 0, .int .u8 0, .int .u8 0, .int .u8 0, .int .u8 0, .int .u8 0, .int .u8 0, .slice none 0 0] 56 (0, 0))) := by
    show _ = _
    rw [Below.heap_setCell _ _ _ _ (Nat.ne_of_lt hlt0)]; exact hr
  clear hr k2 g2 H1 G1 R1 he E1
  go_wp2_with fail
  refine (unhide T2 _ (unhide H2)).mono ?_
  rintro ee w3 ⟨rfl, k3, g3⟩
  have hr : w3.heap[w.heap.size]? = some (.cells #[.bool false, .int .u32 0, .int .u32 0, .int .u32 0, .int .u32 0, .int .u8 0, .int .u8 0, .int .u8 0, .int .u8 0, .int .u8 0, .int .u8 0, .slice none 0 0] 56 (0, 0)) := (g3.block _ (lt_of_block (unhide R2)) (fun q => hne0 (by simpa using q))).trans (unhide R2)
  have he : w3.heap[w.heap.size + 1]? = some (.cells #[.bool rp, .int .u32 0, .int .u32 0, .int .u32 0, .int .u32 0, .int .u8 0, .int .u8 0, .int .u8 0, .int .u8 0, .int .u8 0, .int .u8 0, .slice none 0 0] 56 (0, 0)) := (g3.block _ (lt_of_block (unhide E2)) (fun q => hneV (by simpa using q))).trans (unhide E2)
  have H3 := hide k3
  have G3 := hide (grown_trans (unhide G2) g3)
  have R3 := hide hr
  have E3 := hide he
  clear hr k3 g3 H2 G2 R2 he E2
  go_wp2_with fail
  refine (must_if _ (by simp) _ _).mono ?_
  rintro ee wz ⟨rfl, hwz⟩
  rw [hwz]
  clear hwz wz
  go_wp2_with fail
  refine (unhide T3 _ (unhide H3)).mono ?_
  rintro ee w4 ⟨rfl, k4, g4⟩
  have hr : w4.heap[w.heap.size]? = some (.cells #[.bool false, .int .u32 0, .int .u32 0, .int .u32 0, .int .u32 0, .int .u8 0, .int .u8 0, .int .u8 0, .int .u8 0, .int .u8 0, .int .u8 0, .slice none 0 0] 56 (0, 0)) := (g4.block _ (lt_of_block (unhide R3)) (fun q => hne0 (by simpa using q))).trans (unhide R3)
  have he : w4.heap[w.heap.size + 1]? = some (.cells #[.bool rp, .int .u32 0, .int .u32 0, .int .u32 0, .int .u32 0, .int .u8 0, .int .u8 0, .int .u8 0, .int .u8 0, .int .u8 0, .int .u8 0, .slice none 0 0] 56 (0, 0)) := (g4.block _ (lt_of_block (unhide E3)) (fun q => hneV (by simpa using q))).trans (unhide E3)
  have H4 := hide k4
  have G4 := hide (grown_trans (unhide G3) g4)
  have R4 := hide hr
  have E4 := hide he
  clear hr k4 g4 H3 G3 R3 he E3
  go_wp2_with fail
  refine (unhide T4 _ (unhide H4)).mono ?_
  rintro ee w5 ⟨rfl, k5, g5⟩
  have hr : w5.heap[w.heap.size]? = some (.cells #[.bool false, .int .u32 0, .int .u32 0, .int .u32 0, .int .u32 0, .int .u8 0, .int .u8 0, .int .u8 0, .int .u8 0, .int .u8 0, .int .u8 0, .slice none 0 0] 56 (0, 0)) := (g5.block _ (lt_of_block (unhide R4)) (fun q => hne0 (by simpa using q))).trans (unhide R4)
  have he : w5.heap[w.heap.size + 1]? = some (.cells #[.bool rp, .int .u32 0, .int .u32 0, .int .u32 0, .int .u32 0, .int .u8 0, .int .u8 0, .int .u8 0, .int .u8 0, .int .u8 0, .int .u8 0, .slice none 0 0] 56 (0, 0)) := (g5.block _ (lt_of_block (unhide E4)) (fun q => hneV (by simpa using q))).trans (unhide E4)
  have c5_1 : w5.cell? ⟨w.heap.size + 1, 1, none⟩ = some (.int .u32 0) := row_cell he rfl
  have f5 := row_free he
  have E5 : Hid ((w5.setCell ⟨w.heap.size + 1, 1, none⟩ (.int .u32 x4)).heap[w.heap.size + 1]? = some (.cells #[.bool rp, .int .u32 x4, .int .u32 0, .int .u32 0, .int .u32 0, .int .u8 0, .int .u8 0, .int .u8 0, .int .u8 0, .int .u8 0, .int .u8 0, .slice none 0 0] 56 (0, 0))) := row_set he 1 (.int .u32 x4)
  have H5 : Hid (Rdr (w5.setCell ⟨w.heap.size + 1, 1, none⟩ (.int .u32 x4)) B (a8 :: a9 :: a10 :: a11 :: a12 :: a13 :: a14 :: a15 :: a16 :: a17 :: a18 :: a19 :: a20 :: a21 :: a22 :: a23 :: a24 :: a25 :: a26 :: a27 :: a28 :: a29 :: a30 :: a31 :: a32 :: a33 :: m)) := other k5 hneV.symm _
  have G5 : Hid (w.grownBy (w5.setCell ⟨w.heap.size + 1, 1, none⟩ (.int .u32 x4)) (some B)) := grown_new (grown_trans (unhide G4) g5) (Nat.le_of_lt hlt0) _
  have R5 : Hid ((w5.setCell ⟨w.heap.size + 1, 1, none⟩ (.int .u32 x4)).heap[w.heap.size]? = some (.cells #[.bool false, .int .u32 0, .int .u32 0, .int .u32 0, .int .u32 0, .int .u8 0, .int .u8 0, .int .u8 0, .int .u8 0, .int .u8 0, .int .u8 0, .slice none 0 0] 56 (0, 0))) := by
    show _ = _
    rw [Below.heap_setCell _ _ _ _ (Nat.ne_of_lt hlt0)]; exact hr
  clear hr k5 g5 H4 G4 R4 he E4
  go_wp2_with fail
  refine (unhide T5 _ (unhide H5)).mono ?_
  rintro ee w6 ⟨rfl, k6, g6⟩
  have hr : w6.heap[w.heap.size]? = some (.cells #[.bool false, .int .u32 0, .int .u32 0, .int .u32 0, .int .u32 0, .int .u8 0, .int .u8 0, .int .u8 0, .int .u8 0, .int .u8 0, .int .u8 0, .slice none 0 0] 56 (0, 0)) := (g6.block _ (lt_of_block (unhide R5)) (fun q => hne0 (by simpa using q))).trans (unhide R5)
  have he : w6.heap[w.heap.size + 1]? = some (.cells #[.bool rp, .int .u32 x4, .int .u32 0, .int .u32 0, .int .u32 0, .int .u8 0, .int .u8 0, .int .u8 0, .int .u8 0, .int .u8 0, .int .u8 0, .slice none 0 0] 56 (0, 0)) := (g6.block _ (lt_of_block (unhide E5)) (fun q => hneV (by simpa using q))).trans (unhide E5)
  have H6 := hide k6
  have G6 := hide (grown_trans (unhide G5) g6)
  have R6 := hide hr
  have E6 := hide he
  clear hr k6 g6 H5 G5 R5 he E5
  go_wp2_with fail
  refine (unhide T6 _ (unhide H6)).mono ?_
  rintro ee w7 ⟨rfl, k7, g7⟩
  have hr : w7.heap[w.heap.size]? = some (.cells #[.bool false, .int .u32 0, .int .u32 0, .int .u32 0, .int .u32 0, .int .u8 0, .int .u8 0, .int .u8 0, .int .u8 0, .int .u8 0, .int .u8 0, .slice none 0 0] 56 (0, 0)) := (g7.block _ (lt_of_block (unhide R6)) (fun q => hne0 (by simpa using q))).trans (unhide R6)
  have he : w7.heap[w.heap.size + 1]? = some (.cells #[.bool rp, .int .u32 x4, .int .u32 0, .int .u32 0, .int .u32 0, .int .u8 0, .int .u8 0, .int .u8 0, .int .u8 0, .int .u8 0, .int .u8 0, .slice none 0 0] 56 (0, 0)) := (g7.block _ (lt_of_block (unhide E6)) (fun q => hneV (by simpa using q))).trans (unhide E6)
  have c7_2 : w7.cell? ⟨w.heap.size + 1, 2, none⟩ = some (.int .u32 0) := row_cell he rfl
  have f7 := row_free he
  have E7 : Hid ((w7.setCell ⟨w.heap.size + 1, 2, none⟩ (.int .u32 x12)).heap[w.heap.size + 1]? = some (.cells #[.bool rp, .int .u32 x4, .int .u32 x12, .int .u32 0, .int .u32 0, .int .u8 0, .int .u8 0, .int .u8 0, .int .u8 0, .int .u8 0, .int .u8 0, .slice none 0 0] 56 (0, 0))) := row_set he 2 (.int .u32 x12)
  have H7 : Hid (Rdr (w7.setCell ⟨w.heap.size + 1, 2, none⟩ (.int .u32 x12)) B (a16 :: a17 :: a18 :: a19 :: a20 :: a21 :: a22 :: a23 :: a24 :: a25 :: a26 :: a27 :: a28 :: a29 :: a30 :: a31 :: a32 :: a33 :: m)) := other k7 hneV.symm _
  have G7 : Hid (w.grownBy (w7.setCell ⟨w.heap.size + 1, 2, none⟩ (.int .u32 x12)) (some B)) := grown_new (grown_trans (unhide G6) g7) (Nat.le_of_lt hlt0) _
  have R7 : Hid ((w7.setCell ⟨w.heap.size + 1, 2, none⟩ (.int .u32 x12)).heap[w.heap.size]? = some (.cells #[.bool false, .int .u32 0, .int .u32 0, .int .u32 0, .int .u32 0, .int .u8 0, .int .u8 0, .int .u8 0, .int .u8 0, .int .u8 0, .int .u8 0, .slice none 0 0] 56 (0, 0))) := by
    show _ = _
    rw [Below.heap_setCell _ _ _ _ (Nat.ne_of_lt hlt0)]; exact hr
  clear hr k7 g7 H6 G6 R6 he E6
  go_wp2_with fail
  refine (unhide T7 _ (unhide H7)).mono ?_
  rintro ee w8 ⟨rfl, k8, g8⟩
  have hr : w8.heap[w.heap.size]? = some (.cells #[.bool false, .int .u32 0, .int .u32 0, .int .u32 0, .int .u32 0, .int .u8 0, .int .u8 0, .int .u8 0, .int .u8 0, .int .u8 0, .int .u8 0, .slice none 0 0] 56 (0, 0)) := (g8.block _ (lt_of_block (unhide R7)) (fun q => hne0 (by simpa using q))).trans (unhide R7)
  have he : w8.heap[w.heap.size + 1]? = some (.cells #[.bool rp, .int .u32 x4, .int .u32 x12, .int .u32 0, .int .u32 0, .int .u8 0, .int .u8 0, .int .u8 0, .int .u8 0, .int .u8 0, .int .u8 0, .slice none 0 0] 56 (0, 0)) := (g8.block _ (lt_of_block (unhide E7)) (fun q => hneV (by simpa using q))).trans (unhide E7)
  have c8_3 : w8.cell? ⟨w.heap.size + 1, 3, none⟩ = some (.int .u32 0) := row_cell he rfl
  have f8 := row_free he
  have E8 : Hid ((w8.setCell ⟨w.heap.size + 1, 3, none⟩ (.int .u32 x16)).heap[w.heap.size + 1]? = some (.cells #[.bool rp, .int .u32 x4, .int .u32 x12, .int .u32 x16, .int .u32 0, .int .u8 0, .int .u8 0, .int .u8 0, .int .u8 0, .int .u8 0, .int .u8 0, .slice none 0 0] 56 (0, 0))) := row_set he 3 (.int .u32 x16)
  have H8 : Hid (Rdr (w8.setCell ⟨w.heap.size + 1, 3, none⟩ (.int .u32 x16)) B (a20 :: a21 :: a22 :: a23 :: a24 :: a25 :: a26 :: a27 :: a28 :: a29 :: a30 :: a31 :: a32 :: a33 :: m)) := other k8 hneV.symm _
  have G8 : Hid (w.grownBy (w8.setCell ⟨w.heap.size + 1, 3, none⟩ (.int .u32 x16)) (some B)) := grown_new (grown_trans (unhide G7) g8) (Nat.le_of_lt hlt0) _
  have R8 : Hid ((w8.setCell ⟨w.heap.size + 1, 3, none⟩ (.int .u32 x16)).heap[w.heap.size]? = some (.cells #[.bool false, .int .u32 0, .int .u32 0, .int .u32 0, .int .u32 0, .int .u8 0, .int .u8 0, .int .u8 0, .int .u8 0, .int .u8 0, .int .u8 0, .slice none 0 0] 56 (0, 0))) := by
    show _ = _
    rw [Below.heap_setCell _ _ _ _ (Nat.ne_of_lt hlt0)]; exact hr
  clear hr k8 g8 H7 G7 R7 he E7
  go_wp2_with fail
  refine (unhide T8 _ (unhide H8)).mono ?_
  rintro ee w9 ⟨rfl, k9, g9⟩
  have hr : w9.heap[w.heap.size]? = some (.cells #[.bool false, .int .u32 0, .int .u32 0, .int .u32 0, .int .u32 0, .int .u8 0, .int .u8 0, .int .u8 0, .int .u8 0, .int .u8 0, .int .u8 0, .slice none 0 0] 56 (0, 0)) := (g9.block _ (lt_of_block (unhide R8)) (fun q => hne0 (by simpa using q))).trans (unhide R8)
  have he : w9.heap[w.heap.size + 1]? = some (.cells #[.bool rp, .int .u32 x4, .int .u32 x12, .int .u32 x16, .int .u32 0, .int .u8 0, .int .u8 0, .int .u8 0, .int .u8 0, .int .u8 0, .int .u8 0, .slice none 0 0] 56 (0, 0)) := (g9.block _ (lt_of_block (unhide E8)) (fun q => hneV (by simpa using q))).trans (unhide E8)
  have c9_4 : w9.cell? ⟨w.heap.size + 1, 4, none⟩ = some (.int .u32 0) := row_cell he rfl
  have f9 := row_free he
  have E9 : Hid ((w9.setCell ⟨w.heap.size + 1, 4, none⟩ (.int .u32 x20)).heap[w.heap.size + 1]? = some (.cells #[.bool rp, .int .u32 x4, .int .u32 x12, .int .u32 x16, .int .u32 x20, .int .u8 0, .int .u8 0, .int .u8 0, .int .u8 0, .int .u8 0, .int .u8 0, .slice none 0 0] 56 (0, 0))) := row_set he 4 (.int .u32 x20)
  have H9 : Hid (Rdr (w9.setCell ⟨w.heap.size + 1, 4, none⟩ (.int .u32 x20)) B (a24 :: a25 :: a26 :: a27 :: a28 :: a29 :: a30 :: a31 :: a32 :: a33 :: m)) := other k9 hneV.symm _
  have G9 : Hid (w.grownBy (w9.setCell ⟨w.heap.size + 1, 4, none⟩ (.int .u32 x20)) (some B)) := grown_new (grown_trans (unhide G8) g9) (Nat.le_of_lt hlt0) _
  have R9 : Hid ((w9.setCell ⟨w.heap.size + 1, 4, none⟩ (.int .u32 x20)).heap[w.heap.size]? = some (.cells #[.bool false, .int .u32 0, .int .u32 0, .int .u32 0, .int .u32 0, .int .u8 0, .int .u8 0, .int .u8 0, .int .u8 0, .int .u8 0, .int .u8 0, .slice none 0 0] 56 (0, 0))) := by
    show _ = _
    rw [Below.heap_setCell _ _ _ _ (Nat.ne_of_lt hlt0)]; exact hr
  clear hr k9 g9 H8 G8 R8 he E8
  go_wp2_with fail
  refine (unhide T9 _ (unhide H9)).mono ?_
  rintro ee w10 ⟨rfl, k10, g10⟩
  have hr : w10.heap[w.heap.size]? = some (.cells #[.bool false, .int .u32 0, .int .u32 0, .int .u32 0, .int .u32 0, .int .u8 0, .int .u8 0, .int .u8 0, .int .u8 0, .int .u8 0, .int .u8 0, .slice none 0 0] 56 (0, 0)) := (g10.block _ (lt_of_block (unhide R9)) (fun q => hne0 (by simpa using q))).trans (unhide R9)
  have he : w10.heap[w.heap.size + 1]? = some (.cells #[.bool rp, .int .u32 x4, .int .u32 x12, .int .u32 x16, .int .u32 x20, .int .u8 0, .int .u8 0, .int .u8 0, .int .u8 0, .int .u8 0, .int .u8 0, .slice none 0 0] 56 (0, 0)) := (g10.block _ (lt_of_block (unhide E9)) (fun q => hneV (by simpa using q))).trans (unhide E9)
  have H10 := hide k10
  have G10 := hide (grown_trans (unhide G9) g10)
  have R10 := hide hr
  have E10 := hide he
  clear hr k10 g10 H9 G9 R9 he E9
  go_wp2_with fail
  refine (unhide T10 _ (unhide H10)).mono ?_
  rintro ee w11 ⟨rfl, k11, g11⟩
  have hr : w11.heap[w.heap.size]? = some (.cells #[.bool false, .int .u32 0, .int .u32 0, .int .u32 0, .int .u32 0, .int .u8 0, .int .u8 0, .int .u8 0, .int .u8 0, .int .u8 0, .int .u8 0, .slice none 0 0] 56 (0, 0)) := (g11.block _ (lt_of_block (unhide R10)) (fun q => hne0 (by simpa using q))).trans (unhide R10)
  have he : w11.heap[w.heap.size + 1]? = some (.cells #[.bool rp, .int .u32 x4, .int .u32 x12, .int .u32 x16, .int .u32 x20, .int .u8 0, .int .u8 0, .int .u8 0, .int .u8 0, .int .u8 0, .int .u8 0, .slice none 0 0] 56 (0, 0)) := (g11.block _ (lt_of_block (unhide E10)) (fun q => hneV (by simpa using q))).trans (unhide E10)
  have c11_5 : w11.cell? ⟨w.heap.size + 1, 5, none⟩ = some (.int .u8 0) := row_cell he rfl
  have c11_6 : w11.cell? ⟨w.heap.size + 1, 6, none⟩ = some (.int .u8 0) := row_cell he rfl
  have c11_7 : w11.cell? ⟨w.heap.size + 1, 7, none⟩ = some (.int .u8 0) := row_cell he rfl
  have c11_8 : w11.cell? ⟨w.heap.size + 1, 8, none⟩ = some (.int .u8 0) := row_cell he rfl
  have c11_9 : w11.cell? ⟨w.heap.size + 1, 9, none⟩ = some (.int .u8 0) := row_cell he rfl
  have c11_10 : w11.cell? ⟨w.heap.size + 1, 10, none⟩ = some (.int .u8 0) := row_cell he rfl
  have f11 := row_free he
  have e11_0 : (w11.setCell ⟨w.heap.size + 1, 5, none⟩ (.int .u8 a28.toNat)).heap[w.heap.size + 1]? = some (.cells #[.bool rp, .int .u32 x4, .int .u32 x12, .int .u32 x16, .int .u32 x20, .int .u8 a28.toNat, .int .u8 0, .int .u8 0, .int .u8 0, .int .u8 0, .int .u8 0, .slice none 0 0] 56 (0, 0)) := row_set he 5 (.int .u8 a28.toNat)
  have e11_1 : ((w11.setCell ⟨w.heap.size + 1, 5, none⟩ (.int .u8 a28.toNat)).setCell ⟨w.heap.size + 1, 6, none⟩ (.int .u8 a29.toNat)).heap[w.heap.size + 1]? = some (.cells #[.bool rp, .int .u32 x4, .int .u32 x12, .int .u32 x16, .int .u32 x20, .int .u8 a28.toNat, .int .u8 a29.toNat, .int .u8 0, .int .u8 0, .int .u8 0, .int .u8 0, .slice none 0 0] 56 (0, 0)) := row_set e11_0 6 (.int .u8 a29.toNat)
  have e11_2 : (((w11.setCell ⟨w.heap.size + 1, 5, none⟩ (.int .u8 a28.toNat)).setCell ⟨w.heap.size + 1, 6, none⟩ (.int .u8 a29.toNat)).setCell ⟨w.heap.size + 1, 7, none⟩ (.int .u8 a30.toNat)).heap[w.heap.size + 1]? = some (.cells #[.bool rp, .int .u32 x4, .int .u32 x12, .int .u32 x16, .int .u32 x20, .int .u8 a28.toNat, .int .u8 a29.toNat, .int .u8 a30.toNat, .int .u8 0, .int .u8 0, .int .u8 0, .slice none 0 0] 56 (0, 0)) := row_set e11_1 7 (.int .u8 a30.toNat)
  have e11_3 : ((((w11.setCell ⟨w.heap.size + 1, 5, none⟩ (.int .u8 a28.toNat)).setCell ⟨w.heap.size + 1, 6, none⟩ (.int .u8 a29.toNat)).setCell ⟨w.heap.size + 1, 7, none⟩ (.int .u8 a30.toNat)).setCell ⟨w.heap.size + 1, 8, none⟩ (.int .u8 a31.toNat)).heap[w.heap.size + 1]? = some (.cells #[.bool rp, .int .u32 x4, .int .u32 x12, .int .u32 x16, .int .u32 x20, .int .u8 a28.toNat, .int .u8 a29.toNat, .int .u8 a30.toNat, .int .u8 a31.toNat, .int .u8 0, .int .u8 0, .slice none 0 0] 56 (0, 0)) := row_set e11_2 8 (.int .u8 a31.toNat)
  have e11_4 : (((((w11.setCell ⟨w.heap.size + 1, 5, none⟩ (.int .u8 a28.toNat)).setCell ⟨w.heap.size + 1, 6, none⟩ (.int .u8 a29.toNat)).setCell ⟨w.heap.size + 1, 7, none⟩ (.int .u8 a30.toNat)).setCell ⟨w.heap.size + 1, 8, none⟩ (.int .u8 a31.toNat)).setCell ⟨w.heap.size + 1, 9, none⟩ (.int .u8 a32.toNat)).heap[w.heap.size + 1]? = some (.cells #[.bool rp, .int .u32 x4, .int .u32 x12, .int .u32 x16, .int .u32 x20, .int .u8 a28.toNat, .int .u8 a29.toNat, .int .u8 a30.toNat, .int .u8 a31.toNat, .int .u8 a32.toNat, .int .u8 0, .slice none 0 0] 56 (0, 0)) := row_set e11_3 9 (.int .u8 a32.toNat)
  have e11_5 : ((((((w11.setCell ⟨w.heap.size + 1, 5, none⟩ (.int .u8 a28.toNat)).setCell ⟨w.heap.size + 1, 6, none⟩ (.int .u8 a29.toNat)).setCell ⟨w.heap.size + 1, 7, none⟩ (.int .u8 a30.toNat)).setCell ⟨w.heap.size + 1, 8, none⟩ (.int .u8 a31.toNat)).setCell ⟨w.heap.size + 1, 9, none⟩ (.int .u8 a32.toNat)).setCell ⟨w.heap.size + 1, 10, none⟩ (.int .u8 a33.toNat)).heap[w.heap.size + 1]? = some (.cells #[.bool rp, .int .u32 x4, .int .u32 x12, .int .u32 x16, .int .u32 x20, .int .u8 a28.toNat, .int .u8 a29.toNat, .int .u8 a30.toNat, .int .u8 a31.toNat, .int .u8 a32.toNat, .int .u8 a33.toNat, .slice none 0 0] 56 (0, 0)) := row_set e11_4 10 (.int .u8 a33.toNat)
  have E11 := hide e11_5
  have H11 : Hid (Rdr ((((((w11.setCell ⟨w.heap.size + 1, 5, none⟩ (.int .u8 a28.toNat)).setCell ⟨w.heap.size + 1, 6, none⟩ (.int .u8 a29.toNat)).setCell ⟨w.heap.size + 1, 7, none⟩ (.int .u8 a30.toNat)).setCell ⟨w.heap.size + 1, 8, none⟩ (.int .u8 a31.toNat)).setCell ⟨w.heap.size + 1, 9, none⟩ (.int .u8 a32.toNat)).setCell ⟨w.heap.size + 1, 10, none⟩ (.int .u8 a33.toNat)) B (m)) := (other (other (other (other (other (other k11 hneV.symm _) hneV.symm _) hneV.symm _) hneV.symm _) hneV.symm _) hneV.symm _)
  have G11 : Hid (w.grownBy ((((((w11.setCell ⟨w.heap.size + 1, 5, none⟩ (.int .u8 a28.toNat)).setCell ⟨w.heap.size + 1, 6, none⟩ (.int .u8 a29.toNat)).setCell ⟨w.heap.size + 1, 7, none⟩ (.int .u8 a30.toNat)).setCell ⟨w.heap.size + 1, 8, none⟩ (.int .u8 a31.toNat)).setCell ⟨w.heap.size + 1, 9, none⟩ (.int .u8 a32.toNat)).setCell ⟨w.heap.size + 1, 10, none⟩ (.int .u8 a33.toNat)) (some B)) := (grown_new (grown_new (grown_new (grown_new (grown_new (grown_new (grown_trans (unhide G10) g11) (Nat.le_of_lt hlt0) _) (Nat.le_of_lt hlt0) _) (Nat.le_of_lt hlt0) _) (Nat.le_of_lt hlt0) _) (Nat.le_of_lt hlt0) _) (Nat.le_of_lt hlt0) _)
  have R11 : Hid (((((((w11.setCell ⟨w.heap.size + 1, 5, none⟩ (.int .u8 a28.toNat)).setCell ⟨w.heap.size + 1, 6, none⟩ (.int .u8 a29.toNat)).setCell ⟨w.heap.size + 1, 7, none⟩ (.int .u8 a30.toNat)).setCell ⟨w.heap.size + 1, 8, none⟩ (.int .u8 a31.toNat)).setCell ⟨w.heap.size + 1, 9, none⟩ (.int .u8 a32.toNat)).setCell ⟨w.heap.size + 1, 10, none⟩ (.int .u8 a33.toNat)).heap[w.heap.size]? = some (.cells #[.bool false, .int .u32 0, .int .u32 0, .int .u32 0, .int .u32 0, .int .u8 0, .int .u8 0, .int .u8 0, .int .u8 0, .int .u8 0, .int .u8 0, .slice none 0 0] 56 (0, 0))) := by
    show _ = _
    rw [Below.heap_setCell _ _ _ _ (Nat.ne_of_lt hlt0), Below.heap_setCell _ _ _ _ (Nat.ne_of_lt hlt0), Below.heap_setCell _ _ _ _ (Nat.ne_of_lt hlt0), Below.heap_setCell _ _ _ _ (Nat.ne_of_lt hlt0), Below.heap_setCell _ _ _ _ (Nat.ne_of_lt hlt0), Below.heap_setCell _ _ _ _ (Nat.ne_of_lt hlt0)]; exact hr
  clear hr he k11 g11 H10 G10 R10 E10 e11_0 e11_1 e11_2 e11_3 e11_4 e11_5
  go_wp2_with fail
  refine (unhide T11 _ (unhide H11)).mono ?_
  rintro ee w12 ⟨rfl, k12, g12⟩
  have hr : w12.heap[w.heap.size]? = some (.cells #[.bool false, .int .u32 0, .int .u32 0, .int .u32 0, .int .u32 0, .int .u8 0, .int .u8 0, .int .u8 0, .int .u8 0, .int .u8 0, .int .u8 0, .slice none 0 0] 56 (0, 0)) := (g12.block _ (lt_of_block (unhide R11)) (fun q => hne0 (by simpa using q))).trans (unhide R11)
  have he : w12.heap[w.heap.size + 1]? = some (.cells #[.bool rp, .int .u32 x4, .int .u32 x12, .int .u32 x16, .int .u32 x20, .int .u8 a28.toNat, .int .u8 a29.toNat, .int .u8 a30.toNat, .int .u8 a31.toNat, .int .u8 a32.toNat, .int .u8 a33.toNat, .slice none 0 0] 56 (0, 0)) := (g12.block _ (lt_of_block (unhide E11)) (fun q => hneV (by simpa using q))).trans (unhide E11)
  have H12 := hide k12
  have G12 := hide (grown_trans (unhide G11) g12)
  have R12 := hide hr
  have E12 := hide he
  clear hr k12 g12 H11 G11 R11 he E11
  go_wp2_with fail
  refine (unhide T12 _ (unhide H12)).mono ?_
  rintro ee w13 ⟨rfl, k13, g13⟩
  have hr : w13.heap[w.heap.size]? = some (.cells #[.bool false, .int .u32 0, .int .u32 0, .int .u32 0, .int .u32 0, .int .u8 0, .int .u8 0, .int .u8 0, .int .u8 0, .int .u8 0, .int .u8 0, .slice none 0 0] 56 (0, 0)) := (g13.block _ (lt_of_block (unhide R12)) (fun q => hne0 (by simpa using q))).trans (unhide R12)
  have he : w13.heap[w.heap.size + 1]? = some (.cells #[.bool rp, .int .u32 x4, .int .u32 x12, .int .u32 x16, .int .u32 x20, .int .u8 a28.toNat, .int .u8 a29.toNat, .int .u8 a30.toNat, .int .u8 a31.toNat, .int .u8 a32.toNat, .int .u8 a33.toNat, .slice none 0 0] 56 (0, 0)) := (g13.block _ (lt_of_block (unhide E12)) (fun q => hneV (by simpa using q))).trans (unhide E12)
  have H13 := hide k13
  have G13 := hide (grown_trans (unhide G12) g13)
  have R13 := hide hr
  have E13 := hide he
  clear hr k13 g13 H12 G12 R12 he E12
  go_wp2_with fail
  refine (unhide T13 _ (unhide H13)).mono ?_
  rintro ee w14 ⟨rfl, k14, g14⟩
  have hr : w14.heap[w.heap.size]? = some (.cells #[.bool false, .int .u32 0, .int .u32 0, .int .u32 0, .int .u32 0, .int .u8 0, .int .u8 0, .int .u8 0, .int .u8 0, .int .u8 0, .int .u8 0, .slice none 0 0] 56 (0, 0)) := (g14.block _ (lt_of_block (unhide R13)) (fun q => hne0 (by simpa using q))).trans (unhide R13)
  have he : w14.heap[w.heap.size + 1]? = some (.cells #[.bool rp, .int .u32 x4, .int .u32 x12, .int .u32 x16, .int .u32 x20, .int .u8 a28.toNat, .int .u8 a29.toNat, .int .u8 a30.toNat, .int .u8 a31.toNat, .int .u8 a32.toNat, .int .u8 a33.toNat, .slice none 0 0] 56 (0, 0)) := (g14.block _ (lt_of_block (unhide E13)) (fun q => hneV (by simpa using q))).trans (unhide E13)
  have H14 := hide k14
  have G14 := hide (grown_trans (unhide G13) g14)
  have R14 := hide hr
  have E14 := hide he
  clear hr k14 g14 H13 G13 R13 he E13
  go_wp2_with fail
  refine (unhide T14 _ (unhide H14)).mono ?_
  rintro ee w15 ⟨rfl, k15, g15⟩
  have hr : w15.heap[w.heap.size]? = some (.cells #[.bool false, .int .u32 0, .int .u32 0, .int .u32 0, .int .u32 0, .int .u8 0, .int .u8 0, .int .u8 0, .int .u8 0, .int .u8 0, .int .u8 0, .slice none 0 0] 56 (0, 0)) := (g15.block _ (lt_of_block (unhide R14)) (fun q => hne0 (by simpa using q))).trans (unhide R14)
  have he : w15.heap[w.heap.size + 1]? = some (.cells #[.bool rp, .int .u32 x4, .int .u32 x12, .int .u32 x16, .int .u32 x20, .int .u8 a28.toNat, .int .u8 a29.toNat, .int .u8 a30.toNat, .int .u8 a31.toNat, .int .u8 a32.toNat, .int .u8 a33.toNat, .slice none 0 0] 56 (0, 0)) := (g15.block _ (lt_of_block (unhide E14)) (fun q => hneV (by simpa using q))).trans (unhide E14)
  have H15 := hide k15
  have G15 := hide (grown_trans (unhide G14) g15)
  have R15 := hide hr
  have E15 := hide he
  clear hr he k15 g15 H14 G14 R14 E14
  go_wp2_with fail
  refine (must_if _ (by have q := unhide HEQ; rw [← ByteArray.toList_eq] at q; simpa using q) _ _).mono ?_
  rintro ee wz ⟨rfl, hwz⟩
  rw [hwz]
  clear hwz wz
  have HAL := hide (all_any B m4 sh sf w15 (unhide H15) (by omega) (by have := unhide HZ2; omega) (by have := unhide HZ3; omega))
  have hzn : w.heap.size + 2 ≤ w15.heap.size := by have := lt_of_block (unhide E15); omega
  clear hs
  go_wp2_with fail
  refine (unhide HAL).mono ?_
  rintro ee wx ⟨gx, hpost⟩
  by_cases hk0 : optK m4 sh.data.toList sf.data.toList = 0
  · rw [if_pos hk0] at hpost
    obtain ⟨v, rfl, hown⟩ := hpost
    obtain ⟨ao, cp, hv⟩ := own_slice hown
    have hr : wx.heap[w.heap.size]? = some (.cells #[.bool false, .int .u32 0, .int .u32 0, .int .u32 0, .int .u32 0, .int .u8 0, .int .u8 0, .int .u8 0, .int .u8 0, .int .u8 0, .int .u8 0, .slice none 0 0] 56 (0, 0)) := (gx.block _ (lt_of_block (unhide R15)) (fun q => hne0 (by simpa using q))).trans (unhide R15)
    have he : wx.heap[w.heap.size + 1]? = some (.cells #[.bool rp, .int .u32 x4, .int .u32 x12, .int .u32 x16, .int .u32 x20, .int .u8 a28.toNat, .int .u8 a29.toNat, .int .u8 a30.toNat, .int .u8 a31.toNat, .int .u8 a32.toNat, .int .u8 a33.toNat, .slice none 0 0] 56 (0, 0)) := (gx.block _ (lt_of_block (unhide E15)) (fun q => hneV (by simpa using q))).trans (unhide E15)
    have c0 : wx.cell? ⟨w.heap.size + 1, 0, none⟩ = some (.bool rp) := row_cell he rfl
    have c1 : wx.cell? ⟨w.heap.size + 1, 1, none⟩ = some (.int .u32 x4) := row_cell he rfl
    have c2 : wx.cell? ⟨w.heap.size + 1, 2, none⟩ = some (.int .u32 x12) := row_cell he rfl
    have c3 : wx.cell? ⟨w.heap.size + 1, 3, none⟩ = some (.int .u32 x16) := row_cell he rfl
    have c4 : wx.cell? ⟨w.heap.size + 1, 4, none⟩ = some (.int .u32 x20) := row_cell he rfl
    have c5 : wx.cell? ⟨w.heap.size + 1, 5, none⟩ = some (.int .u8 a28.toNat) := row_cell he rfl
    have c6 : wx.cell? ⟨w.heap.size + 1, 6, none⟩ = some (.int .u8 a29.toNat) := row_cell he rfl
    have c7 : wx.cell? ⟨w.heap.size + 1, 7, none⟩ = some (.int .u8 a30.toNat) := row_cell he rfl
    have c8 : wx.cell? ⟨w.heap.size + 1, 8, none⟩ = some (.int .u8 a31.toNat) := row_cell he rfl
    have c9 : wx.cell? ⟨w.heap.size + 1, 9, none⟩ = some (.int .u8 a32.toNat) := row_cell he rfl
    have c10 : wx.cell? ⟨w.heap.size + 1, 10, none⟩ = some (.int .u8 a33.toNat) := row_cell he rfl
    have c11 : wx.cell? ⟨w.heap.size + 1, 11, none⟩ = some (.slice none 0 0) := row_cell he rfl
    have ff := row_free he
    have d0 : wx.cell? ⟨w.heap.size, 0, none⟩ = some (.bool false) := row_cell hr rfl
    have d1 : wx.cell? ⟨w.heap.size, 1, none⟩ = some (.int .u32 0) := row_cell hr rfl
    have d2 : wx.cell? ⟨w.heap.size, 2, none⟩ = some (.int .u32 0) := row_cell hr rfl
    have d3 : wx.cell? ⟨w.heap.size, 3, none⟩ = some (.int .u32 0) := row_cell hr rfl
    have d4 : wx.cell? ⟨w.heap.size, 4, none⟩ = some (.int .u32 0) := row_cell hr rfl
    have d5 : wx.cell? ⟨w.heap.size, 5, none⟩ = some (.int .u8 0) := row_cell hr rfl
    have d6 : wx.cell? ⟨w.heap.size, 6, none⟩ = some (.int .u8 0) := row_cell hr rfl
    have d7 : wx.cell? ⟨w.heap.size, 7, none⟩ = some (.int .u8 0) := row_cell hr rfl
    have d8 : wx.cell? ⟨w.heap.size, 8, none⟩ = some (.int .u8 0) := row_cell hr rfl
    have d9 : wx.cell? ⟨w.heap.size, 9, none⟩ = some (.int .u8 0) := row_cell hr rfl
    have d10 : wx.cell? ⟨w.heap.size, 10, none⟩ = some (.int .u8 0) := row_cell hr rfl
    have d11 : wx.cell? ⟨w.heap.size, 11, none⟩ = some (.slice none 0 0) := row_cell hr rfl
    have kd := row_free hr
    have GX := hide (grown_trans (unhide G15) gx)
    have OW := hide hown
    have HK0 := hide hk0
    obtain ⟨LN, hLN⟩ : ∃ LN, LN = (optL m4 sh.data.toList sf.data.toList).length := ⟨_, rfl⟩
    rw [← hLN] at hv
    subst hv
    have HLN := hide hLN
    clear hown gx hr he hk0 hLN HAL
    go_wp2
    refine bodyPost_ret (v := .agg #[.bool rp, .int .u32 x4, .int .u32 x12, .int .u32 x16, .int .u32 x20, .int .u8 a28.toNat, .int .u8 a29.toNat, .int .u8 a30.toNat, .int .u8 a31.toNat, .int .u8 a32.toNat, .int .u8 a33.toNat, .slice ao LN cp]) (by simp [results, Tryz.results74, go_sem, d0, d1, d2, d3, d4, d5, d6, d7, d8, d9, d10, d11]) rfl ?_
    refine ⟨?_, ?_⟩
    · iterate 13 refine grown_new ?_ (by first | exact Nat.le_refl _ | exact Nat.le_succ _) _
      exact unhide GX
    · rw [if_pos (unhide HK0)]
      refine ⟨ao, cp, ?_, ?_⟩
      · rw [← unhide HLN, unhide HX4, unhide HX12, unhide HX16, unhide HX20]
      · rw [← unhide HLN]
        refine own_mono (b := w15.heap.size) ?_ (by omega)
        iterate 13 refine ownsRow_setCell_below ?_ (by first | (show w.heap.size < _; omega) | (show w.heap.size + 1 < _; omega)) _
        have q := unhide OW
        rw [← unhide HLN] at q
        exact q
  · rw [if_neg hk0] at hpost
    subst hpost
    refine ⟨rfl, grown_trans (unhide G15) gx, ?_⟩
    rw [if_neg hk0]

end Go.Proofs.YtoifihhmneldeaaGreatDoor.Dh

namespace Go.Proofs.YtoifihhmneldeaaGreatDoor.DhR
open Go.ChangeShapes Go.WideShapes Go.ChangeAt Go.RowKit Bs Rd
open EtR (row_cell row_free row_set below_of below_at new_reader assert_errno)
set_option linter.unusedVariables false
set_option linter.unusedSimpArgs false

/-- a list of options as a call hands it out -/
def OutP (n : Nat) (xs : List Value) (w : World) (mk : Option Addr → Nat → Value) (ee : Ending) (w' : World) : Prop :=
  ∃ sa sc, ee = .returned (mk sa sc) ∧ w'.ownsRow w.heap.size 53 2 (.slice sa n sc) n xs ∧ Below w.heap.size w w'

theorem row_set12 {w : World} {g : Nat} {t : TypeId} (b0 b1 b2 b3 b4 b5 b6 b7 b8 b9 b10 b11 v0 v1 v2 v3 v4 v5 v6 v7 v8 v9 v10 v11 : Value) (h : w.heap[g]? = some (.cells #[b0, b1, b2, b3, b4, b5, b6, b7, b8, b9, b10, b11] t (0, 0))) :
    ((((((((((((w.setCell ⟨g, 0, none⟩ v0).setCell ⟨g, 1, none⟩ v1).setCell ⟨g, 2, none⟩ v2).setCell ⟨g, 3, none⟩ v3).setCell ⟨g, 4, none⟩ v4).setCell ⟨g, 5, none⟩ v5).setCell ⟨g, 6, none⟩ v6).setCell ⟨g, 7, none⟩ v7).setCell ⟨g, 8, none⟩ v8).setCell ⟨g, 9, none⟩ v9).setCell ⟨g, 10, none⟩ v10).setCell ⟨g, 11, none⟩ v11).heap[g]? = some (.cells #[v0, v1, v2, v3, v4, v5, v6, v7, v8, v9, v10, v11] t (0, 0)) := by
  have h0 : (w.setCell ⟨g, 0, none⟩ v0).heap[g]? = some (.cells #[v0, b1, b2, b3, b4, b5, b6, b7, b8, b9, b10, b11] t (0, 0)) := row_set h 0 v0
  have h1 : ((w.setCell ⟨g, 0, none⟩ v0).setCell ⟨g, 1, none⟩ v1).heap[g]? = some (.cells #[v0, v1, b2, b3, b4, b5, b6, b7, b8, b9, b10, b11] t (0, 0)) := row_set h0 1 v1
  have h2 : (((w.setCell ⟨g, 0, none⟩ v0).setCell ⟨g, 1, none⟩ v1).setCell ⟨g, 2, none⟩ v2).heap[g]? = some (.cells #[v0, v1, v2, b3, b4, b5, b6, b7, b8, b9, b10, b11] t (0, 0)) := row_set h1 2 v2
  have h3 : ((((w.setCell ⟨g, 0, none⟩ v0).setCell ⟨g, 1, none⟩ v1).setCell ⟨g, 2, none⟩ v2).setCell ⟨g, 3, none⟩ v3).heap[g]? = some (.cells #[v0, v1, v2, v3, b4, b5, b6, b7, b8, b9, b10, b11] t (0, 0)) := row_set h2 3 v3
  have h4 : (((((w.setCell ⟨g, 0, none⟩ v0).setCell ⟨g, 1, none⟩ v1).setCell ⟨g, 2, none⟩ v2).setCell ⟨g, 3, none⟩ v3).setCell ⟨g, 4, none⟩ v4).heap[g]? = some (.cells #[v0, v1, v2, v3, v4, b5, b6, b7, b8, b9, b10, b11] t (0, 0)) := row_set h3 4 v4
  have h5 : ((((((w.setCell ⟨g, 0, none⟩ v0).setCell ⟨g, 1, none⟩ v1).setCell ⟨g, 2, none⟩ v2).setCell ⟨g, 3, none⟩ v3).setCell ⟨g, 4, none⟩ v4).setCell ⟨g, 5, none⟩ v5).heap[g]? = some (.cells #[v0, v1, v2, v3, v4, v5, b6, b7, b8, b9, b10, b11] t (0, 0)) := row_set h4 5 v5
  have h6 : (((((((w.setCell ⟨g, 0, none⟩ v0).setCell ⟨g, 1, none⟩ v1).setCell ⟨g, 2, none⟩ v2).setCell ⟨g, 3, none⟩ v3).setCell ⟨g, 4, none⟩ v4).setCell ⟨g, 5, none⟩ v5).setCell ⟨g, 6, none⟩ v6).heap[g]? = some (.cells #[v0, v1, v2, v3, v4, v5, v6, b7, b8, b9, b10, b11] t (0, 0)) := row_set h5 6 v6
  have h7 : ((((((((w.setCell ⟨g, 0, none⟩ v0).setCell ⟨g, 1, none⟩ v1).setCell ⟨g, 2, none⟩ v2).setCell ⟨g, 3, none⟩ v3).setCell ⟨g, 4, none⟩ v4).setCell ⟨g, 5, none⟩ v5).setCell ⟨g, 6, none⟩ v6).setCell ⟨g, 7, none⟩ v7).heap[g]? = some (.cells #[v0, v1, v2, v3, v4, v5, v6, v7, b8, b9, b10, b11] t (0, 0)) := row_set h6 7 v7
  have h8 : (((((((((w.setCell ⟨g, 0, none⟩ v0).setCell ⟨g, 1, none⟩ v1).setCell ⟨g, 2, none⟩ v2).setCell ⟨g, 3, none⟩ v3).setCell ⟨g, 4, none⟩ v4).setCell ⟨g, 5, none⟩ v5).setCell ⟨g, 6, none⟩ v6).setCell ⟨g, 7, none⟩ v7).setCell ⟨g, 8, none⟩ v8).heap[g]? = some (.cells #[v0, v1, v2, v3, v4, v5, v6, v7, v8, b9, b10, b11] t (0, 0)) := row_set h7 8 v8
  have h9 : ((((((((((w.setCell ⟨g, 0, none⟩ v0).setCell ⟨g, 1, none⟩ v1).setCell ⟨g, 2, none⟩ v2).setCell ⟨g, 3, none⟩ v3).setCell ⟨g, 4, none⟩ v4).setCell ⟨g, 5, none⟩ v5).setCell ⟨g, 6, none⟩ v6).setCell ⟨g, 7, none⟩ v7).setCell ⟨g, 8, none⟩ v8).setCell ⟨g, 9, none⟩ v9).heap[g]? = some (.cells #[v0, v1, v2, v3, v4, v5, v6, v7, v8, v9, b10, b11] t (0, 0)) := row_set h8 9 v9
  have h10 : (((((((((((w.setCell ⟨g, 0, none⟩ v0).setCell ⟨g, 1, none⟩ v1).setCell ⟨g, 2, none⟩ v2).setCell ⟨g, 3, none⟩ v3).setCell ⟨g, 4, none⟩ v4).setCell ⟨g, 5, none⟩ v5).setCell ⟨g, 6, none⟩ v6).setCell ⟨g, 7, none⟩ v7).setCell ⟨g, 8, none⟩ v8).setCell ⟨g, 9, none⟩ v9).setCell ⟨g, 10, none⟩ v10).heap[g]? = some (.cells #[v0, v1, v2, v3, v4, v5, v6, v7, v8, v9, v10, b11] t (0, 0)) := row_set h9 10 v10
  have h11 : ((((((((((((w.setCell ⟨g, 0, none⟩ v0).setCell ⟨g, 1, none⟩ v1).setCell ⟨g, 2, none⟩ v2).setCell ⟨g, 3, none⟩ v3).setCell ⟨g, 4, none⟩ v4).setCell ⟨g, 5, none⟩ v5).setCell ⟨g, 6, none⟩ v6).setCell ⟨g, 7, none⟩ v7).setCell ⟨g, 8, none⟩ v8).setCell ⟨g, 9, none⟩ v9).setCell ⟨g, 10, none⟩ v10).setCell ⟨g, 11, none⟩ v11).heap[g]? = some (.cells #[v0, v1, v2, v3, v4, v5, v6, v7, v8, v9, v10, v11] t (0, 0)) := row_set h10 11 v11
  exact h11

theorem catch_panicking (p : Addr) (x k : Int) (older : List PanicEntry) (w : World) (hc : w.cell? p = some (.int .i64 x)) (hz : w.frozen? p = false) :
    CallsD Tryz.prog 87 #[.pointer (some p)] (.panicking ({ v := .iface 28 (.int .i64 k), recovered := false } :: older)) w fun e u' w' =>
      e = .returned (.tuple #[]) ∧ u' = .panicking ({ v := .iface 28 (.int .i64 k), recovered := true } :: older) ∧ w' = w.setCell p (.int .i64 k) := by
  refine callsD_of_wpS Tryz.func87 rfl fun c₀ cs hu => ?_
  apply wpS_seq
  apply wpS_region
  simp [wpOpsS, go_sem, recoverD, hu, Tryz.ntmps87, Exit.thenS]
  refine wpS_of_wp ?_
  change Code.wp _ _ _ { tmps := #[.pointer (some p), .iface 28 (.int .i64 k), .iface 28 (.int .i64 k), undef, undef, undef, undef], defers := [] } _
  have hta := fun u => assert_errno k u
  go_wp2
  exact ⟨rfl, _, rfl, .tuple #[], by simp [results, Tryz.results87], rfl, rfl, rfl⟩

theorem catch_idle (p : Addr) (w : World) :
    CallsD Tryz.prog 87 #[.pointer (some p)] .returning w fun e u' w' => e = .returned (.tuple #[]) ∧ u' = .returning ∧ w' = w := by
  refine callsD_of_wpS Tryz.func87 rfl fun c₀ cs hu => ?_
  apply wpS_seq
  apply wpS_region
  simp [wpOpsS, go_sem, recoverD, hu, Tryz.ntmps87, Exit.thenS]
  refine wpS_of_wp ?_
  change Code.wp _ _ _ { tmps := #[.pointer (some p), .nilIface, .nilIface, undef, undef, undef, undef], defers := [] } _
  go_wp2
  cases c₀
  simp_all [bodyPostS, results, Tryz.results87]

theorem blocks {w w1 W : World} {s : ByteArray} (g : W.grownBy w1 (some (w.heap.size + 1 + 1))) (hW : W = ((w.alloc (.cells #[.bool false, .int .u32 0, .int .u32 0, .int .u32 0, .int .u32 0, .int .u8 0, .int .u8 0, .int .u8 0, .int .u8 0, .int .u8 0, .int .u8 0, .slice none 0 0] 56)).alloc (.cells #[.int .i64 0] 28)).alloc (.cells #[.string s] 99)) :
    w1.heap[w.heap.size]? = some (.cells #[.bool false, .int .u32 0, .int .u32 0, .int .u32 0, .int .u32 0, .int .u8 0, .int .u8 0, .int .u8 0, .int .u8 0, .int .u8 0, .int .u8 0, .slice none 0 0] 56 (0, 0)) ∧ w1.heap[w.heap.size + 1]? = some (.cells #[.int .i64 0] 28 (0, 0)) := by
  have z2 : ((w.alloc (.cells #[.bool false, .int .u32 0, .int .u32 0, .int .u32 0, .int .u32 0, .int .u8 0, .int .u8 0, .int .u8 0, .int .u8 0, .int .u8 0, .int .u8 0, .slice none 0 0] 56)).alloc (.cells #[.int .i64 0] 28)).heap.size = w.heap.size + 1 + 1 := by simp
  have z1 : (w.alloc (.cells #[.bool false, .int .u32 0, .int .u32 0, .int .u32 0, .int .u32 0, .int .u8 0, .int .u8 0, .int .u8 0, .int .u8 0, .int .u8 0, .int .u8 0, .slice none 0 0] 56)).heap.size = w.heap.size + 1 := by simp
  have e0 : W.heap[w.heap.size]? = some (.cells #[.bool false, .int .u32 0, .int .u32 0, .int .u32 0, .int .u32 0, .int .u8 0, .int .u8 0, .int .u8 0, .int .u8 0, .int .u8 0, .int .u8 0, .slice none 0 0] 56 (0, 0)) := by
    rw [hW, Below.heap_alloc _ _ _ (by omega), Below.heap_alloc _ _ _ (by omega)]; exact heap_alloc_new w _
  have e1 : W.heap[w.heap.size + 1]? = some (.cells #[.int .i64 0] 28 (0, 0)) := by
    rw [hW, Below.heap_alloc _ _ _ (by omega)]
    have q := heap_alloc_new (w.alloc (.cells #[.bool false, .int .u32 0, .int .u32 0, .int .u32 0, .int .u32 0, .int .u8 0, .int .u8 0, .int .u8 0, .int .u8 0, .int .u8 0, .int .u8 0, .slice none 0 0] 56)) (.cells #[.int .i64 0] 28)
    rw [z1] at q
    exact q
  exact ⟨(g.block _ (lt_of_block e0) (fun q => by simp at q; omega)).trans e0, (g.block _ (lt_of_block e1) (fun q => by simp at q)).trans e1⟩

set_option maxHeartbeats 4000000 in
set_option maxRecDepth 10000 in
theorem read_no (s : ByteArray) (k : Int) (w : World)
    (hR : ∀ u B, Rdr u B s.data.toList → (∀ b o, b < w.heap.size → u.cell? ⟨b, o, none⟩ = w.cell? ⟨b, o, none⟩) → Calls Tryz.prog 74 #[.pointer (some ⟨B, 0, none⟩)] u fun ee w' => ee = .panicked (errP k) ∧ u.grownBy w' (some B)) :
    Calls Tryz.prog 73 #[.string s, .func (.func 74) #[] #[]] w fun ee w' => ee = .returned (.tuple #[.agg #[.bool false, .int .u32 0, .int .u32 0, .int .u32 0, .int .u32 0, .int .u8 0, .int .u8 0, .int .u8 0, .int .u8 0, .int .u8 0, .int .u8 0, .slice none 0 0], .int .i64 k]) ∧ Below w.heap.size w w' := by
  have hmf : ∀ (fn : Fn) (first cap : Array Value) (w : World), (Instr.makeFunc fn first cap).run Tryz.prog w = .ok (.func fn first cap) w := fun _ _ _ _ => rfl
  have HR := hide hR
  clear hR
  go_enter_defers Tryz.func73, Tryz.ntmps73
  go_wp2_with fail
  refine (unhide HR _ _ (new_reader _ _ s (by simp)) (fun b o hb => ((((Below.refl _ w).alloc (Nat.le_refl _) _).alloc (by simp) _).alloc (by simp; omega) _).cell (p := ⟨b, o, none⟩) hb)).mono ?_
  rintro ee w1 ⟨rfl, g1⟩
  obtain ⟨hr, he⟩ := blocks g1 rfl
  have d0 : w1.cell? ⟨w.heap.size, 0, none⟩ = some (.bool false) := row_cell hr rfl
  have d1 : w1.cell? ⟨w.heap.size, 1, none⟩ = some (.int .u32 0) := row_cell hr rfl
  have d2 : w1.cell? ⟨w.heap.size, 2, none⟩ = some (.int .u32 0) := row_cell hr rfl
  have d3 : w1.cell? ⟨w.heap.size, 3, none⟩ = some (.int .u32 0) := row_cell hr rfl
  have d4 : w1.cell? ⟨w.heap.size, 4, none⟩ = some (.int .u32 0) := row_cell hr rfl
  have d5 : w1.cell? ⟨w.heap.size, 5, none⟩ = some (.int .u8 0) := row_cell hr rfl
  have d6 : w1.cell? ⟨w.heap.size, 6, none⟩ = some (.int .u8 0) := row_cell hr rfl
  have d7 : w1.cell? ⟨w.heap.size, 7, none⟩ = some (.int .u8 0) := row_cell hr rfl
  have d8 : w1.cell? ⟨w.heap.size, 8, none⟩ = some (.int .u8 0) := row_cell hr rfl
  have d9 : w1.cell? ⟨w.heap.size, 9, none⟩ = some (.int .u8 0) := row_cell hr rfl
  have d10 : w1.cell? ⟨w.heap.size, 10, none⟩ = some (.int .u8 0) := row_cell hr rfl
  have d11 : w1.cell? ⟨w.heap.size, 11, none⟩ = some (.slice none 0 0) := row_cell hr rfl
  have hc := cell_of_one he
  have hf := free_of_one he
  refine leaves_cons (f := 87) (args := #[.pointer (some ⟨w.heap.size + 1, 0, none⟩)]) (by simp) (by simp [go_sem]) ?_
  refine (catch_panicking ⟨w.heap.size + 1, 0, none⟩ 0 k [] _ hc hf).mono ?_
  rintro e u' w'' ⟨rfl, rfl, rfl⟩
  simp [Leaves, settle, results, Tryz.results73, go_sem, d0, d1, d2, d3, d4, d5, d6, d7, d8, d9, d10, d11, hc]
  exact (below_of g1 ((((Below.refl _ w).alloc (Nat.le_refl _) _).alloc (by simp) _).alloc (by simp; omega) _) (by omega)).setCell (by simp) _

set_option maxHeartbeats 4000000 in
set_option maxRecDepth 10000 in
theorem read_ok (s : ByteArray) (a0 : Bool) (a1 a2 a3 a4 a5 a6 a7 a8 a9 a10 : Int) (sn : Nat) (xs : List Value) (w : World)
    (hR : ∀ u B, Rdr u B s.data.toList → (∀ b o, b < w.heap.size → u.cell? ⟨b, o, none⟩ = w.cell? ⟨b, o, none⟩) → Calls Tryz.prog 74 #[.pointer (some ⟨B, 0, none⟩)] u fun ee w' => (∃ sa sc, ee = .returned (.agg #[.bool a0, .int .u32 a1, .int .u32 a2, .int .u32 a3, .int .u32 a4, .int .u8 a5, .int .u8 a6, .int .u8 a7, .int .u8 a8, .int .u8 a9, .int .u8 a10, .slice sa sn sc]) ∧ w'.ownsRow u.heap.size 53 2 (.slice sa sn sc) sn xs) ∧ u.grownBy w' (some B)) :
    Calls Tryz.prog 73 #[.string s, .func (.func 74) #[] #[]] w fun ee w' => OutP sn xs w (fun sa sc => .tuple #[.agg #[.bool a0, .int .u32 a1, .int .u32 a2, .int .u32 a3, .int .u32 a4, .int .u8 a5, .int .u8 a6, .int .u8 a7, .int .u8 a8, .int .u8 a9, .int .u8 a10, .slice sa sn sc], .int .i64 0]) ee w' := by
  have hmf : ∀ (fn : Fn) (first cap : Array Value) (w : World), (Instr.makeFunc fn first cap).run Tryz.prog w = .ok (.func fn first cap) w := fun _ _ _ _ => rfl
  have HR := hide hR
  clear hR
  go_enter_defers Tryz.func73, Tryz.ntmps73
  go_wp2_with fail
  refine (unhide HR _ _ (new_reader _ _ s (by simp)) (fun b o hb => ((((Below.refl _ w).alloc (Nat.le_refl _) _).alloc (by simp) _).alloc (by simp; omega) _).cell (p := ⟨b, o, none⟩) hb)).mono ?_
  rintro ee w1 ⟨⟨sa, sc, rfl, ho⟩, g1⟩
  obtain ⟨hr, he⟩ := blocks g1 rfl
  have d0 : w1.cell? ⟨w.heap.size, 0, none⟩ = some (.bool false) := row_cell hr rfl
  have d1 : w1.cell? ⟨w.heap.size, 1, none⟩ = some (.int .u32 0) := row_cell hr rfl
  have d2 : w1.cell? ⟨w.heap.size, 2, none⟩ = some (.int .u32 0) := row_cell hr rfl
  have d3 : w1.cell? ⟨w.heap.size, 3, none⟩ = some (.int .u32 0) := row_cell hr rfl
  have d4 : w1.cell? ⟨w.heap.size, 4, none⟩ = some (.int .u32 0) := row_cell hr rfl
  have d5 : w1.cell? ⟨w.heap.size, 5, none⟩ = some (.int .u8 0) := row_cell hr rfl
  have d6 : w1.cell? ⟨w.heap.size, 6, none⟩ = some (.int .u8 0) := row_cell hr rfl
  have d7 : w1.cell? ⟨w.heap.size, 7, none⟩ = some (.int .u8 0) := row_cell hr rfl
  have d8 : w1.cell? ⟨w.heap.size, 8, none⟩ = some (.int .u8 0) := row_cell hr rfl
  have d9 : w1.cell? ⟨w.heap.size, 9, none⟩ = some (.int .u8 0) := row_cell hr rfl
  have d10 : w1.cell? ⟨w.heap.size, 10, none⟩ = some (.int .u8 0) := row_cell hr rfl
  have d11 : w1.cell? ⟨w.heap.size, 11, none⟩ = some (.slice none 0 0) := row_cell hr rfl
  have fr := row_free hr
  have hc := cell_of_one he
  have hf := free_of_one he
  have HB := hide (below_of g1 ((((Below.refl _ w).alloc (Nat.le_refl _) _).alloc (by simp) _).alloc (by simp; omega) _) (by omega))
  obtain ⟨U, hU⟩ : ∃ U, U = (((((((((((((w1.setCell ⟨w.heap.size, 0, none⟩ (.bool a0)).setCell ⟨w.heap.size, 1, none⟩ (.int .u32 a1)).setCell ⟨w.heap.size, 2, none⟩ (.int .u32 a2)).setCell ⟨w.heap.size, 3, none⟩ (.int .u32 a3)).setCell ⟨w.heap.size, 4, none⟩ (.int .u32 a4)).setCell ⟨w.heap.size, 5, none⟩ (.int .u8 a5)).setCell ⟨w.heap.size, 6, none⟩ (.int .u8 a6)).setCell ⟨w.heap.size, 7, none⟩ (.int .u8 a7)).setCell ⟨w.heap.size, 8, none⟩ (.int .u8 a8)).setCell ⟨w.heap.size, 9, none⟩ (.int .u8 a9)).setCell ⟨w.heap.size, 10, none⟩ (.int .u8 a10)).setCell ⟨w.heap.size, 11, none⟩ (.slice sa sn sc)).setCell ⟨w.heap.size + 1, 0, none⟩ (.int .i64 0)) := ⟨_, rfl⟩
  have hu : U.heap[w.heap.size]? = some (.cells #[.bool a0, .int .u32 a1, .int .u32 a2, .int .u32 a3, .int .u32 a4, .int .u8 a5, .int .u8 a6, .int .u8 a7, .int .u8 a8, .int .u8 a9, .int .u8 a10, .slice sa sn sc] 56 (0, 0)) := by
    rw [hU, Below.heap_setCell _ _ _ _ (by simp)]
    exact row_set12 _ _ _ _ _ _ _ _ _ _ _ _ _ _ _ _ _ _ _ _ _ _ _ _ hr
  have u0 : U.cell? ⟨w.heap.size, 0, none⟩ = some (.bool a0) := row_cell hu rfl
  have u1 : U.cell? ⟨w.heap.size, 1, none⟩ = some (.int .u32 a1) := row_cell hu rfl
  have u2 : U.cell? ⟨w.heap.size, 2, none⟩ = some (.int .u32 a2) := row_cell hu rfl
  have u3 : U.cell? ⟨w.heap.size, 3, none⟩ = some (.int .u32 a3) := row_cell hu rfl
  have u4 : U.cell? ⟨w.heap.size, 4, none⟩ = some (.int .u32 a4) := row_cell hu rfl
  have u5 : U.cell? ⟨w.heap.size, 5, none⟩ = some (.int .u8 a5) := row_cell hu rfl
  have u6 : U.cell? ⟨w.heap.size, 6, none⟩ = some (.int .u8 a6) := row_cell hu rfl
  have u7 : U.cell? ⟨w.heap.size, 7, none⟩ = some (.int .u8 a7) := row_cell hu rfl
  have u8 : U.cell? ⟨w.heap.size, 8, none⟩ = some (.int .u8 a8) := row_cell hu rfl
  have u9 : U.cell? ⟨w.heap.size, 9, none⟩ = some (.int .u8 a9) := row_cell hu rfl
  have u10 : U.cell? ⟨w.heap.size, 10, none⟩ = some (.int .u8 a10) := row_cell hu rfl
  have u11 : U.cell? ⟨w.heap.size, 11, none⟩ = some (.slice sa sn sc) := row_cell hu rfl
  have hv : U.heap[w.heap.size + 1]? = some (.cells #[.int .i64 0] 28 (0, 0)) := by
    rw [hU]
    refine one_setCell (v := .int .i64 0) ?_
    rw [Below.heap_setCell _ _ _ _ (by simp), Below.heap_setCell _ _ _ _ (by simp), Below.heap_setCell _ _ _ _ (by simp), Below.heap_setCell _ _ _ _ (by simp), Below.heap_setCell _ _ _ _ (by simp), Below.heap_setCell _ _ _ _ (by simp), Below.heap_setCell _ _ _ _ (by simp), Below.heap_setCell _ _ _ _ (by simp), Below.heap_setCell _ _ _ _ (by simp), Below.heap_setCell _ _ _ _ (by simp), Below.heap_setCell _ _ _ _ (by simp), Below.heap_setCell _ _ _ _ (by simp)]
    exact he
  have HBU : Hid (Below w.heap.size w U) := by
    show Below w.heap.size w U
    rw [hU]
    refine Below.setCell ?_ (by simp) _
    iterate 12 refine below_at ?_
    exact unhide HB
  have HOU : Hid (U.ownsRow w.heap.size 53 2 (.slice sa sn sc) sn xs) := by
    show U.ownsRow w.heap.size 53 2 (.slice sa sn sc) sn xs
    rw [hU]
    refine Dh.own_mono (b := w.heap.size + 3) ?_ (by omega)
    iterate 13 refine ownsRow_setCell_below ?_ (by first | (show w.heap.size < _; omega) | (show w.heap.size + 1 < _; omega)) _
    exact Dh.own_mono ho (by simp)
  have uv := cell_of_one hv
  have HU := hide hU
  clear g1 hr he hu hv hU ho
  go_wp2
  rw [← unhide HU]
  clear HU d0 d1 d2 d3 d4 d5 d6 d7 d8 d9 d10 d11 hc hf fr
  refine leaves_cons (f := 87) (args := #[.pointer (some ⟨w.heap.size + 1, 0, none⟩)]) (by simp) (by simp [go_sem]) ?_
  refine (catch_idle ⟨w.heap.size + 1, 0, none⟩ _).mono ?_
  rintro e u' w'' ⟨rfl, rfl, rfl⟩
  simp [Leaves, settle, results, Tryz.results73, go_sem, u0, u1, u2, u3, u4, u5, u6, u7, u8, u9, u10, u11, uv]
  exact ⟨sa, sc, rfl, unhide HOU, unhide HBU⟩

set_option maxHeartbeats 4000000 in
set_option maxRecDepth 10000 in
theorem wire_of_ok (s : ByteArray) (a0 : Bool) (a1 a2 a3 a4 a5 a6 a7 a8 a9 a10 : Int) (sn : Nat) (xs : List Value) (w : World)
    (hR : ∀ u : World, Calls Tryz.prog 73 #[.string s, .func (.func 74) #[] #[]] u fun ee w' => OutP sn xs u (fun sa sc => .tuple #[.agg #[.bool a0, .int .u32 a1, .int .u32 a2, .int .u32 a3, .int .u32 a4, .int .u8 a5, .int .u8 a6, .int .u8 a7, .int .u8 a8, .int .u8 a9, .int .u8 a10, .slice sa sn sc], .int .i64 0]) ee w') :
    Calls Tryz.prog 48 #[.string s] w fun ee w' => OutP sn xs w (fun sa sc => .tuple #[.agg #[.bool a0, .int .u32 a1, .int .u32 a2, .int .u32 a3, .int .u32 a4, .int .u8 a5, .int .u8 a6, .int .u8 a7, .int .u8 a8, .int .u8 a9, .int .u8 a10, .slice sa sn sc], .int .i64 0]) ee w' := by
  have HR := hide hR
  clear hR
  go_enter Tryz.func48, Tryz.ntmps48
  go_wp2_with fail
  refine (unhide HR _).mono ?_
  rintro ee w1 ⟨sa, sc, rfl, ho, hb⟩
  have hr : w1.heap[w.heap.size]? = some (.cells #[.bool false, .int .u32 0, .int .u32 0, .int .u32 0, .int .u32 0, .int .u8 0, .int .u8 0, .int .u8 0, .int .u8 0, .int .u8 0, .int .u8 0, .slice none 0 0] 56 (0, 0)) := (hb.block _ (by simp)).trans (heap_alloc_new w _)
  have d0 : w1.cell? ⟨w.heap.size, 0, none⟩ = some (.bool false) := row_cell hr rfl
  have d1 : w1.cell? ⟨w.heap.size, 1, none⟩ = some (.int .u32 0) := row_cell hr rfl
  have d2 : w1.cell? ⟨w.heap.size, 2, none⟩ = some (.int .u32 0) := row_cell hr rfl
  have d3 : w1.cell? ⟨w.heap.size, 3, none⟩ = some (.int .u32 0) := row_cell hr rfl
  have d4 : w1.cell? ⟨w.heap.size, 4, none⟩ = some (.int .u32 0) := row_cell hr rfl
  have d5 : w1.cell? ⟨w.heap.size, 5, none⟩ = some (.int .u8 0) := row_cell hr rfl
  have d6 : w1.cell? ⟨w.heap.size, 6, none⟩ = some (.int .u8 0) := row_cell hr rfl
  have d7 : w1.cell? ⟨w.heap.size, 7, none⟩ = some (.int .u8 0) := row_cell hr rfl
  have d8 : w1.cell? ⟨w.heap.size, 8, none⟩ = some (.int .u8 0) := row_cell hr rfl
  have d9 : w1.cell? ⟨w.heap.size, 9, none⟩ = some (.int .u8 0) := row_cell hr rfl
  have d10 : w1.cell? ⟨w.heap.size, 10, none⟩ = some (.int .u8 0) := row_cell hr rfl
  have d11 : w1.cell? ⟨w.heap.size, 11, none⟩ = some (.slice none 0 0) := row_cell hr rfl
  have fr := row_free hr
  have HB : Hid (Below w.heap.size w w1) := hide (((Below.refl _ w).alloc (Nat.le_refl _) _).trans (hb.mono (by simp)))
  obtain ⟨U, hU⟩ : ∃ U, U = ((((((((((((w1.setCell ⟨w.heap.size, 0, none⟩ (.bool a0)).setCell ⟨w.heap.size, 1, none⟩ (.int .u32 a1)).setCell ⟨w.heap.size, 2, none⟩ (.int .u32 a2)).setCell ⟨w.heap.size, 3, none⟩ (.int .u32 a3)).setCell ⟨w.heap.size, 4, none⟩ (.int .u32 a4)).setCell ⟨w.heap.size, 5, none⟩ (.int .u8 a5)).setCell ⟨w.heap.size, 6, none⟩ (.int .u8 a6)).setCell ⟨w.heap.size, 7, none⟩ (.int .u8 a7)).setCell ⟨w.heap.size, 8, none⟩ (.int .u8 a8)).setCell ⟨w.heap.size, 9, none⟩ (.int .u8 a9)).setCell ⟨w.heap.size, 10, none⟩ (.int .u8 a10)).setCell ⟨w.heap.size, 11, none⟩ (.slice sa sn sc)) := ⟨_, rfl⟩
  have hu : U.heap[w.heap.size]? = some (.cells #[.bool a0, .int .u32 a1, .int .u32 a2, .int .u32 a3, .int .u32 a4, .int .u8 a5, .int .u8 a6, .int .u8 a7, .int .u8 a8, .int .u8 a9, .int .u8 a10, .slice sa sn sc] 56 (0, 0)) := by
    rw [hU]
    exact row_set12 _ _ _ _ _ _ _ _ _ _ _ _ _ _ _ _ _ _ _ _ _ _ _ _ hr
  have u0 : U.cell? ⟨w.heap.size, 0, none⟩ = some (.bool a0) := row_cell hu rfl
  have u1 : U.cell? ⟨w.heap.size, 1, none⟩ = some (.int .u32 a1) := row_cell hu rfl
  have u2 : U.cell? ⟨w.heap.size, 2, none⟩ = some (.int .u32 a2) := row_cell hu rfl
  have u3 : U.cell? ⟨w.heap.size, 3, none⟩ = some (.int .u32 a3) := row_cell hu rfl
  have u4 : U.cell? ⟨w.heap.size, 4, none⟩ = some (.int .u32 a4) := row_cell hu rfl
  have u5 : U.cell? ⟨w.heap.size, 5, none⟩ = some (.int .u8 a5) := row_cell hu rfl
  have u6 : U.cell? ⟨w.heap.size, 6, none⟩ = some (.int .u8 a6) := row_cell hu rfl
  have u7 : U.cell? ⟨w.heap.size, 7, none⟩ = some (.int .u8 a7) := row_cell hu rfl
  have u8 : U.cell? ⟨w.heap.size, 8, none⟩ = some (.int .u8 a8) := row_cell hu rfl
  have u9 : U.cell? ⟨w.heap.size, 9, none⟩ = some (.int .u8 a9) := row_cell hu rfl
  have u10 : U.cell? ⟨w.heap.size, 10, none⟩ = some (.int .u8 a10) := row_cell hu rfl
  have u11 : U.cell? ⟨w.heap.size, 11, none⟩ = some (.slice sa sn sc) := row_cell hu rfl
  have HBU : Hid (Below w.heap.size w U) := by
    show Below w.heap.size w U
    rw [hU]
    iterate 12 refine below_at ?_
    exact unhide HB
  have HOU : Hid (U.ownsRow w.heap.size 53 2 (.slice sa sn sc) sn xs) := by
    show U.ownsRow w.heap.size 53 2 (.slice sa sn sc) sn xs
    rw [hU]
    refine Dh.own_mono (b := w.heap.size + 1) ?_ (by omega)
    iterate 12 refine ownsRow_setCell_below ?_ (by show w.heap.size < _; omega) _
    exact Dh.own_mono ho (by simp)
  have HU := hide hU
  clear hr hu hU hb HR ho
  go_wp2
  rw [← unhide HU]
  clear HU d0 d1 d2 d3 d4 d5 d6 d7 d8 d9 d10 d11 fr
  exact bodyPost_ret (v := .tuple #[.agg #[.bool a0, .int .u32 a1, .int .u32 a2, .int .u32 a3, .int .u32 a4, .int .u8 a5, .int .u8 a6, .int .u8 a7, .int .u8 a8, .int .u8 a9, .int .u8 a10, .slice sa sn sc], .int .i64 0]) (by simp [results, Tryz.results48, go_sem, u0, u1, u2, u3, u4, u5, u6, u7, u8, u9, u10, u11]) rfl ⟨sa, sc, rfl, unhide HOU, unhide HBU⟩

set_option maxHeartbeats 4000000 in
set_option maxRecDepth 10000 in
theorem boot_of_ok (s : ByteArray) (a0 : Bool) (a1 a2 a3 a4 a5 a6 a7 a8 a9 a10 : Int) (sn : Nat) (xs : List Value) (w : World)
    (hR : ∀ u : World, Calls Tryz.prog 48 #[.string s] u fun ee w' => OutP sn xs u (fun sa sc => .tuple #[.agg #[.bool a0, .int .u32 a1, .int .u32 a2, .int .u32 a3, .int .u32 a4, .int .u8 a5, .int .u8 a6, .int .u8 a7, .int .u8 a8, .int .u8 a9, .int .u8 a10, .slice sa sn sc], .int .i64 0]) ee w') :
    Calls Tryz.prog 23 #[.string s] w fun ee w' => OutP sn xs w (fun sa sc => .tuple #[.agg #[.bool a0, .int .u32 a1, .int .u32 a2, .int .u32 a3, .int .u32 a4, .int .u8 a5, .int .u8 a6, .int .u8 a7, .int .u8 a8, .int .u8 a9, .int .u8 a10, .slice sa sn sc], .int .i64 0]) ee w' := by
  have HR := hide hR
  clear hR
  go_enter Tryz.func23, Tryz.ntmps23
  go_wp2_with fail
  refine (unhide HR _).mono ?_
  rintro ee w1 ⟨sa, sc, rfl, ho, hb⟩
  have hr : w1.heap[w.heap.size]? = some (.cells #[.bool false, .int .u32 0, .int .u32 0, .int .u32 0, .int .u32 0, .int .u8 0, .int .u8 0, .int .u8 0, .int .u8 0, .int .u8 0, .int .u8 0, .slice none 0 0] 56 (0, 0)) := (hb.block _ (by simp)).trans (heap_alloc_new w _)
  have d0 : w1.cell? ⟨w.heap.size, 0, none⟩ = some (.bool false) := row_cell hr rfl
  have d1 : w1.cell? ⟨w.heap.size, 1, none⟩ = some (.int .u32 0) := row_cell hr rfl
  have d2 : w1.cell? ⟨w.heap.size, 2, none⟩ = some (.int .u32 0) := row_cell hr rfl
  have d3 : w1.cell? ⟨w.heap.size, 3, none⟩ = some (.int .u32 0) := row_cell hr rfl
  have d4 : w1.cell? ⟨w.heap.size, 4, none⟩ = some (.int .u32 0) := row_cell hr rfl
  have d5 : w1.cell? ⟨w.heap.size, 5, none⟩ = some (.int .u8 0) := row_cell hr rfl
  have d6 : w1.cell? ⟨w.heap.size, 6, none⟩ = some (.int .u8 0) := row_cell hr rfl
  have d7 : w1.cell? ⟨w.heap.size, 7, none⟩ = some (.int .u8 0) := row_cell hr rfl
  have d8 : w1.cell? ⟨w.heap.size, 8, none⟩ = some (.int .u8 0) := row_cell hr rfl
  have d9 : w1.cell? ⟨w.heap.size, 9, none⟩ = some (.int .u8 0) := row_cell hr rfl
  have d10 : w1.cell? ⟨w.heap.size, 10, none⟩ = some (.int .u8 0) := row_cell hr rfl
  have d11 : w1.cell? ⟨w.heap.size, 11, none⟩ = some (.slice none 0 0) := row_cell hr rfl
  have fr := row_free hr
  have HB : Hid (Below w.heap.size w w1) := hide (((Below.refl _ w).alloc (Nat.le_refl _) _).trans (hb.mono (by simp)))
  obtain ⟨U, hU⟩ : ∃ U, U = ((((((((((((w1.setCell ⟨w.heap.size, 0, none⟩ (.bool a0)).setCell ⟨w.heap.size, 1, none⟩ (.int .u32 a1)).setCell ⟨w.heap.size, 2, none⟩ (.int .u32 a2)).setCell ⟨w.heap.size, 3, none⟩ (.int .u32 a3)).setCell ⟨w.heap.size, 4, none⟩ (.int .u32 a4)).setCell ⟨w.heap.size, 5, none⟩ (.int .u8 a5)).setCell ⟨w.heap.size, 6, none⟩ (.int .u8 a6)).setCell ⟨w.heap.size, 7, none⟩ (.int .u8 a7)).setCell ⟨w.heap.size, 8, none⟩ (.int .u8 a8)).setCell ⟨w.heap.size, 9, none⟩ (.int .u8 a9)).setCell ⟨w.heap.size, 10, none⟩ (.int .u8 a10)).setCell ⟨w.heap.size, 11, none⟩ (.slice sa sn sc)) := ⟨_, rfl⟩
  have hu : U.heap[w.heap.size]? = some (.cells #[.bool a0, .int .u32 a1, .int .u32 a2, .int .u32 a3, .int .u32 a4, .int .u8 a5, .int .u8 a6, .int .u8 a7, .int .u8 a8, .int .u8 a9, .int .u8 a10, .slice sa sn sc] 56 (0, 0)) := by
    rw [hU]
    exact row_set12 _ _ _ _ _ _ _ _ _ _ _ _ _ _ _ _ _ _ _ _ _ _ _ _ hr
  have u0 : U.cell? ⟨w.heap.size, 0, none⟩ = some (.bool a0) := row_cell hu rfl
  have u1 : U.cell? ⟨w.heap.size, 1, none⟩ = some (.int .u32 a1) := row_cell hu rfl
  have u2 : U.cell? ⟨w.heap.size, 2, none⟩ = some (.int .u32 a2) := row_cell hu rfl
  have u3 : U.cell? ⟨w.heap.size, 3, none⟩ = some (.int .u32 a3) := row_cell hu rfl
  have u4 : U.cell? ⟨w.heap.size, 4, none⟩ = some (.int .u32 a4) := row_cell hu rfl
  have u5 : U.cell? ⟨w.heap.size, 5, none⟩ = some (.int .u8 a5) := row_cell hu rfl
  have u6 : U.cell? ⟨w.heap.size, 6, none⟩ = some (.int .u8 a6) := row_cell hu rfl
  have u7 : U.cell? ⟨w.heap.size, 7, none⟩ = some (.int .u8 a7) := row_cell hu rfl
  have u8 : U.cell? ⟨w.heap.size, 8, none⟩ = some (.int .u8 a8) := row_cell hu rfl
  have u9 : U.cell? ⟨w.heap.size, 9, none⟩ = some (.int .u8 a9) := row_cell hu rfl
  have u10 : U.cell? ⟨w.heap.size, 10, none⟩ = some (.int .u8 a10) := row_cell hu rfl
  have u11 : U.cell? ⟨w.heap.size, 11, none⟩ = some (.slice sa sn sc) := row_cell hu rfl
  have HBU : Hid (Below w.heap.size w U) := by
    show Below w.heap.size w U
    rw [hU]
    iterate 12 refine below_at ?_
    exact unhide HB
  have HOU : Hid (U.ownsRow w.heap.size 53 2 (.slice sa sn sc) sn xs) := by
    show U.ownsRow w.heap.size 53 2 (.slice sa sn sc) sn xs
    rw [hU]
    refine Dh.own_mono (b := w.heap.size + 1) ?_ (by omega)
    iterate 12 refine ownsRow_setCell_below ?_ (by show w.heap.size < _; omega) _
    exact Dh.own_mono ho (by simp)
  have HU := hide hU
  clear hr hu hU hb HR ho
  go_wp2
  rw [← unhide HU]
  clear HU d0 d1 d2 d3 d4 d5 d6 d7 d8 d9 d10 d11 fr
  exact bodyPost_ret (v := .tuple #[.agg #[.bool a0, .int .u32 a1, .int .u32 a2, .int .u32 a3, .int .u32 a4, .int .u8 a5, .int .u8 a6, .int .u8 a7, .int .u8 a8, .int .u8 a9, .int .u8 a10, .slice sa sn sc], .int .i64 0]) (by simp [results, Tryz.results23, go_sem, u0, u1, u2, u3, u4, u5, u6, u7, u8, u9, u10, u11]) rfl ⟨sa, sc, rfl, unhide HOU, unhide HBU⟩

set_option maxHeartbeats 4000000 in
set_option maxRecDepth 10000 in
theorem wire_of_no (s : ByteArray) (k : Int) (w : World)
    (hR : ∀ u : World, Calls Tryz.prog 73 #[.string s, .func (.func 74) #[] #[]] u fun ee w' => ee = .returned (.tuple #[.agg #[.bool false, .int .u32 0, .int .u32 0, .int .u32 0, .int .u32 0, .int .u8 0, .int .u8 0, .int .u8 0, .int .u8 0, .int .u8 0, .int .u8 0, .slice none 0 0], .int .i64 k]) ∧ Below u.heap.size u w') :
    Calls Tryz.prog 48 #[.string s] w fun ee w' => ee = .returned (.tuple #[.agg #[.bool false, .int .u32 0, .int .u32 0, .int .u32 0, .int .u32 0, .int .u8 0, .int .u8 0, .int .u8 0, .int .u8 0, .int .u8 0, .int .u8 0, .slice none 0 0], .int .i64 k]) ∧ Below w.heap.size w w' := by
  have HR := hide hR
  clear hR
  go_enter Tryz.func48, Tryz.ntmps48
  go_wp2_with fail
  refine (unhide HR _).mono ?_
  rintro ee w1 ⟨rfl, hb⟩
  have hr : w1.heap[w.heap.size]? = some (.cells #[.bool false, .int .u32 0, .int .u32 0, .int .u32 0, .int .u32 0, .int .u8 0, .int .u8 0, .int .u8 0, .int .u8 0, .int .u8 0, .int .u8 0, .slice none 0 0] 56 (0, 0)) := (hb.block _ (by simp)).trans (heap_alloc_new w _)
  have d0 : w1.cell? ⟨w.heap.size, 0, none⟩ = some (.bool false) := row_cell hr rfl
  have d1 : w1.cell? ⟨w.heap.size, 1, none⟩ = some (.int .u32 0) := row_cell hr rfl
  have d2 : w1.cell? ⟨w.heap.size, 2, none⟩ = some (.int .u32 0) := row_cell hr rfl
  have d3 : w1.cell? ⟨w.heap.size, 3, none⟩ = some (.int .u32 0) := row_cell hr rfl
  have d4 : w1.cell? ⟨w.heap.size, 4, none⟩ = some (.int .u32 0) := row_cell hr rfl
  have d5 : w1.cell? ⟨w.heap.size, 5, none⟩ = some (.int .u8 0) := row_cell hr rfl
  have d6 : w1.cell? ⟨w.heap.size, 6, none⟩ = some (.int .u8 0) := row_cell hr rfl
  have d7 : w1.cell? ⟨w.heap.size, 7, none⟩ = some (.int .u8 0) := row_cell hr rfl
  have d8 : w1.cell? ⟨w.heap.size, 8, none⟩ = some (.int .u8 0) := row_cell hr rfl
  have d9 : w1.cell? ⟨w.heap.size, 9, none⟩ = some (.int .u8 0) := row_cell hr rfl
  have d10 : w1.cell? ⟨w.heap.size, 10, none⟩ = some (.int .u8 0) := row_cell hr rfl
  have d11 : w1.cell? ⟨w.heap.size, 11, none⟩ = some (.slice none 0 0) := row_cell hr rfl
  have fr := row_free hr
  have HB : Hid (Below w.heap.size w w1) := hide (((Below.refl _ w).alloc (Nat.le_refl _) _).trans (hb.mono (by simp)))
  obtain ⟨U, hU⟩ : ∃ U, U = ((((((((((((w1.setCell ⟨w.heap.size, 0, none⟩ (.bool false)).setCell ⟨w.heap.size, 1, none⟩ (.int .u32 0)).setCell ⟨w.heap.size, 2, none⟩ (.int .u32 0)).setCell ⟨w.heap.size, 3, none⟩ (.int .u32 0)).setCell ⟨w.heap.size, 4, none⟩ (.int .u32 0)).setCell ⟨w.heap.size, 5, none⟩ (.int .u8 0)).setCell ⟨w.heap.size, 6, none⟩ (.int .u8 0)).setCell ⟨w.heap.size, 7, none⟩ (.int .u8 0)).setCell ⟨w.heap.size, 8, none⟩ (.int .u8 0)).setCell ⟨w.heap.size, 9, none⟩ (.int .u8 0)).setCell ⟨w.heap.size, 10, none⟩ (.int .u8 0)).setCell ⟨w.heap.size, 11, none⟩ (.slice none 0 0)) := ⟨_, rfl⟩
  have hu : U.heap[w.heap.size]? = some (.cells #[.bool false, .int .u32 0, .int .u32 0, .int .u32 0, .int .u32 0, .int .u8 0, .int .u8 0, .int .u8 0, .int .u8 0, .int .u8 0, .int .u8 0, .slice none 0 0] 56 (0, 0)) := by
    rw [hU]
    exact row_set12 _ _ _ _ _ _ _ _ _ _ _ _ _ _ _ _ _ _ _ _ _ _ _ _ hr
  have u0 : U.cell? ⟨w.heap.size, 0, none⟩ = some (.bool false) := row_cell hu rfl
  have u1 : U.cell? ⟨w.heap.size, 1, none⟩ = some (.int .u32 0) := row_cell hu rfl
  have u2 : U.cell? ⟨w.heap.size, 2, none⟩ = some (.int .u32 0) := row_cell hu rfl
  have u3 : U.cell? ⟨w.heap.size, 3, none⟩ = some (.int .u32 0) := row_cell hu rfl
  have u4 : U.cell? ⟨w.heap.size, 4, none⟩ = some (.int .u32 0) := row_cell hu rfl
  have u5 : U.cell? ⟨w.heap.size, 5, none⟩ = some (.int .u8 0) := row_cell hu rfl
  have u6 : U.cell? ⟨w.heap.size, 6, none⟩ = some (.int .u8 0) := row_cell hu rfl
  have u7 : U.cell? ⟨w.heap.size, 7, none⟩ = some (.int .u8 0) := row_cell hu rfl
  have u8 : U.cell? ⟨w.heap.size, 8, none⟩ = some (.int .u8 0) := row_cell hu rfl
  have u9 : U.cell? ⟨w.heap.size, 9, none⟩ = some (.int .u8 0) := row_cell hu rfl
  have u10 : U.cell? ⟨w.heap.size, 10, none⟩ = some (.int .u8 0) := row_cell hu rfl
  have u11 : U.cell? ⟨w.heap.size, 11, none⟩ = some (.slice none 0 0) := row_cell hu rfl
  have HBU : Hid (Below w.heap.size w U) := by
    show Below w.heap.size w U
    rw [hU]
    iterate 12 refine below_at ?_
    exact unhide HB
  have HU := hide hU
  clear hr hu hU hb HR
  go_wp2
  rw [← unhide HU]
  clear HU d0 d1 d2 d3 d4 d5 d6 d7 d8 d9 d10 d11 fr
  exact bodyPost_ret (v := .tuple #[.agg #[.bool false, .int .u32 0, .int .u32 0, .int .u32 0, .int .u32 0, .int .u8 0, .int .u8 0, .int .u8 0, .int .u8 0, .int .u8 0, .int .u8 0, .slice none 0 0], .int .i64 k]) (by simp [results, Tryz.results48, go_sem, u0, u1, u2, u3, u4, u5, u6, u7, u8, u9, u10, u11]) rfl ⟨rfl, unhide HBU⟩

set_option maxHeartbeats 4000000 in
set_option maxRecDepth 10000 in
theorem boot_of_no (s : ByteArray) (k : Int) (w : World)
    (hR : ∀ u : World, Calls Tryz.prog 48 #[.string s] u fun ee w' => ee = .returned (.tuple #[.agg #[.bool false, .int .u32 0, .int .u32 0, .int .u32 0, .int .u32 0, .int .u8 0, .int .u8 0, .int .u8 0, .int .u8 0, .int .u8 0, .int .u8 0, .slice none 0 0], .int .i64 k]) ∧ Below u.heap.size u w') :
    Calls Tryz.prog 23 #[.string s] w fun ee w' => ee = .returned (.tuple #[.agg #[.bool false, .int .u32 0, .int .u32 0, .int .u32 0, .int .u32 0, .int .u8 0, .int .u8 0, .int .u8 0, .int .u8 0, .int .u8 0, .int .u8 0, .slice none 0 0], .int .i64 k]) ∧ Below w.heap.size w w' := by
  have HR := hide hR
  clear hR
  go_enter Tryz.func23, Tryz.ntmps23
  go_wp2_with fail
  refine (unhide HR _).mono ?_
  rintro ee w1 ⟨rfl, hb⟩
  have hr : w1.heap[w.heap.size]? = some (.cells #[.bool false, .int .u32 0, .int .u32 0, .int .u32 0, .int .u32 0, .int .u8 0, .int .u8 0, .int .u8 0, .int .u8 0, .int .u8 0, .int .u8 0, .slice none 0 0] 56 (0, 0)) := (hb.block _ (by simp)).trans (heap_alloc_new w _)
  have d0 : w1.cell? ⟨w.heap.size, 0, none⟩ = some (.bool false) := row_cell hr rfl
  have d1 : w1.cell? ⟨w.heap.size, 1, none⟩ = some (.int .u32 0) := row_cell hr rfl
  have d2 : w1.cell? ⟨w.heap.size, 2, none⟩ = some (.int .u32 0) := row_cell hr rfl
  have d3 : w1.cell? ⟨w.heap.size, 3, none⟩ = some (.int .u32 0) := row_cell hr rfl
  have d4 : w1.cell? ⟨w.heap.size, 4, none⟩ = some (.int .u32 0) := row_cell hr rfl
  have d5 : w1.cell? ⟨w.heap.size, 5, none⟩ = some (.int .u8 0) := row_cell hr rfl
  have d6 : w1.cell? ⟨w.heap.size, 6, none⟩ = some (.int .u8 0) := row_cell hr rfl
  have d7 : w1.cell? ⟨w.heap.size, 7, none⟩ = some (.int .u8 0) := row_cell hr rfl
  have d8 : w1.cell? ⟨w.heap.size, 8, none⟩ = some (.int .u8 0) := row_cell hr rfl
  have d9 : w1.cell? ⟨w.heap.size, 9, none⟩ = some (.int .u8 0) := row_cell hr rfl
  have d10 : w1.cell? ⟨w.heap.size, 10, none⟩ = some (.int .u8 0) := row_cell hr rfl
  have d11 : w1.cell? ⟨w.heap.size, 11, none⟩ = some (.slice none 0 0) := row_cell hr rfl
  have fr := row_free hr
  have HB : Hid (Below w.heap.size w w1) := hide (((Below.refl _ w).alloc (Nat.le_refl _) _).trans (hb.mono (by simp)))
  obtain ⟨U, hU⟩ : ∃ U, U = ((((((((((((w1.setCell ⟨w.heap.size, 0, none⟩ (.bool false)).setCell ⟨w.heap.size, 1, none⟩ (.int .u32 0)).setCell ⟨w.heap.size, 2, none⟩ (.int .u32 0)).setCell ⟨w.heap.size, 3, none⟩ (.int .u32 0)).setCell ⟨w.heap.size, 4, none⟩ (.int .u32 0)).setCell ⟨w.heap.size, 5, none⟩ (.int .u8 0)).setCell ⟨w.heap.size, 6, none⟩ (.int .u8 0)).setCell ⟨w.heap.size, 7, none⟩ (.int .u8 0)).setCell ⟨w.heap.size, 8, none⟩ (.int .u8 0)).setCell ⟨w.heap.size, 9, none⟩ (.int .u8 0)).setCell ⟨w.heap.size, 10, none⟩ (.int .u8 0)).setCell ⟨w.heap.size, 11, none⟩ (.slice none 0 0)) := ⟨_, rfl⟩
  have hu : U.heap[w.heap.size]? = some (.cells #[.bool false, .int .u32 0, .int .u32 0, .int .u32 0, .int .u32 0, .int .u8 0, .int .u8 0, .int .u8 0, .int .u8 0, .int .u8 0, .int .u8 0, .slice none 0 0] 56 (0, 0)) := by
    rw [hU]
    exact row_set12 _ _ _ _ _ _ _ _ _ _ _ _ _ _ _ _ _ _ _ _ _ _ _ _ hr
  have u0 : U.cell? ⟨w.heap.size, 0, none⟩ = some (.bool false) := row_cell hu rfl
  have u1 : U.cell? ⟨w.heap.size, 1, none⟩ = some (.int .u32 0) := row_cell hu rfl
  have u2 : U.cell? ⟨w.heap.size, 2, none⟩ = some (.int .u32 0) := row_cell hu rfl
  have u3 : U.cell? ⟨w.heap.size, 3, none⟩ = some (.int .u32 0) := row_cell hu rfl
  have u4 : U.cell? ⟨w.heap.size, 4, none⟩ = some (.int .u32 0) := row_cell hu rfl
  have u5 : U.cell? ⟨w.heap.size, 5, none⟩ = some (.int .u8 0) := row_cell hu rfl
  have u6 : U.cell? ⟨w.heap.size, 6, none⟩ = some (.int .u8 0) := row_cell hu rfl
  have u7 : U.cell? ⟨w.heap.size, 7, none⟩ = some (.int .u8 0) := row_cell hu rfl
  have u8 : U.cell? ⟨w.heap.size, 8, none⟩ = some (.int .u8 0) := row_cell hu rfl
  have u9 : U.cell? ⟨w.heap.size, 9, none⟩ = some (.int .u8 0) := row_cell hu rfl
  have u10 : U.cell? ⟨w.heap.size, 10, none⟩ = some (.int .u8 0) := row_cell hu rfl
  have u11 : U.cell? ⟨w.heap.size, 11, none⟩ = some (.slice none 0 0) := row_cell hu rfl
  have HBU : Hid (Below w.heap.size w U) := by
    show Below w.heap.size w U
    rw [hU]
    iterate 12 refine below_at ?_
    exact unhide HB
  have HU := hide hU
  clear hr hu hU hb HR
  go_wp2
  rw [← unhide HU]
  clear HU d0 d1 d2 d3 d4 d5 d6 d7 d8 d9 d10 d11 fr
  exact bodyPost_ret (v := .tuple #[.agg #[.bool false, .int .u32 0, .int .u32 0, .int .u32 0, .int .u32 0, .int .u8 0, .int .u8 0, .int .u8 0, .int .u8 0, .int .u8 0, .int .u8 0, .slice none 0 0], .int .i64 k]) (by simp [results, Tryz.results23, go_sem, u0, u1, u2, u3, u4, u5, u6, u7, u8, u9, u10, u11]) rfl ⟨rfl, unhide HBU⟩

end Go.Proofs.YtoifihhmneldeaaGreatDoor.DhR

namespace Go.Proofs.YtoifihhmneldeaaGreatDoor.Dh
set_option linter.unusedVariables false

/-- the pieces in which an option is written -/
def chunks (c : UInt8) (d : List UInt8) : List Pc :=
  if 255 < d.length then (c, d.take 255) :: chunks c (d.drop 255) else [(c, d)]
termination_by d.length
decreasing_by simp; omega
theorem chunks_long (c : UInt8) (d : List UInt8) (h : 255 < d.length) : chunks c d = (c, d.take 255) :: chunks c (d.drop 255) := by
  rw [chunks, if_pos h]
theorem chunks_short (c : UInt8) (d : List UInt8) (h : ¬ 255 < d.length) : chunks c d = [(c, d)] := by
  rw [chunks, if_neg h]
theorem pieces_one (c n : UInt8) (q r : List UInt8) (h0 : c.toNat ≠ 0) (h1 : c.toNat ≠ 255) (hn : q.length = n.toNat) : pieces (c :: n :: (q ++ r)) = (pieces r).map fun ps => (c, q) :: ps := by
  rw [pieces]
  simp only [h0, h1, if_false]
  rw [if_neg (by rw [List.length_append]; omega), ← hn, List.drop_left, List.take_left]
theorem pieces_opt (c : UInt8) (d r : List UInt8) (h0 : c.toNat ≠ 0) (h1 : c.toNat ≠ 255) : pieces (opt8 c d ++ r) = (pieces r).map fun ps => chunks c d ++ ps := by
  by_cases h : 255 < d.length
  · have ih := pieces_opt c (d.drop 255) r h0 h1
    rw [opt8_long c d h, chunks_long c d h]
    rw [List.cons_append, List.cons_append, List.append_assoc, pieces_one c 255 (d.take 255) _ h0 h1 (by rw [List.length_take]; show min 255 d.length = 255; omega), ih]
    cases pieces r <;> simp
  · rw [opt8_short c d h, chunks_short c d h, List.cons_append, List.cons_append, pieces_one c (UInt8.ofNat d.length) d r h0 h1 (by rw [UInt8.toNat_ofNat_of_lt' (by show d.length < 256; omega)])]
    rfl
termination_by d.length
decreasing_by simp; omega
def chunksAll (os : Opts) : List Pc := os.flatMap fun o => chunks o.1 o.2
theorem pieces_opts : ∀ (os : Opts) (z : List UInt8), bad os = false → pieces (opts8 os ++ 255 :: z) = some (chunksAll os)
  | [], z, _ => by
    show pieces (255 :: z) = some []
    rw [pieces.eq_def]; simp
  | o :: r, z, h => by
    simp only [bad, List.any_cons, Bool.or_eq_false_iff] at h
    have ih := pieces_opts r z h.2
    have hb := h.1
    simp only [badC, Bool.or_eq_false_iff, beq_eq_false_iff_ne] at hb
    have e : opts8 (o :: r) ++ 255 :: z = opt8 o.1 o.2 ++ (opts8 r ++ 255 :: z) := by simp [opts8]
    rw [e, pieces_opt _ _ _ hb.1.1 hb.2, ih]
    simp [chunksAll]
theorem add_add (l : List Pc) (c : UInt8) (x y : List UInt8) : add (add l (c, x)) (c, y) = add l (c, x ++ y) := by
  induction l with
  | nil => simp [add]
  | cons a r ih =>
    by_cases h : a.1 = c
    · simp [add, h]
    · simp only [add, h, if_false]; rw [ih]
theorem addAll_more (l : List Pc) (c : UInt8) (x d : List UInt8) : addAll (add l (c, x)) (chunks c d) = add l (c, x ++ d) := by
  by_cases h : 255 < d.length
  · have ih := addAll_more l c (x ++ d.take 255) (d.drop 255)
    rw [chunks_long c d h]
    show addAll (add (add l (c, x)) (c, d.take 255)) (chunks c (d.drop 255)) = _
    rw [add_add, ih, List.append_assoc, List.take_append_drop]
  · rw [chunks_short c d h]
    exact add_add l c x d
termination_by d.length
decreasing_by simp; omega
theorem addAll_chunks (l : List Pc) (c : UInt8) (d : List UInt8) : addAll l (chunks c d) = add l (c, d) := by
  by_cases h : 255 < d.length
  · rw [chunks_long c d h]
    show addAll (add l (c, d.take 255)) (chunks c (d.drop 255)) = _
    rw [addAll_more, List.take_append_drop]
  · rw [chunks_short c d h]; rfl
theorem addAll_app (l a b : List Pc) : addAll l (a ++ b) = addAll (addAll l a) b := by simp [addAll]
theorem addAll_all : ∀ (os : Opts) (l : List Pc), addAll l (chunksAll os) = addAll l os
  | [], l => rfl
  | o :: r, l => by
    have e : chunksAll (o :: r) = chunks o.1 o.2 ++ chunksAll r := by simp [chunksAll]
    rw [e, addAll_app, addAll_chunks, addAll_all r]
    rfl
theorem has_chunks (c x : UInt8) (d : List UInt8) (h : c ≠ x) : has (chunks c d) x = false := by
  by_cases h2 : 255 < d.length
  · have ih := has_chunks c x (d.drop 255) h
    rw [chunks_long c d h2]
    simp only [has, List.any_cons, Bool.or_eq_false_iff]
    exact ⟨by simpa using h, ih⟩
  · rw [chunks_short c d h2]
    simpa [has] using h
termination_by d.length
decreasing_by simp; omega
theorem has_chunksAll (os : Opts) (h : bad os = false) : has (chunksAll os) 52 = false := by
  induction os with
  | nil => rfl
  | cons o r ih =>
    simp only [bad, List.any_cons, Bool.or_eq_false_iff] at h
    have hb := h.1
    simp only [badC, Bool.or_eq_false_iff, beq_eq_false_iff_ne] at hb
    have e : chunksAll (o :: r) = chunks o.1 o.2 ++ chunksAll r := by simp [chunksAll]
    rw [e]
    simp only [has, List.any_append, Bool.or_eq_false_iff]
    exact ⟨has_chunks o.1 52 o.2 (fun e => hb.1.2 (by rw [e]; rfl)), ih h.2⟩
/-- what is read of options that were written -/
theorem opts_back (os : Opts) (z host file : List UInt8) (h : bad os = false) : optK (opts8 os ++ 255 :: z) host file = 0 ∧ optL (opts8 os ++ 255 :: z) host file = addAll [] os := by
  unfold optK optL
  rw [pieces_opts os z h]
  simp only [has_chunksAll os h]
  exact ⟨rfl, addAll_all os []⟩
theorem addAll_three (c1 c2 c3 : UInt8) (d1 d2 d3 : List UInt8) (h1 : c1 ≠ c2) (h2 : c1 ≠ c3) (h3 : c2 ≠ c3) : addAll [] [(c1, d1), (c2, d2), (c3, d3)] = [(c1, d1), (c2, d2), (c3, d3)] := by
  simp [addAll, add, h1, h2, h3]
end Go.Proofs.YtoifihhmneldeaaGreatDoor.Dh

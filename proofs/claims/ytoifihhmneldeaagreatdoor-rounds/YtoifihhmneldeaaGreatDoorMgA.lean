import Derived.Test.YtoifihhmneldeaaGreatDoorReaderCard
import Derived.Test.YtoifihhmneldeaaGreatDoorEtherRh
import Derived.Test.YtoifihhmneldeaaGreatDoorARPMath
import Derived.Test.YtoifihhmneldeaaGreatDoorStructSame
import Derived.Deep.RegionHeld3
namespace Go.Proofs.YtoifihhmneldeaaGreatDoor.ArR
open Go.ChangeShapes Go.WideShapes Go.ChangeAt Go.RowKit Bs Rd
set_option linter.unusedVariables false

def okHead (a b c d e f : UInt8) : Bool := [a, b, c, d, e, f] == [0, 1, 8, 0, 6, 4]

set_option maxHeartbeats 1000000 in
theorem isHead_any (a b c d e f : UInt8) (w : World) :
    Calls Tryz.prog 85 #[.string ⟨#[a, b, c, d, e, f]⟩] w fun ee w' => ee = .returned (.bool (okHead a b c d e f)) ∧ w' = w := by
  obtain ⟨s, hS⟩ : ∃ s : ByteArray, s = ⟨#[a, b, c, d, e, f]⟩ := ⟨_, rfl⟩
  have e1 : (s.toList == [0, 1, 8, 0, 6, 4]) = okHead a b c d e f := by rw [hS, okHead, ByteArray.toList_eq]
  rw [← hS, ← e1]
  clear hS e1
  go_enter Tryz.func85, Tryz.ntmps85
  go_wp2
  go_ret
  exact ⟨rfl, rfl⟩

set_option maxHeartbeats 1000000 in
theorem arpHead_ok (B : Nat) (a b c d e f : UInt8) (l : List UInt8) (w : World) (h : Rdr w B (a :: b :: c :: d :: e :: f :: l)) (hs : (a :: b :: c :: d :: e :: f :: l).length ≤ maxLen) :
    Calls Tryz.prog 84 #[.pointer (some ⟨B, 0, none⟩)] w fun ee w' => ee = .returned (.string ⟨#[a, b, c, d, e, f]⟩) ∧ Rdr w' B l ∧ w.grownBy w' (some B) := by
  have HN := hide (take_ok B (a :: b :: c :: d :: e :: f :: l) 6 w h (by simp) hs)
  have HR := hide (h.set l)
  clear h hs
  go_enter Tryz.func84, Tryz.ntmps84
  go_wp2_with fail
  refine (unhide HN).mono ?_
  rintro ee w1 ⟨rfl, rfl⟩
  go_wp2
  go_ret
  exact ⟨rfl, unhide HR, grown_set _⟩

set_option maxHeartbeats 1000000 in
theorem getHead_ok (B : Nat) (a b c d e f : UInt8) (l : List UInt8) (w : World) (h : Rdr w B (a :: b :: c :: d :: e :: f :: l)) (hs : (a :: b :: c :: d :: e :: f :: l).length ≤ maxLen) (ht : okHead a b c d e f = true) :
    Calls Tryz.prog 55 #[.pointer (some ⟨B, 0, none⟩), .func (.func 84) #[] #[], .func (.func 85) #[] #[], .int .i64 2] w fun ee w' => (∃ v, ee = .returned v) ∧ Rdr w' B l ∧ w.grownBy w' (some B) := by
  have HN := hide (arpHead_ok B a b c d e f l w h hs)
  have HT := hide ht
  have HI := hide (fun u => isHead_any a b c d e f u)
  clear h hs ht
  go_enter Tryz.func55, Tryz.ntmps55
  go_wp2_with fail
  refine (unhide HN).mono ?_
  rintro ee w1 ⟨rfl, h1, g1⟩
  have H1 := hide h1
  have G1 := hide g1
  clear h1 g1
  go_wp2_with fail
  refine (unhide HI _).mono ?_
  rintro ee w2 ⟨rfl, rfl⟩
  rw [unhide HT]
  go_wp2_with fail
  refine (must_ok _ _).mono ?_
  rintro _ w3 ⟨rfl, rfl⟩
  go_wp2
  go_ret
  exact ⟨⟨_, rfl⟩, unhide H1, unhide G1⟩

set_option maxHeartbeats 1000000 in
theorem getHead_no (B : Nat) (a b c d e f : UInt8) (l : List UInt8) (w : World) (h : Rdr w B (a :: b :: c :: d :: e :: f :: l)) (hs : (a :: b :: c :: d :: e :: f :: l).length ≤ maxLen) (ht : okHead a b c d e f = false) :
    Calls Tryz.prog 55 #[.pointer (some ⟨B, 0, none⟩), .func (.func 84) #[] #[], .func (.func 85) #[] #[], .int .i64 2] w fun ee w' => ee = .panicked (errP 2) ∧ w.grownBy w' (some B) := by
  have HN := hide (arpHead_ok B a b c d e f l w h hs)
  have HT := hide ht
  have HI := hide (fun u => isHead_any a b c d e f u)
  clear h hs ht
  go_enter Tryz.func55, Tryz.ntmps55
  go_wp2_with fail
  refine (unhide HN).mono ?_
  rintro ee w1 ⟨rfl, h1, g1⟩
  have G1 := hide g1
  clear h1 g1
  go_wp2_with fail
  refine (unhide HI _).mono ?_
  rintro ee w2 ⟨rfl, rfl⟩
  rw [unhide HT]
  go_wp2_with fail
  refine (must_no _ _).mono ?_
  rintro _ w3 ⟨rfl, rfl⟩
  exact ⟨rfl, rfl, unhide G1⟩

set_option maxHeartbeats 1000000 in
theorem getOp_ok (B : Nat) (a b : UInt8) (l : List UInt8) (w : World) (h : Rdr w B (a :: b :: l)) (hs : (a :: b :: l).length ≤ maxLen) (ht : (256 * (a.toNat : Int) + (b.toNat : Int) == 1 || 256 * (a.toNat : Int) + (b.toNat : Int) == 2) = true) :
    Calls Tryz.prog 53 #[.pointer (some ⟨B, 0, none⟩), .func (.func 54) #[] #[], .func (.func 67) #[] #[], .int .i64 2] w fun e w' => e = .returned (.int .u16 (256 * (a.toNat : Int) + (b.toNat : Int))) ∧ Rdr w' B l ∧ w.grownBy w' (some B) := by
  have HN := hide (word_ok B a b l w h hs)
  obtain ⟨x, hx⟩ : ∃ x, x = 256 * (a.toNat : Int) + (b.toNat : Int) := ⟨_, rfl⟩
  rw [← hx] at HN ht ⊢
  have HT := hide ht
  have HI := hide (fun u => Arp.isOp_any x u)
  clear h hx hs ht
  go_enter Tryz.func53, Tryz.ntmps53
  go_wp2_with fail
  refine (unhide HN).mono ?_
  rintro e w1 ⟨rfl, h1, g1⟩
  have H1 := hide h1
  have G1 := hide g1
  clear h1 g1
  go_wp2_with fail
  refine (unhide HI _).mono ?_
  rintro e w2 ⟨rfl, rfl⟩
  rw [unhide HT]
  go_wp2_with fail
  refine (must_ok _ _).mono ?_
  rintro _ w3 ⟨rfl, rfl⟩
  go_wp2
  go_ret
  exact ⟨rfl, unhide H1, unhide G1⟩

set_option maxHeartbeats 1000000 in
theorem getOp_no (B : Nat) (a b : UInt8) (l : List UInt8) (w : World) (h : Rdr w B (a :: b :: l)) (hs : (a :: b :: l).length ≤ maxLen) (ht : (256 * (a.toNat : Int) + (b.toNat : Int) == 1 || 256 * (a.toNat : Int) + (b.toNat : Int) == 2) = false) :
    Calls Tryz.prog 53 #[.pointer (some ⟨B, 0, none⟩), .func (.func 54) #[] #[], .func (.func 67) #[] #[], .int .i64 2] w fun e w' => e = .panicked (errP 2) ∧ w.grownBy w' (some B) := by
  have HN := hide (word_ok B a b l w h hs)
  obtain ⟨x, hx⟩ : ∃ x, x = 256 * (a.toNat : Int) + (b.toNat : Int) := ⟨_, rfl⟩
  rw [← hx] at HN ht
  have HT := hide ht
  have HI := hide (fun u => Arp.isOp_any x u)
  clear h hx hs ht
  go_enter Tryz.func53, Tryz.ntmps53
  go_wp2_with fail
  refine (unhide HN).mono ?_
  rintro e w1 ⟨rfl, h1, g1⟩
  have G1 := hide g1
  clear h1 g1
  go_wp2_with fail
  refine (unhide HI _).mono ?_
  rintro e w2 ⟨rfl, rfl⟩
  rw [unhide HT]
  go_wp2_with fail
  refine (must_no _ _).mono ?_
  rintro _ w3 ⟨rfl, rfl⟩
  exact ⟨rfl, rfl, unhide G1⟩
end Go.Proofs.YtoifihhmneldeaaGreatDoor.ArR

namespace Go.Proofs.YtoifihhmneldeaaGreatDoor.ArR
open Go.ChangeShapes Go.WideShapes Go.ChangeAt Go.RowKit Bs Rd EtR
set_option linter.unusedVariables false

set_option maxHeartbeats 2000000 in
theorem arp_short (B : Nat) (l : List UInt8) (w : World) (h : Rdr w B l) (hn : l.length < 28) :
    Calls Tryz.prog 69 #[.pointer (some ⟨B, 0, none⟩)] w fun ee w' => ee = .panicked (errP 1) ∧ w.grownBy w' (some B) := by
  have hB := h.lt
  have hne0 : w.heap.size ≠ B := by omega
  have H0 := hide (h.alloc (.cells #[.int .u16 0, .int .u8 0, .int .u8 0, .int .u8 0, .int .u8 0, .int .u8 0, .int .u8 0, .int .u32 0, .int .u8 0, .int .u8 0, .int .u8 0, .int .u8 0, .int .u8 0, .int .u8 0, .int .u32 0] 48))
  have G0 := hide (grown_alloc (grown_refl w (some B)) (.cells #[.int .u16 0, .int .u8 0, .int .u8 0, .int .u8 0, .int .u8 0, .int .u8 0, .int .u8 0, .int .u32 0, .int .u8 0, .int .u8 0, .int .u8 0, .int .u8 0, .int .u8 0, .int .u8 0, .int .u32 0] 48))
  have R0 : Hid ((w.alloc (.cells #[.int .u16 0, .int .u8 0, .int .u8 0, .int .u8 0, .int .u8 0, .int .u8 0, .int .u8 0, .int .u32 0, .int .u8 0, .int .u8 0, .int .u8 0, .int .u8 0, .int .u8 0, .int .u8 0, .int .u32 0] 48)).heap[w.heap.size]? = some (.cells #[.int .u16 0, .int .u8 0, .int .u8 0, .int .u8 0, .int .u8 0, .int .u8 0, .int .u8 0, .int .u32 0, .int .u8 0, .int .u8 0, .int .u8 0, .int .u8 0, .int .u8 0, .int .u8 0, .int .u32 0] 48 (0, 0))) := heap_alloc_new w _
  clear h
  go_enter Tryz.func69, Tryz.ntmps69
  go_wp2_with fail
  refine (need_no _ _ _ _ (unhide H0) (by omega)).mono ?_
  rintro ee wz ⟨rfl, rfl⟩
  exact ⟨rfl, rfl, unhide G0⟩

set_option maxHeartbeats 2000000 in
theorem arp_head (B : Nat) (h1 h2 h3 h4 h5 h6 o o' a b c d e f i1 i2 i3 i4 a' b' c' d' e' f' j1 j2 j3 j4 : UInt8) (l : List UInt8) (w : World) (h : Rdr w B (h1 :: h2 :: h3 :: h4 :: h5 :: h6 :: o :: o' :: a :: b :: c :: d :: e :: f :: i1 :: i2 :: i3 :: i4 :: a' :: b' :: c' :: d' :: e' :: f' :: j1 :: j2 :: j3 :: j4 :: l)) (hs : (h1 :: h2 :: h3 :: h4 :: h5 :: h6 :: o :: o' :: a :: b :: c :: d :: e :: f :: i1 :: i2 :: i3 :: i4 :: a' :: b' :: c' :: d' :: e' :: f' :: j1 :: j2 :: j3 :: j4 :: l).length ≤ maxLen) (hh : okHead h1 h2 h3 h4 h5 h6 = false) :
    Calls Tryz.prog 69 #[.pointer (some ⟨B, 0, none⟩)] w fun ee w' => ee = .panicked (errP 2) ∧ w.grownBy w' (some B) := by
  have hB := h.lt
  have hne0 : w.heap.size ≠ B := by omega
  have H0 := hide (h.alloc (.cells #[.int .u16 0, .int .u8 0, .int .u8 0, .int .u8 0, .int .u8 0, .int .u8 0, .int .u8 0, .int .u32 0, .int .u8 0, .int .u8 0, .int .u8 0, .int .u8 0, .int .u8 0, .int .u8 0, .int .u32 0] 48))
  have G0 := hide (grown_alloc (grown_refl w (some B)) (.cells #[.int .u16 0, .int .u8 0, .int .u8 0, .int .u8 0, .int .u8 0, .int .u8 0, .int .u8 0, .int .u32 0, .int .u8 0, .int .u8 0, .int .u8 0, .int .u8 0, .int .u8 0, .int .u8 0, .int .u32 0] 48))
  have R0 : Hid ((w.alloc (.cells #[.int .u16 0, .int .u8 0, .int .u8 0, .int .u8 0, .int .u8 0, .int .u8 0, .int .u8 0, .int .u32 0, .int .u8 0, .int .u8 0, .int .u8 0, .int .u8 0, .int .u8 0, .int .u8 0, .int .u32 0] 48)).heap[w.heap.size]? = some (.cells #[.int .u16 0, .int .u8 0, .int .u8 0, .int .u8 0, .int .u8 0, .int .u8 0, .int .u8 0, .int .u32 0, .int .u8 0, .int .u8 0, .int .u8 0, .int .u8 0, .int .u8 0, .int .u8 0, .int .u32 0] 48 (0, 0))) := heap_alloc_new w _
  clear h
  have T1 := hide (fun u hu => getHead_no B h1 h2 h3 h4 h5 h6 _ u hu hs hh)
  clear hh
  go_enter Tryz.func69, Tryz.ntmps69
  go_wp2_with fail
  refine (need_ok _ _ _ _ (unhide H0) (by simp only [List.length_cons]; omega)).mono ?_
  rintro ee wz ⟨rfl, rfl⟩
  go_wp2_with fail
  refine (unhide T1 _ (unhide H0)).mono ?_
  rintro ee wy ⟨rfl, gy⟩
  exact ⟨rfl, rfl, grown_trans (unhide G0) gy⟩

set_option maxHeartbeats 2000000 in
theorem arp_op (B : Nat) (h1 h2 h3 h4 h5 h6 o o' a b c d e f i1 i2 i3 i4 a' b' c' d' e' f' j1 j2 j3 j4 : UInt8) (l : List UInt8) (w : World) (h : Rdr w B (h1 :: h2 :: h3 :: h4 :: h5 :: h6 :: o :: o' :: a :: b :: c :: d :: e :: f :: i1 :: i2 :: i3 :: i4 :: a' :: b' :: c' :: d' :: e' :: f' :: j1 :: j2 :: j3 :: j4 :: l)) (hs : (h1 :: h2 :: h3 :: h4 :: h5 :: h6 :: o :: o' :: a :: b :: c :: d :: e :: f :: i1 :: i2 :: i3 :: i4 :: a' :: b' :: c' :: d' :: e' :: f' :: j1 :: j2 :: j3 :: j4 :: l).length ≤ maxLen) (hh : okHead h1 h2 h3 h4 h5 h6 = true) (ho : (256 * (o.toNat : Int) + (o'.toNat : Int) == 1 || 256 * (o.toNat : Int) + (o'.toNat : Int) == 2) = false) :
    Calls Tryz.prog 69 #[.pointer (some ⟨B, 0, none⟩)] w fun ee w' => ee = .panicked (errP 2) ∧ w.grownBy w' (some B) := by
  have hB := h.lt
  have hne0 : w.heap.size ≠ B := by omega
  have H0 := hide (h.alloc (.cells #[.int .u16 0, .int .u8 0, .int .u8 0, .int .u8 0, .int .u8 0, .int .u8 0, .int .u8 0, .int .u32 0, .int .u8 0, .int .u8 0, .int .u8 0, .int .u8 0, .int .u8 0, .int .u8 0, .int .u32 0] 48))
  have G0 := hide (grown_alloc (grown_refl w (some B)) (.cells #[.int .u16 0, .int .u8 0, .int .u8 0, .int .u8 0, .int .u8 0, .int .u8 0, .int .u8 0, .int .u32 0, .int .u8 0, .int .u8 0, .int .u8 0, .int .u8 0, .int .u8 0, .int .u8 0, .int .u32 0] 48))
  have R0 : Hid ((w.alloc (.cells #[.int .u16 0, .int .u8 0, .int .u8 0, .int .u8 0, .int .u8 0, .int .u8 0, .int .u8 0, .int .u32 0, .int .u8 0, .int .u8 0, .int .u8 0, .int .u8 0, .int .u8 0, .int .u8 0, .int .u32 0] 48)).heap[w.heap.size]? = some (.cells #[.int .u16 0, .int .u8 0, .int .u8 0, .int .u8 0, .int .u8 0, .int .u8 0, .int .u8 0, .int .u32 0, .int .u8 0, .int .u8 0, .int .u8 0, .int .u8 0, .int .u8 0, .int .u8 0, .int .u32 0] 48 (0, 0))) := heap_alloc_new w _
  clear h
  have T1 := hide (fun u hu => getHead_ok B h1 h2 h3 h4 h5 h6 _ u hu hs hh)
  have T2 := hide (fun u hu => getOp_no B o o' (a :: b :: c :: d :: e :: f :: i1 :: i2 :: i3 :: i4 :: a' :: b' :: c' :: d' :: e' :: f' :: j1 :: j2 :: j3 :: j4 :: l) u hu (by simp only [List.length_cons, maxLen] at hs ⊢; omega) ho)
  clear hh ho
  go_enter Tryz.func69, Tryz.ntmps69
  go_wp2_with fail
  refine (need_ok _ _ _ _ (unhide H0) (by simp only [List.length_cons]; omega)).mono ?_
  rintro ee wz ⟨rfl, rfl⟩
  go_wp2_with fail
  refine (unhide T1 _ (unhide H0)).mono ?_
  rintro ee w1 ⟨⟨vv, rfl⟩, k1, g1⟩
  have z1 : w.heap.size + 1 ≤ w1.heap.size := by have := g1.size; simpa using this
  have hne1 : w1.heap.size ≠ B := by omega
  have hlt0 : w.heap.size < w1.heap.size := by omega
  have H1 := hide (k1.alloc (.cells #[.int .u16 0, .int .u8 0, .int .u8 0, .int .u8 0, .int .u8 0, .int .u8 0, .int .u8 0, .int .u32 0, .int .u8 0, .int .u8 0, .int .u8 0, .int .u8 0, .int .u8 0, .int .u8 0, .int .u32 0] 48))
  have G1 := hide (grown_alloc (grown_trans (unhide G0) g1) (.cells #[.int .u16 0, .int .u8 0, .int .u8 0, .int .u8 0, .int .u8 0, .int .u8 0, .int .u8 0, .int .u32 0, .int .u8 0, .int .u8 0, .int .u8 0, .int .u8 0, .int .u8 0, .int .u8 0, .int .u32 0] 48))
  have E1 : Hid ((w1.alloc (.cells #[.int .u16 0, .int .u8 0, .int .u8 0, .int .u8 0, .int .u8 0, .int .u8 0, .int .u8 0, .int .u32 0, .int .u8 0, .int .u8 0, .int .u8 0, .int .u8 0, .int .u8 0, .int .u8 0, .int .u32 0] 48)).heap[w1.heap.size]? = some (.cells #[.int .u16 0, .int .u8 0, .int .u8 0, .int .u8 0, .int .u8 0, .int .u8 0, .int .u8 0, .int .u32 0, .int .u8 0, .int .u8 0, .int .u8 0, .int .u8 0, .int .u8 0, .int .u8 0, .int .u32 0] 48 (0, 0))) := heap_alloc_new w1 _
  have R1 : Hid ((w1.alloc (.cells #[.int .u16 0, .int .u8 0, .int .u8 0, .int .u8 0, .int .u8 0, .int .u8 0, .int .u8 0, .int .u32 0, .int .u8 0, .int .u8 0, .int .u8 0, .int .u8 0, .int .u8 0, .int .u8 0, .int .u32 0] 48)).heap[w.heap.size]? = some (.cells #[.int .u16 0, .int .u8 0, .int .u8 0, .int .u8 0, .int .u8 0, .int .u8 0, .int .u8 0, .int .u32 0, .int .u8 0, .int .u8 0, .int .u8 0, .int .u8 0, .int .u8 0, .int .u8 0, .int .u32 0] 48 (0, 0))) := by
    show _ = _
    rw [Below.heap_alloc _ _ _ (by omega)]
    exact (g1.block _ (lt_of_block (unhide R0)) (fun q => hne0 (by simpa using q))).trans (unhide R0)
  have Z1 := hide z1
  clear k1 g1 H0 G0 R0 z1
  go_wp2_with fail
  refine (unhide T2 _ (unhide H1)).mono ?_
  rintro ee wy ⟨rfl, gy⟩
  exact ⟨rfl, rfl, grown_trans (unhide G1) gy⟩

set_option maxHeartbeats 4000000 in
theorem arp_ok (B : Nat) (h1 h2 h3 h4 h5 h6 o o' a b c d e f i1 i2 i3 i4 a' b' c' d' e' f' j1 j2 j3 j4 : UInt8) (l : List UInt8) (w : World) (h : Rdr w B (h1 :: h2 :: h3 :: h4 :: h5 :: h6 :: o :: o' :: a :: b :: c :: d :: e :: f :: i1 :: i2 :: i3 :: i4 :: a' :: b' :: c' :: d' :: e' :: f' :: j1 :: j2 :: j3 :: j4 :: l)) (hs : (h1 :: h2 :: h3 :: h4 :: h5 :: h6 :: o :: o' :: a :: b :: c :: d :: e :: f :: i1 :: i2 :: i3 :: i4 :: a' :: b' :: c' :: d' :: e' :: f' :: j1 :: j2 :: j3 :: j4 :: l).length ≤ maxLen) (hh : okHead h1 h2 h3 h4 h5 h6 = true) (ho : (256 * (o.toNat : Int) + (o'.toNat : Int) == 1 || 256 * (o.toNat : Int) + (o'.toNat : Int) == 2) = true) :
    Calls Tryz.prog 69 #[.pointer (some ⟨B, 0, none⟩)] w fun ee w' => ee = .returned (.agg #[.int .u16 (256 * (o.toNat : Int) + (o'.toNat : Int)), .int .u8 a.toNat, .int .u8 b.toNat, .int .u8 c.toNat, .int .u8 d.toNat, .int .u8 e.toNat, .int .u8 f.toNat, .int .u32 (16777216 * (i1.toNat : Int) + 65536 * (i2.toNat : Int) + 256 * (i3.toNat : Int) + (i4.toNat : Int)), .int .u8 a'.toNat, .int .u8 b'.toNat, .int .u8 c'.toNat, .int .u8 d'.toNat, .int .u8 e'.toNat, .int .u8 f'.toNat, .int .u32 (16777216 * (j1.toNat : Int) + 65536 * (j2.toNat : Int) + 256 * (j3.toNat : Int) + (j4.toNat : Int))]) ∧ w.grownBy w' (some B) := by
  have hB := h.lt
  have hne0 : w.heap.size ≠ B := by omega
  have H0 := hide (h.alloc (.cells #[.int .u16 0, .int .u8 0, .int .u8 0, .int .u8 0, .int .u8 0, .int .u8 0, .int .u8 0, .int .u32 0, .int .u8 0, .int .u8 0, .int .u8 0, .int .u8 0, .int .u8 0, .int .u8 0, .int .u32 0] 48))
  have G0 := hide (grown_alloc (grown_refl w (some B)) (.cells #[.int .u16 0, .int .u8 0, .int .u8 0, .int .u8 0, .int .u8 0, .int .u8 0, .int .u8 0, .int .u32 0, .int .u8 0, .int .u8 0, .int .u8 0, .int .u8 0, .int .u8 0, .int .u8 0, .int .u32 0] 48))
  have R0 : Hid ((w.alloc (.cells #[.int .u16 0, .int .u8 0, .int .u8 0, .int .u8 0, .int .u8 0, .int .u8 0, .int .u8 0, .int .u32 0, .int .u8 0, .int .u8 0, .int .u8 0, .int .u8 0, .int .u8 0, .int .u8 0, .int .u32 0] 48)).heap[w.heap.size]? = some (.cells #[.int .u16 0, .int .u8 0, .int .u8 0, .int .u8 0, .int .u8 0, .int .u8 0, .int .u8 0, .int .u32 0, .int .u8 0, .int .u8 0, .int .u8 0, .int .u8 0, .int .u8 0, .int .u8 0, .int .u32 0] 48 (0, 0))) := heap_alloc_new w _
  clear h
  have T1 := hide (fun u hu => getHead_ok B h1 h2 h3 h4 h5 h6 _ u hu hs hh)
  have T2 := hide (fun u hu => getOp_ok B o o' (a :: b :: c :: d :: e :: f :: i1 :: i2 :: i3 :: i4 :: a' :: b' :: c' :: d' :: e' :: f' :: j1 :: j2 :: j3 :: j4 :: l) u hu (by simp only [List.length_cons, maxLen] at hs ⊢; omega) ho)
  have T4 := hide (fun u hu => address_ok B i1 i2 i3 i4 (a' :: b' :: c' :: d' :: e' :: f' :: j1 :: j2 :: j3 :: j4 :: l) u hu (by simp only [List.length_cons, maxLen] at hs ⊢; omega))
  have T6 := hide (fun u hu => address_ok B j1 j2 j3 j4 l u hu (by simp only [List.length_cons, maxLen] at hs ⊢; omega))
  obtain ⟨x, hx⟩ : ∃ x, x = 256 * (o.toNat : Int) + (o'.toNat : Int) := ⟨_, rfl⟩
  obtain ⟨y, hy⟩ : ∃ y, y = 16777216 * (i1.toNat : Int) + 65536 * (i2.toNat : Int) + 256 * (i3.toNat : Int) + (i4.toNat : Int) := ⟨_, rfl⟩
  obtain ⟨v, hv⟩ : ∃ v, v = 16777216 * (j1.toNat : Int) + 65536 * (j2.toNat : Int) + 256 * (j3.toNat : Int) + (j4.toNat : Int) := ⟨_, rfl⟩
  rw [← hx] at T2 ⊢
  rw [← hy] at T4 ⊢
  rw [← hv] at T6 ⊢
  clear hh ho hx hy hv
  go_enter Tryz.func69, Tryz.ntmps69
  go_wp2_with fail
  refine (need_ok _ _ _ _ (unhide H0) (by simp only [List.length_cons]; omega)).mono ?_
  rintro ee wz ⟨rfl, rfl⟩
  go_wp2_with fail
  refine (unhide T1 _ (unhide H0)).mono ?_
  rintro ee w1 ⟨⟨vv, rfl⟩, k1, g1⟩
  have z1 : w.heap.size + 1 ≤ w1.heap.size := by have := g1.size; simpa using this
  have hne1 : w1.heap.size ≠ B := by omega
  have hlt0 : w.heap.size < w1.heap.size := by omega
  have H1 := hide (k1.alloc (.cells #[.int .u16 0, .int .u8 0, .int .u8 0, .int .u8 0, .int .u8 0, .int .u8 0, .int .u8 0, .int .u32 0, .int .u8 0, .int .u8 0, .int .u8 0, .int .u8 0, .int .u8 0, .int .u8 0, .int .u32 0] 48))
  have G1 := hide (grown_alloc (grown_trans (unhide G0) g1) (.cells #[.int .u16 0, .int .u8 0, .int .u8 0, .int .u8 0, .int .u8 0, .int .u8 0, .int .u8 0, .int .u32 0, .int .u8 0, .int .u8 0, .int .u8 0, .int .u8 0, .int .u8 0, .int .u8 0, .int .u32 0] 48))
  have E1 : Hid ((w1.alloc (.cells #[.int .u16 0, .int .u8 0, .int .u8 0, .int .u8 0, .int .u8 0, .int .u8 0, .int .u8 0, .int .u32 0, .int .u8 0, .int .u8 0, .int .u8 0, .int .u8 0, .int .u8 0, .int .u8 0, .int .u32 0] 48)).heap[w1.heap.size]? = some (.cells #[.int .u16 0, .int .u8 0, .int .u8 0, .int .u8 0, .int .u8 0, .int .u8 0, .int .u8 0, .int .u32 0, .int .u8 0, .int .u8 0, .int .u8 0, .int .u8 0, .int .u8 0, .int .u8 0, .int .u32 0] 48 (0, 0))) := heap_alloc_new w1 _
  have R1 : Hid ((w1.alloc (.cells #[.int .u16 0, .int .u8 0, .int .u8 0, .int .u8 0, .int .u8 0, .int .u8 0, .int .u8 0, .int .u32 0, .int .u8 0, .int .u8 0, .int .u8 0, .int .u8 0, .int .u8 0, .int .u8 0, .int .u32 0] 48)).heap[w.heap.size]? = some (.cells #[.int .u16 0, .int .u8 0, .int .u8 0, .int .u8 0, .int .u8 0, .int .u8 0, .int .u8 0, .int .u32 0, .int .u8 0, .int .u8 0, .int .u8 0, .int .u8 0, .int .u8 0, .int .u8 0, .int .u32 0] 48 (0, 0))) := by
    show _ = _
    rw [Below.heap_alloc _ _ _ (by omega)]
    exact (g1.block _ (lt_of_block (unhide R0)) (fun q => hne0 (by simpa using q))).trans (unhide R0)
  have Z1 := hide z1
  clear k1 g1 H0 G0 R0 z1
  go_wp2_with fail
  refine (unhide T2 _ (unhide H1)).mono ?_
  rintro ee w2 ⟨rfl, k2, g2⟩
  have he : w2.heap[w1.heap.size]? = some (.cells #[.int .u16 0, .int .u8 0, .int .u8 0, .int .u8 0, .int .u8 0, .int .u8 0, .int .u8 0, .int .u32 0, .int .u8 0, .int .u8 0, .int .u8 0, .int .u8 0, .int .u8 0, .int .u8 0, .int .u32 0] 48 (0, 0)) := (g2.block _ (lt_of_block (unhide E1)) (fun q => hne1 (by simpa using q))).trans (unhide E1)
  have hr : w2.heap[w.heap.size]? = some (.cells #[.int .u16 0, .int .u8 0, .int .u8 0, .int .u8 0, .int .u8 0, .int .u8 0, .int .u8 0, .int .u32 0, .int .u8 0, .int .u8 0, .int .u8 0, .int .u8 0, .int .u8 0, .int .u8 0, .int .u32 0] 48 (0, 0)) := (g2.block _ (lt_of_block (unhide R1)) (fun q => hne0 (by simpa using q))).trans (unhide R1)
  have c2_0 : w2.cell? ⟨w1.heap.size, 0, none⟩ = some (.int .u16 0) := row_cell he rfl
  have f2 := row_free he
  have E2 : Hid ((w2.setCell ⟨w1.heap.size, 0, none⟩ (.int .u16 x)).heap[w1.heap.size]? = some (.cells #[.int .u16 x, .int .u8 0, .int .u8 0, .int .u8 0, .int .u8 0, .int .u8 0, .int .u8 0, .int .u32 0, .int .u8 0, .int .u8 0, .int .u8 0, .int .u8 0, .int .u8 0, .int .u8 0, .int .u32 0] 48 (0, 0))) := row_set (he) 0 (.int .u16 x)
  have H2 : Hid (Rdr (w2.setCell ⟨w1.heap.size, 0, none⟩ (.int .u16 x)) B (a :: b :: c :: d :: e :: f :: i1 :: i2 :: i3 :: i4 :: a' :: b' :: c' :: d' :: e' :: f' :: j1 :: j2 :: j3 :: j4 :: l)) := other (k2) hne1.symm _
  have G2 : Hid (w.grownBy (w2.setCell ⟨w1.heap.size, 0, none⟩ (.int .u16 x)) (some B)) := grown_new (grown_trans (unhide G1) g2) (Nat.le_of_lt hlt0) _
  have R2 : Hid ((w2.setCell ⟨w1.heap.size, 0, none⟩ (.int .u16 x)).heap[w.heap.size]? = some (.cells #[.int .u16 0, .int .u8 0, .int .u8 0, .int .u8 0, .int .u8 0, .int .u8 0, .int .u8 0, .int .u32 0, .int .u8 0, .int .u8 0, .int .u8 0, .int .u8 0, .int .u8 0, .int .u8 0, .int .u32 0] 48 (0, 0))) := by
    show _ = _
    rw [Below.heap_setCell _ _ _ _ (Nat.ne_of_lt hlt0)]; exact hr
  clear he hr k2 g2 H1 G1 E1 R1
  go_wp2_with fail
  refine (card_ok _ _ _ _ _ _ _ _ _ (unhide H2) (by simp only [List.length_cons, maxLen] at hs ⊢; omega)).mono ?_
  rintro ee w3 ⟨rfl, k3, g3⟩
  have he : w3.heap[w1.heap.size]? = some (.cells #[.int .u16 x, .int .u8 0, .int .u8 0, .int .u8 0, .int .u8 0, .int .u8 0, .int .u8 0, .int .u32 0, .int .u8 0, .int .u8 0, .int .u8 0, .int .u8 0, .int .u8 0, .int .u8 0, .int .u32 0] 48 (0, 0)) := (g3.block _ (lt_of_block (unhide E2)) (fun q => hne1 (by simpa using q))).trans (unhide E2)
  have hr : w3.heap[w.heap.size]? = some (.cells #[.int .u16 0, .int .u8 0, .int .u8 0, .int .u8 0, .int .u8 0, .int .u8 0, .int .u8 0, .int .u32 0, .int .u8 0, .int .u8 0, .int .u8 0, .int .u8 0, .int .u8 0, .int .u8 0, .int .u32 0] 48 (0, 0)) := (g3.block _ (lt_of_block (unhide R2)) (fun q => hne0 (by simpa using q))).trans (unhide R2)
  have c3_1 : w3.cell? ⟨w1.heap.size, 1, none⟩ = some (.int .u8 0) := row_cell he rfl
  have c3_2 : w3.cell? ⟨w1.heap.size, 2, none⟩ = some (.int .u8 0) := row_cell he rfl
  have c3_3 : w3.cell? ⟨w1.heap.size, 3, none⟩ = some (.int .u8 0) := row_cell he rfl
  have c3_4 : w3.cell? ⟨w1.heap.size, 4, none⟩ = some (.int .u8 0) := row_cell he rfl
  have c3_5 : w3.cell? ⟨w1.heap.size, 5, none⟩ = some (.int .u8 0) := row_cell he rfl
  have c3_6 : w3.cell? ⟨w1.heap.size, 6, none⟩ = some (.int .u8 0) := row_cell he rfl
  have f3 := row_free he
  have E3 : Hid (((((((w3.setCell ⟨w1.heap.size, 1, none⟩ (.int .u8 a.toNat)).setCell ⟨w1.heap.size, 2, none⟩ (.int .u8 b.toNat)).setCell ⟨w1.heap.size, 3, none⟩ (.int .u8 c.toNat)).setCell ⟨w1.heap.size, 4, none⟩ (.int .u8 d.toNat)).setCell ⟨w1.heap.size, 5, none⟩ (.int .u8 e.toNat)).setCell ⟨w1.heap.size, 6, none⟩ (.int .u8 f.toNat)).heap[w1.heap.size]? = some (.cells #[.int .u16 x, .int .u8 a.toNat, .int .u8 b.toNat, .int .u8 c.toNat, .int .u8 d.toNat, .int .u8 e.toNat, .int .u8 f.toNat, .int .u32 0, .int .u8 0, .int .u8 0, .int .u8 0, .int .u8 0, .int .u8 0, .int .u8 0, .int .u32 0] 48 (0, 0))) := row_set (row_set (row_set (row_set (row_set (row_set (he) 1 (.int .u8 a.toNat)) 2 (.int .u8 b.toNat)) 3 (.int .u8 c.toNat)) 4 (.int .u8 d.toNat)) 5 (.int .u8 e.toNat)) 6 (.int .u8 f.toNat)
  have H3 : Hid (Rdr ((((((w3.setCell ⟨w1.heap.size, 1, none⟩ (.int .u8 a.toNat)).setCell ⟨w1.heap.size, 2, none⟩ (.int .u8 b.toNat)).setCell ⟨w1.heap.size, 3, none⟩ (.int .u8 c.toNat)).setCell ⟨w1.heap.size, 4, none⟩ (.int .u8 d.toNat)).setCell ⟨w1.heap.size, 5, none⟩ (.int .u8 e.toNat)).setCell ⟨w1.heap.size, 6, none⟩ (.int .u8 f.toNat)) B (i1 :: i2 :: i3 :: i4 :: a' :: b' :: c' :: d' :: e' :: f' :: j1 :: j2 :: j3 :: j4 :: l)) := other (other (other (other (other (other (k3) hne1.symm _) hne1.symm _) hne1.symm _) hne1.symm _) hne1.symm _) hne1.symm _
  have G3 : Hid (w.grownBy ((((((w3.setCell ⟨w1.heap.size, 1, none⟩ (.int .u8 a.toNat)).setCell ⟨w1.heap.size, 2, none⟩ (.int .u8 b.toNat)).setCell ⟨w1.heap.size, 3, none⟩ (.int .u8 c.toNat)).setCell ⟨w1.heap.size, 4, none⟩ (.int .u8 d.toNat)).setCell ⟨w1.heap.size, 5, none⟩ (.int .u8 e.toNat)).setCell ⟨w1.heap.size, 6, none⟩ (.int .u8 f.toNat)) (some B)) := grown_new (grown_new (grown_new (grown_new (grown_new (grown_new (grown_trans (unhide G2) g3) (Nat.le_of_lt hlt0) _) (Nat.le_of_lt hlt0) _) (Nat.le_of_lt hlt0) _) (Nat.le_of_lt hlt0) _) (Nat.le_of_lt hlt0) _) (Nat.le_of_lt hlt0) _
  have R3 : Hid (((((((w3.setCell ⟨w1.heap.size, 1, none⟩ (.int .u8 a.toNat)).setCell ⟨w1.heap.size, 2, none⟩ (.int .u8 b.toNat)).setCell ⟨w1.heap.size, 3, none⟩ (.int .u8 c.toNat)).setCell ⟨w1.heap.size, 4, none⟩ (.int .u8 d.toNat)).setCell ⟨w1.heap.size, 5, none⟩ (.int .u8 e.toNat)).setCell ⟨w1.heap.size, 6, none⟩ (.int .u8 f.toNat)).heap[w.heap.size]? = some (.cells #[.int .u16 0, .int .u8 0, .int .u8 0, .int .u8 0, .int .u8 0, .int .u8 0, .int .u8 0, .int .u32 0, .int .u8 0, .int .u8 0, .int .u8 0, .int .u8 0, .int .u8 0, .int .u8 0, .int .u32 0] 48 (0, 0))) := by
    show _ = _
    rw [Below.heap_setCell _ _ _ _ (Nat.ne_of_lt hlt0), Below.heap_setCell _ _ _ _ (Nat.ne_of_lt hlt0), Below.heap_setCell _ _ _ _ (Nat.ne_of_lt hlt0), Below.heap_setCell _ _ _ _ (Nat.ne_of_lt hlt0), Below.heap_setCell _ _ _ _ (Nat.ne_of_lt hlt0), Below.heap_setCell _ _ _ _ (Nat.ne_of_lt hlt0)]; exact hr
  clear he hr k3 g3 H2 G2 E2 R2
  go_wp2_with fail
  refine (unhide T4 _ (unhide H3)).mono ?_
  rintro ee w4 ⟨rfl, k4, g4⟩
  have he : w4.heap[w1.heap.size]? = some (.cells #[.int .u16 x, .int .u8 a.toNat, .int .u8 b.toNat, .int .u8 c.toNat, .int .u8 d.toNat, .int .u8 e.toNat, .int .u8 f.toNat, .int .u32 0, .int .u8 0, .int .u8 0, .int .u8 0, .int .u8 0, .int .u8 0, .int .u8 0, .int .u32 0] 48 (0, 0)) := (g4.block _ (lt_of_block (unhide E3)) (fun q => hne1 (by simpa using q))).trans (unhide E3)
  have hr : w4.heap[w.heap.size]? = some (.cells #[.int .u16 0, .int .u8 0, .int .u8 0, .int .u8 0, .int .u8 0, .int .u8 0, .int .u8 0, .int .u32 0, .int .u8 0, .int .u8 0, .int .u8 0, .int .u8 0, .int .u8 0, .int .u8 0, .int .u32 0] 48 (0, 0)) := (g4.block _ (lt_of_block (unhide R3)) (fun q => hne0 (by simpa using q))).trans (unhide R3)
  have c4_7 : w4.cell? ⟨w1.heap.size, 7, none⟩ = some (.int .u32 0) := row_cell he rfl
  have f4 := row_free he
  have E4 : Hid ((w4.setCell ⟨w1.heap.size, 7, none⟩ (.int .u32 y)).heap[w1.heap.size]? = some (.cells #[.int .u16 x, .int .u8 a.toNat, .int .u8 b.toNat, .int .u8 c.toNat, .int .u8 d.toNat, .int .u8 e.toNat, .int .u8 f.toNat, .int .u32 y, .int .u8 0, .int .u8 0, .int .u8 0, .int .u8 0, .int .u8 0, .int .u8 0, .int .u32 0] 48 (0, 0))) := row_set (he) 7 (.int .u32 y)
  have H4 : Hid (Rdr (w4.setCell ⟨w1.heap.size, 7, none⟩ (.int .u32 y)) B (a' :: b' :: c' :: d' :: e' :: f' :: j1 :: j2 :: j3 :: j4 :: l)) := other (k4) hne1.symm _
  have G4 : Hid (w.grownBy (w4.setCell ⟨w1.heap.size, 7, none⟩ (.int .u32 y)) (some B)) := grown_new (grown_trans (unhide G3) g4) (Nat.le_of_lt hlt0) _
  have R4 : Hid ((w4.setCell ⟨w1.heap.size, 7, none⟩ (.int .u32 y)).heap[w.heap.size]? = some (.cells #[.int .u16 0, .int .u8 0, .int .u8 0, .int .u8 0, .int .u8 0, .int .u8 0, .int .u8 0, .int .u32 0, .int .u8 0, .int .u8 0, .int .u8 0, .int .u8 0, .int .u8 0, .int .u8 0, .int .u32 0] 48 (0, 0))) := by
    show _ = _
    rw [Below.heap_setCell _ _ _ _ (Nat.ne_of_lt hlt0)]; exact hr
  clear he hr k4 g4 H3 G3 E3 R3
  go_wp2_with fail
  refine (card_ok _ _ _ _ _ _ _ _ _ (unhide H4) (by simp only [List.length_cons, maxLen] at hs ⊢; omega)).mono ?_
  rintro ee w5 ⟨rfl, k5, g5⟩
  have he : w5.heap[w1.heap.size]? = some (.cells #[.int .u16 x, .int .u8 a.toNat, .int .u8 b.toNat, .int .u8 c.toNat, .int .u8 d.toNat, .int .u8 e.toNat, .int .u8 f.toNat, .int .u32 y, .int .u8 0, .int .u8 0, .int .u8 0, .int .u8 0, .int .u8 0, .int .u8 0, .int .u32 0] 48 (0, 0)) := (g5.block _ (lt_of_block (unhide E4)) (fun q => hne1 (by simpa using q))).trans (unhide E4)
  have hr : w5.heap[w.heap.size]? = some (.cells #[.int .u16 0, .int .u8 0, .int .u8 0, .int .u8 0, .int .u8 0, .int .u8 0, .int .u8 0, .int .u32 0, .int .u8 0, .int .u8 0, .int .u8 0, .int .u8 0, .int .u8 0, .int .u8 0, .int .u32 0] 48 (0, 0)) := (g5.block _ (lt_of_block (unhide R4)) (fun q => hne0 (by simpa using q))).trans (unhide R4)
  have c5_8 : w5.cell? ⟨w1.heap.size, 8, none⟩ = some (.int .u8 0) := row_cell he rfl
  have c5_9 : w5.cell? ⟨w1.heap.size, 9, none⟩ = some (.int .u8 0) := row_cell he rfl
  have c5_10 : w5.cell? ⟨w1.heap.size, 10, none⟩ = some (.int .u8 0) := row_cell he rfl
  have c5_11 : w5.cell? ⟨w1.heap.size, 11, none⟩ = some (.int .u8 0) := row_cell he rfl
  have c5_12 : w5.cell? ⟨w1.heap.size, 12, none⟩ = some (.int .u8 0) := row_cell he rfl
  have c5_13 : w5.cell? ⟨w1.heap.size, 13, none⟩ = some (.int .u8 0) := row_cell he rfl
  have f5 := row_free he
  have E5 : Hid (((((((w5.setCell ⟨w1.heap.size, 8, none⟩ (.int .u8 a'.toNat)).setCell ⟨w1.heap.size, 9, none⟩ (.int .u8 b'.toNat)).setCell ⟨w1.heap.size, 10, none⟩ (.int .u8 c'.toNat)).setCell ⟨w1.heap.size, 11, none⟩ (.int .u8 d'.toNat)).setCell ⟨w1.heap.size, 12, none⟩ (.int .u8 e'.toNat)).setCell ⟨w1.heap.size, 13, none⟩ (.int .u8 f'.toNat)).heap[w1.heap.size]? = some (.cells #[.int .u16 x, .int .u8 a.toNat, .int .u8 b.toNat, .int .u8 c.toNat, .int .u8 d.toNat, .int .u8 e.toNat, .int .u8 f.toNat, .int .u32 y, .int .u8 a'.toNat, .int .u8 b'.toNat, .int .u8 c'.toNat, .int .u8 d'.toNat, .int .u8 e'.toNat, .int .u8 f'.toNat, .int .u32 0] 48 (0, 0))) := row_set (row_set (row_set (row_set (row_set (row_set (he) 8 (.int .u8 a'.toNat)) 9 (.int .u8 b'.toNat)) 10 (.int .u8 c'.toNat)) 11 (.int .u8 d'.toNat)) 12 (.int .u8 e'.toNat)) 13 (.int .u8 f'.toNat)
  have H5 : Hid (Rdr ((((((w5.setCell ⟨w1.heap.size, 8, none⟩ (.int .u8 a'.toNat)).setCell ⟨w1.heap.size, 9, none⟩ (.int .u8 b'.toNat)).setCell ⟨w1.heap.size, 10, none⟩ (.int .u8 c'.toNat)).setCell ⟨w1.heap.size, 11, none⟩ (.int .u8 d'.toNat)).setCell ⟨w1.heap.size, 12, none⟩ (.int .u8 e'.toNat)).setCell ⟨w1.heap.size, 13, none⟩ (.int .u8 f'.toNat)) B (j1 :: j2 :: j3 :: j4 :: l)) := other (other (other (other (other (other (k5) hne1.symm _) hne1.symm _) hne1.symm _) hne1.symm _) hne1.symm _) hne1.symm _
  have G5 : Hid (w.grownBy ((((((w5.setCell ⟨w1.heap.size, 8, none⟩ (.int .u8 a'.toNat)).setCell ⟨w1.heap.size, 9, none⟩ (.int .u8 b'.toNat)).setCell ⟨w1.heap.size, 10, none⟩ (.int .u8 c'.toNat)).setCell ⟨w1.heap.size, 11, none⟩ (.int .u8 d'.toNat)).setCell ⟨w1.heap.size, 12, none⟩ (.int .u8 e'.toNat)).setCell ⟨w1.heap.size, 13, none⟩ (.int .u8 f'.toNat)) (some B)) := grown_new (grown_new (grown_new (grown_new (grown_new (grown_new (grown_trans (unhide G4) g5) (Nat.le_of_lt hlt0) _) (Nat.le_of_lt hlt0) _) (Nat.le_of_lt hlt0) _) (Nat.le_of_lt hlt0) _) (Nat.le_of_lt hlt0) _) (Nat.le_of_lt hlt0) _
  have R5 : Hid (((((((w5.setCell ⟨w1.heap.size, 8, none⟩ (.int .u8 a'.toNat)).setCell ⟨w1.heap.size, 9, none⟩ (.int .u8 b'.toNat)).setCell ⟨w1.heap.size, 10, none⟩ (.int .u8 c'.toNat)).setCell ⟨w1.heap.size, 11, none⟩ (.int .u8 d'.toNat)).setCell ⟨w1.heap.size, 12, none⟩ (.int .u8 e'.toNat)).setCell ⟨w1.heap.size, 13, none⟩ (.int .u8 f'.toNat)).heap[w.heap.size]? = some (.cells #[.int .u16 0, .int .u8 0, .int .u8 0, .int .u8 0, .int .u8 0, .int .u8 0, .int .u8 0, .int .u32 0, .int .u8 0, .int .u8 0, .int .u8 0, .int .u8 0, .int .u8 0, .int .u8 0, .int .u32 0] 48 (0, 0))) := by
    show _ = _
    rw [Below.heap_setCell _ _ _ _ (Nat.ne_of_lt hlt0), Below.heap_setCell _ _ _ _ (Nat.ne_of_lt hlt0), Below.heap_setCell _ _ _ _ (Nat.ne_of_lt hlt0), Below.heap_setCell _ _ _ _ (Nat.ne_of_lt hlt0), Below.heap_setCell _ _ _ _ (Nat.ne_of_lt hlt0), Below.heap_setCell _ _ _ _ (Nat.ne_of_lt hlt0)]; exact hr
  clear he hr k5 g5 H4 G4 E4 R4
  go_wp2_with fail
  refine (unhide T6 _ (unhide H5)).mono ?_
  rintro ee w6 ⟨rfl, k6, g6⟩
  have he : w6.heap[w1.heap.size]? = some (.cells #[.int .u16 x, .int .u8 a.toNat, .int .u8 b.toNat, .int .u8 c.toNat, .int .u8 d.toNat, .int .u8 e.toNat, .int .u8 f.toNat, .int .u32 y, .int .u8 a'.toNat, .int .u8 b'.toNat, .int .u8 c'.toNat, .int .u8 d'.toNat, .int .u8 e'.toNat, .int .u8 f'.toNat, .int .u32 0] 48 (0, 0)) := (g6.block _ (lt_of_block (unhide E5)) (fun q => hne1 (by simpa using q))).trans (unhide E5)
  have hr : w6.heap[w.heap.size]? = some (.cells #[.int .u16 0, .int .u8 0, .int .u8 0, .int .u8 0, .int .u8 0, .int .u8 0, .int .u8 0, .int .u32 0, .int .u8 0, .int .u8 0, .int .u8 0, .int .u8 0, .int .u8 0, .int .u8 0, .int .u32 0] 48 (0, 0)) := (g6.block _ (lt_of_block (unhide R5)) (fun q => hne0 (by simpa using q))).trans (unhide R5)
  have c6_0 : w6.cell? ⟨w1.heap.size, 0, none⟩ = some (.int .u16 x) := row_cell he rfl
  have c6_1 : w6.cell? ⟨w1.heap.size, 1, none⟩ = some (.int .u8 a.toNat) := row_cell he rfl
  have c6_2 : w6.cell? ⟨w1.heap.size, 2, none⟩ = some (.int .u8 b.toNat) := row_cell he rfl
  have c6_3 : w6.cell? ⟨w1.heap.size, 3, none⟩ = some (.int .u8 c.toNat) := row_cell he rfl
  have c6_4 : w6.cell? ⟨w1.heap.size, 4, none⟩ = some (.int .u8 d.toNat) := row_cell he rfl
  have c6_5 : w6.cell? ⟨w1.heap.size, 5, none⟩ = some (.int .u8 e.toNat) := row_cell he rfl
  have c6_6 : w6.cell? ⟨w1.heap.size, 6, none⟩ = some (.int .u8 f.toNat) := row_cell he rfl
  have c6_7 : w6.cell? ⟨w1.heap.size, 7, none⟩ = some (.int .u32 y) := row_cell he rfl
  have c6_8 : w6.cell? ⟨w1.heap.size, 8, none⟩ = some (.int .u8 a'.toNat) := row_cell he rfl
  have c6_9 : w6.cell? ⟨w1.heap.size, 9, none⟩ = some (.int .u8 b'.toNat) := row_cell he rfl
  have c6_10 : w6.cell? ⟨w1.heap.size, 10, none⟩ = some (.int .u8 c'.toNat) := row_cell he rfl
  have c6_11 : w6.cell? ⟨w1.heap.size, 11, none⟩ = some (.int .u8 d'.toNat) := row_cell he rfl
  have c6_12 : w6.cell? ⟨w1.heap.size, 12, none⟩ = some (.int .u8 e'.toNat) := row_cell he rfl
  have c6_13 : w6.cell? ⟨w1.heap.size, 13, none⟩ = some (.int .u8 f'.toNat) := row_cell he rfl
  have c6_14 : w6.cell? ⟨w1.heap.size, 14, none⟩ = some (.int .u32 0) := row_cell he rfl
  have f6 := row_free he
  have d0 : w6.cell? ⟨w.heap.size, 0, none⟩ = some (.int .u16 0) := row_cell hr rfl
  have d1 : w6.cell? ⟨w.heap.size, 1, none⟩ = some (.int .u8 0) := row_cell hr rfl
  have d2 : w6.cell? ⟨w.heap.size, 2, none⟩ = some (.int .u8 0) := row_cell hr rfl
  have d3 : w6.cell? ⟨w.heap.size, 3, none⟩ = some (.int .u8 0) := row_cell hr rfl
  have d4 : w6.cell? ⟨w.heap.size, 4, none⟩ = some (.int .u8 0) := row_cell hr rfl
  have d5 : w6.cell? ⟨w.heap.size, 5, none⟩ = some (.int .u8 0) := row_cell hr rfl
  have d6 : w6.cell? ⟨w.heap.size, 6, none⟩ = some (.int .u8 0) := row_cell hr rfl
  have d7 : w6.cell? ⟨w.heap.size, 7, none⟩ = some (.int .u32 0) := row_cell hr rfl
  have d8 : w6.cell? ⟨w.heap.size, 8, none⟩ = some (.int .u8 0) := row_cell hr rfl
  have d9 : w6.cell? ⟨w.heap.size, 9, none⟩ = some (.int .u8 0) := row_cell hr rfl
  have d10 : w6.cell? ⟨w.heap.size, 10, none⟩ = some (.int .u8 0) := row_cell hr rfl
  have d11 : w6.cell? ⟨w.heap.size, 11, none⟩ = some (.int .u8 0) := row_cell hr rfl
  have d12 : w6.cell? ⟨w.heap.size, 12, none⟩ = some (.int .u8 0) := row_cell hr rfl
  have d13 : w6.cell? ⟨w.heap.size, 13, none⟩ = some (.int .u8 0) := row_cell hr rfl
  have d14 : w6.cell? ⟨w.heap.size, 14, none⟩ = some (.int .u32 0) := row_cell hr rfl
  have kd := row_free hr
  have E6 : Hid ((w6.setCell ⟨w1.heap.size, 14, none⟩ (.int .u32 v)).heap[w1.heap.size]? = some (.cells #[.int .u16 x, .int .u8 a.toNat, .int .u8 b.toNat, .int .u8 c.toNat, .int .u8 d.toNat, .int .u8 e.toNat, .int .u8 f.toNat, .int .u32 y, .int .u8 a'.toNat, .int .u8 b'.toNat, .int .u8 c'.toNat, .int .u8 d'.toNat, .int .u8 e'.toNat, .int .u8 f'.toNat, .int .u32 v] 48 (0, 0))) := row_set (he) 14 (.int .u32 v)
  have H6 : Hid (Rdr (w6.setCell ⟨w1.heap.size, 14, none⟩ (.int .u32 v)) B (l)) := other (k6) hne1.symm _
  have G6 : Hid (w.grownBy (w6.setCell ⟨w1.heap.size, 14, none⟩ (.int .u32 v)) (some B)) := grown_new (grown_trans (unhide G5) g6) (Nat.le_of_lt hlt0) _
  have R6 : Hid ((w6.setCell ⟨w1.heap.size, 14, none⟩ (.int .u32 v)).heap[w.heap.size]? = some (.cells #[.int .u16 0, .int .u8 0, .int .u8 0, .int .u8 0, .int .u8 0, .int .u8 0, .int .u8 0, .int .u32 0, .int .u8 0, .int .u8 0, .int .u8 0, .int .u8 0, .int .u8 0, .int .u8 0, .int .u32 0] 48 (0, 0))) := by
    show _ = _
    rw [Below.heap_setCell _ _ _ _ (Nat.ne_of_lt hlt0)]; exact hr
  clear he hr k6 g6 H5 G5 E5 R5
  go_wp2
  refine bodyPost_ret (v := .agg #[.int .u16 x, .int .u8 a.toNat, .int .u8 b.toNat, .int .u8 c.toNat, .int .u8 d.toNat, .int .u8 e.toNat, .int .u8 f.toNat, .int .u32 y, .int .u8 a'.toNat, .int .u8 b'.toNat, .int .u8 c'.toNat, .int .u8 d'.toNat, .int .u8 e'.toNat, .int .u8 f'.toNat, .int .u32 v]) (by simp [results, Tryz.results69, go_sem, d0, d1, d2, d3, d4, d5, d6, d7, d8, d9, d10, d11, d12, d13, d14]) rfl ⟨rfl, ?_⟩
  iterate 15 refine grown_new ?_ (Nat.le_refl _) _
  exact unhide G6
end Go.Proofs.YtoifihhmneldeaaGreatDoor.ArR

namespace Go.Proofs.YtoifihhmneldeaaGreatDoor.ArR
open Go.ChangeShapes Go.WideShapes Go.ChangeAt Go.RowKit Bs Rd
open EtR (row_cell row_free row_set below_of below_at new_reader assert_errno)
set_option linter.unusedVariables false

theorem row_set15 {w : World} {g : Nat} {t : TypeId} (b0 b1 b2 b3 b4 b5 b6 b7 b8 b9 b10 b11 b12 b13 b14 v0 v1 v2 v3 v4 v5 v6 v7 v8 v9 v10 v11 v12 v13 v14 : Value) (h : w.heap[g]? = some (.cells #[b0, b1, b2, b3, b4, b5, b6, b7, b8, b9, b10, b11, b12, b13, b14] t (0, 0))) :
    (((((((((((((((w.setCell ⟨g, 0, none⟩ v0).setCell ⟨g, 1, none⟩ v1).setCell ⟨g, 2, none⟩ v2).setCell ⟨g, 3, none⟩ v3).setCell ⟨g, 4, none⟩ v4).setCell ⟨g, 5, none⟩ v5).setCell ⟨g, 6, none⟩ v6).setCell ⟨g, 7, none⟩ v7).setCell ⟨g, 8, none⟩ v8).setCell ⟨g, 9, none⟩ v9).setCell ⟨g, 10, none⟩ v10).setCell ⟨g, 11, none⟩ v11).setCell ⟨g, 12, none⟩ v12).setCell ⟨g, 13, none⟩ v13).setCell ⟨g, 14, none⟩ v14).heap[g]? = some (.cells #[v0, v1, v2, v3, v4, v5, v6, v7, v8, v9, v10, v11, v12, v13, v14] t (0, 0)) := by
  have h0 : (w.setCell ⟨g, 0, none⟩ v0).heap[g]? = some (.cells #[v0, b1, b2, b3, b4, b5, b6, b7, b8, b9, b10, b11, b12, b13, b14] t (0, 0)) := row_set h 0 v0
  have h1 : ((w.setCell ⟨g, 0, none⟩ v0).setCell ⟨g, 1, none⟩ v1).heap[g]? = some (.cells #[v0, v1, b2, b3, b4, b5, b6, b7, b8, b9, b10, b11, b12, b13, b14] t (0, 0)) := row_set h0 1 v1
  have h2 : (((w.setCell ⟨g, 0, none⟩ v0).setCell ⟨g, 1, none⟩ v1).setCell ⟨g, 2, none⟩ v2).heap[g]? = some (.cells #[v0, v1, v2, b3, b4, b5, b6, b7, b8, b9, b10, b11, b12, b13, b14] t (0, 0)) := row_set h1 2 v2
  have h3 : ((((w.setCell ⟨g, 0, none⟩ v0).setCell ⟨g, 1, none⟩ v1).setCell ⟨g, 2, none⟩ v2).setCell ⟨g, 3, none⟩ v3).heap[g]? = some (.cells #[v0, v1, v2, v3, b4, b5, b6, b7, b8, b9, b10, b11, b12, b13, b14] t (0, 0)) := row_set h2 3 v3
  have h4 : (((((w.setCell ⟨g, 0, none⟩ v0).setCell ⟨g, 1, none⟩ v1).setCell ⟨g, 2, none⟩ v2).setCell ⟨g, 3, none⟩ v3).setCell ⟨g, 4, none⟩ v4).heap[g]? = some (.cells #[v0, v1, v2, v3, v4, b5, b6, b7, b8, b9, b10, b11, b12, b13, b14] t (0, 0)) := row_set h3 4 v4
  have h5 : ((((((w.setCell ⟨g, 0, none⟩ v0).setCell ⟨g, 1, none⟩ v1).setCell ⟨g, 2, none⟩ v2).setCell ⟨g, 3, none⟩ v3).setCell ⟨g, 4, none⟩ v4).setCell ⟨g, 5, none⟩ v5).heap[g]? = some (.cells #[v0, v1, v2, v3, v4, v5, b6, b7, b8, b9, b10, b11, b12, b13, b14] t (0, 0)) := row_set h4 5 v5
  have h6 : (((((((w.setCell ⟨g, 0, none⟩ v0).setCell ⟨g, 1, none⟩ v1).setCell ⟨g, 2, none⟩ v2).setCell ⟨g, 3, none⟩ v3).setCell ⟨g, 4, none⟩ v4).setCell ⟨g, 5, none⟩ v5).setCell ⟨g, 6, none⟩ v6).heap[g]? = some (.cells #[v0, v1, v2, v3, v4, v5, v6, b7, b8, b9, b10, b11, b12, b13, b14] t (0, 0)) := row_set h5 6 v6
  have h7 : ((((((((w.setCell ⟨g, 0, none⟩ v0).setCell ⟨g, 1, none⟩ v1).setCell ⟨g, 2, none⟩ v2).setCell ⟨g, 3, none⟩ v3).setCell ⟨g, 4, none⟩ v4).setCell ⟨g, 5, none⟩ v5).setCell ⟨g, 6, none⟩ v6).setCell ⟨g, 7, none⟩ v7).heap[g]? = some (.cells #[v0, v1, v2, v3, v4, v5, v6, v7, b8, b9, b10, b11, b12, b13, b14] t (0, 0)) := row_set h6 7 v7
  have h8 : (((((((((w.setCell ⟨g, 0, none⟩ v0).setCell ⟨g, 1, none⟩ v1).setCell ⟨g, 2, none⟩ v2).setCell ⟨g, 3, none⟩ v3).setCell ⟨g, 4, none⟩ v4).setCell ⟨g, 5, none⟩ v5).setCell ⟨g, 6, none⟩ v6).setCell ⟨g, 7, none⟩ v7).setCell ⟨g, 8, none⟩ v8).heap[g]? = some (.cells #[v0, v1, v2, v3, v4, v5, v6, v7, v8, b9, b10, b11, b12, b13, b14] t (0, 0)) := row_set h7 8 v8
  have h9 : ((((((((((w.setCell ⟨g, 0, none⟩ v0).setCell ⟨g, 1, none⟩ v1).setCell ⟨g, 2, none⟩ v2).setCell ⟨g, 3, none⟩ v3).setCell ⟨g, 4, none⟩ v4).setCell ⟨g, 5, none⟩ v5).setCell ⟨g, 6, none⟩ v6).setCell ⟨g, 7, none⟩ v7).setCell ⟨g, 8, none⟩ v8).setCell ⟨g, 9, none⟩ v9).heap[g]? = some (.cells #[v0, v1, v2, v3, v4, v5, v6, v7, v8, v9, b10, b11, b12, b13, b14] t (0, 0)) := row_set h8 9 v9
  have h10 : (((((((((((w.setCell ⟨g, 0, none⟩ v0).setCell ⟨g, 1, none⟩ v1).setCell ⟨g, 2, none⟩ v2).setCell ⟨g, 3, none⟩ v3).setCell ⟨g, 4, none⟩ v4).setCell ⟨g, 5, none⟩ v5).setCell ⟨g, 6, none⟩ v6).setCell ⟨g, 7, none⟩ v7).setCell ⟨g, 8, none⟩ v8).setCell ⟨g, 9, none⟩ v9).setCell ⟨g, 10, none⟩ v10).heap[g]? = some (.cells #[v0, v1, v2, v3, v4, v5, v6, v7, v8, v9, v10, b11, b12, b13, b14] t (0, 0)) := row_set h9 10 v10
  have h11 : ((((((((((((w.setCell ⟨g, 0, none⟩ v0).setCell ⟨g, 1, none⟩ v1).setCell ⟨g, 2, none⟩ v2).setCell ⟨g, 3, none⟩ v3).setCell ⟨g, 4, none⟩ v4).setCell ⟨g, 5, none⟩ v5).setCell ⟨g, 6, none⟩ v6).setCell ⟨g, 7, none⟩ v7).setCell ⟨g, 8, none⟩ v8).setCell ⟨g, 9, none⟩ v9).setCell ⟨g, 10, none⟩ v10).setCell ⟨g, 11, none⟩ v11).heap[g]? = some (.cells #[v0, v1, v2, v3, v4, v5, v6, v7, v8, v9, v10, v11, b12, b13, b14] t (0, 0)) := row_set h10 11 v11
  have h12 : (((((((((((((w.setCell ⟨g, 0, none⟩ v0).setCell ⟨g, 1, none⟩ v1).setCell ⟨g, 2, none⟩ v2).setCell ⟨g, 3, none⟩ v3).setCell ⟨g, 4, none⟩ v4).setCell ⟨g, 5, none⟩ v5).setCell ⟨g, 6, none⟩ v6).setCell ⟨g, 7, none⟩ v7).setCell ⟨g, 8, none⟩ v8).setCell ⟨g, 9, none⟩ v9).setCell ⟨g, 10, none⟩ v10).setCell ⟨g, 11, none⟩ v11).setCell ⟨g, 12, none⟩ v12).heap[g]? = some (.cells #[v0, v1, v2, v3, v4, v5, v6, v7, v8, v9, v10, v11, v12, b13, b14] t (0, 0)) := row_set h11 12 v12
  have h13 : ((((((((((((((w.setCell ⟨g, 0, none⟩ v0).setCell ⟨g, 1, none⟩ v1).setCell ⟨g, 2, none⟩ v2).setCell ⟨g, 3, none⟩ v3).setCell ⟨g, 4, none⟩ v4).setCell ⟨g, 5, none⟩ v5).setCell ⟨g, 6, none⟩ v6).setCell ⟨g, 7, none⟩ v7).setCell ⟨g, 8, none⟩ v8).setCell ⟨g, 9, none⟩ v9).setCell ⟨g, 10, none⟩ v10).setCell ⟨g, 11, none⟩ v11).setCell ⟨g, 12, none⟩ v12).setCell ⟨g, 13, none⟩ v13).heap[g]? = some (.cells #[v0, v1, v2, v3, v4, v5, v6, v7, v8, v9, v10, v11, v12, v13, b14] t (0, 0)) := row_set h12 13 v13
  have h14 : (((((((((((((((w.setCell ⟨g, 0, none⟩ v0).setCell ⟨g, 1, none⟩ v1).setCell ⟨g, 2, none⟩ v2).setCell ⟨g, 3, none⟩ v3).setCell ⟨g, 4, none⟩ v4).setCell ⟨g, 5, none⟩ v5).setCell ⟨g, 6, none⟩ v6).setCell ⟨g, 7, none⟩ v7).setCell ⟨g, 8, none⟩ v8).setCell ⟨g, 9, none⟩ v9).setCell ⟨g, 10, none⟩ v10).setCell ⟨g, 11, none⟩ v11).setCell ⟨g, 12, none⟩ v12).setCell ⟨g, 13, none⟩ v13).setCell ⟨g, 14, none⟩ v14).heap[g]? = some (.cells #[v0, v1, v2, v3, v4, v5, v6, v7, v8, v9, v10, v11, v12, v13, v14] t (0, 0)) := row_set h13 14 v14
  exact h14

theorem catch_panicking (p : Addr) (x k : Int) (older : List PanicEntry) (w : World) (hc : w.cell? p = some (.int .i64 x)) (hz : w.frozen? p = false) :
    CallsD Tryz.prog 83 #[.pointer (some p)] (.panicking ({ v := .iface 28 (.int .i64 k), recovered := false } :: older)) w fun e u' w' =>
      e = .returned (.tuple #[]) ∧ u' = .panicking ({ v := .iface 28 (.int .i64 k), recovered := true } :: older) ∧ w' = w.setCell p (.int .i64 k) := by
  refine callsD_of_wpS Tryz.func83 rfl fun c₀ cs hu => ?_
  apply wpS_seq
  apply wpS_region
  simp [wpOpsS, go_sem, recoverD, hu, Tryz.ntmps83, Exit.thenS]
  refine wpS_of_wp ?_
  change Code.wp _ _ _ { tmps := #[.pointer (some p), .iface 28 (.int .i64 k), .iface 28 (.int .i64 k), undef, undef, undef, undef], defers := [] } _
  have hta := fun u => assert_errno k u
  go_wp2
  exact ⟨rfl, _, rfl, .tuple #[], by simp [results, Tryz.results83], rfl, rfl, rfl⟩

theorem catch_idle (p : Addr) (w : World) :
    CallsD Tryz.prog 83 #[.pointer (some p)] .returning w fun e u' w' => e = .returned (.tuple #[]) ∧ u' = .returning ∧ w' = w := by
  refine callsD_of_wpS Tryz.func83 rfl fun c₀ cs hu => ?_
  apply wpS_seq
  apply wpS_region
  simp [wpOpsS, go_sem, recoverD, hu, Tryz.ntmps83, Exit.thenS]
  refine wpS_of_wp ?_
  change Code.wp _ _ _ { tmps := #[.pointer (some p), .nilIface, .nilIface, undef, undef, undef, undef], defers := [] } _
  go_wp2
  cases c₀
  simp_all [bodyPostS, results, Tryz.results83]

theorem blocks {w w1 W : World} {s : ByteArray} (g : W.grownBy w1 (some (w.heap.size + 1 + 1))) (hW : W = ((w.alloc (.cells #[.int .u16 0, .int .u8 0, .int .u8 0, .int .u8 0, .int .u8 0, .int .u8 0, .int .u8 0, .int .u32 0, .int .u8 0, .int .u8 0, .int .u8 0, .int .u8 0, .int .u8 0, .int .u8 0, .int .u32 0] 48)).alloc (.cells #[.int .i64 0] 28)).alloc (.cells #[.string s] 99)) :
    w1.heap[w.heap.size]? = some (.cells #[.int .u16 0, .int .u8 0, .int .u8 0, .int .u8 0, .int .u8 0, .int .u8 0, .int .u8 0, .int .u32 0, .int .u8 0, .int .u8 0, .int .u8 0, .int .u8 0, .int .u8 0, .int .u8 0, .int .u32 0] 48 (0, 0)) ∧ w1.heap[w.heap.size + 1]? = some (.cells #[.int .i64 0] 28 (0, 0)) := by
  have z2 : ((w.alloc (.cells #[.int .u16 0, .int .u8 0, .int .u8 0, .int .u8 0, .int .u8 0, .int .u8 0, .int .u8 0, .int .u32 0, .int .u8 0, .int .u8 0, .int .u8 0, .int .u8 0, .int .u8 0, .int .u8 0, .int .u32 0] 48)).alloc (.cells #[.int .i64 0] 28)).heap.size = w.heap.size + 1 + 1 := by simp
  have z1 : (w.alloc (.cells #[.int .u16 0, .int .u8 0, .int .u8 0, .int .u8 0, .int .u8 0, .int .u8 0, .int .u8 0, .int .u32 0, .int .u8 0, .int .u8 0, .int .u8 0, .int .u8 0, .int .u8 0, .int .u8 0, .int .u32 0] 48)).heap.size = w.heap.size + 1 := by simp
  have e0 : W.heap[w.heap.size]? = some (.cells #[.int .u16 0, .int .u8 0, .int .u8 0, .int .u8 0, .int .u8 0, .int .u8 0, .int .u8 0, .int .u32 0, .int .u8 0, .int .u8 0, .int .u8 0, .int .u8 0, .int .u8 0, .int .u8 0, .int .u32 0] 48 (0, 0)) := by
    rw [hW, Below.heap_alloc _ _ _ (by omega), Below.heap_alloc _ _ _ (by omega)]; exact heap_alloc_new w _
  have e1 : W.heap[w.heap.size + 1]? = some (.cells #[.int .i64 0] 28 (0, 0)) := by
    rw [hW, Below.heap_alloc _ _ _ (by omega)]
    have q := heap_alloc_new (w.alloc (.cells #[.int .u16 0, .int .u8 0, .int .u8 0, .int .u8 0, .int .u8 0, .int .u8 0, .int .u8 0, .int .u32 0, .int .u8 0, .int .u8 0, .int .u8 0, .int .u8 0, .int .u8 0, .int .u8 0, .int .u32 0] 48)) (.cells #[.int .i64 0] 28)
    rw [z1] at q
    exact q
  exact ⟨(g.block _ (lt_of_block e0) (fun q => by simp at q; omega)).trans e0, (g.block _ (lt_of_block e1) (fun q => by simp at q)).trans e1⟩

set_option maxHeartbeats 1000000 in
theorem read_no (s : ByteArray) (k : Int) (w : World)
    (hR : ∀ u B, Rdr u B s.data.toList → Calls Tryz.prog 69 #[.pointer (some ⟨B, 0, none⟩)] u fun ee w' => ee = .panicked (errP k) ∧ u.grownBy w' (some B)) :
    Calls Tryz.prog 68 #[.string s, .func (.func 69) #[] #[]] w fun ee w' => ee = .returned (.tuple #[.agg #[.int .u16 0, .int .u8 0, .int .u8 0, .int .u8 0, .int .u8 0, .int .u8 0, .int .u8 0, .int .u32 0, .int .u8 0, .int .u8 0, .int .u8 0, .int .u8 0, .int .u8 0, .int .u8 0, .int .u32 0], .int .i64 k]) ∧ Below w.heap.size w w' := by
  have hmf : ∀ (fn : Fn) (first cap : Array Value) (w : World), (Instr.makeFunc fn first cap).run Tryz.prog w = .ok (.func fn first cap) w := fun _ _ _ _ => rfl
  have HR := hide hR
  clear hR
  go_enter_defers Tryz.func68, Tryz.ntmps68
  go_wp2_with fail
  refine (unhide HR _ _ (new_reader _ _ s (by simp))).mono ?_
  rintro ee w1 ⟨rfl, g1⟩
  obtain ⟨hr, he⟩ := blocks g1 rfl
  have d0 : w1.cell? ⟨w.heap.size, 0, none⟩ = some (.int .u16 0) := row_cell hr rfl
  have d1 : w1.cell? ⟨w.heap.size, 1, none⟩ = some (.int .u8 0) := row_cell hr rfl
  have d2 : w1.cell? ⟨w.heap.size, 2, none⟩ = some (.int .u8 0) := row_cell hr rfl
  have d3 : w1.cell? ⟨w.heap.size, 3, none⟩ = some (.int .u8 0) := row_cell hr rfl
  have d4 : w1.cell? ⟨w.heap.size, 4, none⟩ = some (.int .u8 0) := row_cell hr rfl
  have d5 : w1.cell? ⟨w.heap.size, 5, none⟩ = some (.int .u8 0) := row_cell hr rfl
  have d6 : w1.cell? ⟨w.heap.size, 6, none⟩ = some (.int .u8 0) := row_cell hr rfl
  have d7 : w1.cell? ⟨w.heap.size, 7, none⟩ = some (.int .u32 0) := row_cell hr rfl
  have d8 : w1.cell? ⟨w.heap.size, 8, none⟩ = some (.int .u8 0) := row_cell hr rfl
  have d9 : w1.cell? ⟨w.heap.size, 9, none⟩ = some (.int .u8 0) := row_cell hr rfl
  have d10 : w1.cell? ⟨w.heap.size, 10, none⟩ = some (.int .u8 0) := row_cell hr rfl
  have d11 : w1.cell? ⟨w.heap.size, 11, none⟩ = some (.int .u8 0) := row_cell hr rfl
  have d12 : w1.cell? ⟨w.heap.size, 12, none⟩ = some (.int .u8 0) := row_cell hr rfl
  have d13 : w1.cell? ⟨w.heap.size, 13, none⟩ = some (.int .u8 0) := row_cell hr rfl
  have d14 : w1.cell? ⟨w.heap.size, 14, none⟩ = some (.int .u32 0) := row_cell hr rfl
  have hc := cell_of_one he
  have hf := free_of_one he
  refine leaves_cons (f := 83) (args := #[.pointer (some ⟨w.heap.size + 1, 0, none⟩)]) (by simp) (by simp [go_sem]) ?_
  refine (catch_panicking ⟨w.heap.size + 1, 0, none⟩ 0 k [] _ hc hf).mono ?_
  rintro e u' w'' ⟨rfl, rfl, rfl⟩
  simp [Leaves, settle, results, Tryz.results68, go_sem, d0, d1, d2, d3, d4, d5, d6, d7, d8, d9, d10, d11, d12, d13, d14, hc]
  exact (below_of g1 ((((Below.refl _ w).alloc (Nat.le_refl _) _).alloc (by simp) _).alloc (by simp; omega) _) (by omega)).setCell (by simp) _

set_option maxHeartbeats 1000000 in
theorem read_ok (s : ByteArray) (a0 a1 a2 a3 a4 a5 a6 a7 a8 a9 a10 a11 a12 a13 a14 : Int) (w : World)
    (hR : ∀ u B, Rdr u B s.data.toList → Calls Tryz.prog 69 #[.pointer (some ⟨B, 0, none⟩)] u fun ee w' => ee = .returned (.agg #[.int .u16 a0, .int .u8 a1, .int .u8 a2, .int .u8 a3, .int .u8 a4, .int .u8 a5, .int .u8 a6, .int .u32 a7, .int .u8 a8, .int .u8 a9, .int .u8 a10, .int .u8 a11, .int .u8 a12, .int .u8 a13, .int .u32 a14]) ∧ u.grownBy w' (some B)) :
    Calls Tryz.prog 68 #[.string s, .func (.func 69) #[] #[]] w fun ee w' => ee = .returned (.tuple #[.agg #[.int .u16 a0, .int .u8 a1, .int .u8 a2, .int .u8 a3, .int .u8 a4, .int .u8 a5, .int .u8 a6, .int .u32 a7, .int .u8 a8, .int .u8 a9, .int .u8 a10, .int .u8 a11, .int .u8 a12, .int .u8 a13, .int .u32 a14], .int .i64 0]) ∧ Below w.heap.size w w' := by
  have hmf : ∀ (fn : Fn) (first cap : Array Value) (w : World), (Instr.makeFunc fn first cap).run Tryz.prog w = .ok (.func fn first cap) w := fun _ _ _ _ => rfl
  have HR := hide hR
  clear hR
  go_enter_defers Tryz.func68, Tryz.ntmps68
  go_wp2_with fail
  refine (unhide HR _ _ (new_reader _ _ s (by simp))).mono ?_
  rintro ee w1 ⟨rfl, g1⟩
  obtain ⟨hr, he⟩ := blocks g1 rfl
  have d0 : w1.cell? ⟨w.heap.size, 0, none⟩ = some (.int .u16 0) := row_cell hr rfl
  have d1 : w1.cell? ⟨w.heap.size, 1, none⟩ = some (.int .u8 0) := row_cell hr rfl
  have d2 : w1.cell? ⟨w.heap.size, 2, none⟩ = some (.int .u8 0) := row_cell hr rfl
  have d3 : w1.cell? ⟨w.heap.size, 3, none⟩ = some (.int .u8 0) := row_cell hr rfl
  have d4 : w1.cell? ⟨w.heap.size, 4, none⟩ = some (.int .u8 0) := row_cell hr rfl
  have d5 : w1.cell? ⟨w.heap.size, 5, none⟩ = some (.int .u8 0) := row_cell hr rfl
  have d6 : w1.cell? ⟨w.heap.size, 6, none⟩ = some (.int .u8 0) := row_cell hr rfl
  have d7 : w1.cell? ⟨w.heap.size, 7, none⟩ = some (.int .u32 0) := row_cell hr rfl
  have d8 : w1.cell? ⟨w.heap.size, 8, none⟩ = some (.int .u8 0) := row_cell hr rfl
  have d9 : w1.cell? ⟨w.heap.size, 9, none⟩ = some (.int .u8 0) := row_cell hr rfl
  have d10 : w1.cell? ⟨w.heap.size, 10, none⟩ = some (.int .u8 0) := row_cell hr rfl
  have d11 : w1.cell? ⟨w.heap.size, 11, none⟩ = some (.int .u8 0) := row_cell hr rfl
  have d12 : w1.cell? ⟨w.heap.size, 12, none⟩ = some (.int .u8 0) := row_cell hr rfl
  have d13 : w1.cell? ⟨w.heap.size, 13, none⟩ = some (.int .u8 0) := row_cell hr rfl
  have d14 : w1.cell? ⟨w.heap.size, 14, none⟩ = some (.int .u32 0) := row_cell hr rfl
  have fr := row_free hr
  have hc := cell_of_one he
  have hf := free_of_one he
  have HB := hide (below_of g1 ((((Below.refl _ w).alloc (Nat.le_refl _) _).alloc (by simp) _).alloc (by simp; omega) _) (by omega))
  obtain ⟨U, hU⟩ : ∃ U, U = ((((((((((((((((w1.setCell ⟨w.heap.size, 0, none⟩ (.int .u16 a0)).setCell ⟨w.heap.size, 1, none⟩ (.int .u8 a1)).setCell ⟨w.heap.size, 2, none⟩ (.int .u8 a2)).setCell ⟨w.heap.size, 3, none⟩ (.int .u8 a3)).setCell ⟨w.heap.size, 4, none⟩ (.int .u8 a4)).setCell ⟨w.heap.size, 5, none⟩ (.int .u8 a5)).setCell ⟨w.heap.size, 6, none⟩ (.int .u8 a6)).setCell ⟨w.heap.size, 7, none⟩ (.int .u32 a7)).setCell ⟨w.heap.size, 8, none⟩ (.int .u8 a8)).setCell ⟨w.heap.size, 9, none⟩ (.int .u8 a9)).setCell ⟨w.heap.size, 10, none⟩ (.int .u8 a10)).setCell ⟨w.heap.size, 11, none⟩ (.int .u8 a11)).setCell ⟨w.heap.size, 12, none⟩ (.int .u8 a12)).setCell ⟨w.heap.size, 13, none⟩ (.int .u8 a13)).setCell ⟨w.heap.size, 14, none⟩ (.int .u32 a14)).setCell ⟨w.heap.size + 1, 0, none⟩ (.int .i64 0)) := ⟨_, rfl⟩
  have hu : U.heap[w.heap.size]? = some (.cells #[.int .u16 a0, .int .u8 a1, .int .u8 a2, .int .u8 a3, .int .u8 a4, .int .u8 a5, .int .u8 a6, .int .u32 a7, .int .u8 a8, .int .u8 a9, .int .u8 a10, .int .u8 a11, .int .u8 a12, .int .u8 a13, .int .u32 a14] 48 (0, 0)) := by
    rw [hU, Below.heap_setCell _ _ _ _ (by simp)]
    exact row_set15 _ _ _ _ _ _ _ _ _ _ _ _ _ _ _ _ _ _ _ _ _ _ _ _ _ _ _ _ _ _ hr
  have hv : U.heap[w.heap.size + 1]? = some (.cells #[.int .i64 0] 28 (0, 0)) := by
    rw [hU]
    refine one_setCell (v := .int .i64 0) ?_
    rw [Below.heap_setCell _ _ _ _ (by simp), Below.heap_setCell _ _ _ _ (by simp), Below.heap_setCell _ _ _ _ (by simp), Below.heap_setCell _ _ _ _ (by simp), Below.heap_setCell _ _ _ _ (by simp), Below.heap_setCell _ _ _ _ (by simp), Below.heap_setCell _ _ _ _ (by simp), Below.heap_setCell _ _ _ _ (by simp), Below.heap_setCell _ _ _ _ (by simp), Below.heap_setCell _ _ _ _ (by simp), Below.heap_setCell _ _ _ _ (by simp), Below.heap_setCell _ _ _ _ (by simp), Below.heap_setCell _ _ _ _ (by simp), Below.heap_setCell _ _ _ _ (by simp), Below.heap_setCell _ _ _ _ (by simp)]
    exact he
  have HBU : Hid (Below w.heap.size w U) := by
    show Below w.heap.size w U
    rw [hU]
    refine Below.setCell ?_ (by simp) _
    iterate 15 refine below_at ?_
    exact unhide HB
  have u0 : U.cell? ⟨w.heap.size, 0, none⟩ = some (.int .u16 a0) := row_cell hu rfl
  have u1 : U.cell? ⟨w.heap.size, 1, none⟩ = some (.int .u8 a1) := row_cell hu rfl
  have u2 : U.cell? ⟨w.heap.size, 2, none⟩ = some (.int .u8 a2) := row_cell hu rfl
  have u3 : U.cell? ⟨w.heap.size, 3, none⟩ = some (.int .u8 a3) := row_cell hu rfl
  have u4 : U.cell? ⟨w.heap.size, 4, none⟩ = some (.int .u8 a4) := row_cell hu rfl
  have u5 : U.cell? ⟨w.heap.size, 5, none⟩ = some (.int .u8 a5) := row_cell hu rfl
  have u6 : U.cell? ⟨w.heap.size, 6, none⟩ = some (.int .u8 a6) := row_cell hu rfl
  have u7 : U.cell? ⟨w.heap.size, 7, none⟩ = some (.int .u32 a7) := row_cell hu rfl
  have u8 : U.cell? ⟨w.heap.size, 8, none⟩ = some (.int .u8 a8) := row_cell hu rfl
  have u9 : U.cell? ⟨w.heap.size, 9, none⟩ = some (.int .u8 a9) := row_cell hu rfl
  have u10 : U.cell? ⟨w.heap.size, 10, none⟩ = some (.int .u8 a10) := row_cell hu rfl
  have u11 : U.cell? ⟨w.heap.size, 11, none⟩ = some (.int .u8 a11) := row_cell hu rfl
  have u12 : U.cell? ⟨w.heap.size, 12, none⟩ = some (.int .u8 a12) := row_cell hu rfl
  have u13 : U.cell? ⟨w.heap.size, 13, none⟩ = some (.int .u8 a13) := row_cell hu rfl
  have u14 : U.cell? ⟨w.heap.size, 14, none⟩ = some (.int .u32 a14) := row_cell hu rfl
  have uv := cell_of_one hv
  have HU := hide hU
  clear g1 hr he hu hv hU
  go_wp2
  rw [← unhide HU]
  clear HU d0 d1 d2 d3 d4 d5 d6 d7 d8 d9 d10 d11 d12 d13 d14 hc hf fr
  refine leaves_cons (f := 83) (args := #[.pointer (some ⟨w.heap.size + 1, 0, none⟩)]) (by simp) (by simp [go_sem]) ?_
  refine (catch_idle ⟨w.heap.size + 1, 0, none⟩ _).mono ?_
  rintro e u' w'' ⟨rfl, rfl, rfl⟩
  simp [Leaves, settle, results, Tryz.results68, go_sem, u0, u1, u2, u3, u4, u5, u6, u7, u8, u9, u10, u11, u12, u13, u14, uv]
  exact unhide HBU
end Go.Proofs.YtoifihhmneldeaaGreatDoor.ArR

namespace Go.Proofs.YtoifihhmneldeaaGreatDoor.Sq
open Go.ChangeShapes Go.WideShapes Go.ChangeAt Go.RowKit Bs
set_option linter.unusedVariables false

theorem five (l : List Field) (h : l.length = 5) : ∃ a b c d e, l = [a, b, c, d, e] := by
  match l, h with
  | [a, b, c, d, e], _ => exact ⟨a, b, c, d, e, rfl⟩
theorem eql_arp (a0 a1 a2 a3 a4 a5 a6 a7 a8 a9 a10 a11 a12 a13 a14 : Int) (w : World) :
    (binOp .eql 48 (.agg #[.int .u16 a0, .int .u8 a1, .int .u8 a2, .int .u8 a3, .int .u8 a4, .int .u8 a5, .int .u8 a6, .int .u32 a7, .int .u8 a8, .int .u8 a9, .int .u8 a10, .int .u8 a11, .int .u8 a12, .int .u8 a13, .int .u32 a14]) (.agg #[.int .u16 a0, .int .u8 a1, .int .u8 a2, .int .u8 a3, .int .u8 a4, .int .u8 a5, .int .u8 a6, .int .u32 a7, .int .u8 a8, .int .u8 a9, .int .u8 a10, .int .u8 a11, .int .u8 a12, .int .u8 a13, .int .u32 a14])).run Tryz.prog w = .ok (.bool true) w := by
  rw [run_eql_struct, run_equalIn_struct w 9999 48 _ _ (by kernel_rfl) (by kernel_rfl)]
  have p0 : ∀ u, (part 24 #[.int .u16 a0, .int .u8 a1, .int .u8 a2, .int .u8 a3, .int .u8 a4, .int .u8 a5, .int .u8 a6, .int .u32 a7, .int .u8 a8, .int .u8 a9, .int .u8 a10, .int .u8 a11, .int .u8 a12, .int .u8 a13, .int .u32 a14] 0).run Tryz.prog u = .ok (.int .u16 a0) u := fun _ => by kernel_rfl
  have p1 : ∀ u, (part 23 #[.int .u16 a0, .int .u8 a1, .int .u8 a2, .int .u8 a3, .int .u8 a4, .int .u8 a5, .int .u8 a6, .int .u32 a7, .int .u8 a8, .int .u8 a9, .int .u8 a10, .int .u8 a11, .int .u8 a12, .int .u8 a13, .int .u32 a14] 1).run Tryz.prog u = .ok (.agg #[.int .u8 a1, .int .u8 a2, .int .u8 a3, .int .u8 a4, .int .u8 a5, .int .u8 a6]) u := fun _ => by kernel_rfl
  have p2 : ∀ u, (part 34 #[.int .u16 a0, .int .u8 a1, .int .u8 a2, .int .u8 a3, .int .u8 a4, .int .u8 a5, .int .u8 a6, .int .u32 a7, .int .u8 a8, .int .u8 a9, .int .u8 a10, .int .u8 a11, .int .u8 a12, .int .u8 a13, .int .u32 a14] 7).run Tryz.prog u = .ok (.int .u32 a7) u := fun _ => by kernel_rfl
  have p3 : ∀ u, (part 23 #[.int .u16 a0, .int .u8 a1, .int .u8 a2, .int .u8 a3, .int .u8 a4, .int .u8 a5, .int .u8 a6, .int .u32 a7, .int .u8 a8, .int .u8 a9, .int .u8 a10, .int .u8 a11, .int .u8 a12, .int .u8 a13, .int .u32 a14] 8).run Tryz.prog u = .ok (.agg #[.int .u8 a8, .int .u8 a9, .int .u8 a10, .int .u8 a11, .int .u8 a12, .int .u8 a13]) u := fun _ => by kernel_rfl
  have p4 : ∀ u, (part 34 #[.int .u16 a0, .int .u8 a1, .int .u8 a2, .int .u8 a3, .int .u8 a4, .int .u8 a5, .int .u8 a6, .int .u32 a7, .int .u8 a8, .int .u8 a9, .int .u8 a10, .int .u8 a11, .int .u8 a12, .int .u8 a13, .int .u32 a14] 14).run Tryz.prog u = .ok (.int .u32 a14) u := fun _ => by kernel_rfl
  have q0 : ∀ u, (Op.equalIn 9999 24 (.int .u16 a0) (.int .u16 a0)).run Tryz.prog u = .ok true u := fun u => by
    rw [run_equalIn_int u 9998 24 .u16 .u16 a0 a0 Tryz.underlying24]; simp
  have q1 := fun u => eql_mac 9997 a1 a2 a3 a4 a5 a6 u
  have q2 : ∀ (x : Int) u, (Op.equalIn 9999 34 (.int .u32 x) (.int .u32 x)).run Tryz.prog u = .ok true u := fun x u => by
    rw [run_equalIn_int u 9998 34 .u32 .u32 x x Tryz.underlying34]; simp
  have q3 := fun u => eql_mac 9997 a8 a9 a10 a11 a12 a13 u
  have hf : (Tryz.prog.fieldsOf 48).toList.map (fun f => (f.name, f.type, f.offset)) = [("Op", 24, 0), ("FromMAC", 23, 1), ("FromIP", 34, 7), ("ToMAC", 23, 8), ("ToIP", 34, 14)] := by kernel_rfl
  generalize (Tryz.prog.fieldsOf 48).toList = fs at hf
  have hl : fs.length = 5 := by have := congrArg List.length hf; simpa using this
  obtain ⟨f0, f1, f2, f3, f4, rfl⟩ := five fs hl
  simp only [List.map_cons, List.map_nil, List.cons.injEq, Prod.mk.injEq, and_true] at hf
  obtain ⟨⟨n0, t0, o0⟩, ⟨n1, t1, o1⟩, ⟨n2, t2, o2⟩, ⟨n3, t3, o3⟩, ⟨n4, t4, o4⟩⟩ := hf
  simp only [Op.eqFields, n0, t0, o0, n1, t1, o1, n2, t2, o2, n3, t3, o3, n4, t4, o4, Sem.run_bind, Sem.run_ite, p0, p1, p2, p3, p4, q0, q1, q2, q3, Result.andThen_ok, Bool.not_true, Bool.false_eq_true, if_false, Sem.run_pure]
  simp
end Go.Proofs.YtoifihhmneldeaaGreatDoor.Sq

namespace Go.Proofs.YtoifihhmneldeaaGreatDoor.ArR
open Go.ChangeShapes Go.WideShapes Go.ChangeAt Go.RowKit Bs Rd
open EtR (row_cell row_free row_set below_at)
set_option linter.unusedVariables false

set_option maxHeartbeats 1000000 in
theorem wire_of (s : ByteArray) (a0 a1 a2 a3 a4 a5 a6 a7 a8 a9 a10 a11 a12 a13 a14 k : Int) (w : World)
    (hR : ∀ u : World, Calls Tryz.prog 68 #[.string s, .func (.func 69) #[] #[]] u fun ee w' => ee = .returned (.tuple #[.agg #[.int .u16 a0, .int .u8 a1, .int .u8 a2, .int .u8 a3, .int .u8 a4, .int .u8 a5, .int .u8 a6, .int .u32 a7, .int .u8 a8, .int .u8 a9, .int .u8 a10, .int .u8 a11, .int .u8 a12, .int .u8 a13, .int .u32 a14], .int .i64 k]) ∧ Below u.heap.size u w') :
    Calls Tryz.prog 46 #[.string s] w fun ee w' => ee = .returned (.tuple #[.agg #[.int .u16 a0, .int .u8 a1, .int .u8 a2, .int .u8 a3, .int .u8 a4, .int .u8 a5, .int .u8 a6, .int .u32 a7, .int .u8 a8, .int .u8 a9, .int .u8 a10, .int .u8 a11, .int .u8 a12, .int .u8 a13, .int .u32 a14], .int .i64 k]) ∧ Below w.heap.size w w' := by
  have HR := hide hR
  clear hR
  go_enter Tryz.func46, Tryz.ntmps46
  go_wp2_with fail
  refine (unhide HR _).mono ?_
  rintro ee w1 ⟨rfl, hb⟩
  have hr : w1.heap[w.heap.size]? = some (.cells #[.int .u16 0, .int .u8 0, .int .u8 0, .int .u8 0, .int .u8 0, .int .u8 0, .int .u8 0, .int .u32 0, .int .u8 0, .int .u8 0, .int .u8 0, .int .u8 0, .int .u8 0, .int .u8 0, .int .u32 0] 48 (0, 0)) := (hb.block _ (by simp)).trans (heap_alloc_new w _)
  have d0 : w1.cell? ⟨w.heap.size, 0, none⟩ = some (.int .u16 0) := row_cell hr rfl
  have d1 : w1.cell? ⟨w.heap.size, 1, none⟩ = some (.int .u8 0) := row_cell hr rfl
  have d2 : w1.cell? ⟨w.heap.size, 2, none⟩ = some (.int .u8 0) := row_cell hr rfl
  have d3 : w1.cell? ⟨w.heap.size, 3, none⟩ = some (.int .u8 0) := row_cell hr rfl
  have d4 : w1.cell? ⟨w.heap.size, 4, none⟩ = some (.int .u8 0) := row_cell hr rfl
  have d5 : w1.cell? ⟨w.heap.size, 5, none⟩ = some (.int .u8 0) := row_cell hr rfl
  have d6 : w1.cell? ⟨w.heap.size, 6, none⟩ = some (.int .u8 0) := row_cell hr rfl
  have d7 : w1.cell? ⟨w.heap.size, 7, none⟩ = some (.int .u32 0) := row_cell hr rfl
  have d8 : w1.cell? ⟨w.heap.size, 8, none⟩ = some (.int .u8 0) := row_cell hr rfl
  have d9 : w1.cell? ⟨w.heap.size, 9, none⟩ = some (.int .u8 0) := row_cell hr rfl
  have d10 : w1.cell? ⟨w.heap.size, 10, none⟩ = some (.int .u8 0) := row_cell hr rfl
  have d11 : w1.cell? ⟨w.heap.size, 11, none⟩ = some (.int .u8 0) := row_cell hr rfl
  have d12 : w1.cell? ⟨w.heap.size, 12, none⟩ = some (.int .u8 0) := row_cell hr rfl
  have d13 : w1.cell? ⟨w.heap.size, 13, none⟩ = some (.int .u8 0) := row_cell hr rfl
  have d14 : w1.cell? ⟨w.heap.size, 14, none⟩ = some (.int .u32 0) := row_cell hr rfl
  have fr := row_free hr
  have HB : Hid (Below w.heap.size w w1) := hide (((Below.refl _ w).alloc (Nat.le_refl _) _).trans (hb.mono (by simp)))
  obtain ⟨U, hU⟩ : ∃ U, U = (((((((((((((((w1.setCell ⟨w.heap.size, 0, none⟩ (.int .u16 a0)).setCell ⟨w.heap.size, 1, none⟩ (.int .u8 a1)).setCell ⟨w.heap.size, 2, none⟩ (.int .u8 a2)).setCell ⟨w.heap.size, 3, none⟩ (.int .u8 a3)).setCell ⟨w.heap.size, 4, none⟩ (.int .u8 a4)).setCell ⟨w.heap.size, 5, none⟩ (.int .u8 a5)).setCell ⟨w.heap.size, 6, none⟩ (.int .u8 a6)).setCell ⟨w.heap.size, 7, none⟩ (.int .u32 a7)).setCell ⟨w.heap.size, 8, none⟩ (.int .u8 a8)).setCell ⟨w.heap.size, 9, none⟩ (.int .u8 a9)).setCell ⟨w.heap.size, 10, none⟩ (.int .u8 a10)).setCell ⟨w.heap.size, 11, none⟩ (.int .u8 a11)).setCell ⟨w.heap.size, 12, none⟩ (.int .u8 a12)).setCell ⟨w.heap.size, 13, none⟩ (.int .u8 a13)).setCell ⟨w.heap.size, 14, none⟩ (.int .u32 a14)) := ⟨_, rfl⟩
  have hu : U.heap[w.heap.size]? = some (.cells #[.int .u16 a0, .int .u8 a1, .int .u8 a2, .int .u8 a3, .int .u8 a4, .int .u8 a5, .int .u8 a6, .int .u32 a7, .int .u8 a8, .int .u8 a9, .int .u8 a10, .int .u8 a11, .int .u8 a12, .int .u8 a13, .int .u32 a14] 48 (0, 0)) := by
    rw [hU]
    exact row_set15 _ _ _ _ _ _ _ _ _ _ _ _ _ _ _ _ _ _ _ _ _ _ _ _ _ _ _ _ _ _ hr
  have HBU : Hid (Below w.heap.size w U) := by
    show Below w.heap.size w U
    rw [hU]
    iterate 15 refine below_at ?_
    exact unhide HB
  have u0 : U.cell? ⟨w.heap.size, 0, none⟩ = some (.int .u16 a0) := row_cell hu rfl
  have u1 : U.cell? ⟨w.heap.size, 1, none⟩ = some (.int .u8 a1) := row_cell hu rfl
  have u2 : U.cell? ⟨w.heap.size, 2, none⟩ = some (.int .u8 a2) := row_cell hu rfl
  have u3 : U.cell? ⟨w.heap.size, 3, none⟩ = some (.int .u8 a3) := row_cell hu rfl
  have u4 : U.cell? ⟨w.heap.size, 4, none⟩ = some (.int .u8 a4) := row_cell hu rfl
  have u5 : U.cell? ⟨w.heap.size, 5, none⟩ = some (.int .u8 a5) := row_cell hu rfl
  have u6 : U.cell? ⟨w.heap.size, 6, none⟩ = some (.int .u8 a6) := row_cell hu rfl
  have u7 : U.cell? ⟨w.heap.size, 7, none⟩ = some (.int .u32 a7) := row_cell hu rfl
  have u8 : U.cell? ⟨w.heap.size, 8, none⟩ = some (.int .u8 a8) := row_cell hu rfl
  have u9 : U.cell? ⟨w.heap.size, 9, none⟩ = some (.int .u8 a9) := row_cell hu rfl
  have u10 : U.cell? ⟨w.heap.size, 10, none⟩ = some (.int .u8 a10) := row_cell hu rfl
  have u11 : U.cell? ⟨w.heap.size, 11, none⟩ = some (.int .u8 a11) := row_cell hu rfl
  have u12 : U.cell? ⟨w.heap.size, 12, none⟩ = some (.int .u8 a12) := row_cell hu rfl
  have u13 : U.cell? ⟨w.heap.size, 13, none⟩ = some (.int .u8 a13) := row_cell hu rfl
  have u14 : U.cell? ⟨w.heap.size, 14, none⟩ = some (.int .u32 a14) := row_cell hu rfl
  have HU := hide hU
  clear hr hu hU hb HR
  go_wp2
  rw [← unhide HU]
  clear HU d0 d1 d2 d3 d4 d5 d6 d7 d8 d9 d10 d11 d12 d13 d14 fr
  exact bodyPost_ret (v := .tuple #[.agg #[.int .u16 a0, .int .u8 a1, .int .u8 a2, .int .u8 a3, .int .u8 a4, .int .u8 a5, .int .u8 a6, .int .u32 a7, .int .u8 a8, .int .u8 a9, .int .u8 a10, .int .u8 a11, .int .u8 a12, .int .u8 a13, .int .u32 a14], .int .i64 k]) (by simp [results, Tryz.results46, go_sem, u0, u1, u2, u3, u4, u5, u6, u7, u8, u9, u10, u11, u12, u13, u14]) rfl ⟨rfl, unhide HBU⟩

set_option maxHeartbeats 1000000 in
theorem boot_of (s : ByteArray) (a0 a1 a2 a3 a4 a5 a6 a7 a8 a9 a10 a11 a12 a13 a14 k : Int) (w : World)
    (hR : ∀ u : World, Calls Tryz.prog 46 #[.string s] u fun ee w' => ee = .returned (.tuple #[.agg #[.int .u16 a0, .int .u8 a1, .int .u8 a2, .int .u8 a3, .int .u8 a4, .int .u8 a5, .int .u8 a6, .int .u32 a7, .int .u8 a8, .int .u8 a9, .int .u8 a10, .int .u8 a11, .int .u8 a12, .int .u8 a13, .int .u32 a14], .int .i64 k]) ∧ Below u.heap.size u w') :
    Calls Tryz.prog 21 #[.string s] w fun ee w' => ee = .returned (.tuple #[.agg #[.int .u16 a0, .int .u8 a1, .int .u8 a2, .int .u8 a3, .int .u8 a4, .int .u8 a5, .int .u8 a6, .int .u32 a7, .int .u8 a8, .int .u8 a9, .int .u8 a10, .int .u8 a11, .int .u8 a12, .int .u8 a13, .int .u32 a14], .int .i64 k]) ∧ Below w.heap.size w w' := by
  have HR := hide hR
  clear hR
  go_enter Tryz.func21, Tryz.ntmps21
  go_wp2_with fail
  refine (unhide HR _).mono ?_
  rintro ee w1 ⟨rfl, hb⟩
  have hr : w1.heap[w.heap.size]? = some (.cells #[.int .u16 0, .int .u8 0, .int .u8 0, .int .u8 0, .int .u8 0, .int .u8 0, .int .u8 0, .int .u32 0, .int .u8 0, .int .u8 0, .int .u8 0, .int .u8 0, .int .u8 0, .int .u8 0, .int .u32 0] 48 (0, 0)) := (hb.block _ (by simp)).trans (heap_alloc_new w _)
  have d0 : w1.cell? ⟨w.heap.size, 0, none⟩ = some (.int .u16 0) := row_cell hr rfl
  have d1 : w1.cell? ⟨w.heap.size, 1, none⟩ = some (.int .u8 0) := row_cell hr rfl
  have d2 : w1.cell? ⟨w.heap.size, 2, none⟩ = some (.int .u8 0) := row_cell hr rfl
  have d3 : w1.cell? ⟨w.heap.size, 3, none⟩ = some (.int .u8 0) := row_cell hr rfl
  have d4 : w1.cell? ⟨w.heap.size, 4, none⟩ = some (.int .u8 0) := row_cell hr rfl
  have d5 : w1.cell? ⟨w.heap.size, 5, none⟩ = some (.int .u8 0) := row_cell hr rfl
  have d6 : w1.cell? ⟨w.heap.size, 6, none⟩ = some (.int .u8 0) := row_cell hr rfl
  have d7 : w1.cell? ⟨w.heap.size, 7, none⟩ = some (.int .u32 0) := row_cell hr rfl
  have d8 : w1.cell? ⟨w.heap.size, 8, none⟩ = some (.int .u8 0) := row_cell hr rfl
  have d9 : w1.cell? ⟨w.heap.size, 9, none⟩ = some (.int .u8 0) := row_cell hr rfl
  have d10 : w1.cell? ⟨w.heap.size, 10, none⟩ = some (.int .u8 0) := row_cell hr rfl
  have d11 : w1.cell? ⟨w.heap.size, 11, none⟩ = some (.int .u8 0) := row_cell hr rfl
  have d12 : w1.cell? ⟨w.heap.size, 12, none⟩ = some (.int .u8 0) := row_cell hr rfl
  have d13 : w1.cell? ⟨w.heap.size, 13, none⟩ = some (.int .u8 0) := row_cell hr rfl
  have d14 : w1.cell? ⟨w.heap.size, 14, none⟩ = some (.int .u32 0) := row_cell hr rfl
  have fr := row_free hr
  have HB : Hid (Below w.heap.size w w1) := hide (((Below.refl _ w).alloc (Nat.le_refl _) _).trans (hb.mono (by simp)))
  obtain ⟨U, hU⟩ : ∃ U, U = (((((((((((((((w1.setCell ⟨w.heap.size, 0, none⟩ (.int .u16 a0)).setCell ⟨w.heap.size, 1, none⟩ (.int .u8 a1)).setCell ⟨w.heap.size, 2, none⟩ (.int .u8 a2)).setCell ⟨w.heap.size, 3, none⟩ (.int .u8 a3)).setCell ⟨w.heap.size, 4, none⟩ (.int .u8 a4)).setCell ⟨w.heap.size, 5, none⟩ (.int .u8 a5)).setCell ⟨w.heap.size, 6, none⟩ (.int .u8 a6)).setCell ⟨w.heap.size, 7, none⟩ (.int .u32 a7)).setCell ⟨w.heap.size, 8, none⟩ (.int .u8 a8)).setCell ⟨w.heap.size, 9, none⟩ (.int .u8 a9)).setCell ⟨w.heap.size, 10, none⟩ (.int .u8 a10)).setCell ⟨w.heap.size, 11, none⟩ (.int .u8 a11)).setCell ⟨w.heap.size, 12, none⟩ (.int .u8 a12)).setCell ⟨w.heap.size, 13, none⟩ (.int .u8 a13)).setCell ⟨w.heap.size, 14, none⟩ (.int .u32 a14)) := ⟨_, rfl⟩
  have hu : U.heap[w.heap.size]? = some (.cells #[.int .u16 a0, .int .u8 a1, .int .u8 a2, .int .u8 a3, .int .u8 a4, .int .u8 a5, .int .u8 a6, .int .u32 a7, .int .u8 a8, .int .u8 a9, .int .u8 a10, .int .u8 a11, .int .u8 a12, .int .u8 a13, .int .u32 a14] 48 (0, 0)) := by
    rw [hU]
    exact row_set15 _ _ _ _ _ _ _ _ _ _ _ _ _ _ _ _ _ _ _ _ _ _ _ _ _ _ _ _ _ _ hr
  have HBU : Hid (Below w.heap.size w U) := by
    show Below w.heap.size w U
    rw [hU]
    iterate 15 refine below_at ?_
    exact unhide HB
  have u0 : U.cell? ⟨w.heap.size, 0, none⟩ = some (.int .u16 a0) := row_cell hu rfl
  have u1 : U.cell? ⟨w.heap.size, 1, none⟩ = some (.int .u8 a1) := row_cell hu rfl
  have u2 : U.cell? ⟨w.heap.size, 2, none⟩ = some (.int .u8 a2) := row_cell hu rfl
  have u3 : U.cell? ⟨w.heap.size, 3, none⟩ = some (.int .u8 a3) := row_cell hu rfl
  have u4 : U.cell? ⟨w.heap.size, 4, none⟩ = some (.int .u8 a4) := row_cell hu rfl
  have u5 : U.cell? ⟨w.heap.size, 5, none⟩ = some (.int .u8 a5) := row_cell hu rfl
  have u6 : U.cell? ⟨w.heap.size, 6, none⟩ = some (.int .u8 a6) := row_cell hu rfl
  have u7 : U.cell? ⟨w.heap.size, 7, none⟩ = some (.int .u32 a7) := row_cell hu rfl
  have u8 : U.cell? ⟨w.heap.size, 8, none⟩ = some (.int .u8 a8) := row_cell hu rfl
  have u9 : U.cell? ⟨w.heap.size, 9, none⟩ = some (.int .u8 a9) := row_cell hu rfl
  have u10 : U.cell? ⟨w.heap.size, 10, none⟩ = some (.int .u8 a10) := row_cell hu rfl
  have u11 : U.cell? ⟨w.heap.size, 11, none⟩ = some (.int .u8 a11) := row_cell hu rfl
  have u12 : U.cell? ⟨w.heap.size, 12, none⟩ = some (.int .u8 a12) := row_cell hu rfl
  have u13 : U.cell? ⟨w.heap.size, 13, none⟩ = some (.int .u8 a13) := row_cell hu rfl
  have u14 : U.cell? ⟨w.heap.size, 14, none⟩ = some (.int .u32 a14) := row_cell hu rfl
  have HU := hide hU
  clear hr hu hU hb HR
  go_wp2
  rw [← unhide HU]
  clear HU d0 d1 d2 d3 d4 d5 d6 d7 d8 d9 d10 d11 d12 d13 d14 fr
  exact bodyPost_ret (v := .tuple #[.agg #[.int .u16 a0, .int .u8 a1, .int .u8 a2, .int .u8 a3, .int .u8 a4, .int .u8 a5, .int .u8 a6, .int .u32 a7, .int .u8 a8, .int .u8 a9, .int .u8 a10, .int .u8 a11, .int .u8 a12, .int .u8 a13, .int .u32 a14], .int .i64 k]) (by simp [results, Tryz.results21, go_sem, u0, u1, u2, u3, u4, u5, u6, u7, u8, u9, u10, u11, u12, u13, u14]) rfl ⟨rfl, unhide HBU⟩

end Go.Proofs.YtoifihhmneldeaaGreatDoor.ArR

namespace Go.Proofs.YtoifihhmneldeaaGreatDoor.Arp
open Go.ChangeShapes Go.WideShapes Go.ChangeAt Go.RowKit Bs Rb Wt
set_option linter.unusedVariables false

set_option maxHeartbeats 1000000 in
theorem write_ok (op : Int) (a b c d e f : UInt8) (fi : Int) (a' b' c' d' e' f' : UInt8) (ti : Int) (w : World)
    (h1 : 0 ≤ op) (h2 : op ≤ 65535) (h3 : 0 ≤ fi) (h4 : fi ≤ 4294967295) (h5 : 0 ≤ ti) (h6 : ti ≤ 4294967295) (hop : (op == 1 || op == 2) = true) :
    Calls Tryz.prog 45 #[.agg #[.int .u16 op, .int .u8 a.toNat, .int .u8 b.toNat, .int .u8 c.toNat, .int .u8 d.toNat, .int .u8 e.toNat, .int .u8 f.toNat, .int .u32 fi,
        .int .u8 a'.toNat, .int .u8 b'.toNat, .int .u8 c'.toNat, .int .u8 d'.toNat, .int .u8 e'.toNat, .int .u8 f'.toNat, .int .u32 ti]] w fun ee w' =>
      ee = .returned (.tuple #[.string ⟨(arpL op [a, b, c, d, e, f] fi [a', b', c', d', e', f'] ti).toArray⟩, .int .i64 0]) ∧ Below w.heap.size w w' := by
  have HO := hide (isOp_any op)
  go_enter Tryz.func45, Tryz.ntmps45
  go_wp2_with fail
  refine (unhide HO _).mono ?_
  rintro ee w1 ⟨rfl, rfl⟩
  rw [hop]
  obtain ⟨W, hW⟩ : ∃ W, W = w.alloc (.cells #[.int .u16 op, .int .u8 a.toNat, .int .u8 b.toNat, .int .u8 c.toNat, .int .u8 d.toNat, .int .u8 e.toNat, .int .u8 f.toNat, .int .u32 fi, .int .u8 a'.toNat, .int .u8 b'.toNat, .int .u8 c'.toNat, .int .u8 d'.toNat, .int .u8 e'.toNat, .int .u8 f'.toNat, .int .u32 ti] 48) := ⟨_, rfl⟩
  have hz : W.heap.size = w.heap.size + 1 := by rw [hW]; simp
  have n0 := wr_new W
  rw [hz, hW] at n0
  have HN := hide n0
  clear n0 hz hW W
  go_wp2_with fail
  refine (texts_one _ _ _ _ _ (unhide HN) (by simp) (by decide)).mono ?_
  rintro ee w1 ⟨rfl, k1, q1⟩
  have r1 := kept_cells q1 (b := w.heap.size) (by omega)
  have K1 := hide k1
  have Q1 := hide q1
  clear k1 q1
  go_wp2_with fail
  refine (words_one _ _ _ _ _ (unhide K1) rfl (by omega) (by omega) (by simp)).mono ?_
  rintro ee w2 ⟨rfl, k2, q2⟩
  have r2 := kept_cells q2 (b := w.heap.size) (by omega)
  have K2 := hide k2
  have Q2 := hide q2
  clear k2 q2
  go_wp2_with fail
  refine (cards_one _ _ _ _ _ _ _ _ _ _ (unhide K2) rfl (by simp [word8])).mono ?_
  rintro ee w3 ⟨rfl, k3, q3⟩
  have r3 := kept_cells q3 (b := w.heap.size) (by omega)
  have K3 := hide k3
  have Q3 := hide q3
  clear k3 q3
  go_wp2_with fail
  refine (addresses_one _ _ _ _ _ (unhide K3) rfl (by omega) (by omega) (by simp [word8])).mono ?_
  rintro ee w4 ⟨rfl, k4, q4⟩
  have r4 := kept_cells q4 (b := w.heap.size) (by omega)
  have K4 := hide k4
  have Q4 := hide q4
  clear k4 q4
  go_wp2_with fail
  refine (cards_one _ _ _ _ _ _ _ _ _ _ (unhide K4) rfl (by simp [word8, dword8, words8])).mono ?_
  rintro ee w5 ⟨rfl, k5, q5⟩
  have r5 := kept_cells q5 (b := w.heap.size) (by omega)
  have K5 := hide k5
  have Q5 := hide q5
  clear k5 q5
  go_wp2_with fail
  refine (addresses_one _ _ _ _ _ (unhide K5) rfl (by omega) (by omega) (by simp [word8, dword8, words8])).mono ?_
  rintro ee w6 ⟨rfl, k6, q6⟩
  have r6 := kept_cells q6 (b := w.heap.size) (by omega)
  have K6 := hide k6
  have Q6 := hide q6
  clear k6 q6
  go_wp2_with fail
  refine (text_any _ _ _ (unhide K6)).mono ?_
  rintro ee w7 ⟨rfl, rfl⟩
  clear r1 r2 r3 r4 r5 r6
  go_wp2
  go_ret2
  refine ⟨rfl, ?_⟩
  have q := ((((((unhide Q1).trans (unhide Q2)).trans (unhide Q3)).trans (unhide Q4)).trans (unhide Q5)).trans (unhide Q6)).below
  exact (((Below.refl w.heap.size w).alloc (Nat.le_refl _) _).alloc (by simp) _).trans (q.mono (by omega))
end Go.Proofs.YtoifihhmneldeaaGreatDoor.Arp

namespace Go.Proofs.YtoifihhmneldeaaGreatDoor.Arp
open Go.ChangeShapes Go.WideShapes Go.ChangeAt Go.RowKit Bs Rb Wt
set_option linter.unusedVariables false

def okOp (op : Int) : Bool := op == 1 || op == 2
def arpS (op : Int) (fm : List UInt8) (fi : Int) (tm : List UInt8) (ti : Int) : ByteArray := if okOp op then ⟨(arpL op fm fi tm ti).toArray⟩ else ⟨#[]⟩
def arpE (op : Int) : Int := if okOp op then 0 else 2

set_option maxHeartbeats 1000000 in
theorem wire_any (op : Int) (a b c d e f : UInt8) (fi : Int) (a' b' c' d' e' f' : UInt8) (ti : Int) (w : World)
    (h1 : 0 ≤ op) (h2 : op ≤ 65535) (h3 : 0 ≤ fi) (h4 : fi ≤ 4294967295) (h5 : 0 ≤ ti) (h6 : ti ≤ 4294967295) :
    Calls Tryz.prog 45 #[.agg #[.int .u16 op, .int .u8 a.toNat, .int .u8 b.toNat, .int .u8 c.toNat, .int .u8 d.toNat, .int .u8 e.toNat, .int .u8 f.toNat, .int .u32 fi, .int .u8 a'.toNat, .int .u8 b'.toNat, .int .u8 c'.toNat, .int .u8 d'.toNat, .int .u8 e'.toNat, .int .u8 f'.toNat, .int .u32 ti]] w fun ee w' =>
      ee = .returned (.tuple #[.string (arpS op [a, b, c, d, e, f] fi [a', b', c', d', e', f'] ti), .int .i64 (arpE op)]) ∧ Below w.heap.size w w' := by
  by_cases hop : okOp op = true
  · have h := write_ok op a b c d e f fi a' b' c' d' e' f' ti w h1 h2 h3 h4 h5 h6 hop
    rw [arpS, arpE, if_pos hop, if_pos hop]
    exact h
  · rw [arpS, arpE, if_neg hop, if_neg hop]
    have hop' : (op == 1 || op == 2) = false := by simpa [okOp] using hop
    have HO := hide (isOp_any op)
    clear hop
    go_enter Tryz.func45, Tryz.ntmps45
    go_wp2_with fail
    refine (unhide HO _).mono ?_
    rintro ee w1 ⟨rfl, rfl⟩
    rw [hop']
    go_wp2
    go_ret2
    exact ⟨rfl, (Below.refl _ _).alloc (Nat.le_refl _) _⟩

set_option maxHeartbeats 1000000 in
theorem boot_any (op : Int) (a b c d e f : UInt8) (fi : Int) (a' b' c' d' e' f' : UInt8) (ti : Int) (w : World)
    (h1 : 0 ≤ op) (h2 : op ≤ 65535) (h3 : 0 ≤ fi) (h4 : fi ≤ 4294967295) (h5 : 0 ≤ ti) (h6 : ti ≤ 4294967295) :
    Calls Tryz.prog 20 #[.agg #[.int .u16 op, .int .u8 a.toNat, .int .u8 b.toNat, .int .u8 c.toNat, .int .u8 d.toNat, .int .u8 e.toNat, .int .u8 f.toNat, .int .u32 fi, .int .u8 a'.toNat, .int .u8 b'.toNat, .int .u8 c'.toNat, .int .u8 d'.toNat, .int .u8 e'.toNat, .int .u8 f'.toNat, .int .u32 ti]] w fun ee w' =>
      ee = .returned (.tuple #[.string (arpS op [a, b, c, d, e, f] fi [a', b', c', d', e', f'] ti), .int .i64 (arpE op)]) ∧ Below w.heap.size w w' := by
  have HO := fun w => hide (wire_any op a b c d e f fi a' b' c' d' e' f' ti w h1 h2 h3 h4 h5 h6)
  go_enter Tryz.func20, Tryz.ntmps20
  go_wp2_with fail
  refine (unhide (HO _)).mono ?_
  rintro ee w1 ⟨rfl, hb⟩
  have HB := hide hb
  clear hb HO
  go_wp2
  go_ret2
  exact ⟨rfl, ((Below.refl _ _).alloc (Nat.le_refl _) _).trans ((unhide HB).mono (by simp))⟩

theorem ret_pair {a b : ByteArray} {k : Int} (h : a = b) : Ending.returned (.tuple #[.string a, .int .i64 k]) = .returned (.tuple #[.string b, .int .i64 k]) := by rw [h]
theorem join (op : Int) (a b c d e f : UInt8) (fi : Int) (a' b' c' d' e' f' : UInt8) (ti : Int) :
    ((((((⟨#[0, 1, 8, 0, 6, 4]⟩ : ByteArray) ++ ⟨#[by8 (op / 256), by8 op]⟩) ++ ⟨#[a, b, c, d, e, f]⟩) ++ ⟨#[by8 (fi / 256 / 256 / 256), by8 (fi / 256 / 256), by8 (fi / 256), by8 fi]⟩) ++ ⟨#[a', b', c', d', e', f']⟩) ++ ⟨#[by8 (ti / 256 / 256 / 256), by8 (ti / 256 / 256), by8 (ti / 256), by8 ti]⟩)
      = ⟨(arpL op [a, b, c, d, e, f] fi [a', b', c', d', e', f'] ti).toArray⟩ := by
  rw [arpL, ← big4, ← big4]
  apply ByteArray.ext
  simp [ByteArray.data_append, bigL, word8]

end Go.Proofs.YtoifihhmneldeaaGreatDoor.Arp

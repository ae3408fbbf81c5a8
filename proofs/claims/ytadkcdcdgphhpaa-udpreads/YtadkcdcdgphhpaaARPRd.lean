import Derived.Test.YtadkcdcdgphhpaaReaderCard
import Derived.Test.YtadkcdcdgphhpaaEtherRh
import Derived.Test.YtadkcdcdgphhpaaARPMath
namespace Go.Proofs.Ytadkcdcdgphhpaa.ArR
open Go.ChangeShapes Go.WideShapes Go.ChangeAt Go.RowKit Bs Rd
set_option linter.unusedVariables false

def okHead (a b c d e f : UInt8) : Bool := [a, b, c, d, e, f] == [0, 1, 8, 0, 6, 4]

set_option maxHeartbeats 1000000 in
theorem isHead_any (a b c d e f : UInt8) (w : World) :
    Calls Try.prog 113 #[.string ⟨#[a, b, c, d, e, f]⟩] w fun ee w' => ee = .returned (.bool (okHead a b c d e f)) ∧ w' = w := by
  obtain ⟨s, hS⟩ : ∃ s : ByteArray, s = ⟨#[a, b, c, d, e, f]⟩ := ⟨_, rfl⟩
  have e1 : (s.toList == [0, 1, 8, 0, 6, 4]) = okHead a b c d e f := by rw [hS, okHead, ByteArray.toList_eq]
  rw [← hS, ← e1]
  clear hS e1
  go_enter Try.func113, Try.ntmps113
  go_wp2
  go_ret
  exact ⟨rfl, rfl⟩

set_option maxHeartbeats 1000000 in
theorem arpHead_ok (B : Nat) (a b c d e f : UInt8) (l : List UInt8) (w : World) (h : Rdr w B (a :: b :: c :: d :: e :: f :: l)) (hs : (a :: b :: c :: d :: e :: f :: l).length ≤ maxLen) :
    Calls Try.prog 112 #[.pointer (some ⟨B, 0, none⟩)] w fun ee w' => ee = .returned (.string ⟨#[a, b, c, d, e, f]⟩) ∧ Rdr w' B l ∧ w.grownBy w' (some B) := by
  have HN := hide (take_ok B (a :: b :: c :: d :: e :: f :: l) 6 w h (by simp) hs)
  have HR := hide (h.set l)
  clear h hs
  go_enter Try.func112, Try.ntmps112
  go_wp2_with fail
  refine (unhide HN).mono ?_
  rintro ee w1 ⟨rfl, rfl⟩
  go_wp2
  go_ret
  exact ⟨rfl, unhide HR, grown_set _⟩

set_option maxHeartbeats 1000000 in
theorem getHead_ok (B : Nat) (a b c d e f : UInt8) (l : List UInt8) (w : World) (h : Rdr w B (a :: b :: c :: d :: e :: f :: l)) (hs : (a :: b :: c :: d :: e :: f :: l).length ≤ maxLen) (ht : okHead a b c d e f = true) :
    Calls Try.prog 108 #[.pointer (some ⟨B, 0, none⟩), .func (.func 112) #[] #[], .func (.func 113) #[] #[], .int .i64 2] w fun ee w' => (∃ v, ee = .returned v) ∧ Rdr w' B l ∧ w.grownBy w' (some B) := by
  have HN := hide (arpHead_ok B a b c d e f l w h hs)
  have HT := hide ht
  have HI := hide (fun u => isHead_any a b c d e f u)
  clear h hs ht
  go_enter Try.func108, Try.ntmps108
  go_wp2_with fail
  refine (unhide HN).mono ?_
  rintro ee w1 ⟨rfl, h1, g1⟩
  have H1 := hide h1
  have G1 := hide g1
  clear h1 g1
  go_wp2_with fail
  refine (unhide HI _).mono ?_
  rintro ee w2 ⟨rfl, rfl⟩
  rw [unhide HT]
  go_wp2_with fail
  refine (must_ok _ _).mono ?_
  rintro _ w3 ⟨rfl, rfl⟩
  go_wp2
  go_ret
  exact ⟨⟨_, rfl⟩, unhide H1, unhide G1⟩

set_option maxHeartbeats 1000000 in
theorem getHead_no (B : Nat) (a b c d e f : UInt8) (l : List UInt8) (w : World) (h : Rdr w B (a :: b :: c :: d :: e :: f :: l)) (hs : (a :: b :: c :: d :: e :: f :: l).length ≤ maxLen) (ht : okHead a b c d e f = false) :
    Calls Try.prog 108 #[.pointer (some ⟨B, 0, none⟩), .func (.func 112) #[] #[], .func (.func 113) #[] #[], .int .i64 2] w fun ee w' => ee = .panicked (errP 2) ∧ w.grownBy w' (some B) := by
  have HN := hide (arpHead_ok B a b c d e f l w h hs)
  have HT := hide ht
  have HI := hide (fun u => isHead_any a b c d e f u)
  clear h hs ht
  go_enter Try.func108, Try.ntmps108
  go_wp2_with fail
  refine (unhide HN).mono ?_
  rintro ee w1 ⟨rfl, h1, g1⟩
  have G1 := hide g1
  clear h1 g1
  go_wp2_with fail
  refine (unhide HI _).mono ?_
  rintro ee w2 ⟨rfl, rfl⟩
  rw [unhide HT]
  go_wp2_with fail
  refine (must_no _ _).mono ?_
  rintro _ w3 ⟨rfl, rfl⟩
  exact ⟨rfl, rfl, unhide G1⟩

set_option maxHeartbeats 1000000 in
theorem getOp_ok (B : Nat) (a b : UInt8) (l : List UInt8) (w : World) (h : Rdr w B (a :: b :: l)) (hs : (a :: b :: l).length ≤ maxLen) (ht : (256 * (a.toNat : Int) + (b.toNat : Int) == 1 || 256 * (a.toNat : Int) + (b.toNat : Int) == 2) = true) :
    Calls Try.prog 106 #[.pointer (some ⟨B, 0, none⟩), .func (.func 107) #[] #[], .func (.func 82) #[] #[], .int .i64 2] w fun e w' => e = .returned (.int .u16 (256 * (a.toNat : Int) + (b.toNat : Int))) ∧ Rdr w' B l ∧ w.grownBy w' (some B) := by
  have HN := hide (word_ok B a b l w h hs)
  obtain ⟨x, hx⟩ : ∃ x, x = 256 * (a.toNat : Int) + (b.toNat : Int) := ⟨_, rfl⟩
  rw [← hx] at HN ht ⊢
  have HT := hide ht
  have HI := hide (fun u => Arp.isOp_any x u)
  clear h hx hs ht
  go_enter Try.func106, Try.ntmps106
  go_wp2_with fail
  refine (unhide HN).mono ?_
  rintro e w1 ⟨rfl, h1, g1⟩
  have H1 := hide h1
  have G1 := hide g1
  clear h1 g1
  go_wp2_with fail
  refine (unhide HI _).mono ?_
  rintro e w2 ⟨rfl, rfl⟩
  rw [unhide HT]
  go_wp2_with fail
  refine (must_ok _ _).mono ?_
  rintro _ w3 ⟨rfl, rfl⟩
  go_wp2
  go_ret
  exact ⟨rfl, unhide H1, unhide G1⟩

set_option maxHeartbeats 1000000 in
theorem getOp_no (B : Nat) (a b : UInt8) (l : List UInt8) (w : World) (h : Rdr w B (a :: b :: l)) (hs : (a :: b :: l).length ≤ maxLen) (ht : (256 * (a.toNat : Int) + (b.toNat : Int) == 1 || 256 * (a.toNat : Int) + (b.toNat : Int) == 2) = false) :
    Calls Try.prog 106 #[.pointer (some ⟨B, 0, none⟩), .func (.func 107) #[] #[], .func (.func 82) #[] #[], .int .i64 2] w fun e w' => e = .panicked (errP 2) ∧ w.grownBy w' (some B) := by
  have HN := hide (word_ok B a b l w h hs)
  obtain ⟨x, hx⟩ : ∃ x, x = 256 * (a.toNat : Int) + (b.toNat : Int) := ⟨_, rfl⟩
  rw [← hx] at HN ht
  have HT := hide ht
  have HI := hide (fun u => Arp.isOp_any x u)
  clear h hx hs ht
  go_enter Try.func106, Try.ntmps106
  go_wp2_with fail
  refine (unhide HN).mono ?_
  rintro e w1 ⟨rfl, h1, g1⟩
  have G1 := hide g1
  clear h1 g1
  go_wp2_with fail
  refine (unhide HI _).mono ?_
  rintro e w2 ⟨rfl, rfl⟩
  rw [unhide HT]
  go_wp2_with fail
  refine (must_no _ _).mono ?_
  rintro _ w3 ⟨rfl, rfl⟩
  exact ⟨rfl, rfl, unhide G1⟩
end Go.Proofs.Ytadkcdcdgphhpaa.ArR

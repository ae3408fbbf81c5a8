import Derived.Test.YtoifihhmneldeaaGreatDoorReaderCard
import Derived.Test.YtoifihhmneldeaaGreatDoorReaderText
import Derived.Test.YtoifihhmneldeaaGreatDoorEtherW
namespace Go.Proofs.YtoifihhmneldeaaGreatDoor.EtR
open Go.ChangeShapes Go.WideShapes Go.ChangeAt Go.RowKit Bs Rd
set_option linter.unusedVariables false

theorem unot (x : Bool) (w : World) : (Op.unary .not (.bool x)).run Tryz.prog w = .ok (.bool (!x)) w := rfl

set_option maxHeartbeats 1000000 in
theorem getType_short (B : Nat) (l : List UInt8) (w : World) (h : Rdr w B l) (hn : l.length < 2) :
    Calls Tryz.prog 53 #[.pointer (some ⟨B, 0, none⟩), .func (.func 54) #[] #[], .func (.func 27) #[] #[], .int .i64 3] w fun e w' => e = .panicked (errP 1) ∧ w.grownBy w' (some B) := by
  have HN := hide (word_no B l w h hn)
  clear h
  go_enter Tryz.func53, Tryz.ntmps53
  go_wp2_with fail
  refine (unhide HN).mono ?_
  rintro e w1 ⟨rfl, rfl⟩
  exact ⟨rfl, rfl, grown_refl _ _⟩

set_option maxHeartbeats 1000000 in
theorem getType_ok (B : Nat) (a b : UInt8) (l : List UInt8) (w : World) (h : Rdr w B (a :: b :: l)) (hs : (a :: b :: l).length ≤ maxLen) (ht : Eth.okTy (256 * (a.toNat : Int) + (b.toNat : Int)) = true) :
    Calls Tryz.prog 53 #[.pointer (some ⟨B, 0, none⟩), .func (.func 54) #[] #[], .func (.func 27) #[] #[], .int .i64 3] w fun e w' => e = .returned (.int .u16 (256 * (a.toNat : Int) + (b.toNat : Int))) ∧ Rdr w' B l ∧ w.grownBy w' (some B) := by
  have HN := hide (word_ok B a b l w h hs)
  obtain ⟨x, hx⟩ : ∃ x, x = 256 * (a.toNat : Int) + (b.toNat : Int) := ⟨_, rfl⟩
  rw [← hx] at HN ht ⊢
  have HT := hide ht
  have HI := hide (fun u => Eth.isType_any x u)
  clear h hx hs ht
  go_enter Tryz.func53, Tryz.ntmps53
  go_wp2_with fail
  refine (unhide HN).mono ?_
  rintro e w1 ⟨rfl, h1, g1⟩
  have H1 := hide h1
  have G1 := hide g1
  clear h1 g1
  go_wp2_with fail
  refine (unhide HI _).mono ?_
  rintro e w2 ⟨rfl, rfl⟩
  rw [unhide HT]
  go_wp2_with fail
  refine (must_ok _ _).mono ?_
  rintro _ w3 ⟨rfl, rfl⟩
  go_wp2
  go_ret
  exact ⟨rfl, unhide H1, unhide G1⟩

set_option maxHeartbeats 1000000 in
theorem getType_no (B : Nat) (a b : UInt8) (l : List UInt8) (w : World) (h : Rdr w B (a :: b :: l)) (hs : (a :: b :: l).length ≤ maxLen) (ht : Eth.okTy (256 * (a.toNat : Int) + (b.toNat : Int)) = false) :
    Calls Tryz.prog 53 #[.pointer (some ⟨B, 0, none⟩), .func (.func 54) #[] #[], .func (.func 27) #[] #[], .int .i64 3] w fun e w' => e = .panicked (errP 3) ∧ w.grownBy w' (some B) := by
  have HN := hide (word_ok B a b l w h hs)
  obtain ⟨x, hx⟩ : ∃ x, x = 256 * (a.toNat : Int) + (b.toNat : Int) := ⟨_, rfl⟩
  rw [← hx] at HN ht
  have HT := hide ht
  have HI := hide (fun u => Eth.isType_any x u)
  clear h hx hs ht
  go_enter Tryz.func53, Tryz.ntmps53
  go_wp2_with fail
  refine (unhide HN).mono ?_
  rintro e w1 ⟨rfl, h1, g1⟩
  have G1 := hide g1
  clear h1 g1
  go_wp2_with fail
  refine (unhide HI _).mono ?_
  rintro e w2 ⟨rfl, rfl⟩
  rw [unhide HT]
  go_wp2_with fail
  refine (must_no _ _).mono ?_
  rintro _ w3 ⟨rfl, rfl⟩
  exact ⟨rfl, rfl, unhide G1⟩

set_option maxHeartbeats 1000000 in
theorem getLoad_ok (B : Nat) (l : List UInt8) (w : World) (h : Rdr w B l) (hs : l.length ≤ 1099511627776) (ht : Eth.okLoad ⟨l.toArray⟩ = true) :
    Calls Tryz.prog 55 #[.pointer (some ⟨B, 0, none⟩), .func (.func 56) #[] #[], .func (.func 28) #[] #[], .int .i64 7] w fun e w' => e = .returned (.string ⟨l.toArray⟩) ∧ Rdr w' B [] ∧ w.grownBy w' (some B) := by
  have HN := hide (remaining_ok B l w h hs)
  have HT := hide ht
  have HI := hide (fun u => Eth.isLoad_any ⟨l.toArray⟩ u)
  clear h hs ht
  go_enter Tryz.func55, Tryz.ntmps55
  go_wp2_with fail
  refine (unhide HN).mono ?_
  rintro e w1 ⟨rfl, h1, g1⟩
  have H1 := hide h1
  have G1 := hide g1
  clear h1 g1
  go_wp2_with fail
  refine (unhide HI _).mono ?_
  rintro e w2 ⟨rfl, rfl⟩
  rw [unhide HT]
  go_wp2_with fail
  refine (must_ok _ _).mono ?_
  rintro _ w3 ⟨rfl, rfl⟩
  go_wp2
  go_ret
  exact ⟨rfl, unhide H1, unhide G1⟩

set_option maxHeartbeats 1000000 in
theorem getLoad_no (B : Nat) (l : List UInt8) (w : World) (h : Rdr w B l) (hs : l.length ≤ 1099511627776) (ht : Eth.okLoad ⟨l.toArray⟩ = false) :
    Calls Tryz.prog 55 #[.pointer (some ⟨B, 0, none⟩), .func (.func 56) #[] #[], .func (.func 28) #[] #[], .int .i64 7] w fun e w' => e = .panicked (errP 7) ∧ w.grownBy w' (some B) := by
  have HN := hide (remaining_ok B l w h hs)
  have HT := hide ht
  have HI := hide (fun u => Eth.isLoad_any ⟨l.toArray⟩ u)
  clear h hs ht
  go_enter Tryz.func55, Tryz.ntmps55
  go_wp2_with fail
  refine (unhide HN).mono ?_
  rintro e w1 ⟨rfl, h1, g1⟩
  have G1 := hide g1
  clear h1 g1
  go_wp2_with fail
  refine (unhide HI _).mono ?_
  rintro e w2 ⟨rfl, rfl⟩
  rw [unhide HT]
  go_wp2_with fail
  refine (must_no _ _).mono ?_
  rintro _ w3 ⟨rfl, rfl⟩
  exact ⟨rfl, rfl, unhide G1⟩
end Go.Proofs.YtoifihhmneldeaaGreatDoor.EtR

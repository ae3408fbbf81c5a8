import Derived.Test.YtoifihhmneldeaaGreatDoorReader
import Derived.Test.YtoifihhmneldeaaGreatDoorReaderText
namespace Go.Proofs.YtoifihhmneldeaaGreatDoor.Rd
open Go.ChangeShapes Go.WideShapes Go.ChangeAt Go.RowKit Bs
set_option linter.unusedVariables false

set_option maxHeartbeats 400000 in
theorem byte_ok (B : Nat) (a : UInt8) (l : List UInt8) (w : World) (h : Rdr w B (a :: l)) (hs : (a :: l).length ≤ maxLen) :
    Calls Tryz.prog 63 #[.pointer (some ⟨B, 0, none⟩)] w fun e w' => e = .returned (.int .u8 a.toNat) ∧ Rdr w' B l ∧ w.grownBy w' (some B) := by
  have HN := hide (take_ok B (a :: l) 1 w h (by simp) hs)
  have HR := hide (h.set l)
  clear h hs
  go_enter Tryz.func63, Tryz.ntmps63
  go_wp2_with fail
  refine (unhide HN).mono ?_
  rintro e w1 ⟨rfl, rfl⟩
  have i0 : ∀ u, (Instr.index 9 (.string ⟨#[a]⟩) (.int .i64 0)).run Tryz.prog u = .ok (.int .u8 a.toNat) u := fun _ => by kernel_rfl
  go_wp2
  go_ret
  exact ⟨rfl, unhide HR, grown_set _⟩

set_option maxHeartbeats 400000 in
theorem length_ok (B : Nat) (a b : UInt8) (l : List UInt8) (hd al : Int) (w : World) (h : Rdr w B (a :: b :: l)) (hs : (a :: b :: l).length ≤ maxLen) (h1 : hd ≤ 256 * (a.toNat : Int) + (b.toNat : Int)) (h2 : 256 * (a.toNat : Int) + (b.toNat : Int) ≤ al) :
    Calls Tryz.prog 61 #[.pointer (some ⟨B, 0, none⟩), .int .i64 hd, .int .i64 al] w fun e w' => e = .returned (.int .i64 (256 * (a.toNat : Int) + (b.toNat : Int))) ∧ Rdr w' B l ∧ w.grownBy w' (some B) := by
  have HN := hide (word_ok B a b l w h hs)
  have ha := a.toNat_lt
  have hb := b.toNat_lt
  obtain ⟨x, hx⟩ : ∃ x, x = 256 * (a.toNat : Int) + (b.toNat : Int) := ⟨_, rfl⟩
  rw [← hx] at HN h1 h2 ⊢
  have hq : IntKind.i64.wrap x = x := wrap_i64 _ (by omega) (by omega)
  clear h hs hx ha hb
  go_enter Tryz.func61, Tryz.ntmps61
  go_wp2_with fail
  refine (unhide HN).mono ?_
  rintro e w1 ⟨rfl, r1, g1⟩
  have R1 := hide r1
  have G1 := hide g1
  clear r1 g1
  go_wp2_with fail
  refine (must_if _ (by simp <;> omega) _ _).mono ?_
  rintro e w2 ⟨rfl, rfl⟩
  go_wp2_with fail
  refine (must_if _ (by simp <;> omega) _ _).mono ?_
  rintro e w3 ⟨rfl, rfl⟩
  go_wp2
  go_ret
  exact ⟨rfl, unhide R1, unhide G1⟩

set_option maxHeartbeats 400000 in
theorem length_form (B : Nat) (a b : UInt8) (l : List UInt8) (hd al : Int) (w : World) (h : Rdr w B (a :: b :: l)) (hs : (a :: b :: l).length ≤ maxLen) (h1 : 256 * (a.toNat : Int) + (b.toNat : Int) < hd) :
    Calls Tryz.prog 61 #[.pointer (some ⟨B, 0, none⟩), .int .i64 hd, .int .i64 al] w fun e w' => e = .panicked (errP 2) ∧ w.grownBy w' (some B) := by
  have HN := hide (word_ok B a b l w h hs)
  have ha := a.toNat_lt
  have hb := b.toNat_lt
  obtain ⟨x, hx⟩ : ∃ x, x = 256 * (a.toNat : Int) + (b.toNat : Int) := ⟨_, rfl⟩
  rw [← hx] at HN h1
  have hq : IntKind.i64.wrap x = x := wrap_i64 _ (by omega) (by omega)
  clear h hs hx ha hb
  go_enter Tryz.func61, Tryz.ntmps61
  go_wp2_with fail
  refine (unhide HN).mono ?_
  rintro e w1 ⟨rfl, r1, g1⟩
  have G1 := hide g1
  clear r1 g1
  go_wp2_with fail
  refine (must_else _ (by simp <;> omega) _ _).mono ?_
  rintro e w2 ⟨rfl, rfl⟩
  exact ⟨rfl, rfl, unhide G1⟩

set_option maxHeartbeats 400000 in
theorem length_short (B : Nat) (a b : UInt8) (l : List UInt8) (hd al : Int) (w : World) (h : Rdr w B (a :: b :: l)) (hs : (a :: b :: l).length ≤ maxLen) (h1 : hd ≤ 256 * (a.toNat : Int) + (b.toNat : Int)) (h2 : al < 256 * (a.toNat : Int) + (b.toNat : Int)) :
    Calls Tryz.prog 61 #[.pointer (some ⟨B, 0, none⟩), .int .i64 hd, .int .i64 al] w fun e w' => e = .panicked (errP 1) ∧ w.grownBy w' (some B) := by
  have HN := hide (word_ok B a b l w h hs)
  have ha := a.toNat_lt
  have hb := b.toNat_lt
  obtain ⟨x, hx⟩ : ∃ x, x = 256 * (a.toNat : Int) + (b.toNat : Int) := ⟨_, rfl⟩
  rw [← hx] at HN h1 h2
  have hq : IntKind.i64.wrap x = x := wrap_i64 _ (by omega) (by omega)
  clear h hs hx ha hb
  go_enter Tryz.func61, Tryz.ntmps61
  go_wp2_with fail
  refine (unhide HN).mono ?_
  rintro e w1 ⟨rfl, r1, g1⟩
  have G1 := hide g1
  clear r1 g1
  go_wp2_with fail
  refine (must_if _ (by simp <;> omega) _ _).mono ?_
  rintro e w2 ⟨rfl, rfl⟩
  go_wp2_with fail
  refine (must_else _ (by simp <;> omega) _ _).mono ?_
  rintro e w3 ⟨rfl, rfl⟩
  exact ⟨rfl, rfl, unhide G1⟩

theorem and15 (x : Nat) (h : x < 256) : bits .and .u8 (x : Int) 15 = ((x % 16 : Nat) : Int) := by
  have := u8_and_nat x 15 h (by omega)
  rw [show ((15 : Nat) : Int) = 15 from rfl] at this
  rw [this, show (15 : Nat) = 2 ^ 4 - 1 from rfl, Nat.and_two_pow_sub_one_eq_mod]
theorem and_part (x : Nat) (h : x < 65536) : bits .and .u16 (x : Int) 16383 = ((x % 16384 : Nat) : Int) := by
  have := u16_and_nat x 16383 h (by omega)
  rw [show ((16383 : Nat) : Int) = 16383 from rfl] at this
  rw [this, show (16383 : Nat) = 2 ^ 14 - 1 from rfl, Nat.and_two_pow_sub_one_eq_mod]
theorem and_flag (x : Nat) (h : x < 65536) : bits .and .u16 (x : Int) 32768 = ((x / 32768 * 32768 : Nat) : Int) := by
  have := u16_and_nat x 32768 h (by omega)
  rw [show ((32768 : Nat) : Int) = 32768 from rfl] at this
  rw [this]
  congr 1
  apply Nat.eq_of_testBit_eq
  intro i
  rw [Nat.testBit_and, show (32768 : Nat) = 2 ^ 15 from rfl, Nat.testBit_two_pow]
  by_cases hx : x < 2 ^ 15
  · have e : x / 2 ^ 15 = 0 := Nat.div_eq_of_lt hx
    rw [e, Nat.zero_mul, Nat.zero_testBit]
    by_cases hi : 15 = i
    · subst hi; rw [Nat.testBit_lt_two_pow hx]; rfl
    · simp [hi]
  · have e : x / 2 ^ 15 = 1 := by omega
    rw [e, Nat.one_mul, Nat.testBit_two_pow]
    by_cases hi : 15 = i
    · subst hi
      have e2 : x.testBit 15 = true := by rw [Nat.testBit_eq_decide_div_mod_eq, e]; rfl
      rw [e2]; rfl
    · simp [hi]

/-- what stands ahead of a packet's length: a, and a byte -/
theorem ipFirst_ok (B : Nat) (a b : UInt8) (l : List UInt8) (w : World) (h : Rdr w B (a :: b :: l)) (hs : (a :: b :: l).length ≤ maxLen) (h4 : a.toNat = 69) :
    Calls Tryz.prog 60 #[.pointer (some ⟨B, 0, none⟩)] w fun e w' => e = .returned (.tuple #[]) ∧ Rdr w' B l ∧ w.grownBy w' (some B) := by
  have HN := byte_ok B a (b :: l) w h hs
  rw [h4] at HN
  have HN := hide HN
  have HM := hide (fun u hu => byte_ok B b l u hu (by simp only [List.length_cons] at hs ⊢; omega))
  have hq : bits .and .u8 69 15 = 5 := by decide
  clear h hs h4
  go_enter Tryz.func60, Tryz.ntmps60
  go_wp2_with fail
  refine (unhide HN).mono ?_
  rintro e w1 ⟨rfl, r1, g1⟩
  have R1 := hide r1
  have G1 := hide g1
  clear r1 g1
  go_wp2_with fail
  refine (must_if _ (by simp) _ _).mono ?_
  rintro e w2 ⟨rfl, rfl⟩
  go_wp2_with fail
  refine (must_if _ (by simp) _ _).mono ?_
  rintro e w3 ⟨rfl, rfl⟩
  go_wp2_with fail
  refine (unhide HM _ (unhide R1)).mono ?_
  rintro e w4 ⟨rfl, r4, g4⟩
  have R4 := hide r4
  have G4 := hide g4
  clear r4 g4
  go_wp2
  go_end0
  exact ⟨rfl, unhide R4, grown_trans (unhide G1) (unhide G4)⟩

theorem ipFirst_opt (B : Nat) (a b : UInt8) (l : List UInt8) (w : World) (h : Rdr w B (a :: b :: l)) (hs : (a :: b :: l).length ≤ maxLen) (h4 : a.toNat / 16 = 4) (h5 : 5 < a.toNat % 16) :
    Calls Tryz.prog 60 #[.pointer (some ⟨B, 0, none⟩)] w fun e w' => e = .panicked (errP 4) ∧ w.grownBy w' (some B) := by
  have ha := a.toNat_lt
  have hq := and15 a.toNat ha
  obtain ⟨x, hx⟩ : ∃ x : Int, x = (a.toNat : Int) := ⟨_, rfl⟩
  obtain ⟨y, hy⟩ : ∃ y : Int, y = ((a.toNat % 16 : Nat) : Int) := ⟨_, rfl⟩
  have HN := byte_ok B a (b :: l) w h hs
  rw [← hx] at HN hq
  rw [← hy] at hq
  have HN := hide HN
  have hx4 : x / 16 = 4 := by omega
  have hy5 : 5 < y := by omega
  clear h hs h4 h5 hx hy ha
  go_enter Tryz.func60, Tryz.ntmps60
  go_wp2_with fail
  refine (unhide HN).mono ?_
  rintro e w1 ⟨rfl, r1, g1⟩
  have G1 := hide g1
  clear r1 g1
  go_wp2_with fail
  refine (must_if _ (by simp <;> omega) _ _).mono ?_
  rintro e w2 ⟨rfl, rfl⟩
  go_wp2_with fail
  refine (must_else _ (by simp <;> omega) _ _).mono ?_
  rintro e w3 ⟨rfl, rfl⟩
  exact ⟨rfl, rfl, unhide G1⟩

theorem ipFirst_ver (B : Nat) (a b : UInt8) (l : List UInt8) (w : World) (h : Rdr w B (a :: b :: l)) (hs : (a :: b :: l).length ≤ maxLen) (h4 : a.toNat / 16 ≠ 4) :
    Calls Tryz.prog 60 #[.pointer (some ⟨B, 0, none⟩)] w fun e w' => e = .panicked (errP 2) ∧ w.grownBy w' (some B) := by
  have ha := a.toNat_lt
  have hq := and15 a.toNat ha
  obtain ⟨x, hx⟩ : ∃ x : Int, x = (a.toNat : Int) := ⟨_, rfl⟩
  obtain ⟨y, hy⟩ : ∃ y : Int, y = ((a.toNat % 16 : Nat) : Int) := ⟨_, rfl⟩
  have HN := byte_ok B a (b :: l) w h hs
  rw [← hx] at HN hq
  rw [← hy] at hq
  have HN := hide HN
  have hx4 : (x / 16 == 4) = false := by simp; omega
  clear h hs h4 hx hy ha
  go_enter Tryz.func60, Tryz.ntmps60
  go_wp2_with fail
  refine (unhide HN).mono ?_
  rintro e w1 ⟨rfl, r1, g1⟩
  have G1 := hide g1
  clear r1 g1
  go_wp2_with fail
  refine (must_else _ (by simp) _ _).mono ?_
  rintro e w2 ⟨rfl, rfl⟩
  exact ⟨rfl, rfl, unhide G1⟩

theorem ipFirst_few (B : Nat) (a b : UInt8) (l : List UInt8) (w : World) (h : Rdr w B (a :: b :: l)) (hs : (a :: b :: l).length ≤ maxLen) (h4 : a.toNat / 16 = 4) (h5 : a.toNat % 16 < 5) :
    Calls Tryz.prog 60 #[.pointer (some ⟨B, 0, none⟩)] w fun e w' => e = .panicked (errP 2) ∧ w.grownBy w' (some B) := by
  have ha := a.toNat_lt
  have hq := and15 a.toNat ha
  obtain ⟨x, hx⟩ : ∃ x : Int, x = (a.toNat : Int) := ⟨_, rfl⟩
  obtain ⟨y, hy⟩ : ∃ y : Int, y = ((a.toNat % 16 : Nat) : Int) := ⟨_, rfl⟩
  have HN := byte_ok B a (b :: l) w h hs
  rw [← hx] at HN hq
  rw [← hy] at hq
  have HN := hide HN
  have hx4 : x / 16 = 4 := by omega
  have hy5 : y < 5 := by omega
  clear h hs h4 h5 hx hy ha
  go_enter Tryz.func60, Tryz.ntmps60
  go_wp2_with fail
  refine (unhide HN).mono ?_
  rintro e w1 ⟨rfl, r1, g1⟩
  have G1 := hide g1
  clear r1 g1
  go_wp2_with fail
  refine (must_else _ (by simp <;> omega) _ _).mono ?_
  rintro e w2 ⟨rfl, rfl⟩
  exact ⟨rfl, rfl, unhide G1⟩
end Go.Proofs.YtoifihhmneldeaaGreatDoor.Rd

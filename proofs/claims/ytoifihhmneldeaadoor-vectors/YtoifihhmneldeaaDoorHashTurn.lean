import Derived.Test.YtoifihhmneldeaaDoorHashBase
namespace Go.Proofs.YtoifihhmneldeaaDoor.Ht
open Go.ChangeShapes Go.WideShapes Go.ChangeAt Go.RowKit Hb
set_option linter.unusedVariables false

/-! bits of two numbers that are no negative ones, as plain numbers -/
theorem i64_or_nat (a b : Nat) (ha : a < 9223372036854775808) (hb : b < 9223372036854775808) : bits .or .i64 (a : Int) (b : Int) = ((a ||| b : Nat) : Int) := by
  have hx : a ||| b < 2 ^ 63 := Nat.or_lt_two_pow (by omega) (by omega)
  show IntKind.i64.wrap ((BitVec.ofInt 64 (a : Int) ||| BitVec.ofInt 64 (b : Int)).toNat : Int) = _
  rw [BitVec.toNat_or, ofInt_u64 a (by omega), ofInt_u64 b (by omega), IntKind.wrap_i64]
  omega
theorem i64_and_nat (a b : Nat) (ha : a < 9223372036854775808) (hb : b < 9223372036854775808) : bits .and .i64 (a : Int) (b : Int) = ((a &&& b : Nat) : Int) := by
  have hx : a &&& b < 2 ^ 63 := Nat.and_lt_two_pow _ (by omega)
  show IntKind.i64.wrap ((BitVec.ofInt 64 (a : Int) &&& BitVec.ofInt 64 (b : Int)).toNat : Int) = _
  rw [BitVec.toNat_and, ofInt_u64 a (by omega), ofInt_u64 b (by omega), IntKind.wrap_i64]
  omega
theorem i64_xor_nat (a b : Nat) (ha : a < 9223372036854775808) (hb : b < 9223372036854775808) : bits .xor .i64 (a : Int) (b : Int) = ((a ^^^ b : Nat) : Int) := by
  have hx : a ^^^ b < 2 ^ 63 := Nat.xor_lt_two_pow (by omega) (by omega)
  show IntKind.i64.wrap ((BitVec.ofInt 64 (a : Int) ^^^ BitVec.ofInt 64 (b : Int)).toNat : Int) = _
  rw [BitVec.toNat_xor, ofInt_u64 a (by omega), ofInt_u64 b (by omega), IntKind.wrap_i64]
  omega

/-- a word turned right -/
def turnF (x n : Nat) : Nat := x / 2 ^ n ||| x * 2 ^ (32 - n) % 4294967296
theorem turnF_lt (x n : Nat) (hx : x < 4294967296) : turnF x n < 4294967296 := by
  have h1 : x / 2 ^ n < 2 ^ 32 := Nat.lt_of_le_of_lt (Nat.div_le_self _ _) (by omega)
  have h2 : x * 2 ^ (32 - n) % 4294967296 < 2 ^ 32 := Nat.mod_lt _ (by omega)
  exact Nat.or_lt_two_pow h1 h2
theorem turn_num (x n : Nat) (hx : x < 4294967296) (hn0 : 0 < n) (hn1 : n < 32) :
    bits .or .i64 ((x : Int) / 2 ^ n) (bits .and .i64 ((wrap64 ((x : Int) * 2 ^ (32 - n))).tmod 4294967296) 4294967295) = ((turnF x n : Nat) : Int) := by
  have hp : 2 ^ (32 - n) ≤ 2 ^ 31 := Nat.pow_le_pow_right (by omega) (by omega)
  have hm : x * 2 ^ (32 - n) ≤ 4294967296 * 2 ^ 31 := Nat.mul_le_mul (by omega) hp
  have hm' : x * 2 ^ (32 - n) < 4294967296 * 2 ^ 31 := Nat.lt_of_lt_of_le ((Nat.mul_lt_mul_right (Nat.pow_pos (by omega))).mpr hx) (Nat.mul_le_mul_left _ hp)
  obtain ⟨y, hy⟩ : ∃ y, y = x * 2 ^ (32 - n) := ⟨_, rfl⟩
  have e0 : (x : Int) * 2 ^ (32 - n) = ((y : Nat) : Int) := by rw [hy]; simp
  have e1 : wrap64 (y : Int) = (y : Int) := by rw [← hy] at hm'; simp only [wrap64]; omega
  have e2 : ((y : Int)).tmod 4294967296 = ((y % 4294967296 : Nat) : Int) := by
    rw [Int.tmod_eq_emod_of_nonneg (by omega)]; omega
  have e3 : bits .and .i64 ((y % 4294967296 : Nat) : Int) 4294967295 = ((y % 4294967296 : Nat) : Int) := by
    have h := i64_and_nat (y % 4294967296) 4294967295 (by omega) (by omega)
    have h' : y % 4294967296 &&& 4294967295 = y % 4294967296 := by
      have := Nat.and_two_pow_sub_one_eq_mod (y % 4294967296) 32
      simpa using this
    rw [h'] at h
    exact h
  have e4 : (x : Int) / 2 ^ n = ((x / 2 ^ n : Nat) : Int) := by simp
  have hd : x / 2 ^ n ≤ x := Nat.div_le_self _ _
  rw [e0, e1, e2, e3, e4, i64_or_nat _ _ (by omega) (by omega), hy]
  rfl

theorem turn_any (x n : Nat) (w : World) (hx : x < 4294967296) (hn0 : 0 < n) (hn1 : n < 32) :
    Calls Tryd.prog 18 #[.int .i64 x, .int .i64 n] w fun e w' => e = .returned (.int .i64 (turnF x n)) ∧ w' = w.drew := by
  have HN := hide (turn_num x n hx hn0 hn1)
  go_enter Tryd.func18, Tryd.ntmps18
  go_wp2
  go_region
  go_wp2
  go_ret
  exact ⟨ret_int (unhide HN), rfl⟩
end Go.Proofs.YtoifihhmneldeaaDoor.Ht

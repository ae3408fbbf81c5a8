import Derived.Test.YtoifihhmneldeaaGreatDoorRows
import Derived.WalkKit
import Derived.ProofKit
import Derived.Laws.BitsAllLaws
namespace Go.Proofs.YtoifihhmneldeaaGreatDoor.Chk
open Go.ChangeShapes Go.WideShapes Go.ChangeAt Go.RowKit
set_option linter.unusedVariables false

/-- what is above sixteen bits added again, to the end -/
def fold (n : Int) : Int := if n = 0 then 0 else 1 + (n - 1) % 65535
/-- the words of a text, the last filled up, together -/
def wsum : List UInt8 → Int
  | [] => 0
  | [a] => 256 * (a.toNat : Int)
  | a :: b :: r => 256 * (a.toNat : Int) + (b.toNat : Int) + wsum r

theorem fold_small (n : Int) (h0 : 0 ≤ n) (h1 : n ≤ 65535) : fold n = n := by
  unfold fold; split <;> omega
theorem fold_bd (n : Int) (h0 : 0 ≤ n) : 0 ≤ fold n ∧ fold n ≤ 65535 := by
  unfold fold; split <;> omega
/-- the code's step: what is carried is added again -/
theorem fold_wrap (c x r : Int) (h0 : 0 ≤ c) (h2 : 0 ≤ x) (h4 : 65536 ≤ c + x) (hr : 0 ≤ r) :
    fold (c + x - 65535 + r) = fold (c + (x + r)) := by
  unfold fold; rw [if_neg (by omega), if_neg (by omega)]; omega
/-- the paper's step -/
theorem fold_turn (n : Int) (h : 65535 < n) : fold (n / 65536 + n % 65536) = fold n := by
  unfold fold; rw [if_neg (by omega), if_neg (by omega)]; omega
theorem wsum_nonneg : ∀ l : List UInt8, 0 ≤ wsum l
  | [] => by simp [wsum]
  | [a] => by simp [wsum]; omega
  | a :: b :: r => by have := wsum_nonneg r; simp only [wsum]; omega
theorem wsum_le : ∀ l : List UInt8, wsum l ≤ 65535 * l.length
  | [] => by simp [wsum]
  | [a] => by have := a.toNat_lt; simp [wsum]; omega
  | a :: b :: r => by
    have := wsum_le r; have ha := a.toNat_lt; have hb := b.toNat_lt
    simp only [wsum, List.length_cons]; omega
theorem drop_two (l : List UInt8) (k : Nat) (h : k + 1 < l.length) : l.drop k = l[k] :: l[k + 1] :: l.drop (k + 2) := by
  rw [List.drop_eq_getElem_cons (by omega), List.drop_eq_getElem_cons (by omega : k + 1 < l.length)]
theorem drop_one (l : List UInt8) (k : Nat) (h : k + 1 = l.length) : l.drop k = [l[k]] := by
  rw [List.drop_eq_getElem_cons (by omega), List.drop_eq_nil_of_le (by omega)]
theorem wsum_two (l : List UInt8) (k : Nat) (h : k + 1 < l.length) :
    wsum (l.drop k) = 256 * (l[k].toNat : Int) + (l[k + 1].toNat : Int) + wsum (l.drop (k + 2)) := by
  rw [drop_two l k h, wsum]
theorem wsum_one (l : List UInt8) (k : Nat) (h : k + 1 = l.length) :
    wsum (l.drop k) = 256 * (l[k].toNat : Int) := by
  rw [drop_one l k h, wsum]
theorem wsum_zero (l : List UInt8) (k : Nat) (h : l.length ≤ k) : wsum (l.drop k) = 0 := by
  rw [List.drop_eq_nil_of_le h, wsum]
/-- a byte 0 behind an odd number of bytes -/
theorem wsum_pad : ∀ l : List UInt8, l.length % 2 = 1 → wsum (l ++ [0]) = wsum l
  | [], h => by simp at h
  | [a], _ => by simp [wsum]
  | a :: b :: r, h => by
    have := wsum_pad r (by simp at h; omega)
    simp only [List.cons_append, wsum]; omega
theorem hide {p : Prop} (h : p) : Hid p := h
theorem unhide {p : Prop} (h : Hid p) : p := h
theorem ret_int {k : IntKind} {a b : Int} (h : a = b) : Ending.returned (.int k a) = .returned (.int k b) := by rw [h]
theorem val_int {k : IntKind} {a b : Int} (h : a = b) : Value.int k a = .int k b := by rw [h]
/-- two bytes as a word, as the code joins them -/
theorem u16_word (a b : Nat) (ha : a < 256) (hb : b < 256) :
    bits .or .u16 ((a : Int) * 256) (b : Int) = 256 * (a : Int) + (b : Int) := by
  have e1 : (a : Int) * 256 = ((256 * a : Nat) : Int) := by omega
  rw [e1, u16_or_nat _ _ (by omega) (by omega), nat_join 8 _ _ (by omega) (by omega)]
  omega
theorem nat_not16 (a : Nat) (h : a < 65536) : 65535 ^^^ a = 65535 - a := by
  have e := congrArg BitVec.toNat (BitVec.xor_allOnes (x := BitVec.ofNat 16 a))
  rw [BitVec.toNat_xor, BitVec.toNat_not, BitVec.toNat_ofNat, BitVec.toNat_allOnes] at e
  rw [Nat.mod_eq_of_lt (by omega : a < 2 ^ 16)] at e
  rw [Nat.xor_comm]
  simpa using e
theorem u16_not (c : Int) (h0 : 0 ≤ c) (h1 : c ≤ 65535) : bits .xor .u16 IntKind.u16.max c = 65535 - c := by
  have e : IntKind.u16.max = 65535 := by decide
  rw [e, u16_xor 65535 c (by omega) (by omega) h0 (by omega)]
  rw [show (65535 : Int).toNat = 65535 from rfl, nat_not16 c.toNat (by omega)]
  omega
/-- the code's sum behind one word -/
theorem step_lt (c x : Int) (h0 : 0 ≤ c) (h1 : c ≤ 65535) (h2 : 0 ≤ x) (h3 : x ≤ 65535) (h : IntKind.u16.wrap (c + x) < x) :
    65536 ≤ c + x ∧ IntKind.u16.wrap (IntKind.u16.wrap (c + x) + 1) = c + x - 65535 := by
  simp only [IntKind.wrap_u16] at *; omega
theorem step_ge (c x : Int) (h0 : 0 ≤ c) (h1 : c ≤ 65535) (h2 : 0 ≤ x) (h3 : x ≤ 65535) (h : x ≤ IntKind.u16.wrap (c + x)) :
    c + x ≤ 65535 ∧ IntKind.u16.wrap (c + x) = c + x := by
  simp only [IntKind.wrap_u16] at *; omega
end Go.Proofs.YtoifihhmneldeaaGreatDoor.Chk

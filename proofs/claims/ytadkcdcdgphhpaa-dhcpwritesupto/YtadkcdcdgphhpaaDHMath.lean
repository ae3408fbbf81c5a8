import Derived.WalkKit
import Derived.ProofKit
namespace Go.Proofs.Ytadkcdcdgphhpaa.Dh
set_option linter.unusedVariables false

/-- an option as bytes: in pieces of 255 -/
def opt8 (c : UInt8) (d : List UInt8) : List UInt8 :=
  if 255 < d.length then c :: 255 :: (d.take 255 ++ opt8 c (d.drop 255)) else c :: UInt8.ofNat d.length :: d
termination_by d.length
decreasing_by simp; omega
theorem opt8_long (c : UInt8) (d : List UInt8) (h : 255 < d.length) : opt8 c d = c :: 255 :: (d.take 255 ++ opt8 c (d.drop 255)) := by
  rw [opt8, if_pos h]
theorem opt8_short (c : UInt8) (d : List UInt8) (h : ¬ 255 < d.length) : opt8 c d = c :: UInt8.ofNat d.length :: d := by
  rw [opt8, if_neg h]
theorem opt8_length (c : UInt8) (d : List UInt8) : (opt8 c d).length ≤ 2 * d.length + 2 := by
  by_cases h : 255 < d.length
  · have ih := opt8_length c (d.drop 255)
    rw [opt8_long c d h]
    simp only [List.length_cons, List.length_append, List.length_take, List.length_drop] at ih ⊢
    omega
  · rw [opt8_short c d h]
    simp only [List.length_cons]; omega
termination_by d.length
decreasing_by simp; omega
theorem opt8_two (c : UInt8) (d : List UInt8) : 2 ≤ (opt8 c d).length := by
  by_cases h : 255 < d.length
  · rw [opt8_long c d h]; simp only [List.length_cons]; omega
  · rw [opt8_short c d h]; simp only [List.length_cons]; omega

/-- a code and its data -/
abbrev Pc := UInt8 × List UInt8
abbrev Opts := List Pc
def opts8 (os : Opts) : List UInt8 := os.flatMap fun o => opt8 o.1 o.2
theorem opts8_take (os : Opts) (k : Nat) (h : k < os.length) : opts8 (os.take (k + 1)) = opts8 (os.take k) ++ opt8 os[k].1 os[k].2 := by
  rw [opts8, List.take_succ_eq_append_getElem h, List.flatMap_append]
  simp [opts8]
theorem opts8_le (os : Opts) (k : Nat) : (opts8 (os.take k)).length ≤ (opts8 os).length := by
  have e : opts8 os = opts8 (os.take k) ++ opts8 (os.drop k) := by
    rw [opts8, opts8, opts8, ← List.flatMap_append, List.take_append_drop]
  rw [e, List.length_append]; omega
/-- how much options are: their number and their bytes -/
def heavy (os : Opts) : Nat := os.length + (os.map fun o => o.2.length).sum
theorem opts8_heavy (os : Opts) : (opts8 os).length ≤ 2 * heavy os := by
  induction os with
  | nil => simp [opts8, heavy]
  | cons o r ih =>
    have h := opt8_length o.1 o.2
    simp only [opts8, heavy, List.flatMap_cons, List.length_append, List.length_cons, List.map_cons, List.sum_cons] at ih ⊢
    omega
theorem heavy_take (os : Opts) (k : Nat) (h : k < os.length) : heavy (os.take (k + 1)) = heavy (os.take k) + 1 + os[k].2.length := by
  simp only [heavy, List.take_succ_eq_append_getElem h, List.map_append, List.sum_append, List.length_append, List.length_cons, List.length_nil, List.map_cons, List.map_nil, List.sum_cons, List.sum_nil]
  omega
theorem heavy_le (os : Opts) (k : Nat) : heavy (os.take k) ≤ heavy os := by
  have e : heavy os = heavy (os.take k) + heavy (os.drop k) := by
    have q : heavy (os.take k ++ os.drop k) = heavy (os.take k) + heavy (os.drop k) := by
      simp only [heavy, List.map_append, List.sum_append, List.length_append]; omega
    rwa [List.take_append_drop] at q
  omega
theorem heavy_one (os : Opts) (k : Nat) (h : k < os.length) : os[k].2.length ≤ heavy os := by
  have := heavy_take os k h
  have := heavy_le os (k + 1)
  omega
/-- no option of a message -/
def badC (c : UInt8) : Bool := c.toNat == 0 || c.toNat == 52 || c.toNat == 255
def bad (os : Opts) : Bool := os.any fun o => badC o.1
theorem bad_at {os : Opts} {k : Nat} (h : k < os.length) (hb : badC os[k].1 = true) : bad os = true := by
  simp only [bad, List.any_eq_true]
  exact ⟨os[k], List.getElem_mem h, hb⟩
theorem bad_take {os : Opts} {k : Nat} (h : k < os.length) (h0 : bad (os.take k) = false) (hb : badC os[k].1 = false) : bad (os.take (k + 1)) = false := by
  rw [List.take_succ_eq_append_getElem h]
  simp only [bad, List.any_append, List.any_cons, List.any_nil, Bool.or_false] at h0 ⊢
  rw [h0, hb]; rfl
end Go.Proofs.Ytadkcdcdgphhpaa.Dh

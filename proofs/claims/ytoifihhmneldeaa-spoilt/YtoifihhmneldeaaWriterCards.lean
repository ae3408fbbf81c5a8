import Derived.Test.YtoifihhmneldeaaWriterMore
namespace Go.Proofs.Ytoifihhmneldeaa.Wt
open Go.ChangeShapes Go.WideShapes Go.ChangeAt Go.RowKit Bs
set_option linter.unusedVariables false

theorem six (m : List UInt8) (h : m.length = 6) : ∃ a b c d e f, m = [a, b, c, d, e, f] := by
  match m, h with
  | [a, b, c, d, e, f], _ => exact ⟨a, b, c, d, e, f, rfl⟩
theorem flatten6_get (ms : List (List UInt8)) (h6 : ∀ m ∈ ms, m.length = 6) (k j : Nat) (hk : k < ms.length) (hj : j < 6) :
    ms.flatten[k * 6 + j]? = (ms[k])[j]? := by
  induction ms generalizing k with
  | nil => simp at hk
  | cons m r ih =>
    have hm := h6 m (by simp)
    rw [List.flatten_cons]
    cases k with
    | zero => rw [List.getElem?_append_left (by omega)]; simp
    | succ k =>
      rw [List.getElem?_append_right (by omega)]
      have e : (k + 1) * 6 + j - m.length = k * 6 + j := by omega
      rw [e, ih (fun m hm => h6 m (by simp [hm])) k (by simpa using hk)]
      simp
theorem flatten6_length (ms : List (List UInt8)) (h6 : ∀ m ∈ ms, m.length = 6) : ms.flatten.length = 6 * ms.length := by
  induction ms with
  | nil => rfl
  | cons m r ih =>
    rw [List.flatten_cons, List.length_append, h6 m (by simp), ih (fun m hm => h6 m (by simp [hm]))]
    simp; omega
theorem flatten_take (ms : List (List UInt8)) (k : Nat) (h : k < ms.length) : (ms.take (k + 1)).flatten = (ms.take k).flatten ++ ms[k] := by
  rw [List.take_succ_eq_append_getElem h, List.flatten_append]; simp only [List.flatten_cons, List.flatten_nil, List.append_nil]

end Go.Proofs.Ytoifihhmneldeaa.Wt

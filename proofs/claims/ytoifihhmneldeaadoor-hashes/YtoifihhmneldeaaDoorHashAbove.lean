import Derived.Test.YtoifihhmneldeaaDoorHashTimes
namespace Go.Proofs.YtoifihhmneldeaaDoor.Ht
open Go.ChangeShapes Go.WideShapes Go.ChangeAt Go.RowKit Hb
set_option linter.unusedVariables false

def abvF (a b : List Int) : Nat → Bool
  | 0 => false
  | k + 1 => if a.getD k 0 = b.getD k 0 then abvF a b k else decide (b.getD k 0 < a.getD k 0)
def aboveF (a b : List Int) : Bool := abvF a b (max a.length b.length)
theorem getD_past (a : List Int) (k : Nat) (h : a.length ≤ k) : a.getD k 0 = 0 := by simp [List.getD_eq_getElem?_getD, List.getElem?_eq_none h]
theorem abv_eq (a b : List Int) (k : Nat) (h : a.getD k 0 = b.getD k 0) : abvF a b (k + 1) = abvF a b k := by rw [abvF, if_pos h]
theorem abv_ne (a b : List Int) (k : Nat) (h : ¬ a.getD k 0 = b.getD k 0) : abvF a b (k + 1) = decide (b.getD k 0 < a.getD k 0) := by rw [abvF, if_neg h]
theorem ret_bool {a b : Bool} (h : a = b) : Ending.returned (.bool a) = .returned (.bool b) := by rw [h]

set_option maxHeartbeats 1000000 in
theorem above_any (ga gb ca cb : Nat) (a b : List Int) (w : World) (hA : Row w ga a) (hB : Row w gb b) (hla : a.length ≤ 64) (hlb : b.length ≤ 64) :
    Calls Tryd.prog 28 #[.slice (some ⟨ga, 0, none⟩) a.length ca, .slice (some ⟨gb, 0, none⟩) b.length cb] w fun e w' =>
      e = .returned (.bool (aboveF a b)) ∧ w' = w := by
  have HA := hide hA
  have HB := hide hB
  obtain ⟨M, hM⟩ : ∃ M, M = max a.length b.length := ⟨_, rfl⟩
  have hM1 : a.length ≤ M := by omega
  have hM2 : b.length ≤ M := by omega
  have hM3 : M ≤ 64 := by omega
  have HG : Hid (aboveF a b = abvF a b M) := hide (by rw [hM]; rfl)
  have hM4 : M ≤ a.length ∨ M ≤ b.length := by omega
  have H4 := hide hM4
  clear hA hB hM hM4
  go_enter Tryd.func28, Tryd.ntmps28
  go_wp2
  all_goals
    go_loop [5] (fun vk => ∃ m : Nat, m ≤ M ∧ vk = .int .i64 ((m : Int) - 1) ∧ Hid (abvF a b m = aboveF a b)) (fun vk => (intOf vk + 1).toNat)
    case atStart =>
      have h4 := unhide H4
      refine ⟨M, Nat.le_refl _, ?_, hide (unhide HG).symm⟩
      congr 1
      rcases h4 with h4 | h4 <;> omega
    case round =>
      obtain ⟨m, hm, rfl, HM⟩ := hrel
      cases m with
      | zero =>
        go_wp2
        go_ret
        exact ⟨ret_bool (unhide HM), rfl⟩
      | succ n =>
        have e : ((n + 1 : Nat) : Int) - 1 = (n : Int) := by omega
        rw [e]
        have q1 := getD_past a n
        have q2 := getD_past b n
        have hgo := hide (abv_eq a b n)
        have hno := hide (abv_ne a b n)
        have hca := fun h => (unhide HA).cell n h
        have hcb := fun h => (unhide HB).cell n h
        obtain ⟨x, hx⟩ : ∃ x, x = a.getD n 0 := ⟨_, rfl⟩
        obtain ⟨y, hy⟩ : ∃ y, y = b.getD n 0 := ⟨_, rfl⟩
        rw [← hx] at q1 hgo hno hca
        rw [← hy] at q2 hgo hno hcb
        clear hx hy e
        by_cases hxy : x = y
        · have HG1 := hide ((unhide hgo hxy).symm.trans (unhide HM))
          have hb1 : (x != y) = false := by simp [hxy]
          clear hgo hno hxy
          by_cases ha : n < a.length
          all_goals by_cases hb : n < b.length
          all_goals first | (have q3 := hca ha; clear hca) | (have q3 : x = 0 := q1 (by omega); subst q3; clear hca)
          all_goals first | (have q4 := hcb hb; clear hcb) | (have q4 : y = 0 := q2 (by omega); subst q4; clear hcb)
          all_goals clear q1 q2
          all_goals go_wp2
          all_goals exact ⟨⟨n, by omega, rfl, HG1⟩, by simp [intOf]⟩
        · have HG1 := hide ((unhide hno hxy).symm.trans (unhide HM))
          have hb1 : (x != y) = true := by simpa using hxy
          clear hgo hno hxy
          by_cases ha : n < a.length
          all_goals by_cases hb : n < b.length
          all_goals first | (have q3 := hca ha; clear hca) | (have q3 : x = 0 := q1 (by omega); subst q3; clear hca)
          all_goals first | (have q4 := hcb hb; clear hcb) | (have q4 : y = 0 := q2 (by omega); subst q4; clear hcb)
          all_goals clear q1 q2
          all_goals first | (exfalso; simp at hb1; done) | skip
          all_goals go_wp2
          all_goals go_ret
          all_goals exact ⟨ret_bool (unhide HG1), rfl⟩
end Go.Proofs.YtoifihhmneldeaaDoor.Ht

import Derived.Test.YtadkcdcdgphhpaaTFRefF
namespace Go.Proofs.Ytadkcdcdgphhpaa.Tf
open Go.ChangeShapes Go.WideShapes Go.ChangeAt Go.RowKit Bs
set_option linter.unusedVariables false

theorem AtF.own {w : World} {b : Nat} {ao : Option Addr} {cp : Nat} {fs : Flds} (h : w.ownsRow b 89 2 (.slice ao fs.length cp) fs.length (cellsF fs)) : AtF w ao fs := by
  obtain ⟨a, c, e, h2⟩ := atF_own h
  injection e with e1 e2 e3
  rw [e1]; exact h2
theorem atS_own {w : World} {b : Nat} {v : Value} {L : List (List UInt8)} (h : w.ownsRow b 9 1 v L.length (L.map encStr)) : ∃ a cp, v = .slice a L.length cp ∧ AtS w a L := by
  have hcl := fun g hg => h.cells (g := g) hg
  rcases h.2 with ⟨e, h0⟩ | ⟨g, cap, cur, e, _⟩
  · exact ⟨none, 0, by rw [e, h0], fun i hi => by omega⟩
  · exact ⟨some ⟨g, 0, none⟩, cap, e, fun i hi => ⟨_, rfl, hcl g (by rw [e]; rfl) i _ (by simp [hi, encStr])⟩⟩

/-- a read, by lines -/
def rd1 (r : List UInt8) : Nat × Msg := if endedB r then (match linesL r with
  | n :: m :: t => if nameB n && (lowL m == octet) then (match fldsS t with
    | none => (2, .zero)
    | some fs => (0, ⟨1, 0, n, [], fs⟩)) else (2, .zero)
  | _ => (2, .zero)) else (2, .zero)
def rd6 (r : List UInt8) : Nat × Msg := if endedB r then (match fldsS (linesL r) with
    | none => (2, .zero)
    | some fs => (0, ⟨6, 0, [], [], fs⟩)) else (2, .zero)
def rd5 (bl : Nat) (q : List UInt8) : Nat × Msg := if endedB q then (match linesL q with
  | [t] => (0, ⟨5, bl, t, [], []⟩)
  | _ => (2, .zero)) else (2, .zero)
def opL (l : List UInt8) : Nat := (l.getD 0 0).toNat * 256 + (l.getD 1 0).toNat
theorem rdR_short {l : List UInt8} (h : l.length < 2) : rdR l = (1, .zero) := by unfold rdR; rw [if_pos h]
theorem rdR_1 {l : List UInt8} (h : ¬ l.length < 2) (ho : opL l = 1) : rdR l = rd1 (l.drop 2) := by
  have ho' : (l.getD 0 0).toNat * 256 + (l.getD 1 0).toNat = 1 := ho
  unfold rdR rd1
  rw [if_neg h]
  simp only [ho', if_true]
  generalize l.drop 2 = r
  cases hc : cut r with
  | none =>
    rw [linesL_none hc]
    simp only
    split <;> rfl
  | some p =>
    obtain ⟨n, r1⟩ := p
    rw [linesL_some hc, endedB_some hc]
    simp only
    cases hc1 : cut r1 with
    | none =>
      rw [linesL_none hc1]
      simp only
      split
      · split <;> rfl
      · split <;> rfl
    | some p1 =>
      obtain ⟨m, r2⟩ := p1
      rw [linesL_some hc1, endedB_some hc1]
      simp only [fldsR_S]
      cases hn : nameB n with
      | false => simp
      | true =>
        by_cases hm : lowL m = octet
        · rw [hm]
          by_cases he : endedB r2 = true
          · simp [he]
            cases fldsS (linesL r2) <;> rfl
          · simp [he]
        · have hm' : (lowL m == octet) = false := by simpa using hm
          simp [hm, hm']
theorem rdR_6 {l : List UInt8} (h : ¬ l.length < 2) (ho : opL l = 6) : rdR l = rd6 (l.drop 2) := by
  have ho' : (l.getD 0 0).toNat * 256 + (l.getD 1 0).toNat = 6 := ho
  unfold rdR rd6
  rw [if_neg h]
  simp only [ho', fldsR_S]
  by_cases he : endedB (l.drop 2) = true
  · simp [he]
    cases fldsS (linesL (l.drop 2)) <;> rfl
  · simp [he]
theorem rdR_no {l : List UInt8} (h : ¬ l.length < 2) (ho : opL l ≠ 1 ∧ opL l ≠ 3 ∧ opL l ≠ 4 ∧ opL l ≠ 5 ∧ opL l ≠ 6) : rdR l = (2, .zero) := by
  obtain ⟨h1, h3, h4, h5, h6⟩ := ho
  unfold opL at h1 h3 h4 h5 h6
  unfold rdR
  rw [if_neg h]
  simp only
  rw [if_neg h1, if_neg h6, if_neg (by rintro (q | q | q) <;> contradiction)]
theorem rdR_few {l : List UInt8} (h : ¬ l.length < 2) (h4 : l.length < 4) (ho : opL l = 3 ∨ opL l = 4 ∨ opL l = 5) : rdR l = (1, .zero) := by
  unfold opL at ho
  unfold rdR
  rw [if_neg h]
  simp only
  rw [if_neg (by omega), if_neg (by omega), if_pos ho, if_pos (by rw [List.length_drop]; omega)]
def blL (l : List UInt8) : Nat := (l.getD 2 0).toNat * 256 + (l.getD 3 0).toNat
theorem getD_drop2 (l : List UInt8) (i : Nat) : (l.drop 2).getD i 0 = l.getD (2 + i) 0 := by
  rw [List.getD_eq_getElem?_getD, List.getD_eq_getElem?_getD, List.getElem?_drop]
theorem rdR_rest {l : List UInt8} (h4 : ¬ l.length < 4) (ho : opL l = 3 ∨ opL l = 4 ∨ opL l = 5) : rdR l =
    (if opL l = 3 then (if 1024 < (l.drop 4).length then (7, .zero) else (0, ⟨opL l, blL l, [], l.drop 4, []⟩))
    else if opL l = 4 then (if l.drop 4 = [] then (0, ⟨opL l, blL l, [], [], []⟩) else (2, .zero))
    else match cut (l.drop 4) with
      | none => (2, .zero)
      | some (t, q2) => if q2 = [] then (0, ⟨opL l, blL l, t, [], []⟩) else (2, .zero)) := by
  have ho' := ho
  unfold opL at ho'
  unfold rdR
  rw [if_neg (by omega)]
  simp only
  rw [if_neg (by omega), if_neg (by omega), if_pos ho', if_neg (by rw [List.length_drop]; omega), List.drop_drop, getD_drop2, getD_drop2]
  rfl
theorem rdR_3 {l : List UInt8} (h4 : ¬ l.length < 4) (ho : opL l = 3) : rdR l = if 1024 < (l.drop 4).length then (7, .zero) else (0, ⟨3, blL l, [], l.drop 4, []⟩) := by
  rw [rdR_rest h4 (Or.inl ho), if_pos ho, ho]
theorem rdR_4 {l : List UInt8} (h4 : ¬ l.length < 4) (ho : opL l = 4) : rdR l = if l.drop 4 = [] then (0, ⟨4, blL l, [], [], []⟩) else (2, .zero) := by
  rw [rdR_rest h4 (Or.inr (Or.inl ho)), if_neg (by omega), if_pos ho, ho]
theorem rdR_5 {l : List UInt8} (h4 : ¬ l.length < 4) (ho : opL l = 5) : rdR l = rd5 (blL l) (l.drop 4) := by
  rw [rdR_rest h4 (Or.inr (Or.inr ho)), if_neg (by omega), if_neg (by omega), ho]
  unfold rd5
  generalize l.drop 4 = q
  cases hc : cut q with
  | none =>
    rw [linesL_none hc]
    simp only
    split <;> rfl
  | some p =>
    obtain ⟨t, q2⟩ := p
    rw [linesL_some hc, endedB_some hc]
    simp only
    cases hc1 : cut q2 with
    | none =>
      rw [linesL_none hc1, endedB_none hc1]
      cases q2 <;> simp
    | some p1 =>
      obtain ⟨m, r2⟩ := p1
      rw [linesL_some hc1, if_neg (by rintro rfl; simp [cut] at hc1)]
      split <;> rfl
theorem linesL_small : ∀ (n : Nat) (l : List UInt8), l.length ≤ n → (linesL l).length ≤ l.length ∧ ∀ x ∈ linesL l, x.length ≤ l.length
  | n, l, hn => by
    cases hc : cut l with
    | none => rw [linesL_none hc]; simp
    | some p =>
      obtain ⟨a, b⟩ := p
      have hl := cut_len hc
      rw [linesL_some hc]
      match n, hn with
      | 0, hn => omega
      | n + 1, hn =>
        obtain ⟨h1, h2⟩ := linesL_small n b (by omega)
        refine ⟨by simp only [List.length_cons]; omega, fun x hx => ?_⟩
        simp only [List.mem_cons] at hx
        rcases hx with rfl | hx
        · omega
        · have := h2 x hx; omega
end Go.Proofs.Ytadkcdcdgphhpaa.Tf

import Derived.Test.YtadkcdcdgphhpaaDHRefA
namespace Go.Proofs.Ytadkcdcdgphhpaa.Dh
open Go.ChangeShapes Go.WideShapes Go.ChangeAt Go.RowKit Bs
set_option linter.unusedVariables false
set_option linter.unusedSimpArgs false

theorem heavy_addAll (ps : List Pc) : ∀ l, heavy (addAll l ps) ≤ heavy l + heavy ps := by
  induction ps with
  | nil => intro l; show heavy l ≤ _; omega
  | cons p r ih =>
    intro l
    have q := ih (add l p)
    have q2 := add_heavy l p
    have q3 := heavy_cons p r
    have q4 : addAll l (p :: r) = addAll (add l p) r := rfl
    rw [q4]; omega
theorem heavy_drop (c : UInt8) (l : List Pc) : heavy (drop l c) ≤ heavy l := by
  induction l with
  | nil => exact Nat.le_refl _
  | cons p r ih =>
    have q3 := heavy_cons p r
    unfold drop at ih ⊢
    rw [List.filter_cons]
    split
    · rw [heavy_cons]; omega
    · omega
theorem has_drop (c : UInt8) (l : List Pc) : has (drop l c) c = false := by
  induction l with
  | nil => rfl
  | cons p r ih =>
    unfold drop at ih ⊢
    rw [List.filter_cons]
    split
    · rename_i h
      rw [has_cons, ih]
      simpa [bne] using h
    · exact ih
theorem look_all (ps : List Pc) (c : UInt8) : look (addAll [] ps) c = if has ps c then some (data ps c) else none := by
  rw [look_addAll]
  have : look [] c = none := rfl
  rw [this]
  cases has ps c <;> simp
theorem opt_plain (m : List UInt8) (host file : ByteArray) (ps : List Pc) (h : pieces m = some ps) (h1 : has ps 52 = false) : optK m host.data.toList file.data.toList = 0 ∧ optL m host.data.toList file.data.toList = addAll [] ps := by
  constructor
  · rw [optK, h]; simp [h1]
  · rw [optL, h]; simp [h1]
theorem opt_short (m : List UInt8) (host file : ByteArray) (ps : List Pc) (h : pieces m = some ps) (h1 : has ps 52 = true) (h2 : areaD (data ps 52) = true) (h3 : moreP (inF (data ps 52)) (inH (data ps 52)) file.data.toList host.data.toList = none) : optK m host.data.toList file.data.toList = 1 := by
  rw [optK, h]; simp [h1, h2, h3]
theorem opt_twice (m : List UInt8) (host file : ByteArray) (ps ms : List Pc) (h : pieces m = some ps) (h1 : has ps 52 = true) (h2 : areaD (data ps 52) = true) (h3 : moreP (inF (data ps 52)) (inH (data ps 52)) file.data.toList host.data.toList = some ms) (h4 : has ms 52 = true) : optK m host.data.toList file.data.toList = 2 := by
  rw [optK, h]; simp [h1, h2, h3, h4]
theorem opt_all (m : List UInt8) (host file : ByteArray) (ps ms : List Pc) (h : pieces m = some ps) (h1 : has ps 52 = true) (h2 : areaD (data ps 52) = true) (h3 : moreP (inF (data ps 52)) (inH (data ps 52)) file.data.toList host.data.toList = some ms) (h4 : has ms 52 = false) : optK m host.data.toList file.data.toList = 0 ∧ optL m host.data.toList file.data.toList = addAll (drop (addAll [] ps) 52) ms := by
  constructor
  · rw [optK, h]; simp [h1, h2, h3, h4]
  · rw [optL, h]
    simp only [h1, if_true, h3]
    rw [addAll_append, drop_addAll]
    rfl
theorem has_all (X m : List Pc) (h : has X 52 = false) : has (addAll X m) 52 = has m 52 := by rw [has_addAll, h]; rfl
theorem look_none {l : List Pc} {c : UInt8} (h : has l c = false) : look l c = none := by
  have q := look_has l c
  rw [h] at q
  simpa using q
theorem look_some {l : List Pc} {c : UInt8} (h : has l c = true) : ∃ d, look l c = some d := by
  have q := look_has l c
  rw [h] at q
  exact Option.isSome_iff_exists.1 q

/-- what lies in memory behind the first region: the result's block, empty, and the message's -/
def Fr (w : World) (b : Nat) (cs : Array Value) (u : World) : Prop :=
  w.heap.size < b ∧ b < u.heap.size ∧ u.heap[w.heap.size]? = some (.cells #[.bool false, .int .u32 0, .int .u32 0, .int .u32 0, .int .u32 0, .int .u8 0, .int .u8 0, .int .u8 0, .int .u8 0, .int .u8 0, .int .u8 0, .slice none 0 0] 57 (0, 0)) ∧ u.heap[b]? = some (.cells cs 57 (0, 0)) ∧ Below w.heap.size w u
theorem Fr.later {w u u' : World} {b n : Nat} {cs : Array Value} (h : Fr w b cs u) (hb : Below n u u') (hn : u.heap.size ≤ n) : Fr w b cs u' := by
  obtain ⟨h1, h2, h3, h4, h5⟩ := h
  exact ⟨h1, by have := hb.size; omega, by rw [hb.block _ (by omega)]; exact h3, by rw [hb.block _ (by omega)]; exact h4, h5.trans (hb.mono (by omega))⟩
theorem Fr.zero {w u : World} {b : Nat} {cs : Array Value} (h : Fr w b cs u) : u.cell? ⟨w.heap.size, 0, none⟩ = some (.bool false) ∧ u.cell? ⟨w.heap.size, 1, none⟩ = some (.int .u32 0) ∧ u.cell? ⟨w.heap.size, 2, none⟩ = some (.int .u32 0) ∧ u.cell? ⟨w.heap.size, 3, none⟩ = some (.int .u32 0) ∧ u.cell? ⟨w.heap.size, 4, none⟩ = some (.int .u32 0) ∧ u.cell? ⟨w.heap.size, 5, none⟩ = some (.int .u8 0) ∧ u.cell? ⟨w.heap.size, 6, none⟩ = some (.int .u8 0) ∧ u.cell? ⟨w.heap.size, 7, none⟩ = some (.int .u8 0) ∧ u.cell? ⟨w.heap.size, 8, none⟩ = some (.int .u8 0) ∧ u.cell? ⟨w.heap.size, 9, none⟩ = some (.int .u8 0) ∧ u.cell? ⟨w.heap.size, 10, none⟩ = some (.int .u8 0) ∧ u.cell? ⟨w.heap.size, 11, none⟩ = some (.slice none 0 0) ∧ (∀ j, u.frozen? ⟨w.heap.size, j, none⟩ = false) := by
  obtain ⟨h1, h2, h3, h4, h5⟩ := h
  exact ⟨EtR.row_cell h3 rfl, EtR.row_cell h3 rfl, EtR.row_cell h3 rfl, EtR.row_cell h3 rfl, EtR.row_cell h3 rfl, EtR.row_cell h3 rfl, EtR.row_cell h3 rfl, EtR.row_cell h3 rfl, EtR.row_cell h3 rfl, EtR.row_cell h3 rfl, EtR.row_cell h3 rfl, EtR.row_cell h3 rfl, EtR.row_free h3⟩
theorem Fr.vals {w u : World} {b : Nat} {y0 y1 y2 y3 y4 y5 y6 y7 y8 y9 y10 : Value} (h : Fr w b #[y0, y1, y2, y3, y4, y5, y6, y7, y8, y9, y10, .slice none 0 0] u) : u.cell? ⟨b, 0, none⟩ = some y0 ∧ u.cell? ⟨b, 1, none⟩ = some y1 ∧ u.cell? ⟨b, 2, none⟩ = some y2 ∧ u.cell? ⟨b, 3, none⟩ = some y3 ∧ u.cell? ⟨b, 4, none⟩ = some y4 ∧ u.cell? ⟨b, 5, none⟩ = some y5 ∧ u.cell? ⟨b, 6, none⟩ = some y6 ∧ u.cell? ⟨b, 7, none⟩ = some y7 ∧ u.cell? ⟨b, 8, none⟩ = some y8 ∧ u.cell? ⟨b, 9, none⟩ = some y9 ∧ u.cell? ⟨b, 10, none⟩ = some y10 ∧ u.cell? ⟨b, 11, none⟩ = some (.slice none 0 0) ∧ (∀ j, u.frozen? ⟨b, j, none⟩ = false) := by
  obtain ⟨h1, h2, h3, h4, h5⟩ := h
  exact ⟨EtR.row_cell h4 rfl, EtR.row_cell h4 rfl, EtR.row_cell h4 rfl, EtR.row_cell h4 rfl, EtR.row_cell h4 rfl, EtR.row_cell h4 rfl, EtR.row_cell h4 rfl, EtR.row_cell h4 rfl, EtR.row_cell h4 rfl, EtR.row_cell h4 rfl, EtR.row_cell h4 rfl, EtR.row_cell h4 rfl, EtR.row_free h4⟩
theorem Fr.bad {w u : World} {b : Nat} {cs : Array Value} (h : Fr w b cs u) : ∃ U, U = ((((((((((((u.setCell ⟨w.heap.size, 0, none⟩ (.bool false)).setCell ⟨w.heap.size, 1, none⟩ (.int .u32 0)).setCell ⟨w.heap.size, 2, none⟩ (.int .u32 0)).setCell ⟨w.heap.size, 3, none⟩ (.int .u32 0)).setCell ⟨w.heap.size, 4, none⟩ (.int .u32 0)).setCell ⟨w.heap.size, 5, none⟩ (.int .u8 0)).setCell ⟨w.heap.size, 6, none⟩ (.int .u8 0)).setCell ⟨w.heap.size, 7, none⟩ (.int .u8 0)).setCell ⟨w.heap.size, 8, none⟩ (.int .u8 0)).setCell ⟨w.heap.size, 9, none⟩ (.int .u8 0)).setCell ⟨w.heap.size, 10, none⟩ (.int .u8 0)).setCell ⟨w.heap.size, 11, none⟩ (.slice none 0 0)) ∧ U.cell? ⟨w.heap.size, 0, none⟩ = some (.bool false) ∧ U.cell? ⟨w.heap.size, 1, none⟩ = some (.int .u32 0) ∧ U.cell? ⟨w.heap.size, 2, none⟩ = some (.int .u32 0) ∧ U.cell? ⟨w.heap.size, 3, none⟩ = some (.int .u32 0) ∧ U.cell? ⟨w.heap.size, 4, none⟩ = some (.int .u32 0) ∧ U.cell? ⟨w.heap.size, 5, none⟩ = some (.int .u8 0) ∧ U.cell? ⟨w.heap.size, 6, none⟩ = some (.int .u8 0) ∧ U.cell? ⟨w.heap.size, 7, none⟩ = some (.int .u8 0) ∧ U.cell? ⟨w.heap.size, 8, none⟩ = some (.int .u8 0) ∧ U.cell? ⟨w.heap.size, 9, none⟩ = some (.int .u8 0) ∧ U.cell? ⟨w.heap.size, 10, none⟩ = some (.int .u8 0) ∧ U.cell? ⟨w.heap.size, 11, none⟩ = some (.slice none 0 0) ∧ Below w.heap.size w U := by
  obtain ⟨h1, h2, h3, h4, h5⟩ := h
  have q := DhR.row_set12 (t := 57) (g := w.heap.size) (w := u) (.bool false) (.int .u32 0) (.int .u32 0) (.int .u32 0) (.int .u32 0) (.int .u8 0) (.int .u8 0) (.int .u8 0) (.int .u8 0) (.int .u8 0) (.int .u8 0) (.slice none 0 0) (.bool false) (.int .u32 0) (.int .u32 0) (.int .u32 0) (.int .u32 0) (.int .u8 0) (.int .u8 0) (.int .u8 0) (.int .u8 0) (.int .u8 0) (.int .u8 0) (.slice none 0 0) h3
  refine ⟨_, rfl, EtR.row_cell q rfl, EtR.row_cell q rfl, EtR.row_cell q rfl, EtR.row_cell q rfl, EtR.row_cell q rfl, EtR.row_cell q rfl, EtR.row_cell q rfl, EtR.row_cell q rfl, EtR.row_cell q rfl, EtR.row_cell q rfl, EtR.row_cell q rfl, EtR.row_cell q rfl, ?_⟩
  iterate 12 refine Below.setCell ?_ (by simp) _
  exact h5
theorem Fr.good {w u : World} {b : Nat} {y0 y1 y2 y3 y4 y5 y6 y7 y8 y9 y10 : Value} (v : Value) (h : Fr w b #[y0, y1, y2, y3, y4, y5, y6, y7, y8, y9, y10, .slice none 0 0] u) : ∃ U, U = (((((((((((((u.setCell ⟨b, 11, none⟩ v).setCell ⟨w.heap.size, 0, none⟩ (y0)).setCell ⟨w.heap.size, 1, none⟩ (y1)).setCell ⟨w.heap.size, 2, none⟩ (y2)).setCell ⟨w.heap.size, 3, none⟩ (y3)).setCell ⟨w.heap.size, 4, none⟩ (y4)).setCell ⟨w.heap.size, 5, none⟩ (y5)).setCell ⟨w.heap.size, 6, none⟩ (y6)).setCell ⟨w.heap.size, 7, none⟩ (y7)).setCell ⟨w.heap.size, 8, none⟩ (y8)).setCell ⟨w.heap.size, 9, none⟩ (y9)).setCell ⟨w.heap.size, 10, none⟩ (y10)).setCell ⟨w.heap.size, 11, none⟩ (v)) ∧ U.cell? ⟨w.heap.size, 0, none⟩ = some (y0) ∧ U.cell? ⟨w.heap.size, 1, none⟩ = some (y1) ∧ U.cell? ⟨w.heap.size, 2, none⟩ = some (y2) ∧ U.cell? ⟨w.heap.size, 3, none⟩ = some (y3) ∧ U.cell? ⟨w.heap.size, 4, none⟩ = some (y4) ∧ U.cell? ⟨w.heap.size, 5, none⟩ = some (y5) ∧ U.cell? ⟨w.heap.size, 6, none⟩ = some (y6) ∧ U.cell? ⟨w.heap.size, 7, none⟩ = some (y7) ∧ U.cell? ⟨w.heap.size, 8, none⟩ = some (y8) ∧ U.cell? ⟨w.heap.size, 9, none⟩ = some (y9) ∧ U.cell? ⟨w.heap.size, 10, none⟩ = some (y10) ∧ U.cell? ⟨w.heap.size, 11, none⟩ = some (v) ∧ Below w.heap.size w U ∧ ∀ B ls, b < B → Has B u v ls → Has B U v ls := by
  obtain ⟨h1, h2, h3, h4, h5⟩ := h
  have h3' : (u.setCell ⟨b, 11, none⟩ v).heap[w.heap.size]? = some (.cells #[.bool false, .int .u32 0, .int .u32 0, .int .u32 0, .int .u32 0, .int .u8 0, .int .u8 0, .int .u8 0, .int .u8 0, .int .u8 0, .int .u8 0, .slice none 0 0] 57 (0, 0)) := by rw [Below.heap_setCell _ _ _ _ (by show w.heap.size ≠ b; omega)]; exact h3
  have q := DhR.row_set12 (t := 57) (g := w.heap.size) (w := u.setCell ⟨b, 11, none⟩ v) (.bool false) (.int .u32 0) (.int .u32 0) (.int .u32 0) (.int .u32 0) (.int .u8 0) (.int .u8 0) (.int .u8 0) (.int .u8 0) (.int .u8 0) (.int .u8 0) (.slice none 0 0) y0 y1 y2 y3 y4 y5 y6 y7 y8 y9 y10 v h3'
  refine ⟨_, rfl, EtR.row_cell q rfl, EtR.row_cell q rfl, EtR.row_cell q rfl, EtR.row_cell q rfl, EtR.row_cell q rfl, EtR.row_cell q rfl, EtR.row_cell q rfl, EtR.row_cell q rfl, EtR.row_cell q rfl, EtR.row_cell q rfl, EtR.row_cell q rfl, EtR.row_cell q rfl, ?_, ?_⟩
  · iterate 12 refine Below.setCell ?_ (by simp) _
    exact h5.setCell (by show w.heap.size ≤ b; omega) _
  · intro B ls hB hH
    iterate 12 refine Has.setCell ?_ (by show w.heap.size < B; omega) _
    exact hH.setCell hB _
end Go.Proofs.Ytadkcdcdgphhpaa.Dh

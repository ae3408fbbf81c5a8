import Derived.Test.YtadkcdcdgphhpaaDHAreas
import Derived.Test.YtadkcdcdgphhpaaDHJoin
namespace Go.Proofs.Ytadkcdcdgphhpaa.Dh
open Go.ChangeShapes Go.WideShapes Go.ChangeAt Go.RowKit Bs
open Rd (Rdr errP)
set_option linter.unusedVariables false
set_option linter.unusedSimpArgs false

theorem heavy_cons (p : Pc) (r : List Pc) : heavy (p :: r) = 1 + p.2.length + heavy r := by
  simp only [heavy, List.length_cons, List.map_cons, List.sum_cons]; omega
theorem heavy_append (a b : List Pc) : heavy (a ++ b) = heavy a + heavy b := by
  simp only [heavy, List.map_append, List.sum_append, List.length_append]; omega
theorem heavy_pieces (n : Nat) : ∀ (l : List UInt8) (ps : List Pc), l.length ≤ n → pieces l = some ps → heavy ps ≤ l.length := by
  induction n with
  | zero =>
    intro l ps hl h
    match l, hl with
    | [], _ => rw [pieces_nil] at h; cases h
  | succ n ih =>
    intro l ps hl h
    match l, hl with
    | [], _ => rw [pieces_nil] at h; cases h
    | c :: r, hl =>
      by_cases e1 : c.toNat = 255
      · rw [pieces_end c r e1] at h
        cases h
        simp [heavy]
      · by_cases e0 : c.toNat = 0
        · rw [pieces_none c r e0] at h
          have := ih r ps (by simp at hl; omega) h
          simp only [List.length_cons]; omega
        · match r, hl with
          | [], _ => rw [pieces_lone c e1 e0] at h; cases h
          | m :: q, hl =>
            by_cases hq : q.length < m.toNat
            · rw [pieces_few c m q e1 e0 hq] at h; cases h
            · have h' := (pieces_more c m q e1 e0 hq).symm.trans h
              cases hp : pieces (q.drop m.toNat) with
              | none => rw [hp] at h'; cases h'
              | some ps' =>
                rw [hp] at h'
                obtain rfl := Option.some.inj h'
                have := ih (q.drop m.toNat) ps' (by simp at hl ⊢; omega) hp
                rw [List.length_drop] at this
                rw [heavy_cons]
                simp only [List.length_cons, List.length_take]
                omega
theorem drop_heavy (ps : List Pc) (c : UInt8) : heavy (drop ps c) ≤ heavy ps := by
  induction ps with
  | nil => exact Nat.le_refl _
  | cons p r ih =>
    simp only [drop, List.filter_cons] at ih ⊢
    split
    · rw [heavy_cons, heavy_cons]; omega
    · rw [heavy_cons]; omega

/-- the pieces of several texts, one behind the other -/
def moreAll : List ByteArray → Option (List Pc)
  | [] => some []
  | a :: r => (pieces a.data.toList).bind fun p => (moreAll r).map fun q => p ++ q
/-- the areas that are read, behind pieces -/
def strsOf (ps : List Pc) (host file : ByteArray) : List ByteArray := if has ps 52 then areaS (data ps 52) host file else []
theorem strs_le (ps : List Pc) (host file : ByteArray) : (strsOf ps host file).length ≤ 2 := by
  unfold strsOf areaS
  split
  · rw [List.length_append]; split <;> split <;> simp
  · simp
theorem strs_mem (ps : List Pc) (host file : ByteArray) (n : Nat) (hh : host.size ≤ n) (hf : file.size ≤ n) : ∀ s ∈ strsOf ps host file, s.size ≤ n := fun s hs => by
  unfold strsOf areaS at hs
  split at hs
  · rw [List.mem_append] at hs
    rcases hs with hs | hs
    · split at hs
      · simp at hs; subst hs; exact hf
      · simp at hs
    · split at hs
      · simp at hs; subst hs; exact hh
      · simp at hs
  · simp at hs
theorem moreP_all (d : List UInt8) (host file : ByteArray) : moreP (inF d) (inH d) file.data.toList host.data.toList = moreAll (areaS d host file) := by
  unfold moreP areaS
  cases hF : inF d <;> cases hH : inH d
  · rfl
  · simp only [moreAll, Bool.false_eq_true, if_false, if_true, List.nil_append]
    cases pieces host.data.toList <;> simp
  · simp only [moreAll, Bool.false_eq_true, if_false, if_true, List.append_nil]
    cases pieces file.data.toList <;> simp
  · simp only [moreAll, if_true, List.cons_append, List.nil_append]
    cases pieces file.data.toList <;> cases pieces host.data.toList <;> simp
theorem optK_none (l : List UInt8) (host file : ByteArray) (h : pieces l = none) : optK l host.data.toList file.data.toList = 1 := by rw [optK, h]
theorem optK_bad (l : List UInt8) (host file : ByteArray) (ps : List Pc) (h : pieces l = some ps) (h1 : has ps 52 = true) (h2 : areaD (data ps 52) = false) : optK l host.data.toList file.data.toList = 2 := by
  rw [optK, h]; simp [h1, h2]
theorem optK_some (l : List UInt8) (host file : ByteArray) (ps : List Pc) (h : pieces l = some ps) (h1 : has ps 52 = true → areaD (data ps 52) = true) :
    optK l host.data.toList file.data.toList = (match moreAll (strsOf ps host file) with | none => 1 | some m => if has m 52 then 2 else 0) := by
  rw [optK, h]
  unfold strsOf
  cases hh : has ps 52
  · simp only [hh, Bool.false_eq_true, if_false, moreAll]
    rfl
  · have h2 := h1 hh
    simp only [hh, if_true, h2, moreP_all]
    cases moreAll (areaS (data ps 52) host file) <;> rfl
theorem optL_some (l : List UInt8) (host file : ByteArray) (ps m : List Pc) (h : pieces l = some ps) (hm : moreAll (strsOf ps host file) = some m) :
    optL l host.data.toList file.data.toList = addAll [] (drop ps 52 ++ m) := by
  rw [optL, h]
  unfold strsOf at hm
  cases hh : has ps 52
  · rw [hh] at hm
    simp [moreAll] at hm
    subst hm
    simp only [hh, Bool.false_eq_true, if_false, List.append_nil, drop_no ps 52 hh]
  · rw [hh] at hm
    simp only [if_true] at hm
    simp only [hh, if_true]
    rw [moreP_all, hm]
theorem moreAll_step (aa : List ByteArray) (k : Nat) (h : k < aa.length) (ms qs : List Pc) (h0 : moreAll aa = (moreAll (aa.drop k)).map fun x => ms ++ x) (hp : pieces aa[k].data.toList = some qs) :
    moreAll aa = (moreAll (aa.drop (k + 1))).map fun x => (ms ++ qs) ++ x := by
  refine h0.trans ?_
  rw [List.drop_eq_getElem_cons h, moreAll, hp]
  cases moreAll (aa.drop (k + 1)) with
  | none => rfl
  | some x => simp
theorem moreAll_no (aa : List ByteArray) (k : Nat) (h : k < aa.length) (ms : List Pc) (h0 : moreAll aa = (moreAll (aa.drop k)).map fun x => ms ++ x) (hp : pieces aa[k].data.toList = none) : moreAll aa = none := by
  refine h0.trans ?_
  rw [List.drop_eq_getElem_cons h, moreAll, hp]
  rfl

/-- texts as they lie in memory -/
def SA (w : World) (a : Option Addr) (ss : List ByteArray) : Prop := ∀ i (h : i < ss.length), ∃ ad, a = some ad ∧ w.cell? (ad.add i) = some (.string ss[i])
theorem SA.below {w w' : World} {a : Option Addr} {ss : List ByteArray} {n : Nat} (h : SA w a ss) (hb : Below n w w') (hn : w.heap.size ≤ n) : SA w' a ss := fun i hi => by
  obtain ⟨ad, e, h0⟩ := h i hi
  have l0 := cell_lt h0
  exact ⟨ad, e, by rw [hb.cell (by omega)]; exact h0⟩
theorem SA.own {w : World} {b : Nat} {ao : Option Addr} {cp : Nat} {ss : List ByteArray} (h : w.ownsRow b 9 1 (.slice ao ss.length cp) ss.length (ss.map Value.string)) : SA w ao ss := fun i hi => by
  obtain ⟨g, rfl, _⟩ := own_some h (by omega)
  exact ⟨⟨g, 0, none⟩, rfl, h.cells (g := g) rfl i _ (by simp [hi])⟩
theorem At.own {w : World} {b : Nat} {ao : Option Addr} {cp : Nat} {os : Opts} (h : w.ownsRow b 87 2 (.slice ao os.length cp) os.length (cellsO os)) : At w ao os := by
  by_cases hn : 0 < os.length
  · obtain ⟨g, rfl, _⟩ := own_some h hn
    exact At.ofCells (h.cells (g := g) rfl)
  · exact fun i hi => by omega
theorem own_cases {w : World} {b e z : Nat} {v : Value} {n : Nat} {xs : List Value} (h : w.ownsRow b e z v n xs) : (v = .slice none 0 0 ∧ n = 0) ∨ ∃ g cp, v = .slice (some ⟨g, 0, none⟩) n cp := by
  rcases h.2 with h0 | ⟨g, cap, cur, rfl, _⟩
  · exact Or.inl h0
  · exact Or.inr ⟨g, cap, rfl⟩
end Go.Proofs.Ytadkcdcdgphhpaa.Dh

import Derived.Test.YtadkcdcdgphhpaaDHJoinA
import Derived.Lib.OwnKind
namespace Go.Proofs.Ytadkcdcdgphhpaa.Dh
open Go.ChangeShapes Go.WideShapes Go.ChangeAt Go.RowKit Bs
open Rd (grown_trans)
set_option linter.unusedVariables false
set_option linter.unusedSimpArgs false

/-- what lies in memory while options are joined: data by code (of pd), which codes were told (of pt), the options so far -/
structure J1 (w wr : World) (pd pt : List Pc) (v5 : Value) (outs : List Pc) (V : Nat → Value) : Prop where
  row : RowV wr w.heap.size 170 V
  told : RowV wr (w.heap.size + 1) 171 (fun j => .bool (has pt (UInt8.ofNat j)))
  own : ∀ j, j < 256 → wr.ownsRow (w.heap.size + 2) 5 1 (V j) (data pd (UInt8.ofNat j)).length (cells8 (data pd (UInt8.ofNat j)))
  apart : ∀ i j g, i < 256 → j < 256 → i ≠ j → (V i).ownBlock = some g → (V j).ownBlock ≠ some g
  out : wr.ownsRow (w.heap.size + 2) 87 2 v5 outs.length (cellsO outs)
  below : Below w.heap.size w wr

theorem kinds {wr : World} {b : Nat} {v v5 : Value} {n m : Nat} {xs ys : List Value} (h : wr.ownsRow b 5 1 v n xs) (h5 : wr.ownsRow b 87 2 v5 m ys) : ∀ g, v.ownBlock = some g → v5.ownBlock ≠ some g := fun g hg h5g => by
  obtain ⟨c, fz, e1⟩ := Lib.ownsRow_kind h g hg
  obtain ⟨c', fz', e2⟩ := Lib.ownsRow_kind h5 g h5g
  rw [e1] at e2
  simp at e2
theorem not_row {r : Option Nat} {v : Value} (h : ∀ g, v.ownBlock = some g → r ≠ some g) : v.ownBlock = none ∨ v.ownBlock ≠ r := by
  cases hv : v.ownBlock with
  | none => exact Or.inl rfl
  | some g => exact Or.inr (fun e => h g hv e.symm)
theorem of_nat8 (c : UInt8) : UInt8.ofNat c.toNat = c := by simp
theorem of_nat_ne {c : UInt8} {j : Nat} (hj : j < 256) (h : ¬ j = c.toNat) : ¬ c = UInt8.ofNat j := fun e => h (by
  rw [e, UInt8.toNat_ofNat']; omega)

theorem J1.stepA {w wr w1 : World} {ps : List Pc} {v5 v' : Value} {outs : List Pc} {V : Nat → Value} (h : J1 w wr ps ps v5 outs V) (c : UInt8) (d : List UInt8) (n : Nat) (hn : n = (data ps c).length + d.length)
    (hown : w1.ownsRow (w.heap.size + 2) 5 1 v' n (cells8 (data ps c) ++ cells8 d)) (hg : wr.grownBy w1 (V c.toNat).ownBlock)
    (hat : v'.ownBlock = (V c.toNat).ownBlock ∨ ∀ g, v'.ownBlock = some g → wr.heap.size ≤ g) :
    J1 w (w1.setCell ⟨w.heap.size, c.toNat, none⟩ v') (ps ++ [(c, d)]) ps v5 outs (fun j => if j = c.toNat then v' else V j) := by
  have hc := c.toNat_lt
  have hX : ∀ g, (V c.toNat).ownBlock = some g → w.heap.size + 2 ≤ g ∧ g < wr.heap.size := fun g hg => (h.own c.toNat hc).lt g hg
  have hD : w1.heap[w.heap.size]? = wr.heap[w.heap.size]? := hg.block _ h.row.lt (fun e => by have := (hX _ e.symm).1; omega)
  have hT : w1.heap[w.heap.size + 1]? = wr.heap[w.heap.size + 1]? := hg.block _ h.told.lt (fun e => by have := (hX _ e.symm).1; omega)
  have r1 := (h.row.kept hD).set c.toNat hc v'
  refine ⟨r1, ?_, ?_, ?_, ?_, ?_⟩
  · exact (h.told.kept hT).kept (Below.heap_setCell _ _ _ _ (by simp))
  · intro j hj
    by_cases e : j = c.toNat
    · subst e
      simp only [if_pos]
      refine ownsRow_setCell_below ?_ (by show w.heap.size < _; omega) _
      rw [of_nat8, data_snoc, if_pos rfl, List.length_append, cells8_append, ← hn]
      exact hown
    · simp only [if_neg e]
      refine ownsRow_setCell_below ?_ (by show w.heap.size < _; omega) _
      rw [data_snoc, if_neg (of_nat_ne hj e), List.append_nil]
      exact (h.own j hj).kept hg (not_row (fun g hgj hX => h.apart c.toNat j g hc hj (fun e' => e e'.symm) hX hgj))
  · intro i j g hi hj hij hvi hvj
    by_cases ei : i = c.toNat
    · have ej : ¬ j = c.toNat := fun e => hij (ei.trans e.symm)
      simp only [if_pos ei] at hvi
      simp only [if_neg ej] at hvj
      rcases hat with hat | hat
      · rw [hat] at hvi
        exact h.apart c.toNat j g hc hj (fun e => ej e.symm) hvi hvj
      · have h1 := hat g hvi
        have h2 := ((h.own j hj).lt g hvj).2
        omega
    · simp only [if_neg ei] at hvi
      by_cases ej : j = c.toNat
      · simp only [if_pos ej] at hvj
        rcases hat with hat | hat
        · rw [hat] at hvj
          exact h.apart i c.toNat g hi hc ei hvi hvj
        · have h1 := hat g hvj
          have h2 := ((h.own i hi).lt g hvi).2
          omega
      · simp only [if_neg ej] at hvj
        exact h.apart i j g hi hj hij hvi hvj
  · refine ownsRow_setCell_below (h.out.kept hg (not_row (fun g hg5 hXg => kinds (h.own c.toNat hc) h.out g hXg hg5))) (by show w.heap.size < _; omega) _
  · exact (h.below.grown hg h.below.size (fun g hgg => by have := (hX g hgg).1; omega)).setCell (Nat.le_refl _) _
theorem J1.stepB {w wr : World} {ps : List Pc} {v5 : Value} {outs : List Pc} {V : Nat → Value} {c : UInt8} {d : List UInt8} (h : J1 w wr (ps ++ [(c, d)]) ps v5 outs V) (hc : has ps c = true) : J1 w wr (ps ++ [(c, d)]) (ps ++ [(c, d)]) v5 outs V :=
  ⟨h.row, h.told.same (fun j hj => by
    rw [has_snoc]
    by_cases e : c = UInt8.ofNat j
    · rw [← e, hc]; rfl
    · have : (c == UInt8.ofNat j) = false := by simpa using e
      rw [this, Bool.or_false]), h.own, h.apart, h.out, h.below⟩
theorem J1.stepT {w wr : World} {ps : List Pc} {v5 : Value} {outs : List Pc} {V : Nat → Value} {c : UInt8} {d : List UInt8} (h : J1 w wr (ps ++ [(c, d)]) ps v5 outs V) : J1 w (wr.setCell ⟨w.heap.size + 1, c.toNat, none⟩ (.bool true)) (ps ++ [(c, d)]) (ps ++ [(c, d)]) v5 outs V :=
  ⟨h.row.kept (Below.heap_setCell _ _ _ _ (by simp)), (h.told.set c.toNat c.toNat_lt (.bool true)).same (fun j hj => by
    by_cases e : j = c.toNat
    · subst e
      simp only [if_pos]
      rw [of_nat8, has_snoc]; simp
    · simp only [if_neg e]
      rw [has_snoc]
      have := of_nat_ne hj e
      have hb : (c == UInt8.ofNat j) = false := by simpa using this
      rw [hb, Bool.or_false]), fun j hj => ownsRow_setCell_below (h.own j hj) (by show w.heap.size + 1 < _; omega) _, h.apart, ownsRow_setCell_below h.out (by show w.heap.size + 1 < _; omega) _, h.below.setCell (by simp) _⟩
theorem J1.stepC {w wr w4 : World} {pd pt : List Pc} {v5 v' : Value} {outs : List Pc} {V : Nat → Value} (h : J1 w wr pd pt v5 outs V) (o : Pc) (n : Nat) (hn : n = outs.length + 1)
    (hown : w4.ownsRow (w.heap.size + 2) 87 2 v' n (cellsO outs ++ cellsO [o])) (hg : wr.grownBy w4 v5.ownBlock) : J1 w w4 pd pt v' (outs ++ [o]) V := by
  have hX : ∀ g, v5.ownBlock = some g → w.heap.size + 2 ≤ g ∧ g < wr.heap.size := fun g hg => h.out.lt g hg
  refine ⟨h.row.kept (hg.block _ h.row.lt (fun e => by have := (hX _ e.symm).1; omega)), h.told.kept (hg.block _ h.told.lt (fun e => by have := (hX _ e.symm).1; omega)), fun j hj => (h.own j hj).kept hg (not_row (fun g hgj => kinds (h.own j hj) h.out g hgj)), h.apart, ?_, h.below.grown hg h.below.size (fun g hgg => by have := (hX g hgg).1; omega)⟩
  rw [List.length_append, cellsO_append]
  rw [hn] at hown
  exact hown
theorem cellsO_set (outs : List Pc) (i : Nat) (hi : i < outs.length) (d : List UInt8) : (cellsO outs).set (i * 2 + 1) (.string ⟨d.toArray⟩) = cellsO (outs.set i ((outs[i]).1, d)) := by
  induction outs generalizing i with
  | nil => simp at hi
  | cons o r ih =>
    cases i with
    | zero => rfl
    | succ i =>
      have := ih i (by simpa using hi)
      simp only [cellsO, List.flatMap_cons, List.set_cons_succ, List.getElem_cons_succ] at this ⊢
      rw [← this, show (i + 1) * 2 + 1 = i * 2 + 1 + 1 + 1 by omega]
      rfl
theorem J1.stepD {w wr : World} {pd pt : List Pc} {g cap : Nat} {outs : List Pc} {V : Nat → Value} (h : J1 w wr pd pt (.slice (some ⟨g, 0, none⟩) outs.length cap) outs V) (i : Nat) (hi : i < outs.length) (d : List UInt8) :
    J1 w (wr.setCell ⟨g, i * 2 + 1, none⟩ (.string ⟨d.toArray⟩)) pd pt (.slice (some ⟨g, 0, none⟩) outs.length cap) (outs.set i ((outs[i]).1, d)) V := by
  have hX := h.out.lt g rfl
  obtain ⟨s1, s2⟩ := h.out.stored (i * 2 + 1) (.string ⟨d.toArray⟩)
  refine ⟨h.row.kept (Below.heap_setCell _ _ _ _ (by simp; omega)), h.told.kept (Below.heap_setCell _ _ _ _ (by simp; omega)), fun j hj => ownsRow_setCell_other (h.own j hj) (fun e => kinds (h.own j hj) h.out g e rfl) _, h.apart, ?_, h.below.setCell (by show w.heap.size ≤ g; omega) _⟩
  rw [cellsO_set outs i hi d] at s1
  rw [List.length_set]
  exact s1
end Go.Proofs.Ytadkcdcdgphhpaa.Dh

import Derived.Test.YtoifihhmneldeaaDoorHashSched
namespace Go.Proofs.YtoifihhmneldeaaDoor.Hs
open Go.ChangeShapes Go.WideShapes Go.ChangeAt Go.RowKit Hb Ht Hm
set_option linter.unusedVariables false
set_option linter.unusedSimpArgs false

/-- a package's table: its cells, whatever else its block bears -/
def RG (w : World) (g : Nat) (f : Nat → Nat) : Prop := ∃ t fz, w.heap[g]? = some (.cells (rowF f).toArray t fz)
theorem RG.lt {w : World} {g : Nat} {f : Nat → Nat} (h : RG w g f) : g < w.heap.size := by
  obtain ⟨t, fz, h⟩ := h
  exact (Array.getElem?_eq_some_iff.1 h).1
theorem RG.below {w w' : World} {g B : Nat} {f : Nat → Nat} (h : RG w g f) (hb : Below B w w') (hg : g < B) : RG w' g f := by
  obtain ⟨t, fz, h⟩ := h
  exact ⟨t, fz, (hb.block g hg).trans h⟩
theorem RG.range {w : World} {g : Nat} {f : Nat → Nat} (h : RG w g f) : w.rangeAt g 0 (rowF f) := fun j v hv => by
  obtain ⟨t, fz, h⟩ := h
  rw [Nat.zero_add, cell_of_row w g j _ _ _ h]; simpa using hv
/-- eight words as cells -/
def st8 (s : St) : Array Value := #[.int .u32 s.a, .int .u32 s.b, .int .u32 s.c, .int .u32 s.d, .int .u32 s.e, .int .u32 s.f, .int .u32 s.g, .int .u32 s.h]
theorem round_st (s : St) (x : Nat) (w : World) (hs : s.ok) (hx : x < 4294967296) :
    Calls Tryd.prog 54 #[.agg #[.int .u32 s.a, .int .u32 s.b, .int .u32 s.c, .int .u32 s.d, .int .u32 s.e, .int .u32 s.f, .int .u32 s.g, .int .u32 s.h], .int .u32 x] w fun en w' => en = .returned (.agg #[.int .u32 (s.round x).a, .int .u32 (s.round x).b, .int .u32 (s.round x).c, .int .u32 (s.round x).d, .int .u32 (s.round x).e, .int .u32 (s.round x).f, .int .u32 (s.round x).g, .int .u32 (s.round x).h]) ∧ Below w.heap.size w w' := by
  obtain ⟨h1, h2, h3, h4, h5, h6, h7, h8⟩ := hs
  exact round_any s.a s.b s.c s.d s.e s.f s.g s.h x w h1 h2 h3 h4 h5 h6 h7 h8 hx
/-- a store of sixty-four cells into a block that was just laid -/
theorem new_row (w : World) (f : Nat → Nat) (cs : Array Value) (hc : cs.size = 64) : R ((w.alloc (.cells cs 92)).setCells w.heap.size 0 (rowF f)) w.heap.size f := by
  have q := setCells_row w.heap.size 92 (rowF f) 0 (w.alloc (.cells cs 92)) cs.toList (by simpa using heap_alloc_new w (.cells cs 92)) (by rw [rowF_length, Array.length_toList]; omega)
  rw [rowF_length, List.drop_eq_nil_of_le (by rw [Array.length_toList]; omega)] at q
  unfold R
  simpa using q
theorem new_there (w : World) (cs : Array Value) (hc : cs.size = 64) : (w.alloc (.cells cs 92)).there w.heap.size 0 64 := fun j hj => by
  rw [Nat.zero_add, cell_of_row _ w.heap.size j cs _ (0, 0) (heap_alloc_new w _)]
  exact ⟨by simp; omega, frozen_of_row _ w.heap.size j cs _ (heap_alloc_new w _)⟩
theorem range_alloc {w : World} {b o : Nat} {cs : List Value} (h : w.rangeAt b o cs) (ob : Obj) : (w.alloc ob).rangeAt b o cs := fun j v hv => by
  have h1 := h j v hv
  have hl : b < w.heap.size := by
    by_cases hlt : b < w.heap.size
    · exact hlt
    · have hn : w.heap[b]? = none := by simp; omega
      simp [World.cell?, hn] at h1
  rw [((Below.refl w.heap.size w).alloc (Nat.le_refl _) ob).cell (p := ⟨b, o + j, none⟩) hl]
  exact h1
structure Inv (w w1 w2 : World) (s t : St) (f : Nat → Nat) (wr : World) : Prop where
  box : wr.heap[w.heap.size]? = some (.cells (st8 s) 57 (0, 0))
  res : wr.heap[w.heap.size + 1]? = some (.cells #[.int .u32 0, .int .u32 0, .int .u32 0, .int .u32 0, .int .u32 0, .int .u32 0, .int .u32 0, .int .u32 0] 57 (0, 0))
  row : R wr w1.heap.size f
  cur : wr.heap[w2.heap.size]? = some (.cells (st8 t) 57 (0, 0))
  below : Below w.heap.size w wr
theorem inv_start {w w1 w2 : World} {s : St} {f : Nat → Nat} (hb : w2.heap[w.heap.size]? = some (.cells (st8 s) 57 (0, 0))) (hr : w2.heap[w.heap.size + 1]? = some (.cells #[.int .u32 0, .int .u32 0, .int .u32 0, .int .u32 0, .int .u32 0, .int .u32 0, .int .u32 0, .int .u32 0] 57 (0, 0))) (hR : R w2 w1.heap.size f) (hB : Below w.heap.size w w2) : Inv w w1 w2 s s f (w2.alloc (.cells (st8 s) 57)) :=
  ⟨by rw [Below.heap_alloc _ _ _ (lt_of_block hb)]; exact hb, by rw [Below.heap_alloc _ _ _ (lt_of_block hr)]; exact hr, hR.alloc _, heap_alloc_new w2 _, hB.alloc hB.size _⟩
theorem ch_other {u : World} {g k : Nat} (t : St) (hk : k ≠ g) : ((((((((u.setCell ⟨g, 0, none⟩ (.int .u32 t.a)).setCell ⟨g, 1, none⟩ (.int .u32 t.b)).setCell ⟨g, 2, none⟩ (.int .u32 t.c)).setCell ⟨g, 3, none⟩ (.int .u32 t.d)).setCell ⟨g, 4, none⟩ (.int .u32 t.e)).setCell ⟨g, 5, none⟩ (.int .u32 t.f)).setCell ⟨g, 6, none⟩ (.int .u32 t.g)).setCell ⟨g, 7, none⟩ (.int .u32 t.h)).heap[k]? = u.heap[k]? := by
  rw [Below.heap_setCell _ _ _ _ hk, Below.heap_setCell _ _ _ _ hk, Below.heap_setCell _ _ _ _ hk, Below.heap_setCell _ _ _ _ hk, Below.heap_setCell _ _ _ _ hk, Below.heap_setCell _ _ _ _ hk, Below.heap_setCell _ _ _ _ hk, Below.heap_setCell _ _ _ _ hk]
theorem ch_same {u : World} {g : Nat} {c0 c1 c2 c3 c4 c5 c6 c7 : Value} {ty : TypeId} (t : St) (h : u.heap[g]? = some (.cells #[c0, c1, c2, c3, c4, c5, c6, c7] ty (0, 0))) : ((((((((u.setCell ⟨g, 0, none⟩ (.int .u32 t.a)).setCell ⟨g, 1, none⟩ (.int .u32 t.b)).setCell ⟨g, 2, none⟩ (.int .u32 t.c)).setCell ⟨g, 3, none⟩ (.int .u32 t.d)).setCell ⟨g, 4, none⟩ (.int .u32 t.e)).setCell ⟨g, 5, none⟩ (.int .u32 t.f)).setCell ⟨g, 6, none⟩ (.int .u32 t.g)).setCell ⟨g, 7, none⟩ (.int .u32 t.h)).heap[g]? = some (.cells (st8 t) ty (0, 0)) := by
  have h0 : (u.setCell ⟨g, 0, none⟩ (.int .u32 t.a)).heap[g]? = some (.cells #[.int .u32 t.a, c1, c2, c3, c4, c5, c6, c7] ty (0, 0)) := heap_setCell_same _ g 0 _ _ _ h
  have h1 : ((u.setCell ⟨g, 0, none⟩ (.int .u32 t.a)).setCell ⟨g, 1, none⟩ (.int .u32 t.b)).heap[g]? = some (.cells #[.int .u32 t.a, .int .u32 t.b, c2, c3, c4, c5, c6, c7] ty (0, 0)) := heap_setCell_same _ g 1 _ _ _ h0
  have h2 : (((u.setCell ⟨g, 0, none⟩ (.int .u32 t.a)).setCell ⟨g, 1, none⟩ (.int .u32 t.b)).setCell ⟨g, 2, none⟩ (.int .u32 t.c)).heap[g]? = some (.cells #[.int .u32 t.a, .int .u32 t.b, .int .u32 t.c, c3, c4, c5, c6, c7] ty (0, 0)) := heap_setCell_same _ g 2 _ _ _ h1
  have h3 : ((((u.setCell ⟨g, 0, none⟩ (.int .u32 t.a)).setCell ⟨g, 1, none⟩ (.int .u32 t.b)).setCell ⟨g, 2, none⟩ (.int .u32 t.c)).setCell ⟨g, 3, none⟩ (.int .u32 t.d)).heap[g]? = some (.cells #[.int .u32 t.a, .int .u32 t.b, .int .u32 t.c, .int .u32 t.d, c4, c5, c6, c7] ty (0, 0)) := heap_setCell_same _ g 3 _ _ _ h2
  have h4 : (((((u.setCell ⟨g, 0, none⟩ (.int .u32 t.a)).setCell ⟨g, 1, none⟩ (.int .u32 t.b)).setCell ⟨g, 2, none⟩ (.int .u32 t.c)).setCell ⟨g, 3, none⟩ (.int .u32 t.d)).setCell ⟨g, 4, none⟩ (.int .u32 t.e)).heap[g]? = some (.cells #[.int .u32 t.a, .int .u32 t.b, .int .u32 t.c, .int .u32 t.d, .int .u32 t.e, c5, c6, c7] ty (0, 0)) := heap_setCell_same _ g 4 _ _ _ h3
  have h5 : ((((((u.setCell ⟨g, 0, none⟩ (.int .u32 t.a)).setCell ⟨g, 1, none⟩ (.int .u32 t.b)).setCell ⟨g, 2, none⟩ (.int .u32 t.c)).setCell ⟨g, 3, none⟩ (.int .u32 t.d)).setCell ⟨g, 4, none⟩ (.int .u32 t.e)).setCell ⟨g, 5, none⟩ (.int .u32 t.f)).heap[g]? = some (.cells #[.int .u32 t.a, .int .u32 t.b, .int .u32 t.c, .int .u32 t.d, .int .u32 t.e, .int .u32 t.f, c6, c7] ty (0, 0)) := heap_setCell_same _ g 5 _ _ _ h4
  have h6 : (((((((u.setCell ⟨g, 0, none⟩ (.int .u32 t.a)).setCell ⟨g, 1, none⟩ (.int .u32 t.b)).setCell ⟨g, 2, none⟩ (.int .u32 t.c)).setCell ⟨g, 3, none⟩ (.int .u32 t.d)).setCell ⟨g, 4, none⟩ (.int .u32 t.e)).setCell ⟨g, 5, none⟩ (.int .u32 t.f)).setCell ⟨g, 6, none⟩ (.int .u32 t.g)).heap[g]? = some (.cells #[.int .u32 t.a, .int .u32 t.b, .int .u32 t.c, .int .u32 t.d, .int .u32 t.e, .int .u32 t.f, .int .u32 t.g, c7] ty (0, 0)) := heap_setCell_same _ g 6 _ _ _ h5
  have h7 : ((((((((u.setCell ⟨g, 0, none⟩ (.int .u32 t.a)).setCell ⟨g, 1, none⟩ (.int .u32 t.b)).setCell ⟨g, 2, none⟩ (.int .u32 t.c)).setCell ⟨g, 3, none⟩ (.int .u32 t.d)).setCell ⟨g, 4, none⟩ (.int .u32 t.e)).setCell ⟨g, 5, none⟩ (.int .u32 t.f)).setCell ⟨g, 6, none⟩ (.int .u32 t.g)).setCell ⟨g, 7, none⟩ (.int .u32 t.h)).heap[g]? = some (.cells #[.int .u32 t.a, .int .u32 t.b, .int .u32 t.c, .int .u32 t.d, .int .u32 t.e, .int .u32 t.f, .int .u32 t.g, .int .u32 t.h] ty (0, 0)) := heap_setCell_same _ g 7 _ _ _ h6
  exact h7
theorem ch_below {B g : Nat} {a u : World} (t : St) (hb : B ≤ g) (h : Below B a u) : Below B a ((((((((u.setCell ⟨g, 0, none⟩ (.int .u32 t.a)).setCell ⟨g, 1, none⟩ (.int .u32 t.b)).setCell ⟨g, 2, none⟩ (.int .u32 t.c)).setCell ⟨g, 3, none⟩ (.int .u32 t.d)).setCell ⟨g, 4, none⟩ (.int .u32 t.e)).setCell ⟨g, 5, none⟩ (.int .u32 t.f)).setCell ⟨g, 6, none⟩ (.int .u32 t.g)).setCell ⟨g, 7, none⟩ (.int .u32 t.h)) :=
  ((((((((h.setCell hb _).setCell hb _).setCell hb _).setCell hb _).setCell hb _).setCell hb _).setCell hb _).setCell hb _)
theorem inv_later {w w1 w2 wr u : World} {s t : St} {f : Nat → Nat} (h : Inv w w1 w2 s t f wr) (hb : Below wr.drew.heap.size wr.drew u) : Inv w w1 w2 s t f u :=
  have hb' : Below wr.heap.size wr u := ⟨hb.os, hb.tape, hb.output, hb.size, hb.block⟩
  ⟨(hb'.block _ (lt_of_block h.box)).trans h.box, (hb'.block _ (lt_of_block h.res)).trans h.res, h.row.below hb' h.row.lt, (hb'.block _ (lt_of_block h.cur)).trans h.cur, h.below.trans (hb'.mono h.below.size)⟩
theorem inv_next {w w1 w2 u : World} {s t0 : St} {f : Nat → Nat} (t : St) (h : Inv w w1 w2 s t0 f u) (h1 : w.heap.size + 2 ≤ w1.heap.size) (h2 : w1.heap.size + 1 ≤ w2.heap.size) : Inv w w1 w2 s t f (((((((((u.setCell ⟨w2.heap.size, 0, none⟩ (.int .u32 t.a)).setCell ⟨w2.heap.size, 1, none⟩ (.int .u32 t.b)).setCell ⟨w2.heap.size, 2, none⟩ (.int .u32 t.c)).setCell ⟨w2.heap.size, 3, none⟩ (.int .u32 t.d)).setCell ⟨w2.heap.size, 4, none⟩ (.int .u32 t.e)).setCell ⟨w2.heap.size, 5, none⟩ (.int .u32 t.f)).setCell ⟨w2.heap.size, 6, none⟩ (.int .u32 t.g)).setCell ⟨w2.heap.size, 7, none⟩ (.int .u32 t.h))) := by
  refine ⟨?_, ?_, ?_, ?_, ?_⟩
  · exact (ch_other t (by omega)).trans h.box
  · exact (ch_other t (by omega)).trans h.res
  · unfold R
    exact (ch_other t (by omega)).trans h.row
  · exact ch_same t h.cur
  · exact ch_below t (by have := h.below.size; omega) h.below
theorem idx64 (K : Nat → Nat) (k : Nat) (hk : k < 64) (u : World) : (Instr.index 92 (.agg (rowF K).toArray) (.int .i64 k)).run Tryd.prog u = .ok (.int .u32 (K k)) u := by
  have hn : (k : Int) < 64 := by omega
  have hg := rowF_get K k hk
  have hp : (part 28 (rowF K).toArray k).run Tryd.prog u = .ok (.int .u32 (K k)) u := by
    simp [part, go_sem, hg]
  simp [Instr.index, run_underlying Tryd.underlying92, asIntOf, hn, hk, go_sem, hp, hg, part]
end Go.Proofs.YtoifihhmneldeaaDoor.Hs

import Derived.Test.YtoifihhmneldeaaGreatDoorMgDb
import Derived.Deep.RegionLaw
import Derived.Lib.OwnKind
import Derived.Deep.DeepCutAuto
namespace Go.Proofs.YtoifihhmneldeaaGreatDoor.Dh
open Go.ChangeShapes Go.WideShapes Go.ChangeAt Go.RowKit Bs
set_option linter.unusedVariables false
set_option linter.unusedSimpArgs false

/-- 256 cells, each by its place -/
def rowV (f : Nat → Value) : Array Value := ((List.range 256).map f).toArray
def RowV (w : World) (b : Nat) (t : TypeId) (f : Nat → Value) : Prop := w.heap[b]? = some (.cells (rowV f) t (0, 0))
theorem RowV.cell {w : World} {b : Nat} {t : TypeId} {f : Nat → Value} (h : RowV w b t f) (k : Nat) (hk : k < 256) : w.cell? ⟨b, k, none⟩ = some (f k) := by
  rw [cell_of_row w b k _ _ _ h]
  simp [rowV, hk]
theorem RowV.free {w : World} {b : Nat} {t : TypeId} {f : Nat → Value} (h : RowV w b t f) (k : Nat) : w.frozen? ⟨b, k, none⟩ = false := frozen_of_row w b k _ _ h
theorem RowV.set {w : World} {b : Nat} {t : TypeId} {f : Nat → Value} (h : RowV w b t f) (k : Nat) (hk : k < 256) (v : Value) : RowV (w.setCell ⟨b, k, none⟩ v) b t (fun j => if j = k then v else f j) := by
  have q := heap_setCell_same w b k _ t v h
  unfold RowV
  rw [q]
  congr 2
  apply Array.ext'
  simp only [rowV, Array.set!_eq_setIfInBounds, Array.toList_setIfInBounds]
  apply List.ext_getElem?
  intro i
  rw [List.getElem?_set]
  by_cases hi : i < 256
  · by_cases e : k = i
    · subst e; simp [hk]
    · have e' : ¬ i = k := fun h => e h.symm
      simp [e, e', hi]
  · by_cases e : k = i
    · omega
    · simp [e, hi]
theorem RowV.kept {w w' : World} {b : Nat} {t : TypeId} {f : Nat → Value} (h : RowV w b t f) (hb : w'.heap[b]? = w.heap[b]?) : RowV w' b t f := hb.trans h
theorem RowV.lt {w : World} {b : Nat} {t : TypeId} {f : Nat → Value} (h : RowV w b t f) : b < w.heap.size := lt_of_block h
theorem RowV.same {w : World} {b : Nat} {t : TypeId} {f g : Nat → Value} (h : RowV w b t f) (e : ∀ j, j < 256 → f j = g j) : RowV w b t g := by
  unfold RowV at h ⊢
  rw [h]
  congr 2
  unfold rowV
  congr 1
  apply List.map_congr_left
  intro j hj
  exact e j (by simpa using hj)

/-- the codes of pieces, in the order of their first ones -/
structure Jl (ps : List Pc) (cs : List UInt8) : Prop where
  nodup : cs.Nodup
  mem : ∀ x, x ∈ cs ↔ has ps x = true
  all : addAll [] ps = cs.map fun c => (c, data ps c)
theorem Jl.nil : Jl [] [] := ⟨List.nodup_nil, fun x => by simp [has], rfl⟩
theorem data_snoc (ps : List Pc) (p : Pc) (c : UInt8) : data (ps ++ [p]) c = data ps c ++ (if p.1 = c then p.2 else []) := by
  simp only [data, List.filter_append, List.flatMap_append]
  congr 1
  by_cases e : p.1 = c
  · simp [e]
  · simp [e, List.filter_cons]
theorem has_snoc (ps : List Pc) (p : Pc) (c : UInt8) : has (ps ++ [p]) c = (has ps c || p.1 == c) := by
  simp only [has, List.any_append, List.any_cons, List.any_nil, Bool.or_false]
theorem add_in (cs : List UInt8) (f g : UInt8 → List UInt8) (x : UInt8) (d : List UInt8) (hn : cs.Nodup) (hx : x ∈ cs) (hg : ∀ c, g c = if x = c then f c ++ d else f c) :
    add (cs.map fun c => (c, f c)) (x, d) = cs.map fun c => (c, g c) := by
  induction cs with
  | nil => cases hx
  | cons a r ih =>
    rw [List.nodup_cons] at hn
    simp only [List.map_cons, add]
    by_cases e : a = x
    · subst e
      rw [if_pos rfl, hg a, if_pos rfl]
      congr 1
      apply List.map_congr_left
      intro c hc
      have : ¬ a = c := fun e => hn.1 (e ▸ hc)
      rw [hg c, if_neg this]
    · rw [if_neg e, hg a, if_neg (fun h => e h.symm)]
      congr 1
      exact ih hn.2 ((List.mem_cons.1 hx).resolve_left (fun h => e h.symm))
theorem add_out (cs : List UInt8) (f g : UInt8 → List UInt8) (x : UInt8) (d : List UInt8) (hx : ¬ x ∈ cs) (hg : ∀ c, ¬ x = c → g c = f c) (hd : g x = d) :
    add (cs.map fun c => (c, f c)) (x, d) = (cs ++ [x]).map fun c => (c, g c) := by
  induction cs with
  | nil => simp [add, hd]
  | cons a r ih =>
    have ha : ¬ a = x := fun e => hx (by simp [e])
    simp only [List.map_cons, add, List.cons_append]
    rw [if_neg ha, hg a (fun h => ha h.symm)]
    congr 1
    exact ih (fun h => hx (List.mem_cons_of_mem _ h))
theorem Jl.step {ps : List Pc} {cs : List UInt8} (h : Jl ps cs) (x : UInt8) (d : List UInt8) (hx : has ps x = true) : Jl (ps ++ [(x, d)]) cs := by
  refine ⟨h.nodup, fun y => ?_, ?_⟩
  · rw [has_snoc, h.mem y]
    by_cases e : x = y
    · subst e; simp [hx]
    · simp [e]
  · rw [addAll_append, h.all]
    exact add_in cs (data ps) (data (ps ++ [(x, d)])) x d h.nodup ((h.mem x).2 hx) (fun c => by
      rw [data_snoc]
      by_cases e : x = c <;> simp [e])
theorem Jl.more {ps : List Pc} {cs : List UInt8} (h : Jl ps cs) (x : UInt8) (d : List UInt8) (hx : has ps x = false) : Jl (ps ++ [(x, d)]) (cs ++ [x]) := by
  have hxc : ¬ x ∈ cs := fun e => by rw [(h.mem x).1 e] at hx; cases hx
  refine ⟨?_, fun y => ?_, ?_⟩
  · rw [List.nodup_append]
    refine ⟨h.nodup, by simp, fun a ha b hb => ?_⟩
    simp at hb
    subst hb
    exact fun e => hxc (e ▸ ha)
  · rw [has_snoc, List.mem_append, h.mem y]
    by_cases e : x = y
    · subst e; simp
    · have : ¬ y = x := fun h => e h.symm
      simp [e, this]
  · rw [addAll_append, h.all]
    exact add_out cs (data ps) (data (ps ++ [(x, d)])) x d hxc (fun c hc => by rw [data_snoc]; simp [hc]) (by rw [data_snoc, data_no ps x hx]; simp)

theorem string_at {P : Program} {w w' : World} {v v' : Value} {base n : Nat} {xs : List Value} {t u ty e : TypeId} {i : TypeInfo} {s : ByteArray}
    (ht : P.underlying t = some (.slice e)) (hu : P.underlying u = some .string) (hi : P.info? e = some i) (hz : i.zero = some (.int .u8 0)) (hsize : i.size = 1) (hby : i.bytes = 1)
    (hown : w.ownsRow base e 1 v n xs) (h63 : n + s.size ≤ maxLen) (hbytes : n + s.size ≤ 140737488355328)
    (hr : (Builtin.append_ #[t, u] ty #[v, .string s]).run P w = .ok v' w') : v'.ownBlock = v.ownBlock ∨ ∀ g, v'.ownBlock = some g → w.heap.size ≤ g := by
  have hcl := fun g hg => hown.cells (g := g) hg
  have hxl := hown.1
  rcases hown.2 with ⟨rfl, hn⟩ | ⟨g, cap, cur, rfl, _, hg, hnc, hcm, hcs, _⟩
  · right
    obtain ⟨v2, w2, hr2, h2, _, _⟩ := Lib.run_append_own_string (P := P) w w.heap.size t u ty e i ht hu hi hz hsize hby (.slice none 0 0) 0 [] (World.ownsRow_nil _ _ _ _) s (by omega) (by omega) (Nat.le_refl _)
    rw [hr] at hr2
    cases hr2
    exact fun g hg => (h2.lt g hg).1
  · by_cases hroom : n + s.size ≤ cap
    · left
      have hr2 := Lib.run_append_room_string (P := P) w t u ty e i ht hu hi hsize g n cap cur hg s hroom (by rw [hcs]; omega)
      rw [hr] at hr2
      cases hr2
      rfl
    · right
      unfold maxLen at h63
      have hr2 := Lib.run_append_grow_string (P := P) w t u ty e i (.int .u8 0) ht hu hi hz ⟨g, 0, none⟩ n cap xs (by rw [hsize]; simpa using hxl) (hcl g rfl) s (by omega) (by omega) (by rw [hby]; exact growslice_fits (by omega) (by omega))
      rw [hr] at hr2
      cases hr2
      intro g' hg'
      simp [Value.ownBlock] at hg'
      omega

theorem step_append_own_string {P : Program} {ops : Array Oper} {o : Oper} {a : Act} {w : World} {K : Act → World → Prop} {Q : Exit → Act → World → Prop} {E : Prop}
    (hg : o.guard = none) (sl x : Operand) (t u : TypeId) (ho : o.op = .call { callee := .builtin .append, args := #[sl, x], argTypes := #[t, u] })
    (base : Nat) (e : TypeId) (i : TypeInfo) (ht : P.underlying t = some (.slice e)) (hu : P.underlying u = some .string) (hi : P.info? e = some i) (hz : i.zero = some (.int .u8 0))
    (hsize : i.size = 1) (hby : i.bytes = 1)
    (v : Value) (n : Nat) (xs : List Value) (hs : a.eval sl = v) (hown : w.ownsRow base e 1 v n xs) (s : ByteArray) (hx : a.eval x = .string s)
    (h63 : n + s.size ≤ maxLen) (hbytes : n + s.size ≤ 140737488355328) (hbase : base ≤ w.heap.size)
    (hK : ∀ v' w', w'.ownsRow base e 1 v' (n + s.size) (xs ++ Lib.strCells s) → w.grownBy w' v.ownBlock → (v'.ownBlock = v.ownBlock ∨ ∀ g, v'.ownBlock = some g → w.heap.size ≤ g) → K (a.put o.dst v') w') :
    if Region.wanted o (yielded ops a.tmps) = true then Oper.wp P o a w K Q else E := by
  have hw : Region.wanted o (yielded ops a.tmps) = true := by simp [Region.wanted, hg]
  rw [if_pos hw]
  obtain ⟨v', w', hr, h2, h3, h4⟩ := Lib.run_append_own_string (P := P) w base t u o.type e i ht hu hi hz hsize hby v n xs hown s h63 hbytes hbase
  unfold Oper.wp execOp
  simp only [ho, resolve, invoke, builtin, Sem.run_bind, Sem.run_pure, Result.andThen_ok, List.map_toArray, List.map_cons, List.map_nil, hs, hx, hr]
  exact hK v' w' h2 h3 (string_at ht hu hi hz hsize hby hown h63 hbytes hr)
end Go.Proofs.YtoifihhmneldeaaGreatDoor.Dh

namespace Go.Proofs.YtoifihhmneldeaaGreatDoor.Dh
open Go.ChangeShapes Go.WideShapes Go.ChangeAt Go.RowKit Bs
open Rd (grown_trans)
set_option linter.unusedVariables false
set_option linter.unusedSimpArgs false

/-- what lies in memory while options are joined: data by code (of pd), which codes were told (of pt), the options so far -/
structure J1 (w wr : World) (pd pt : List Pc) (v5 : Value) (outs : List Pc) (V : Nat → Value) : Prop where
  row : RowV wr w.heap.size 145 V
  told : RowV wr (w.heap.size + 1) 146 (fun j => .bool (has pt (UInt8.ofNat j)))
  own : ∀ j, j < 256 → wr.ownsRow (w.heap.size + 2) 5 1 (V j) (data pd (UInt8.ofNat j)).length (cells8 (data pd (UInt8.ofNat j)))
  apart : ∀ i j g, i < 256 → j < 256 → i ≠ j → (V i).ownBlock = some g → (V j).ownBlock ≠ some g
  out : wr.ownsRow (w.heap.size + 2) 53 2 v5 outs.length (cellsO outs)
  below : Below w.heap.size w wr

theorem kinds {wr : World} {b : Nat} {v v5 : Value} {n m : Nat} {xs ys : List Value} (h : wr.ownsRow b 5 1 v n xs) (h5 : wr.ownsRow b 53 2 v5 m ys) : ∀ g, v.ownBlock = some g → v5.ownBlock ≠ some g := fun g hg h5g => by
  obtain ⟨c, fz, e1⟩ := Lib.ownsRow_kind h g hg
  obtain ⟨c', fz', e2⟩ := Lib.ownsRow_kind h5 g h5g
  rw [e1] at e2
  simp at e2
theorem not_row {r : Option Nat} {v : Value} (h : ∀ g, v.ownBlock = some g → r ≠ some g) : v.ownBlock = none ∨ v.ownBlock ≠ r := by
  cases hv : v.ownBlock with
  | none => exact Or.inl rfl
  | some g => exact Or.inr (fun e => h g hv e.symm)
theorem of_nat8 (c : UInt8) : UInt8.ofNat c.toNat = c := by simp
theorem of_nat_ne {c : UInt8} {j : Nat} (hj : j < 256) (h : ¬ j = c.toNat) : ¬ c = UInt8.ofNat j := fun e => h (by
  rw [e, UInt8.toNat_ofNat']; omega)

theorem J1.stepA {w wr w1 : World} {ps : List Pc} {v5 v' : Value} {outs : List Pc} {V : Nat → Value} (h : J1 w wr ps ps v5 outs V) (c : UInt8) (d : List UInt8) (n : Nat) (hn : n = (data ps c).length + d.length)
    (hown : w1.ownsRow (w.heap.size + 2) 5 1 v' n (cells8 (data ps c) ++ cells8 d)) (hg : wr.grownBy w1 (V c.toNat).ownBlock)
    (hat : v'.ownBlock = (V c.toNat).ownBlock ∨ ∀ g, v'.ownBlock = some g → wr.heap.size ≤ g) :
    J1 w (w1.setCell ⟨w.heap.size, c.toNat, none⟩ v') (ps ++ [(c, d)]) ps v5 outs (fun j => if j = c.toNat then v' else V j) := by
  have hc := c.toNat_lt
  have hX : ∀ g, (V c.toNat).ownBlock = some g → w.heap.size + 2 ≤ g ∧ g < wr.heap.size := fun g hg => (h.own c.toNat hc).lt g hg
  have hD : w1.heap[w.heap.size]? = wr.heap[w.heap.size]? := hg.block _ h.row.lt (fun e => by have := (hX _ e.symm).1; omega)
  have hT : w1.heap[w.heap.size + 1]? = wr.heap[w.heap.size + 1]? := hg.block _ h.told.lt (fun e => by have := (hX _ e.symm).1; omega)
  have r1 := (h.row.kept hD).set c.toNat hc v'
  refine ⟨r1, ?_, ?_, ?_, ?_, ?_⟩
  · exact (h.told.kept hT).kept (Below.heap_setCell _ _ _ _ (by simp))
  · intro j hj
    by_cases e : j = c.toNat
    · subst e
      simp only [if_pos]
      refine ownsRow_setCell_below ?_ (by show w.heap.size < _; omega) _
      rw [of_nat8, data_snoc, if_pos rfl, List.length_append, cells8_append, ← hn]
      exact hown
    · simp only [if_neg e]
      refine ownsRow_setCell_below ?_ (by show w.heap.size < _; omega) _
      rw [data_snoc, if_neg (of_nat_ne hj e), List.append_nil]
      exact (h.own j hj).kept hg (not_row (fun g hgj hX => h.apart c.toNat j g hc hj (fun e' => e e'.symm) hX hgj))
  · intro i j g hi hj hij hvi hvj
    by_cases ei : i = c.toNat
    · have ej : ¬ j = c.toNat := fun e => hij (ei.trans e.symm)
      simp only [if_pos ei] at hvi
      simp only [if_neg ej] at hvj
      rcases hat with hat | hat
      · rw [hat] at hvi
        exact h.apart c.toNat j g hc hj (fun e => ej e.symm) hvi hvj
      · have h1 := hat g hvi
        have h2 := ((h.own j hj).lt g hvj).2
        omega
    · simp only [if_neg ei] at hvi
      by_cases ej : j = c.toNat
      · simp only [if_pos ej] at hvj
        rcases hat with hat | hat
        · rw [hat] at hvj
          exact h.apart i c.toNat g hi hc ei hvi hvj
        · have h1 := hat g hvj
          have h2 := ((h.own i hi).lt g hvi).2
          omega
      · simp only [if_neg ej] at hvj
        exact h.apart i j g hi hj hij hvi hvj
  · refine ownsRow_setCell_below (h.out.kept hg (not_row (fun g hg5 hXg => kinds (h.own c.toNat hc) h.out g hXg hg5))) (by show w.heap.size < _; omega) _
  · exact (h.below.grown hg h.below.size (fun g hgg => by have := (hX g hgg).1; omega)).setCell (Nat.le_refl _) _
theorem J1.stepB {w wr : World} {ps : List Pc} {v5 : Value} {outs : List Pc} {V : Nat → Value} {c : UInt8} {d : List UInt8} (h : J1 w wr (ps ++ [(c, d)]) ps v5 outs V) (hc : has ps c = true) : J1 w wr (ps ++ [(c, d)]) (ps ++ [(c, d)]) v5 outs V :=
  ⟨h.row, h.told.same (fun j hj => by
    rw [has_snoc]
    by_cases e : c = UInt8.ofNat j
    · rw [← e, hc]; rfl
    · have : (c == UInt8.ofNat j) = false := by simpa using e
      rw [this, Bool.or_false]), h.own, h.apart, h.out, h.below⟩
theorem J1.stepT {w wr : World} {ps : List Pc} {v5 : Value} {outs : List Pc} {V : Nat → Value} {c : UInt8} {d : List UInt8} (h : J1 w wr (ps ++ [(c, d)]) ps v5 outs V) : J1 w (wr.setCell ⟨w.heap.size + 1, c.toNat, none⟩ (.bool true)) (ps ++ [(c, d)]) (ps ++ [(c, d)]) v5 outs V :=
  ⟨h.row.kept (Below.heap_setCell _ _ _ _ (by simp)), (h.told.set c.toNat c.toNat_lt (.bool true)).same (fun j hj => by
    by_cases e : j = c.toNat
    · subst e
      simp only [if_pos]
      rw [of_nat8, has_snoc]; simp
    · simp only [if_neg e]
      rw [has_snoc]
      have := of_nat_ne hj e
      have hb : (c == UInt8.ofNat j) = false := by simpa using this
      rw [hb, Bool.or_false]), fun j hj => ownsRow_setCell_below (h.own j hj) (by show w.heap.size + 1 < _; omega) _, h.apart, ownsRow_setCell_below h.out (by show w.heap.size + 1 < _; omega) _, h.below.setCell (by simp) _⟩
theorem J1.stepC {w wr w4 : World} {pd pt : List Pc} {v5 v' : Value} {outs : List Pc} {V : Nat → Value} (h : J1 w wr pd pt v5 outs V) (o : Pc) (n : Nat) (hn : n = outs.length + 1)
    (hown : w4.ownsRow (w.heap.size + 2) 53 2 v' n (cellsO outs ++ cellsO [o])) (hg : wr.grownBy w4 v5.ownBlock) : J1 w w4 pd pt v' (outs ++ [o]) V := by
  have hX : ∀ g, v5.ownBlock = some g → w.heap.size + 2 ≤ g ∧ g < wr.heap.size := fun g hg => h.out.lt g hg
  refine ⟨h.row.kept (hg.block _ h.row.lt (fun e => by have := (hX _ e.symm).1; omega)), h.told.kept (hg.block _ h.told.lt (fun e => by have := (hX _ e.symm).1; omega)), fun j hj => (h.own j hj).kept hg (not_row (fun g hgj => kinds (h.own j hj) h.out g hgj)), h.apart, ?_, h.below.grown hg h.below.size (fun g hgg => by have := (hX g hgg).1; omega)⟩
  rw [List.length_append, cellsO_append]
  rw [hn] at hown
  exact hown
theorem cellsO_set (outs : List Pc) (i : Nat) (hi : i < outs.length) (d : List UInt8) : (cellsO outs).set (i * 2 + 1) (.string ⟨d.toArray⟩) = cellsO (outs.set i ((outs[i]).1, d)) := by
  induction outs generalizing i with
  | nil => simp at hi
  | cons o r ih =>
    cases i with
    | zero => rfl
    | succ i =>
      have := ih i (by simpa using hi)
      simp only [cellsO, List.flatMap_cons, List.set_cons_succ, List.getElem_cons_succ] at this ⊢
      rw [← this, show (i + 1) * 2 + 1 = i * 2 + 1 + 1 + 1 by omega]
      rfl
theorem J1.stepD {w wr : World} {pd pt : List Pc} {g cap : Nat} {outs : List Pc} {V : Nat → Value} (h : J1 w wr pd pt (.slice (some ⟨g, 0, none⟩) outs.length cap) outs V) (i : Nat) (hi : i < outs.length) (d : List UInt8) :
    J1 w (wr.setCell ⟨g, i * 2 + 1, none⟩ (.string ⟨d.toArray⟩)) pd pt (.slice (some ⟨g, 0, none⟩) outs.length cap) (outs.set i ((outs[i]).1, d)) V := by
  have hX := h.out.lt g rfl
  obtain ⟨s1, s2⟩ := h.out.stored (i * 2 + 1) (.string ⟨d.toArray⟩)
  refine ⟨h.row.kept (Below.heap_setCell _ _ _ _ (by simp; omega)), h.told.kept (Below.heap_setCell _ _ _ _ (by simp; omega)), fun j hj => ownsRow_setCell_other (h.own j hj) (fun e => kinds (h.own j hj) h.out g e rfl) _, h.apart, ?_, h.below.setCell (by show w.heap.size ≤ g; omega) _⟩
  rw [cellsO_set outs i hi d] at s1
  rw [List.length_set]
  exact s1
end Go.Proofs.YtoifihhmneldeaaGreatDoor.Dh

namespace Go.Proofs.YtoifihhmneldeaaGreatDoor.Dh
open Go.ChangeShapes Go.WideShapes Go.ChangeAt Go.RowKit Bs
open Rd (grown_trans)
set_option linter.unusedVariables false
set_option linter.unusedSimpArgs false

theorem zero170 : Tryz.zeroCells145 = rowV (fun _ => .slice none 0 0) := by kernel_rfl
theorem zero171 : Tryz.zeroCells146 = rowV (fun _ => .bool false) := by kernel_rfl
theorem J1.start (w : World) : J1 w ((w.alloc (.cells Tryz.zeroCells145 145)).alloc (.cells Tryz.zeroCells146 146)) [] [] (.slice none 0 0) [] (fun _ => .slice none 0 0) := by
  have h0 : (w.alloc (.cells Tryz.zeroCells145 145)).heap.size = w.heap.size + 1 := by simp
  refine ⟨?_, ?_, fun j hj => World.ownsRow_nil _ _ _ _, fun i j g _ _ _ hg => by simp [Value.ownBlock] at hg, World.ownsRow_nil _ _ _ _, ((Below.refl _ w).alloc (Nat.le_refl _) _).alloc (by simp) _⟩
  · unfold RowV
    rw [Below.heap_alloc _ _ _ (by simp), ← zero170]
    exact heap_alloc_new w _
  · have q := heap_alloc_new (w.alloc (.cells Tryz.zeroCells145 145)) (.cells Tryz.zeroCells146 146)
    rw [h0] at q
    unfold RowV
    rw [q, zero171]
    rfl
theorem J1.alloc {w wr : World} {pd pt : List Pc} {v5 : Value} {outs : List Pc} {V : Nat → Value} (h : J1 w wr pd pt v5 outs V) (o : Obj) : J1 w (wr.alloc o) pd pt v5 outs V :=
  ⟨h.row.kept (Below.heap_alloc _ _ _ h.row.lt), h.told.kept (Below.heap_alloc _ _ _ h.told.lt), fun j hj => (h.own j hj).alloc o, h.apart, h.out.alloc o, h.below.alloc h.below.size o⟩

theorem own_mono {w : World} {b b' e z : Nat} {v : Value} {n : Nat} {xs : List Value} (h : w.ownsRow b e z v n xs) (hb : b' ≤ b) : w.ownsRow b' e z v n xs :=
  ⟨h.1, h.2.imp id (fun ⟨g, cap, cur, e1, e2, r⟩ => ⟨g, cap, cur, e1, Nat.le_trans hb e2, r⟩)⟩
theorem own_some {w : World} {b e z : Nat} {ao : Option Addr} {m cp : Nat} {n : Nat} {xs : List Value} (h : w.ownsRow b e z (.slice ao m cp) n xs) (hn : 0 < n) : ∃ g, ao = some ⟨g, 0, none⟩ ∧ b ≤ g := by
  rcases h.2 with ⟨_, h0⟩ | ⟨g, cap, cur, hv, hb, _⟩
  · omega
  · cases hv
    exact ⟨g, rfl, hb⟩
/-- the options in the second loop: the first q have their data -/
def joinU (os : Opts) (cs : List UInt8) (q : Nat) : List Pc := ((cs.take q).map fun c => (c, data os c)) ++ ((cs.drop q).map fun c => (c, []))
theorem joinU_nil (os : Opts) (cs : List UInt8) : joinU os cs 0 = cs.map fun c => (c, []) := by simp [joinU]
theorem joinU_all (os : Opts) (cs : List UInt8) : joinU os cs cs.length = cs.map fun c => (c, data os c) := by simp [joinU]
theorem joinU_length (os : Opts) (cs : List UInt8) (q : Nat) (hq : q ≤ cs.length) : (joinU os cs q).length = cs.length := by simp [joinU]; omega
theorem joinU_get (os : Opts) (cs : List UInt8) (q : Nat) (hq : q < cs.length) : (joinU os cs q)[q]? = some (cs[q], []) := by
  simp only [joinU]
  rw [List.getElem?_append_right (by simp; omega)]
  simp [hq, Nat.min_eq_left (Nat.le_of_lt hq)]
theorem joinU_set (os : Opts) (cs : List UInt8) (q : Nat) (hq : q < cs.length) : (joinU os cs q).set q (cs[q], data os cs[q]) = joinU os cs (q + 1) := by
  apply List.ext_getElem?
  intro i
  rw [List.getElem?_set]
  have h1 : (joinU os cs q).length = cs.length := joinU_length os cs q (by omega)
  have h2 : (joinU os cs (q + 1)).length = cs.length := joinU_length os cs (q + 1) (by omega)
  by_cases e : q = i
  · subst e
    rw [if_pos rfl, if_pos (by omega)]
    simp only [joinU]
    rw [List.getElem?_append_left (by simp; omega)]
    simp [hq]
  · rw [if_neg e]
    simp only [joinU]
    by_cases hi : i < q
    · rw [List.getElem?_append_left (by simp; omega), List.getElem?_append_left (by simp; omega)]
      simp [hi, show i < q + 1 by omega]
    · rw [List.getElem?_append_right (by simp; omega), List.getElem?_append_right (by simp; omega)]
      simp only [List.length_map, List.length_take, List.getElem?_map, List.getElem?_drop]
      congr 2
      omega
theorem region7 {w wr w1 : World} {ps : List Pc} {v5 v' : Value} {outs : List Pc} {V : Nat → Value} (h : J1 w wr ps ps v5 outs V) (c : UInt8) (d : List UInt8) (s : ByteArray) (hs : s.data.toList = d)
    (hg : (wr.alloc (.cells #[.int .u8 c.toNat, .string s] 53)).drew.grownBy w1 (V c.toNat).ownBlock) (hat : v'.ownBlock = (V c.toNat).ownBlock ∨ ∀ g, v'.ownBlock = some g → (wr.alloc (.cells #[.int .u8 c.toNat, .string s] 53)).drew.heap.size ≤ g)
    (hown : w1.ownsRow (w.heap.size + 2) 5 1 v' ((data ps c).length + s.size) (cells8 (data ps c) ++ Lib.strCells s)) :
    w1.cell? ⟨wr.heap.size, 0, none⟩ = some (.int .u8 c.toNat) ∧ w1.cell? ⟨wr.heap.size, 1, none⟩ = some (.string s) ∧ w1.cell? ⟨w.heap.size, c.toNat, none⟩ = some (V c.toNat) ∧ w1.frozen? ⟨w.heap.size, c.toNat, none⟩ = false ∧
      Hid (J1 w (w1.setCell ⟨w.heap.size, c.toNat, none⟩ v') (ps ++ [(c, d)]) ps v5 outs (fun j => if j = c.toNat then v' else V j) ∧ w1.heap[wr.heap.size]? = some (.cells #[.int .u8 c.toNat, .string s] 53 (0, 0))) ∧ ∃ ao cp, v' = .slice ao ((data ps c).length + s.size) cp := by
  have hc := c.toNat_lt
  have hX : ∀ g, (V c.toNat).ownBlock = some g → w.heap.size + 2 ≤ g ∧ g < wr.heap.size := fun g hg => (h.own c.toNat hc).lt g hg
  have hgw : wr.grownBy w1 (V c.toNat).ownBlock := ⟨hg.os, hg.tape, hg.output, Nat.le_trans (by simp) hg.size, fun b hb hne => (hg.block b (by simp; omega) hne).trans (Below.heap_alloc _ _ _ hb)⟩
  have hbox : w1.heap[wr.heap.size]? = some (.cells #[.int .u8 c.toNat, .string s] 53 (0, 0)) := by
    rw [hg.block _ (by simp) (fun e => by have := (hX _ e.symm).2; omega)]
    exact heap_alloc_new wr _
  have hD : RowV w1 w.heap.size 145 V := h.row.kept (hgw.block _ h.row.lt (fun e => by have := (hX _ e.symm).1; omega))
  have hsz : s.size = d.length := by rw [← hs, Array.length_toList]; rfl
  refine ⟨by rw [cell_of_row w1 wr.heap.size 0 _ _ _ hbox]; rfl, by rw [cell_of_row w1 wr.heap.size 1 _ _ _ hbox]; rfl, hD.cell _ hc, hD.free _, hide ⟨?_, hbox⟩, own_slice hown⟩
  refine h.stepA c d ((data ps c).length + s.size) (by rw [hsz]) ?_ hgw ?_
  · have e8 : cells8 d = Lib.strCells s := by rw [← hs]; rfl
    rw [e8]; exact hown
  · rcases hat with hat | hat
    · exact Or.inl hat
    · exact Or.inr (fun g hgg => by have := hat g hgg; simp at this; omega)

set_option maxHeartbeats 4000000 in
set_option maxRecDepth 10000 in
theorem joined_any (a : Option Addr) (cap : Nat) (os : Opts) (w : World) (hA : At w a os) (hl : heavy os ≤ 268435456) :
    Calls Tryz.prog 106 #[.slice a os.length cap] w fun e w' =>
      ∃ v, e = .returned v ∧ w'.ownsRow w.heap.size 53 2 v (addAll [] os).length (cellsO (addAll [] os)) ∧ Below w.heap.size w w' := by
  obtain ⟨i0, hi, hz0, hz1, hz2⟩ := info_parts info8
  obtain ⟨i1, hj, hy0, hy1, hy2⟩ := info_parts infoOpt
  have hlen : os.length ≤ heavy os := by unfold heavy; omega
  have HA := hide hA
  clear hA
  go_enter Tryz.func106, Tryz.ntmps106
  go_wp2
  go_loopw [5, 11] (fun v5 i wr => ∃ (k : Nat) (cs : List UInt8) (V : Nat → Value), k ≤ os.length ∧ cs.length ≤ k ∧ i = .int .i64 k ∧ Hid (Jl (os.take k) cs) ∧ Hid (J1 w wr (os.take k) (os.take k) v5 (cs.map fun c => (c, [])) V)) (fun _ i _ => os.length - (intOf i).toNat)
  case atStart => exact ⟨0, [], _, Nat.zero_le _, Nat.le_refl _, rfl, hide Jl.nil, hide (J1.start w)⟩
  case round =>
    obtain ⟨k, cs, V, hk, hcs, rfl, HJ, HI⟩ := hrel
    rename World => wr
    by_cases hlt : k < os.length
    · obtain ⟨ad, rfl, c0, c1⟩ := (unhide HA).below (unhide HI).below (Nat.le_refl _) k hlt
      obtain ⟨oc, od, hcd⟩ : ∃ x y, os[k] = (x, y) := ⟨_, _, rfl⟩
      have ht := heavy_take os k hlt
      have htl := heavy_le os (k + 1)
      have hdl := data_le (os.take k) oc
      have htk : os.take (k + 1) = os.take k ++ [(oc, od)] := by rw [List.take_succ_eq_append_getElem hlt, hcd]
      rw [hcd] at c0 c1 ht
      simp only at c0 c1 ht
      have HTK := hide htk
      have hc8 := oc.toNat_lt
      have hc0 : (0 : Int) ≤ (oc.toNat : Int) := by omega
      have hc1 : ((oc.toNat : Nat) : Int) < 256 := by omega
      obtain ⟨s, hS⟩ : ∃ s : ByteArray, s = ⟨od.toArray⟩ := ⟨_, rfl⟩
      have hsz : s.size = od.length := by rw [hS]; exact str_size od
      have hst : s.data.toList = od := by rw [hS]
      rw [← hS] at c1
      have HS := hide hst
      have HSZ := hide hsz
      have hwz : w.heap.size + 2 ≤ wr.heap.size := by have := (unhide HI).told.lt; omega
      have hDc : ∀ o, (wr.alloc o).cell? ⟨w.heap.size, oc.toNat, none⟩ = some (V oc.toNat) := fun o => ((unhide HI).alloc o).row.cell oc.toNat hc8
      have hOw := (unhide HI).own oc.toNat hc8
      rw [of_nat8] at hOw
      have HOW := hide hOw
      have hn0 : (data (os.take k) oc).length + od.length ≤ 268435456 := by omega
      have hn1 : (data (os.take k) oc).length + s.size ≤ 268435456 := by omega
      clear hcd htk hS hst hsz hOw ht htl hdl
      have HIN : Hid (∃ V', J1 w wr (os.take k) (os.take k) u5 (cs.map fun c => (c, [])) V') := hide ⟨V, unhide HI⟩
      go_wp2
      go_cut [] (fun wc => Hid ((∃ V', J1 w wc (os.take k ++ [(oc, od)]) (os.take k) u5 (cs.map fun c => (c, [])) V') ∧ wc.heap[wr.heap.size]? = some (.cells #[.int .u8 oc.toNat, .string s] 53 (0, 0))))
      case first =>
        go_region_law (refine step_append_own_string rfl (.tmp 20) (.tmp 22) 71 9 rfl (w.heap.size + 2) 5 i0 Tryz.underlying71 Tryz.underlying9 hi hz0 hz1 hz2 (V oc.toNat) _ _ (by simp [Act.eval]) ((unhide HOW).alloc _).drew s (by simp [Act.eval]) (by simp only [maxLen]; omega) (by omega) (by simp; omega) ?_; intro v' w1 hown hg hat; obtain ⟨b0, b1, d0, df, H2, ao, cp, hv'⟩ := region7 (unhide HI) oc od s (unhide HS) hg hat hown; clear hown hg hat; subst hv')
        all_goals go_wp2
        all_goals go_meet
        all_goals exact hide ⟨⟨_, (unhide H2).1⟩, by rw [Below.heap_setCell _ _ _ _ (by simp; omega)]; exact (unhide H2).2⟩
      case rest =>
        rename World => wc
        obtain ⟨⟨V', hJ2⟩, hbx⟩ := unhide hcut
        have hwcz : wr.heap.size < wc.heap.size := lt_of_block hbx
        have b0 : wc.cell? ⟨wr.heap.size, 0, none⟩ = some (.int .u8 oc.toNat) := by rw [cell_of_row wc wr.heap.size 0 _ _ _ hbx]; rfl
        have t0 : wc.cell? ⟨w.heap.size + 1, oc.toNat, none⟩ = some (.bool (has (os.take k) oc)) := by
          have q := hJ2.told.cell oc.toNat hc8
          simp only [of_nat8] at q
          exact q
        have tf := hJ2.told.free oc.toNat
        have HBX := hide hbx
        have HJ2 := hide hJ2
        clear hcut hbx hJ2 hDc HOW HI HIN c0 c1
        by_cases hh : has (os.take k) oc = true
        · rw [hh] at t0
          have HN : Hid (J1 w wc (os.take (k + 1)) (os.take (k + 1)) u5 (cs.map fun c => (c, [])) V') := hide (by rw [unhide HTK]; exact (unhide HJ2).stepB hh)
          have HL : Hid (Jl (os.take (k + 1)) cs) := hide (by rw [unhide HTK]; exact (unhide HJ).step oc od hh)
          clear hh
          go_wp2
          go_roundw
          case rel => exact ⟨k + 1, cs, V', by omega, by omega, by go_num, HL, HN⟩
          case measure => simp [intOf]; omega
        · have hh' : has (os.take k) oc = false := by simpa using hh
          rw [hh'] at t0
          have H3 := hide ((unhide HJ2).stepT)
          have hb3 : (wc.setCell ⟨w.heap.size + 1, oc.toNat, none⟩ (.bool true)).cell? ⟨wr.heap.size, 0, none⟩ = some (.int .u8 oc.toNat) := by
            rw [cell_of_row _ wr.heap.size 0 _ _ _ ((Below.heap_setCell _ _ _ _ (by simp; omega)).trans (unhide HBX))]; rfl
          have HL : Hid (Jl (os.take (k + 1)) (cs ++ [oc])) := hide (by rw [unhide HTK]; exact (unhide HJ).more oc od hh')
          clear hh hh'
          go_wp2_with (at_builtin; refine wpList_append_own _ rfl (.tmp 33) (.tmp 37) 113 rfl (w.heap.size + 2) 53 i1 (.agg #[.int .u8 0, .string ⟨#[]⟩]) 2 24 Tryz.underlying113 hj hy0 hy1 hy2 rfl (by decide) _ _ _ rfl ((unhide H3).out.alloc _) ⟨wc.heap.size, 0, none⟩ 1 1 [.int .u8 oc.toNat, .string ⟨#[]⟩] rfl rfl ?c1 ?one ?h63 ?hby ?hba ?_)
          case c1 =>
            have q := cell_new (wc.setCell ⟨w.heap.size + 1, oc.toNat, none⟩ (.bool true)) [.int .u8 oc.toNat, .string ⟨#[]⟩] 53
            simpa using q
          case one => intro u hu; simp at hu; rcases hu with rfl | rfl <;> rfl
          case h63 => simp only [maxLen, List.length_map]; omega
          case hby => simp only [List.length_map]; omega
          case hba => simp; omega
          · intro v' w4 hown hg _
            have hJ4 := ((unhide H3).alloc (.cells #[.int .u8 oc.toNat, .string ⟨#[]⟩] 53)).stepC (oc, []) (cs.length + 1) (by rw [List.length_map]) hown hg
            have HN : Hid (J1 w w4 (os.take (k + 1)) (os.take (k + 1)) v' ((cs ++ [oc]).map fun c => (c, [])) V') := hide (by rw [unhide HTK, List.map_append]; exact hJ4)
            clear hown hg hJ4
            go_wp2
            go_roundw
            case rel => exact ⟨k + 1, cs ++ [oc], V', by omega, by simp only [List.length_append, List.length_cons, List.length_nil]; omega, by go_num, HL, HN⟩
            case measure => simp [intOf]; omega
    · have e : k = os.length := by omega
      subst e
      rw [List.take_length] at HJ HI
      obtain ⟨ao, cp, hv5⟩ := own_slice (unhide HI).out
      rw [List.length_map] at hv5
      subst hv5
      have HU := hide (joinU_nil os cs)
      go_wp2
      go_loopw [42] (fun i wq => ∃ (q : Nat), q ≤ cs.length ∧ i = .int .i64 q ∧ Hid (J1 w wq os os (.slice ao cs.length cp) (joinU os cs q) V)) (fun i _ => cs.length - (intOf i).toNat)
      case atStart => exact ⟨0, Nat.zero_le _, rfl, hide (by rw [unhide HU]; exact unhide HI)⟩
      case round =>
        obtain ⟨q, hq, rfl, HQ⟩ := hrel
        rename World => wq
        by_cases hql : q < cs.length
        · have hUl := joinU_length os cs q (by omega)
          have ho := (unhide HQ).out
          obtain ⟨g, rfl, hgb⟩ := own_some ho (by rw [hUl]; omega)
          obtain ⟨c, hc⟩ : ∃ c, c = cs[q] := ⟨_, rfl⟩
          have hget : (joinU os cs q)[q]? = some (c, []) := by rw [hc]; exact joinU_get os cs q hql
          have hqU : q < (joinU os cs q).length := by rw [hUl]; exact hql
          have hgetE : (joinU os cs q)[q] = (c, []) := by
            rw [List.getElem?_eq_getElem hqU] at hget
            exact Option.some.inj hget
          have hset : (joinU os cs q).set q (c, data os c) = joinU os cs (q + 1) := by rw [hc]; exact joinU_set os cs q hql
          obtain ⟨k0, k1⟩ := cellsO_get (joinU os cs q) q hqU
          rw [hgetE] at k0 k1
          have hcl := ho.cells (g := g) rfl
          have o0 := hcl _ _ k0
          have o1 := hcl _ _ k1
          rw [add_lit'] at o0 o1
          have hc8 := c.toNat_lt
          have hcI : ((c.toNat : Nat) : Int) < 256 := by omega
          rw [hUl] at ho
          have hof := fun j => ho.frozenAt j
          have d0 := (unhide HQ).row.cell c.toNat hc8
          have hOw := (unhide HQ).own c.toNat hc8
          rw [of_nat8] at hOw
          have hcv := run_own_string wq _ (V c.toNat) _ hOw
          have hJ := (unhide HQ)
          rw [← hUl] at hJ
          have hD := hJ.stepD q hqU (data os c)
          rw [hUl, hgetE, hset] at hD
          have HD := hide hD
          have hql2 : (q : Int) < (cs.length : Int) := by omega
          obtain ⟨sd, hsd⟩ : ∃ sd : ByteArray, sd = ⟨(data os c).toArray⟩ := ⟨_, rfl⟩
          rw [← hsd] at hcv HD
          obtain ⟨av, pv, hV⟩ := own_slice hOw
          rw [hV] at d0 hcv
          clear ho hget hgetE hset k0 k1 hcl hOw hJ hD hUl hqU HI hc hsd hV
          go_wp2
          go_roundw
          case rel => exact ⟨q + 1, by omega, by go_num, HD⟩
          case measure => simp [intOf]; omega
        · have e2 : q = cs.length := by omega
          subst e2
          have HF : Hid (joinU os cs cs.length = addAll [] os) := hide (by rw [(unhide HJ).all]; exact joinU_all os cs)
          go_wp2
          go_ret
          refine ⟨_, rfl, ?_, (unhide HQ).below⟩
          have ho := (unhide HQ).out
          rw [unhide HF] at ho
          have hl2 : (addAll [] os).length = cs.length := by rw [(unhide HJ).all, List.length_map]
          rw [hl2] at ho ⊢
          exact own_mono ho (by omega)
end Go.Proofs.YtoifihhmneldeaaGreatDoor.Dh

namespace Go.Proofs.YtoifihhmneldeaaGreatDoor.Dh
open Go.ChangeShapes Go.WideShapes Go.ChangeAt Go.RowKit Bs
open Rd (Rdr errP)
set_option linter.unusedVariables false
set_option linter.unusedSimpArgs false

theorem heavy_cons (p : Pc) (r : List Pc) : heavy (p :: r) = 1 + p.2.length + heavy r := by
  simp only [heavy, List.length_cons, List.map_cons, List.sum_cons]; omega
theorem heavy_append (a b : List Pc) : heavy (a ++ b) = heavy a + heavy b := by
  simp only [heavy, List.map_append, List.sum_append, List.length_append]; omega
theorem heavy_pieces (n : Nat) : ∀ (l : List UInt8) (ps : List Pc), l.length ≤ n → pieces l = some ps → heavy ps ≤ l.length := by
  induction n with
  | zero =>
    intro l ps hl h
    match l, hl with
    | [], _ => rw [pieces_nil] at h; cases h
  | succ n ih =>
    intro l ps hl h
    match l, hl with
    | [], _ => rw [pieces_nil] at h; cases h
    | c :: r, hl =>
      by_cases e1 : c.toNat = 255
      · rw [pieces_end c r e1] at h
        cases h
        simp [heavy]
      · by_cases e0 : c.toNat = 0
        · rw [pieces_none c r e0] at h
          have := ih r ps (by simp at hl; omega) h
          simp only [List.length_cons]; omega
        · match r, hl with
          | [], _ => rw [pieces_lone c e1 e0] at h; cases h
          | m :: q, hl =>
            by_cases hq : q.length < m.toNat
            · rw [pieces_few c m q e1 e0 hq] at h; cases h
            · have h' := (pieces_more c m q e1 e0 hq).symm.trans h
              cases hp : pieces (q.drop m.toNat) with
              | none => rw [hp] at h'; cases h'
              | some ps' =>
                rw [hp] at h'
                obtain rfl := Option.some.inj h'
                have := ih (q.drop m.toNat) ps' (by simp at hl ⊢; omega) hp
                rw [List.length_drop] at this
                rw [heavy_cons]
                simp only [List.length_cons, List.length_take]
                omega
theorem drop_heavy (ps : List Pc) (c : UInt8) : heavy (drop ps c) ≤ heavy ps := by
  induction ps with
  | nil => exact Nat.le_refl _
  | cons p r ih =>
    simp only [drop, List.filter_cons] at ih ⊢
    split
    · rw [heavy_cons, heavy_cons]; omega
    · rw [heavy_cons]; omega

/-- the pieces of several texts, one behind the other -/
def moreAll : List ByteArray → Option (List Pc)
  | [] => some []
  | a :: r => (pieces a.data.toList).bind fun p => (moreAll r).map fun q => p ++ q
/-- the areas that are read, behind pieces -/
def strsOf (ps : List Pc) (host file : ByteArray) : List ByteArray := if has ps 52 then areaS (data ps 52) host file else []
theorem strs_le (ps : List Pc) (host file : ByteArray) : (strsOf ps host file).length ≤ 2 := by
  unfold strsOf areaS
  split
  · rw [List.length_append]; split <;> split <;> simp
  · simp
theorem strs_mem (ps : List Pc) (host file : ByteArray) (n : Nat) (hh : host.size ≤ n) (hf : file.size ≤ n) : ∀ s ∈ strsOf ps host file, s.size ≤ n := fun s hs => by
  unfold strsOf areaS at hs
  split at hs
  · rw [List.mem_append] at hs
    rcases hs with hs | hs
    · split at hs
      · simp at hs; subst hs; exact hf
      · simp at hs
    · split at hs
      · simp at hs; subst hs; exact hh
      · simp at hs
  · simp at hs
theorem moreP_all (d : List UInt8) (host file : ByteArray) : moreP (inF d) (inH d) file.data.toList host.data.toList = moreAll (areaS d host file) := by
  unfold moreP areaS
  cases hF : inF d <;> cases hH : inH d
  · rfl
  · simp only [moreAll, Bool.false_eq_true, if_false, if_true, List.nil_append]
    cases pieces host.data.toList <;> simp
  · simp only [moreAll, Bool.false_eq_true, if_false, if_true, List.append_nil]
    cases pieces file.data.toList <;> simp
  · simp only [moreAll, if_true, List.cons_append, List.nil_append]
    cases pieces file.data.toList <;> cases pieces host.data.toList <;> simp
theorem optK_none (l : List UInt8) (host file : ByteArray) (h : pieces l = none) : optK l host.data.toList file.data.toList = 1 := by rw [optK, h]
theorem optK_bad (l : List UInt8) (host file : ByteArray) (ps : List Pc) (h : pieces l = some ps) (h1 : has ps 52 = true) (h2 : areaD (data ps 52) = false) : optK l host.data.toList file.data.toList = 2 := by
  rw [optK, h]; simp [h1, h2]
theorem optK_some (l : List UInt8) (host file : ByteArray) (ps : List Pc) (h : pieces l = some ps) (h1 : has ps 52 = true → areaD (data ps 52) = true) :
    optK l host.data.toList file.data.toList = (match moreAll (strsOf ps host file) with | none => 1 | some m => if has m 52 then 2 else 0) := by
  rw [optK, h]
  unfold strsOf
  cases hh : has ps 52
  · simp only [hh, Bool.false_eq_true, if_false, moreAll]
    rfl
  · have h2 := h1 hh
    simp only [hh, if_true, h2, moreP_all]
    cases moreAll (areaS (data ps 52) host file) <;> rfl
theorem optL_some (l : List UInt8) (host file : ByteArray) (ps m : List Pc) (h : pieces l = some ps) (hm : moreAll (strsOf ps host file) = some m) :
    optL l host.data.toList file.data.toList = addAll [] (drop ps 52 ++ m) := by
  rw [optL, h]
  unfold strsOf at hm
  cases hh : has ps 52
  · rw [hh] at hm
    simp [moreAll] at hm
    subst hm
    simp only [hh, Bool.false_eq_true, if_false, List.append_nil, drop_no ps 52 hh]
  · rw [hh] at hm
    simp only [if_true] at hm
    simp only [hh, if_true]
    rw [moreP_all, hm]
theorem moreAll_step (aa : List ByteArray) (k : Nat) (h : k < aa.length) (ms qs : List Pc) (h0 : moreAll aa = (moreAll (aa.drop k)).map fun x => ms ++ x) (hp : pieces aa[k].data.toList = some qs) :
    moreAll aa = (moreAll (aa.drop (k + 1))).map fun x => (ms ++ qs) ++ x := by
  refine h0.trans ?_
  rw [List.drop_eq_getElem_cons h, moreAll, hp]
  cases moreAll (aa.drop (k + 1)) with
  | none => rfl
  | some x => simp
theorem moreAll_no (aa : List ByteArray) (k : Nat) (h : k < aa.length) (ms : List Pc) (h0 : moreAll aa = (moreAll (aa.drop k)).map fun x => ms ++ x) (hp : pieces aa[k].data.toList = none) : moreAll aa = none := by
  refine h0.trans ?_
  rw [List.drop_eq_getElem_cons h, moreAll, hp]
  rfl

/-- texts as they lie in memory -/
def SA (w : World) (a : Option Addr) (ss : List ByteArray) : Prop := ∀ i (h : i < ss.length), ∃ ad, a = some ad ∧ w.cell? (ad.add i) = some (.string ss[i])
theorem SA.below {w w' : World} {a : Option Addr} {ss : List ByteArray} {n : Nat} (h : SA w a ss) (hb : Below n w w') (hn : w.heap.size ≤ n) : SA w' a ss := fun i hi => by
  obtain ⟨ad, e, h0⟩ := h i hi
  have l0 := cell_lt h0
  exact ⟨ad, e, by rw [hb.cell (by omega)]; exact h0⟩
theorem SA.own {w : World} {b : Nat} {ao : Option Addr} {cp : Nat} {ss : List ByteArray} (h : w.ownsRow b 9 1 (.slice ao ss.length cp) ss.length (ss.map Value.string)) : SA w ao ss := fun i hi => by
  obtain ⟨g, rfl, _⟩ := own_some h (by omega)
  exact ⟨⟨g, 0, none⟩, rfl, h.cells (g := g) rfl i _ (by simp [hi])⟩
theorem At.own {w : World} {b : Nat} {ao : Option Addr} {cp : Nat} {os : Opts} (h : w.ownsRow b 53 2 (.slice ao os.length cp) os.length (cellsO os)) : At w ao os := by
  by_cases hn : 0 < os.length
  · obtain ⟨g, rfl, _⟩ := own_some h hn
    exact At.ofCells (h.cells (g := g) rfl)
  · exact fun i hi => by omega
theorem own_cases {w : World} {b e z : Nat} {v : Value} {n : Nat} {xs : List Value} (h : w.ownsRow b e z v n xs) : (v = .slice none 0 0 ∧ n = 0) ∨ ∃ g cp, v = .slice (some ⟨g, 0, none⟩) n cp := by
  rcases h.2 with h0 | ⟨g, cap, cur, rfl, _⟩
  · exact Or.inl h0
  · exact Or.inr ⟨g, cap, rfl⟩
end Go.Proofs.YtoifihhmneldeaaGreatDoor.Dh

namespace Go.Proofs.YtoifihhmneldeaaGreatDoor.Dh
open Go.ChangeShapes Go.WideShapes Go.ChangeAt Go.RowKit Bs
open Rd (Rdr errP grown_below grown_trans must_if must_else)
set_option linter.unusedVariables false
set_option linter.unusedSimpArgs false

theorem own_below {w w' : World} {b e z : Nat} {v : Value} {n : Nat} {xs : List Value} (h : w.ownsRow b e z v n xs) (hb : Below w.heap.size w w') : w'.ownsRow b e z v n xs :=
  h.kept (w' := w') (row := none) ⟨hb.os, hb.tape, hb.output, hb.size, fun i hi _ => hb.block i hi⟩ (by cases h : v.ownBlock <;> simp)
/-- what allOptions answers -/
def AllPost (l : List UInt8) (host file : ByteArray) (B : Nat) (w : World) (e : Ending) (w' : World) : Prop :=
  w.grownBy w' (some B) ∧ (if optK l host.data.toList file.data.toList = 0 then ∃ v, e = .returned v ∧ w'.ownsRow w.heap.size 53 2 v (optL l host.data.toList file.data.toList).length (cellsO (optL l host.data.toList file.data.toList)) else e = .panicked (errP (optK l host.data.toList file.data.toList)))
theorem all_panic {l : List UInt8} {host file : ByteArray} {B : Nat} {w w' : World} (k : Nat) (hk : optK l host.data.toList file.data.toList = k) (h0 : k ≠ 0) (hg : w.grownBy w' (some B)) : AllPost l host file B w (.panicked (errP k)) w' := by
  refine ⟨hg, ?_⟩
  rw [hk, if_neg h0]

set_option maxHeartbeats 4000000 in
set_option maxRecDepth 10000 in
theorem all_any (B : Nat) (l : List UInt8) (host file : ByteArray) (w : World) (h : Rdr w B l) (hl : l.length ≤ 1048576) (hh : host.size ≤ 1048576) (hf : file.size ≤ 1048576) :
    Calls Tryz.prog 90 #[.pointer (some ⟨B, 0, none⟩), .string host, .string file] w fun e w' => AllPost l host file B w e w' := by
  obtain ⟨i1, hj, hy0, hy1, hy2⟩ := info_parts infoOpt
  have HR := hide h
  have hB := h.lt
  clear h
  go_enter Tryz.func90, Tryz.ntmps90
  go_wp2_with fail
  refine (opts_any B l _ (unhide HR) (by omega)).mono ?_
  rintro e w1 ⟨hg1, hpost⟩
  cases hp : pieces l with
  | none =>
    rw [hp] at hpost
    simp only at hpost
    subst hpost
    exact ⟨rfl, all_panic 1 (optK_none l host file hp) (by omega) hg1⟩
  | some ps =>
    rw [hp] at hpost
    obtain ⟨v1, rfl, hown1⟩ := hpost
    obtain ⟨ao1, cp1, rfl⟩ := own_slice hown1
    have hps := heavy_pieces l.length l ps (Nat.le_refl _) hp
    have HA1 := hide (At.own hown1)
    have HG1 := hide hg1
    have hz1 := hg1.size
    have HP := hide hp
    have HAR := hide (areas_any ao1 cp1 ps host file w1 (unhide HA1) (by omega))
    clear hg1 hp hown1
    go_wp2_with fail
    refine (unhide HAR).mono ?_
    rintro e w2 ⟨hb2, harea⟩
    have HB2 := hide hb2
    have hz2 := hb2.size
    by_cases hbad : has ps 52 = true ∧ areaD (data ps 52) = false
    · rw [if_pos hbad.1, if_neg (by rw [hbad.2]; decide)] at harea
      subst harea
      exact ⟨rfl, all_panic 2 (optK_bad l host file ps (unhide HP) hbad.1 hbad.2) (by omega) (grown_below (unhide HG1) hb2)⟩
    · have hok : has ps 52 = true → areaD (data ps 52) = true := fun h1 => by
        by_cases h2 : areaD (data ps 52) = true
        · exact h2
        · exact absurd ⟨h1, by simpa using h2⟩ hbad
      have hcom : ∃ a2 c2, e = .returned (.slice a2 (strsOf ps host file).length c2) ∧ SA w2 a2 (strsOf ps host file) := by
        unfold strsOf
        by_cases h1 : has ps 52 = true
        · rw [if_pos h1, if_pos (hok h1)] at harea
          obtain ⟨v, rfl, hv⟩ := harea
          obtain ⟨a2, c2, rfl⟩ := own_slice hv
          rw [if_pos h1]
          exact ⟨a2, c2, rfl, SA.own hv⟩
        · rw [if_neg h1] at harea
          rw [if_neg h1]
          exact ⟨none, 0, harea, fun i hi => by simp at hi⟩
      obtain ⟨a2, c2, rfl, hsa⟩ := hcom
      have hsl := strs_le ps host file
      have HSM := hide (strs_mem ps host file 1048576 hh hf)
      have HK := hide (optK_some l host file ps (unhide HP) hok)
      have HLL := hide (fun m => optL_some l host file ps m (unhide HP))
      obtain ⟨ss, hss⟩ : ∃ ss, ss = strsOf ps host file := ⟨_, rfl⟩
      rw [← hss] at hsa hsl HSM HK HLL ⊢
      have HSA := hide hsa
      clear harea hb2 hbad hok hsa hss HAR
      go_wp2
      go_loopw [8, 21] (fun v8 i wr => ∃ (k : Nat) (ms : List Pc), k ≤ ss.length ∧ i = .int .i64 k ∧ heavy ms ≤ 1048576 * k ∧ Hid (moreAll ss = (moreAll (ss.drop k)).map fun x => ms ++ x) ∧ Hid (wr.ownsRow w2.heap.size 53 2 v8 ms.length (cellsO ms)) ∧ Hid (Below w2.heap.size w2 wr)) (fun _ i _ => ss.length - (intOf i).toNat)
      case atStart => exact ⟨0, [], Nat.zero_le _, rfl, by simp [heavy], hide (by simp), hide (World.ownsRow_nil _ _ _ _), hide (Below.refl _ _)⟩
      case round =>
        obtain ⟨k, ms, hk, rfl, hmh, HM, HO, HW⟩ := hrel
        rename World => wr
        have hmsl : ms.length ≤ heavy ms := by unfold heavy; omega
        have hwz := (unhide HW).size
        by_cases hlt : k < ss.length
        · obtain ⟨ad, rfl, c0⟩ := (unhide HSA).below (unhide HW) (Nat.le_refl _) k hlt
          have hsz := unhide HSM _ (List.getElem_mem hlt)
          obtain ⟨s, hs⟩ : ∃ s, s = ss[k] := ⟨_, rfl⟩
          rw [← hs] at c0 hsz
          have HMS := hide (moreAll_step ss k hlt ms)
          have HMN := hide (moreAll_no ss k hlt ms (unhide HM))
          rw [← hs] at HMS HMN
          have hRd : Rdr (wr.alloc (.cells #[.string s] 99)) wr.heap.size s.data.toList := by
            have q := heap_alloc_new wr (.cells #[.string s] 99)
            unfold Rdr
            rw [Rd.str_eta]
            exact q
          have HOP := hide (opts_any wr.heap.size s.data.toList _ hRd (by rw [Array.length_toList]; show s.size ≤ _; omega))
          have hhq : s.data.toList.length ≤ 1048576 := by rw [Array.length_toList]; exact hsz
          clear hRd hs
          go_wp2_with fail
          refine (unhide HOP).mono ?_
          rintro e w3 ⟨hg3, hpost⟩
          have hB3 : Below w2.heap.size w2 w3 := ((unhide HW).alloc hwz _).grown hg3 (by simp; omega) (fun x hx => by cases hx; omega)
          have hO3 := ((unhide HO).alloc (.cells #[.string s] 99)).kept hg3 (not_row (fun g hg e => by cases e; have := ((unhide HO).lt _ hg).2; omega))
          cases hp : pieces s.data.toList with
          | none =>
            rw [hp] at hpost
            simp only at hpost
            subst hpost
            refine ⟨rfl, all_panic 1 ?_ (by omega) (grown_below (grown_below (unhide HG1) (unhide HB2)) hB3)⟩
            rw [unhide HK, unhide HMN hp]
          | some qs =>
            rw [hp] at hpost
            obtain ⟨v3, rfl, hown3⟩ := hpost
            have hqh := heavy_pieces _ s.data.toList qs (Nat.le_refl _) hp
            have hqs : qs.length ≤ heavy qs := by unfold heavy; omega
            have HST := hide (unhide HMS qs (unhide HM) hp)
            have O3 := hide hO3
            have B3 := hide hB3
            have Q3 := hide hown3
            have hz3 := hB3.size
            clear hg3 hO3 hB3 HM HMS HMN hp HOP
            rcases own_cases hown3 with ⟨rfl, hq0⟩ | ⟨g3, cp3, rfl⟩
            · have hqn : qs = [] := List.eq_nil_of_length_eq_zero hq0
              subst hqn
              clear hown3
              go_wp2_with (at_builtin; refine wpList_append_own_none rfl (.tmp 27) (.tmp 28) 113 rfl w2.heap.size 53 i1 2 Tryz.underlying113 hj _ _ _ rfl (unhide O3) rfl ?_)
              obtain ⟨a8, c8, hv8⟩ := own_slice (unhide O3)
              subst hv8
              go_wp2
              go_roundw
              case rel => exact ⟨k + 1, ms, by omega, by go_num, by omega, hide (by have q := unhide HST; rwa [List.append_nil] at q), O3, B3⟩
              case measure => simp [intOf]; omega
            · have hcs := hown3.cells (g := g3) rfl
              have HCS := hide hcs
              have HLN := hide (cellsO_length qs)
              have hO3z := (unhide O3)
              clear hown3 hcs hO3z
              go_wp2_with (at_builtin; refine wpList_append_own _ rfl (.tmp 27) (.tmp 28) 113 rfl w2.heap.size 53 i1 (.agg #[.int .u8 0, .string ⟨#[]⟩]) 2 24 Tryz.underlying113 hj hy0 hy1 hy2 rfl (by decide) _ _ _ rfl (unhide O3) ⟨g3, 0, none⟩ qs.length cp3 (cellsO qs) rfl (unhide HLN) (unhide HCS) (cellsO_one _) ?h63 ?hby ?hba ?_)
              case h63 => simp only [maxLen]; omega
              case hby => omega
              case hba => omega
              · intro v' w4 hown4 hg4 _
                have hB4 : Below w2.heap.size w2 w4 := (unhide B3).grown hg4 hz3 (fun x hx => ((unhide O3).lt x hx).1)
                have hO4 : w4.ownsRow w2.heap.size 53 2 v' (ms ++ qs).length (cellsO (ms ++ qs)) := by rw [List.length_append, cellsO_append]; exact hown4
                obtain ⟨a8, c8, hv8⟩ := own_slice hown4
                have O4 := hide hO4
                have B4 := hide hB4
                clear hown4 hg4 hB4 hO4
                subst hv8
                go_wp2
                go_roundw
                case rel => exact ⟨k + 1, ms ++ qs, by omega, by go_num, by rw [heavy_append]; omega, HST, O4, B4⟩
                case measure => simp [intOf]; omega
        · have e0 : k = ss.length := by omega
          subst e0
          have hMA : moreAll ss = some ms := by
            refine (unhide HM).trans ?_
            rw [List.drop_length, moreAll]
            simp
          have HKK := hide (show optK l host.data.toList file.data.toList = if has ms 52 then 2 else 0 by rw [unhide HK, hMA])
          have HOL := hide (unhide HLL ms hMA)
          obtain ⟨a8, c8, hv8⟩ := own_slice (unhide HO)
          subst hv8
          have hmh2 : heavy ms ≤ 2097152 := by omega
          have HD := hide (data_52 a8 c8 ms wr (At.own (unhide HO)) (by omega))
          clear HM hMA HK HLL HSM HSA hmh
          go_wp2_with fail
          refine (unhide HD).mono ?_
          rintro e w5 ⟨rfl, hb5⟩
          have hB5 : Below w2.heap.size w2 w5 := (unhide HW).trans (hb5.mono hwz)
          have hO5 := own_below (unhide HO) hb5
          have B5 := hide hB5
          have O5 := hide hO5
          have hz5 := hB5.size
          clear hb5 hB5 hO5 HD HO
          by_cases hag : has ms 52 = true
          · rw [hag]
            go_wp2_with fail
            refine (must_else _ (by simp) _ _).mono ?_
            rintro e w6 ⟨rfl, rfl⟩
            refine ⟨rfl, all_panic 2 ?_ (by omega) (grown_below (grown_below (unhide HG1) (unhide HB2)) (unhide B5))⟩
            rw [unhide HKK, if_pos hag]
          · have hag' : has ms 52 = false := by simpa using hag
            have HK0 : Hid (optK l host.data.toList file.data.toList = 0) := hide (by rw [unhide HKK, if_neg hag])
            rw [hag']
            clear hag HKK
            go_wp2_with fail
            refine (must_if _ (by simp) _ _).mono ?_
            rintro e w6 ⟨rfl, rfl⟩
            have HWO := hide (without_52 ao1 cp1 ps w6 (((unhide HA1).below (unhide HB2) (Nat.le_refl _)).below (unhide B5) (Nat.le_refl _)) (by omega))
            go_wp2_with fail
            refine (unhide HWO).mono ?_
            rintro e w7 ⟨v7, rfl, hown7, hb7⟩
            have hdh := drop_heavy ps 52
            have hdl : (drop ps 52).length ≤ heavy (drop ps 52) := by unfold heavy; omega
            have hB7 : Below w2.heap.size w2 w7 := (unhide B5).trans (hb7.mono hz5)
            have hO7 := own_below (unhide O5) hb7
            have hz7 := hb7.size
            have O7 := hide hown7
            have Q7 := hide hO7
            have B7 := hide hB7
            clear hown7 hb7 hO7 hB7 HWO O5 B5
            rcases own_cases (unhide Q7) with ⟨hnil, hq0⟩ | ⟨g8, cp8, hsl8⟩
            · have hmn : ms = [] := List.eq_nil_of_length_eq_zero hq0
              subst hmn
              cases hnil
              go_wp2_with (at_builtin; refine wpList_append_own_none rfl (.tmp 40) (.tmp 41) 113 rfl w6.heap.size 53 i1 2 Tryz.underlying113 hj _ _ _ rfl (unhide O7) rfl ?_)
              have hO8 : w7.ownsRow w6.heap.size 53 2 v7 (drop ps 52 ++ []).length (cellsO (drop ps 52 ++ [])) := by rw [List.append_nil]; exact unhide O7
              obtain ⟨X, hX⟩ : ∃ X, X = drop ps 52 ++ [] := ⟨_, rfl⟩
              have hXh : heavy X ≤ 3145728 := by rw [hX, heavy_append]; simp only [heavy, List.length_nil, List.map_nil, List.sum_nil] at hdh hps ⊢; omega
              rw [← hX] at hO8 HOL
              clear hX
              obtain ⟨a10, c10, hv10⟩ := own_slice hO8
              subst hv10
              have HJN := hide (joined_any a10 c10 X w7 (At.own hO8) (by omega))
              go_wp2_with fail
              refine (unhide HJN).mono ?_
              rintro e w9 ⟨v9, rfl, hown9, hb9⟩
              obtain ⟨a11, c11, hv11⟩ := own_slice hown9
              subst hv11
              have O9 := hide hown9
              have B9 := hide ((unhide B7).trans (hb9.mono (by omega)))
              have hz9 : w.heap.size ≤ w7.heap.size := by omega
              clear hown9 hb9
              go_wp2
              go_ret
              refine ⟨grown_below (grown_below (unhide HG1) (unhide HB2)) (unhide B9), ?_⟩
              rw [unhide HK0, if_pos rfl, unhide HOL]
              exact ⟨_, rfl, own_mono (unhide O9) hz9⟩
            · cases hsl8
              have HCS := hide ((unhide Q7).cells (g := g8) rfl)
              have HLN := hide (cellsO_length ms)
              go_wp2_with (at_builtin; refine wpList_append_own _ rfl (.tmp 40) (.tmp 41) 113 rfl w6.heap.size 53 i1 (.agg #[.int .u8 0, .string ⟨#[]⟩]) 2 24 Tryz.underlying113 hj hy0 hy1 hy2 rfl (by decide) _ _ _ rfl (unhide O7) ⟨g8, 0, none⟩ ms.length _ (cellsO ms) rfl (unhide HLN) (unhide HCS) (cellsO_one _) ?h63 ?hby ?hba ?_)
              case h63 => simp only [maxLen]; omega
              case hby => omega
              case hba => omega
              · intro v10 w8 hown8 hg8 _
                have hB8 : Below w2.heap.size w2 w8 := (unhide B7).grown hg8 (by omega) (fun x hx => by have := ((unhide O7).lt x hx).1; omega)
                have hO8 : w8.ownsRow w6.heap.size 53 2 v10 (drop ps 52 ++ ms).length (cellsO (drop ps 52 ++ ms)) := by rw [List.length_append, cellsO_append]; exact hown8
                have hz8 := hg8.size
                have B8 := hide hB8
                clear hown8 hg8 hB8
                obtain ⟨X, hX⟩ : ∃ X, X = drop ps 52 ++ ms := ⟨_, rfl⟩
                have hXh : heavy X ≤ 3145728 := by rw [hX, heavy_append]; omega
                rw [← hX] at hO8 HOL
                clear hX
                obtain ⟨a10, c10, hv10⟩ := own_slice hO8
                subst hv10
                have HJN := hide (joined_any a10 c10 X w8 (At.own hO8) (by omega))
                go_wp2_with fail
                refine (unhide HJN).mono ?_
                rintro e w9 ⟨v9, rfl, hown9, hb9⟩
                obtain ⟨a11, c11, hv11⟩ := own_slice hown9
                subst hv11
                have O9 := hide hown9
                have B9 := hide ((unhide B8).trans (hb9.mono (by omega)))
                have hz9 : w.heap.size ≤ w8.heap.size := by omega
                clear hown9 hb9
                go_wp2
                go_ret
                refine ⟨grown_below (grown_below (unhide HG1) (unhide HB2)) (unhide B9), ?_⟩
                rw [unhide HK0, if_pos rfl, unhide HOL]
                exact ⟨_, rfl, own_mono (unhide O9) hz9⟩
end Go.Proofs.YtoifihhmneldeaaGreatDoor.Dh

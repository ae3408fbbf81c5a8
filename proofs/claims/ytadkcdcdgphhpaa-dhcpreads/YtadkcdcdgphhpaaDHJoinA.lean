import Derived.Test.YtadkcdcdgphhpaaDHData
import Derived.Deep.RegionLaw
namespace Go.Proofs.Ytadkcdcdgphhpaa.Dh
open Go.ChangeShapes Go.WideShapes Go.ChangeAt Go.RowKit Bs
set_option linter.unusedVariables false
set_option linter.unusedSimpArgs false

/-- 256 cells, each by its place -/
def rowV (f : Nat → Value) : Array Value := ((List.range 256).map f).toArray
def RowV (w : World) (b : Nat) (t : TypeId) (f : Nat → Value) : Prop := w.heap[b]? = some (.cells (rowV f) t (0, 0))
theorem RowV.cell {w : World} {b : Nat} {t : TypeId} {f : Nat → Value} (h : RowV w b t f) (k : Nat) (hk : k < 256) : w.cell? ⟨b, k, none⟩ = some (f k) := by
  rw [cell_of_row w b k _ _ _ h]
  simp [rowV, hk]
theorem RowV.free {w : World} {b : Nat} {t : TypeId} {f : Nat → Value} (h : RowV w b t f) (k : Nat) : w.frozen? ⟨b, k, none⟩ = false := frozen_of_row w b k _ _ h
theorem RowV.set {w : World} {b : Nat} {t : TypeId} {f : Nat → Value} (h : RowV w b t f) (k : Nat) (hk : k < 256) (v : Value) : RowV (w.setCell ⟨b, k, none⟩ v) b t (fun j => if j = k then v else f j) := by
  have q := heap_setCell_same w b k _ t v h
  unfold RowV
  rw [q]
  congr 2
  apply Array.ext'
  simp only [rowV, Array.set!_eq_setIfInBounds, Array.toList_setIfInBounds]
  apply List.ext_getElem?
  intro i
  rw [List.getElem?_set]
  by_cases hi : i < 256
  · by_cases e : k = i
    · subst e; simp [hk]
    · have e' : ¬ i = k := fun h => e h.symm
      simp [e, e', hi]
  · by_cases e : k = i
    · omega
    · simp [e, hi]
theorem RowV.kept {w w' : World} {b : Nat} {t : TypeId} {f : Nat → Value} (h : RowV w b t f) (hb : w'.heap[b]? = w.heap[b]?) : RowV w' b t f := hb.trans h
theorem RowV.lt {w : World} {b : Nat} {t : TypeId} {f : Nat → Value} (h : RowV w b t f) : b < w.heap.size := lt_of_block h
theorem RowV.same {w : World} {b : Nat} {t : TypeId} {f g : Nat → Value} (h : RowV w b t f) (e : ∀ j, j < 256 → f j = g j) : RowV w b t g := by
  unfold RowV at h ⊢
  rw [h]
  congr 2
  unfold rowV
  congr 1
  apply List.map_congr_left
  intro j hj
  exact e j (by simpa using hj)

/-- the codes of pieces, in the order of their first ones -/
structure Jl (ps : List Pc) (cs : List UInt8) : Prop where
  nodup : cs.Nodup
  mem : ∀ x, x ∈ cs ↔ has ps x = true
  all : addAll [] ps = cs.map fun c => (c, data ps c)
theorem Jl.nil : Jl [] [] := ⟨List.nodup_nil, fun x => by simp [has], rfl⟩
theorem data_snoc (ps : List Pc) (p : Pc) (c : UInt8) : data (ps ++ [p]) c = data ps c ++ (if p.1 = c then p.2 else []) := by
  simp only [data, List.filter_append, List.flatMap_append]
  congr 1
  by_cases e : p.1 = c
  · simp [e]
  · simp [e, List.filter_cons]
theorem has_snoc (ps : List Pc) (p : Pc) (c : UInt8) : has (ps ++ [p]) c = (has ps c || p.1 == c) := by
  simp only [has, List.any_append, List.any_cons, List.any_nil, Bool.or_false]
theorem add_in (cs : List UInt8) (f g : UInt8 → List UInt8) (x : UInt8) (d : List UInt8) (hn : cs.Nodup) (hx : x ∈ cs) (hg : ∀ c, g c = if x = c then f c ++ d else f c) :
    add (cs.map fun c => (c, f c)) (x, d) = cs.map fun c => (c, g c) := by
  induction cs with
  | nil => cases hx
  | cons a r ih =>
    rw [List.nodup_cons] at hn
    simp only [List.map_cons, add]
    by_cases e : a = x
    · subst e
      rw [if_pos rfl, hg a, if_pos rfl]
      congr 1
      apply List.map_congr_left
      intro c hc
      have : ¬ a = c := fun e => hn.1 (e ▸ hc)
      rw [hg c, if_neg this]
    · rw [if_neg e, hg a, if_neg (fun h => e h.symm)]
      congr 1
      exact ih hn.2 ((List.mem_cons.1 hx).resolve_left (fun h => e h.symm))
theorem add_out (cs : List UInt8) (f g : UInt8 → List UInt8) (x : UInt8) (d : List UInt8) (hx : ¬ x ∈ cs) (hg : ∀ c, ¬ x = c → g c = f c) (hd : g x = d) :
    add (cs.map fun c => (c, f c)) (x, d) = (cs ++ [x]).map fun c => (c, g c) := by
  induction cs with
  | nil => simp [add, hd]
  | cons a r ih =>
    have ha : ¬ a = x := fun e => hx (by simp [e])
    simp only [List.map_cons, add, List.cons_append]
    rw [if_neg ha, hg a (fun h => ha h.symm)]
    congr 1
    exact ih (fun h => hx (List.mem_cons_of_mem _ h))
theorem Jl.step {ps : List Pc} {cs : List UInt8} (h : Jl ps cs) (x : UInt8) (d : List UInt8) (hx : has ps x = true) : Jl (ps ++ [(x, d)]) cs := by
  refine ⟨h.nodup, fun y => ?_, ?_⟩
  · rw [has_snoc, h.mem y]
    by_cases e : x = y
    · subst e; simp [hx]
    · simp [e]
  · rw [addAll_append, h.all]
    exact add_in cs (data ps) (data (ps ++ [(x, d)])) x d h.nodup ((h.mem x).2 hx) (fun c => by
      rw [data_snoc]
      by_cases e : x = c <;> simp [e])
theorem Jl.more {ps : List Pc} {cs : List UInt8} (h : Jl ps cs) (x : UInt8) (d : List UInt8) (hx : has ps x = false) : Jl (ps ++ [(x, d)]) (cs ++ [x]) := by
  have hxc : ¬ x ∈ cs := fun e => by rw [(h.mem x).1 e] at hx; cases hx
  refine ⟨?_, fun y => ?_, ?_⟩
  · rw [List.nodup_append]
    refine ⟨h.nodup, by simp, fun a ha b hb => ?_⟩
    simp at hb
    subst hb
    exact fun e => hxc (e ▸ ha)
  · rw [has_snoc, List.mem_append, h.mem y]
    by_cases e : x = y
    · subst e; simp
    · have : ¬ y = x := fun h => e h.symm
      simp [e, this]
  · rw [addAll_append, h.all]
    exact add_out cs (data ps) (data (ps ++ [(x, d)])) x d hxc (fun c hc => by rw [data_snoc]; simp [hc]) (by rw [data_snoc, data_no ps x hx]; simp)

theorem string_at {P : Program} {w w' : World} {v v' : Value} {base n : Nat} {xs : List Value} {t u ty e : TypeId} {i : TypeInfo} {s : ByteArray}
    (ht : P.underlying t = some (.slice e)) (hu : P.underlying u = some .string) (hi : P.info? e = some i) (hz : i.zero = some (.int .u8 0)) (hsize : i.size = 1) (hby : i.bytes = 1)
    (hown : w.ownsRow base e 1 v n xs) (h63 : n + s.size ≤ maxLen) (hbytes : n + s.size ≤ 140737488355328)
    (hr : (Builtin.append_ #[t, u] ty #[v, .string s]).run P w = .ok v' w') : v'.ownBlock = v.ownBlock ∨ ∀ g, v'.ownBlock = some g → w.heap.size ≤ g := by
  have hcl := fun g hg => hown.cells (g := g) hg
  have hxl := hown.1
  rcases hown.2 with ⟨rfl, hn⟩ | ⟨g, cap, cur, rfl, _, hg, hnc, hcm, hcs, _⟩
  · right
    obtain ⟨v2, w2, hr2, h2, _, _⟩ := Lib.run_append_own_string (P := P) w w.heap.size t u ty e i ht hu hi hz hsize hby (.slice none 0 0) 0 [] (World.ownsRow_nil _ _ _ _) s (by omega) (by omega) (Nat.le_refl _)
    rw [hr] at hr2
    cases hr2
    exact fun g hg => (h2.lt g hg).1
  · by_cases hroom : n + s.size ≤ cap
    · left
      have hr2 := Lib.run_append_room_string (P := P) w t u ty e i ht hu hi hsize g n cap cur hg s hroom (by rw [hcs]; omega)
      rw [hr] at hr2
      cases hr2
      rfl
    · right
      unfold maxLen at h63
      have hr2 := Lib.run_append_grow_string (P := P) w t u ty e i (.int .u8 0) ht hu hi hz ⟨g, 0, none⟩ n cap xs (by rw [hsize]; simpa using hxl) (hcl g rfl) s (by omega) (by omega) (by rw [hby]; exact growslice_fits (by omega) (by omega))
      rw [hr] at hr2
      cases hr2
      intro g' hg'
      simp [Value.ownBlock] at hg'
      omega

theorem step_append_own_string {P : Program} {ops : Array Oper} {o : Oper} {a : Act} {w : World} {K : Act → World → Prop} {Q : Exit → Act → World → Prop} {E : Prop}
    (hg : o.guard = none) (sl x : Operand) (t u : TypeId) (ho : o.op = .call { callee := .builtin .append, args := #[sl, x], argTypes := #[t, u] })
    (base : Nat) (e : TypeId) (i : TypeInfo) (ht : P.underlying t = some (.slice e)) (hu : P.underlying u = some .string) (hi : P.info? e = some i) (hz : i.zero = some (.int .u8 0))
    (hsize : i.size = 1) (hby : i.bytes = 1)
    (v : Value) (n : Nat) (xs : List Value) (hs : a.eval sl = v) (hown : w.ownsRow base e 1 v n xs) (s : ByteArray) (hx : a.eval x = .string s)
    (h63 : n + s.size ≤ maxLen) (hbytes : n + s.size ≤ 140737488355328) (hbase : base ≤ w.heap.size)
    (hK : ∀ v' w', w'.ownsRow base e 1 v' (n + s.size) (xs ++ Lib.strCells s) → w.grownBy w' v.ownBlock → (v'.ownBlock = v.ownBlock ∨ ∀ g, v'.ownBlock = some g → w.heap.size ≤ g) → K (a.put o.dst v') w') :
    if Region.wanted o (yielded ops a.tmps) = true then Oper.wp P o a w K Q else E := by
  have hw : Region.wanted o (yielded ops a.tmps) = true := by simp [Region.wanted, hg]
  rw [if_pos hw]
  obtain ⟨v', w', hr, h2, h3, h4⟩ := Lib.run_append_own_string (P := P) w base t u o.type e i ht hu hi hz hsize hby v n xs hown s h63 hbytes hbase
  unfold Oper.wp execOp
  simp only [ho, resolve, invoke, builtin, Sem.run_bind, Sem.run_pure, Result.andThen_ok, List.map_toArray, List.map_cons, List.map_nil, hs, hx, hr]
  exact hK v' w' h2 h3 (string_at ht hu hi hz hsize hby hown h63 hbytes hr)
end Go.Proofs.Ytadkcdcdgphhpaa.Dh

import Derived.Test.YtoifihhmneldeaaDoorBase
import Derived.Lib.FrozenHead
namespace Go.Proofs.YtoifihhmneldeaaDoor.Om
open Go.ChangeShapes Go.WideShapes Go.ChangeAt Go.RowKit Bs
set_option linter.unusedVariables false

/-- one store after another into a row, none of whose cells behind the first place is frozen -/
theorem stores_at (P : Program) (g o : Nat) (t : TypeId) (fz : Nat × Nat) : ∀ (vs : List Value) (i : Nat) (cur : Array Value) (w : World), w.heap[g]? = some (.cells cur t fz) → (fz.2 ≤ o + i ∨ cur.size ≤ fz.1) → o + i + vs.length ≤ cur.size → (∀ v ∈ vs, v.oneCell' = true) →
    (storeCells ⟨g, o, none⟩ vs i).run P w = .ok () (w.setRow g (cur.toList.take (o + i) ++ vs ++ cur.toList.drop (o + i + vs.length)).toArray)
  | [], i, cur, w, hg, _, _, _ => by
    simp only [storeCells, List.append_nil, List.length_nil, Nat.add_zero, List.take_append_drop, Array.toArray_toList]
    rw [setRow_self w g cur t fz hg]
    rfl
  | v :: rest, i, cur, w, hg, hfz, hl, h1 => by
    have hi : o + i < cur.size := by simp at hl; omega
    have hcell : w.cell? ⟨g, o + i, none⟩ = some cur[o + i] := by simp [World.cell?, hg, hi]
    have hfro : w.frozen? ⟨g, o + i, none⟩ = false := by
      obtain ⟨lo, hi'⟩ := fz
      simp only [World.frozen?, hg, Bool.and_eq_false_iff, decide_eq_false_iff_not]
      simp only at hfz
      omega
    have hadd : (⟨g, o, none⟩ : Addr).add i = ⟨g, o + i, none⟩ := by unfold Addr.add; split <;> simp_all
    have hst : (store ((⟨g, o, none⟩ : Addr).add i) v).run P w = .ok () (w.setRow g (cur.setIfInBounds (o + i) v)) := by
      rw [hadd, run_store P w _ v _ (h1 v (by simp)), hcell]
      simp [hfro, setCell_eq_setRow w g (o + i) cur t fz v hg]
    have ih := stores_at P g o t fz rest (i + 1) (cur.setIfInBounds (o + i) v) (w.setRow g (cur.setIfInBounds (o + i) v)) (setRow_heap w g cur _ t _ hg) (by rcases hfz with q | q; exact Or.inl (by omega); exact Or.inr (by simpa using q)) (by simp at hl ⊢; omega) (fun x hx => h1 x (by simp [hx]))
    simp only [storeCells, Sem.run_bind, hst, Result.andThen_ok, ih, setRow_setRow]
    congr 3
    have e := list_seg_step cur.toList (o + i) v rest (by simp at hl ⊢; omega)
    simpa [Array.toList_setIfInBounds, Nat.add_assoc] using e

/-- bytes that a slice owns; no place of its room is frozen -/
def Has (w : World) (base : Nat) (e : TypeId) (v : Value) (L : List UInt8) : Prop :=
  ∃ g cap cur fz, v = .slice (some ⟨g, 0, none⟩) L.length cap ∧ base ≤ g ∧ w.heap[g]? = some (.cells cur e fz) ∧ (fz.2 ≤ L.length ∨ cur.size ≤ fz.1) ∧ L.length ≤ cap ∧ cap ≤ maxLen ∧ cur.size = cap ∧ cur.toList.take L.length = cells8 L

theorem Has.cells {w : World} {base : Nat} {e : TypeId} {v : Value} {L : List UInt8} (h : Has w base e v L) : ∃ g cap, v = .slice (some ⟨g, 0, none⟩) L.length cap ∧ base ≤ g ∧ g < w.heap.size ∧ ∀ j u, (cells8 L)[j]? = some u → w.cell? ((⟨g, 0, none⟩ : Addr).add j) = some u := by
  obtain ⟨g, cap, cur, fz, rfl, hb, hg, hfz, hn, hm, hs, ht⟩ := h
  refine ⟨g, cap, rfl, hb, (Array.getElem?_eq_some_iff.1 hg).1, fun j u hu => ?_⟩
  rw [add_lit', cell_of_row w g j cur e fz hg]
  rw [← ht, List.getElem?_take] at hu
  split at hu
  · simpa using hu
  · cases hu

theorem Has.kept {w w' : World} {base B : Nat} {e : TypeId} {v : Value} {L : List UInt8} (h : Has w base e v L) (hb : Below B w w') (hB : ∀ g, v.ownBlock = some g → g < B) : Has w' base e v L := by
  obtain ⟨g, cap, cur, fz, rfl, h1, hg, rest⟩ := h
  exact ⟨g, cap, cur, fz, rfl, h1, by rw [hb.block g (hB g rfl)]; exact hg, rest⟩

/-- what a text turned into bytes is -/
theorem of_string {P : Program} (w : World) (src dst e : TypeId) (s : ByteArray) (hs : P.underlying src = some .string) (hd : P.underlying dst = some (.slice e)) (he : P.underlying e = some (.int .u8)) (hm : s.size ≤ maxLen) :
    ∃ v w', (convert src dst (.string s)).run P w = .ok v w' ∧ Has w' w.heap.size e v s.data.toList ∧ w.grownBy w' none := by
  refine ⟨_, _, run_bytes_of_string w src dst e s hs hd he, ?_, ?_⟩
  · have hl : s.data.toList.length = s.size := by rw [Array.length_toList]; rfl
    have hge := grownCap_ge w s.size 0 e
    have hz : (bytesRow s (grownCap w s.size 0 e)).size = grownCap w s.size 0 e := by
      simp only [bytesRow, Array.size_append, Array.size_map, Array.size_replicate]
      have : s.data.size = s.size := rfl
      omega
    refine ⟨w.heap.size, grownCap w s.size 0 e, bytesRow s (grownCap w s.size 0 e), _, by rw [hl], Nat.le_refl _, heap_alloc_new w.drew _, Or.inr (Nat.le_refl _), by rw [hl]; exact hge, grownCap_le_maxLen w s.size 0 e hm, hz, ?_⟩
    rw [hl, bytesRow, Array.toList_append, Array.toList_map]
    have : (cells8 s.data.toList).length = s.size := by rw [cells8_length, hl]
    rw [← this]
    exact List.take_left
  · exact ⟨rfl, rfl, rfl, by simp, fun k hk _ => heap_alloc_old w.drew _ hk⟩

/-- an append onto such bytes -/
theorem append {P : Program} (w : World) (base : Nat) (t ty e : TypeId) (i : TypeInfo) (ht : P.underlying t = some (.slice e)) (hi : P.info? e = some i) (hz : i.zero = some (.int .u8 0)) (hsize : i.size = 1) (hby : i.bytes = 1)
    (v : Value) (L M : List UInt8) (hown : Has w base e v L) (a : Addr) (c : Nat) (hnews : ∀ j u, (cells8 M)[j]? = some u → w.cell? (a.add j) = some u)
    (hb : L.length + M.length ≤ 140737488355328) (hbase : base ≤ w.heap.size) :
    ∃ v' w', (Builtin.append_ #[t, t] ty #[v, .slice (some a) M.length c]).run P w = .ok v' w' ∧ Has w' base e v' (L ++ M) ∧ w.grownBy w' v.ownBlock := by
  obtain ⟨g, cap, cur, fz, rfl, h1, hg, hfz, hn, hm, hcs, htk⟩ := hown
  have hl : (cells8 M).length = M.length * i.size := by rw [cells8_length, hsize, Nat.mul_one]
  have hf := run_firstCells_some (P := P) w i.size M.length a M.length c (cells8 M) hl hnews
  have hxl : (cells8 L).length = L.length := cells8_length L
  by_cases hroom : L.length + M.length ≤ cap
  · have hst := stores_at P g (L.length * i.size) e fz (cells8 M) 0 cur w hg (by rw [hsize, Nat.mul_one]; simpa using hfz) (by rw [hsize, Nat.mul_one, cells8_length]; omega) (cells8_one M)
    simp only [Nat.add_zero] at hst
    refine ⟨.slice (some ⟨g, 0, none⟩) (L.length + M.length) cap, w.setRow g (cur.toList.take (L.length * i.size) ++ cells8 M ++ cur.toList.drop (L.length * i.size + (cells8 M).length)).toArray, ?_, ?_, ?_⟩
    · simp [Builtin.append_, run_underlying ht, sizeOf, typeInfo, hi, Builtin.lenOf, hroom, hf, Addr.add_lit, hst]
    · refine ⟨g, cap, _, fz, by rw [List.length_append], h1, setRow_heap w g cur _ e _ hg, ?_, by rw [List.length_append]; exact hroom, hm, ?_, ?_⟩
      · rcases hfz with q | q
        · exact Or.inl (by rw [List.length_append]; omega)
        · refine Or.inr ?_
          simp only [List.size_toArray, List.length_append, List.length_take, List.length_drop, Array.length_toList, cells8_length, hsize]
          omega
      · simp only [List.size_toArray, List.length_append, List.length_take, List.length_drop, Array.length_toList, cells8_length, hsize]
        omega
      · simp only [hsize, Nat.mul_one]
        rw [htk, cells8_append]
        have : (cells8 L ++ cells8 M).length = (L ++ M).length := by rw [List.length_append, List.length_append, cells8_length, cells8_length]
        rw [← this]
        exact List.take_left
    · exact ⟨rfl, rfl, rfl, by simp, fun k _ hk => setRow_other w g k _ (fun e => hk (by simp [Value.ownBlock, e]))⟩
  · have hH : Has w base e (.slice (some ⟨g, 0, none⟩) L.length cap) L := ⟨g, cap, cur, fz, rfl, h1, hg, hfz, hn, hm, hcs, htk⟩
    obtain ⟨g', cap', hv, _, _, hc⟩ := hH.cells
    obtain ⟨rfl, rfl⟩ : g = g' ∧ cap = cap' := by simpa using hv
    have h63 : L.length + M.length ≤ maxLen := by simp only [maxLen]; omega
    have hr := run_append_grow (P := P) w t ty e i (.int .u8 0) ht hi hz ⟨g, 0, none⟩ L.length cap (cells8 L) (by rw [cells8_length, hsize, Nat.mul_one]) hc a M.length c (cells8 M) hl hnews (by omega) (by omega) (growslice_fits (by omega) (by rw [hby]; omega))
    have hge := grownCap_ge w (L.length + M.length) cap e
    refine ⟨_, _, hr, ⟨w.heap.size, _, _, (0, 0), by rw [List.length_append], hbase, heap_alloc_new w.drew _, Or.inl (Nat.zero_le _), by rw [List.length_append]; exact hge, grownCap_le_maxLen w (L.length + M.length) cap e h63, ?_, ?_⟩, ⟨rfl, rfl, rfl, by simp, fun k hk _ => heap_alloc_old w.drew _ hk⟩⟩
    · have hz1 : (Value.int IntKind.u8 0).cells.size = 1 := rfl
      simp only [Array.size_append, List.size_toArray, size_zeroCells, hz1, cells8_length]
      omega
    · simp only [Array.toList_append, List.append_assoc]
      rw [← List.append_assoc, ← cells8_append]
      have : (cells8 (L ++ M)).length = (L ++ M).length := cells8_length _
      rw [← this]
      exact List.take_left

theorem wp_append {P : Program} (w : World) {o : Oper} {a : Act} {K : Act → World → Prop} {Q : Exit → Act → World → Prop} (s x : Operand) (t : TypeId)
    (ho : o.op = .call { callee := .builtin .append, args := #[s, x], argTypes := #[t, t] })
    (base : Nat) (e : TypeId) (i : TypeInfo) (ht : P.underlying t = some (.slice e)) (hi : P.info? e = some i) (hz : i.zero = some (.int .u8 0)) (hsize : i.size = 1) (hby : i.bytes = 1)
    (v : Value) (L M : List UInt8) (hs : a.eval s = v) (hown : Has w base e v L) (ad : Addr) (m c : Nat) (hM : M.length = m) (hx : a.eval x = .slice (some ad) m c) (hnews : ∀ j u, (cells8 M)[j]? = some u → w.cell? (ad.add j) = some u)
    (hb : L.length + M.length ≤ 140737488355328) (hbase : base ≤ w.heap.size)
    (h : ∀ v' w', Has w' base e v' (L ++ M) → w.grownBy w' v.ownBlock → K (a.put o.dst v') w') : o.wp P a w K Q := by
  subst hM
  obtain ⟨v', w', hr, h2, h3⟩ := append (P := P) w base t o.type e i ht hi hz hsize hby v L M hown ad c hnews hb hbase
  unfold Oper.wp execOp
  simp only [ho, resolve, invoke, builtin, Sem.run_bind, Sem.run_pure, Result.andThen_ok, List.map_toArray, List.map_cons, List.map_nil, hs, hx, hr]
  exact h v' w' h2 h3

theorem step_append {P : Program} {ops : Array Oper} {o : Oper} {a : Act} {w : World} {K : Act → World → Prop} {Q : Exit → Act → World → Prop} {E : Prop}
    (hg : o.guard = none) (s x : Operand) (t : TypeId) (hop : o.op = Op.call { callee := Callee.builtin Builtin.append, args := #[s, x], argTypes := #[t, t] })
    (base : Nat) (e : TypeId) (i : TypeInfo) (ht : P.underlying t = some (.slice e)) (hi : P.info? e = some i) (hz : i.zero = some (.int .u8 0)) (hsize : i.size = 1) (hby : i.bytes = 1)
    (v : Value) (L M : List UInt8) (hs : a.eval s = v) (hown : Has w base e v L) (ad : Addr) (m c : Nat) (hM : M.length = m) (hx : a.eval x = .slice (some ad) m c) (hnews : ∀ j u, (cells8 M)[j]? = some u → w.cell? (ad.add j) = some u)
    (hb : L.length + M.length ≤ 140737488355328) (hbase : base ≤ w.heap.size)
    (hK : ∀ v' w', Has w' base e v' (L ++ M) → w.grownBy w' v.ownBlock → K (a.put o.dst v') w') :
    if Region.wanted o (yielded ops a.tmps) = true then Oper.wp P o a w K Q else E := by
  have hw : Region.wanted o (yielded ops a.tmps) = true := by simp [Region.wanted, hg]
  rw [if_pos hw]
  exact wp_append w s x t hop base e i ht hi hz hsize hby v L M hs hown ad m c hM hx hnews hb hbase hK

theorem wpList_append {P : Program} (w : World) {ops : Array Oper} {rest : List Oper} {o : Oper} {a : Act} {Q : Exit → Act → World → Prop} (hgd : o.guard = none) (s x : Operand) (t : TypeId)
    (ho : o.op = .call { callee := .builtin .append, args := #[s, x], argTypes := #[t, t] })
    (base : Nat) (e : TypeId) (i : TypeInfo) (ht : P.underlying t = some (.slice e)) (hi : P.info? e = some i) (hz : i.zero = some (.int .u8 0)) (hsize : i.size = 1) (hby : i.bytes = 1)
    (v : Value) (L M : List UInt8) (hs : a.eval s = v) (hown : Has w base e v L) (ad : Addr) (m c : Nat) (hM : M.length = m) (hx : a.eval x = .slice (some ad) m c) (hnews : ∀ j u, (cells8 M)[j]? = some u → w.cell? (ad.add j) = some u)
    (hb : L.length + M.length ≤ 140737488355328) (hbase : base ≤ w.heap.size)
    (h : ∀ v' w', Has w' base e v' (L ++ M) → w.grownBy w' v.ownBlock → wpList P ops Q rest (a.put o.dst v') w') : wpList P ops Q (o :: rest) a w :=
  wpList_plain hgd fun _ hK => wp_append w s x t ho base e i ht hi hz hsize hby v L M hs hown ad m c hM hx hnews hb hbase fun v' w' h2 h3 => hK _ _ (h v' w' h2 h3)

theorem Has.alloc {w : World} {base : Nat} {e : TypeId} {v : Value} {L : List UInt8} (h : Has w base e v L) (o : Obj) : Has (w.alloc o) base e v L := by
  obtain ⟨g, cap, cur, fz, rfl, h1, hg, rest⟩ := h
  exact ⟨g, cap, cur, fz, rfl, h1, by rw [Below.heap_alloc _ _ _ (Array.getElem?_eq_some_iff.1 hg).1]; exact hg, rest⟩
theorem Has.lt {w : World} {base : Nat} {e : TypeId} {v : Value} {L : List UInt8} (h : Has w base e v L) : ∀ x, v.ownBlock = some x → base ≤ x ∧ x < w.heap.size := by
  obtain ⟨g, cap, cur, fz, rfl, h1, hg, rest⟩ := h
  intro x hx
  simp [Value.ownBlock] at hx
  subst hx
  exact ⟨h1, (Array.getElem?_eq_some_iff.1 hg).1⟩
/-- the bytes of a text, as the conversion lays them -/
theorem Has.bytes (w : World) (e : TypeId) (s : ByteArray) (hm : s.size ≤ maxLen) :
    Has (w.drew.alloc (.cells (bytesRow s (grownCap w s.size 0 e)) e ((bytesRow s (grownCap w s.size 0 e)).size, (bytesRow s (grownCap w s.size 0 e)).size + 1))) w.heap.size e (.slice (some ⟨w.heap.size, 0, none⟩) s.size (grownCap w s.size 0 e)) s.data.toList := by
  have hl : s.data.toList.length = s.size := by rw [Array.length_toList]; rfl
  have hge := grownCap_ge w s.size 0 e
  have hz : (bytesRow s (grownCap w s.size 0 e)).size = grownCap w s.size 0 e := by
    simp only [bytesRow, Array.size_append, Array.size_map, Array.size_replicate]
    have : s.data.size = s.size := rfl
    omega
  refine ⟨w.heap.size, grownCap w s.size 0 e, bytesRow s (grownCap w s.size 0 e), _, by rw [hl], Nat.le_refl _, heap_alloc_new w.drew _, Or.inr (Nat.le_refl _), by rw [hl]; exact hge, grownCap_le_maxLen w s.size 0 e hm, hz, ?_⟩
  rw [hl, bytesRow, Array.toList_append, Array.toList_map]
  have : (cells8 s.data.toList).length = s.size := by rw [cells8_length, hl]
  rw [← this]
  exact List.take_left

/-- as a text -/
theorem Has.string {P : Program} {w : World} {base : Nat} {e : TypeId} {v : Value} {L : List UInt8} (h : Has w base e v L) (src dst : TypeId) (hs : P.underlying src = some (.slice e)) (he : P.underlying e = some (.int .u8)) (hd : P.underlying dst = some .string) :
    (convert src dst v).run P w = .ok (.string ⟨L.toArray⟩) w := by
  obtain ⟨g, cap, rfl, _, _, hc⟩ := h.cells
  exact run_convert_bytes_back w _ _ e ⟨g, 0, none⟩ cap L hs he hd (fun j hj => hc j _ (by simp [cells8, hj]))
end Go.Proofs.YtoifihhmneldeaaDoor.Om

import Derived.Test.YtonlmklkikbeiaaGreatDoorMgBase
import Derived.Lib.FrozenHead
import Derived.Test.YtonlmklkikbeiaaGreatDoorRows
import Derived.WalkKit
import Derived.ProofKit
import Derived.WalkSpells
import Derived.WalkLawsBesides
import Derived.Outline
import Derived.OneCell
import Derived.Laws.BitsAllLaws
import Derived.Deep.QuietTactic
import Derived.BigQuiet
import Derived.Deep.LoopGhost
import Derived.Deep.RegionWith
import Derived.Deep.CutRange
import Derived.Deep.DeepCutAuto
namespace Go.Proofs.YtonlmklkikbeiaaGreatDoor.Om
open Go.ChangeShapes Go.WideShapes Go.ChangeAt Go.RowKit Bs
set_option linter.unusedVariables false

/-- one store after another into a row, none of whose cells behind the first place is frozen -/
theorem stores_at (P : Program) (g o : Nat) (t : TypeId) (fz : Nat × Nat) : ∀ (vs : List Value) (i : Nat) (cur : Array Value) (w : World), w.heap[g]? = some (.cells cur t fz) → (fz.2 ≤ o + i ∨ cur.size ≤ fz.1) → o + i + vs.length ≤ cur.size → (∀ v ∈ vs, v.oneCell' = true) →
    (storeCells ⟨g, o, none⟩ vs i).run P w = .ok () (w.setRow g (cur.toList.take (o + i) ++ vs ++ cur.toList.drop (o + i + vs.length)).toArray)
  | [], i, cur, w, hg, _, _, _ => by
    simp only [storeCells, List.append_nil, List.length_nil, Nat.add_zero, List.take_append_drop, Array.toArray_toList]
    rw [setRow_self w g cur t fz hg]
    rfl
  | v :: rest, i, cur, w, hg, hfz, hl, h1 => by
    have hi : o + i < cur.size := by simp at hl; omega
    have hcell : w.cell? ⟨g, o + i, none⟩ = some cur[o + i] := by simp [World.cell?, hg, hi]
    have hfro : w.frozen? ⟨g, o + i, none⟩ = false := by
      obtain ⟨lo, hi'⟩ := fz
      simp only [World.frozen?, hg, Bool.and_eq_false_iff, decide_eq_false_iff_not]
      simp only at hfz
      omega
    have hadd : (⟨g, o, none⟩ : Addr).add i = ⟨g, o + i, none⟩ := by unfold Addr.add; split <;> simp_all
    have hst : (store ((⟨g, o, none⟩ : Addr).add i) v).run P w = .ok () (w.setRow g (cur.setIfInBounds (o + i) v)) := by
      rw [hadd, run_store P w _ v _ (h1 v (by simp)), hcell]
      simp [hfro, setCell_eq_setRow w g (o + i) cur t fz v hg]
    have ih := stores_at P g o t fz rest (i + 1) (cur.setIfInBounds (o + i) v) (w.setRow g (cur.setIfInBounds (o + i) v)) (setRow_heap w g cur _ t _ hg) (by rcases hfz with q | q; exact Or.inl (by omega); exact Or.inr (by simpa using q)) (by simp at hl ⊢; omega) (fun x hx => h1 x (by simp [hx]))
    simp only [storeCells, Sem.run_bind, hst, Result.andThen_ok, ih, setRow_setRow]
    congr 3
    have e := list_seg_step cur.toList (o + i) v rest (by simp at hl ⊢; omega)
    simpa [Array.toList_setIfInBounds, Nat.add_assoc] using e

/-- bytes that a slice owns; no place of its room is frozen -/
def Has (w : World) (base : Nat) (e : TypeId) (v : Value) (L : List UInt8) : Prop :=
  ∃ g cap cur fz, v = .slice (some ⟨g, 0, none⟩) L.length cap ∧ base ≤ g ∧ w.heap[g]? = some (.cells cur e fz) ∧ (fz.2 ≤ L.length ∨ cur.size ≤ fz.1) ∧ L.length ≤ cap ∧ cap ≤ maxLen ∧ cur.size = cap ∧ cur.toList.take L.length = cells8 L

theorem Has.cells {w : World} {base : Nat} {e : TypeId} {v : Value} {L : List UInt8} (h : Has w base e v L) : ∃ g cap, v = .slice (some ⟨g, 0, none⟩) L.length cap ∧ base ≤ g ∧ g < w.heap.size ∧ ∀ j u, (cells8 L)[j]? = some u → w.cell? ((⟨g, 0, none⟩ : Addr).add j) = some u := by
  obtain ⟨g, cap, cur, fz, rfl, hb, hg, hfz, hn, hm, hs, ht⟩ := h
  refine ⟨g, cap, rfl, hb, (Array.getElem?_eq_some_iff.1 hg).1, fun j u hu => ?_⟩
  rw [add_lit', cell_of_row w g j cur e fz hg]
  rw [← ht, List.getElem?_take] at hu
  split at hu
  · simpa using hu
  · cases hu

theorem Has.kept {w w' : World} {base B : Nat} {e : TypeId} {v : Value} {L : List UInt8} (h : Has w base e v L) (hb : Below B w w') (hB : ∀ g, v.ownBlock = some g → g < B) : Has w' base e v L := by
  obtain ⟨g, cap, cur, fz, rfl, h1, hg, rest⟩ := h
  exact ⟨g, cap, cur, fz, rfl, h1, by rw [hb.block g (hB g rfl)]; exact hg, rest⟩

/-- what a text turned into bytes is -/
theorem of_string {P : Program} (w : World) (src dst e : TypeId) (s : ByteArray) (hs : P.underlying src = some .string) (hd : P.underlying dst = some (.slice e)) (he : P.underlying e = some (.int .u8)) (hm : s.size ≤ maxLen) :
    ∃ v w', (convert src dst (.string s)).run P w = .ok v w' ∧ Has w' w.heap.size e v s.data.toList ∧ w.grownBy w' none := by
  refine ⟨_, _, run_bytes_of_string w src dst e s hs hd he, ?_, ?_⟩
  · have hl : s.data.toList.length = s.size := by rw [Array.length_toList]; rfl
    have hge := grownCap_ge w s.size 0 e
    have hz : (bytesRow s (grownCap w s.size 0 e)).size = grownCap w s.size 0 e := by
      simp only [bytesRow, Array.size_append, Array.size_map, Array.size_replicate]
      have : s.data.size = s.size := rfl
      omega
    refine ⟨w.heap.size, grownCap w s.size 0 e, bytesRow s (grownCap w s.size 0 e), _, by rw [hl], Nat.le_refl _, heap_alloc_new w.drew _, Or.inr (Nat.le_refl _), by rw [hl]; exact hge, grownCap_le_maxLen w s.size 0 e hm, hz, ?_⟩
    rw [hl, bytesRow, Array.toList_append, Array.toList_map]
    have : (cells8 s.data.toList).length = s.size := by rw [cells8_length, hl]
    rw [← this]
    exact List.take_left
  · exact ⟨rfl, rfl, rfl, by simp, fun k hk _ => heap_alloc_old w.drew _ hk⟩

/-- an append onto such bytes -/
theorem append {P : Program} (w : World) (base : Nat) (t ty e : TypeId) (i : TypeInfo) (ht : P.underlying t = some (.slice e)) (hi : P.info? e = some i) (hz : i.zero = some (.int .u8 0)) (hsize : i.size = 1) (hby : i.bytes = 1)
    (v : Value) (L M : List UInt8) (hown : Has w base e v L) (a : Addr) (c : Nat) (hnews : ∀ j u, (cells8 M)[j]? = some u → w.cell? (a.add j) = some u)
    (hb : L.length + M.length ≤ 140737488355328) (hbase : base ≤ w.heap.size) :
    ∃ v' w', (Builtin.append_ #[t, t] ty #[v, .slice (some a) M.length c]).run P w = .ok v' w' ∧ Has w' base e v' (L ++ M) ∧ w.grownBy w' v.ownBlock := by
  obtain ⟨g, cap, cur, fz, rfl, h1, hg, hfz, hn, hm, hcs, htk⟩ := hown
  have hl : (cells8 M).length = M.length * i.size := by rw [cells8_length, hsize, Nat.mul_one]
  have hf := run_firstCells_some (P := P) w i.size M.length a M.length c (cells8 M) hl hnews
  have hxl : (cells8 L).length = L.length := cells8_length L
  by_cases hroom : L.length + M.length ≤ cap
  · have hst := stores_at P g (L.length * i.size) e fz (cells8 M) 0 cur w hg (by rw [hsize, Nat.mul_one]; simpa using hfz) (by rw [hsize, Nat.mul_one, cells8_length]; omega) (cells8_one M)
    simp only [Nat.add_zero] at hst
    refine ⟨.slice (some ⟨g, 0, none⟩) (L.length + M.length) cap, w.setRow g (cur.toList.take (L.length * i.size) ++ cells8 M ++ cur.toList.drop (L.length * i.size + (cells8 M).length)).toArray, ?_, ?_, ?_⟩
    · simp [Builtin.append_, run_underlying ht, sizeOf, typeInfo, hi, Builtin.lenOf, hroom, hf, Addr.add_lit, hst]
    · refine ⟨g, cap, _, fz, by rw [List.length_append], h1, setRow_heap w g cur _ e _ hg, ?_, by rw [List.length_append]; exact hroom, hm, ?_, ?_⟩
      · rcases hfz with q | q
        · exact Or.inl (by rw [List.length_append]; omega)
        · refine Or.inr ?_
          simp only [List.size_toArray, List.length_append, List.length_take, List.length_drop, Array.length_toList, cells8_length, hsize]
          omega
      · simp only [List.size_toArray, List.length_append, List.length_take, List.length_drop, Array.length_toList, cells8_length, hsize]
        omega
      · simp only [hsize, Nat.mul_one]
        rw [htk, cells8_append]
        have : (cells8 L ++ cells8 M).length = (L ++ M).length := by rw [List.length_append, List.length_append, cells8_length, cells8_length]
        rw [← this]
        exact List.take_left
    · exact ⟨rfl, rfl, rfl, by simp, fun k _ hk => setRow_other w g k _ (fun e => hk (by simp [Value.ownBlock, e]))⟩
  · have hH : Has w base e (.slice (some ⟨g, 0, none⟩) L.length cap) L := ⟨g, cap, cur, fz, rfl, h1, hg, hfz, hn, hm, hcs, htk⟩
    obtain ⟨g', cap', hv, _, _, hc⟩ := hH.cells
    obtain ⟨rfl, rfl⟩ : g = g' ∧ cap = cap' := by simpa using hv
    have h63 : L.length + M.length ≤ maxLen := by simp only [maxLen]; omega
    have hr := run_append_grow (P := P) w t ty e i (.int .u8 0) ht hi hz ⟨g, 0, none⟩ L.length cap (cells8 L) (by rw [cells8_length, hsize, Nat.mul_one]) hc a M.length c (cells8 M) hl hnews (by omega) (by omega) (growslice_fits (by omega) (by rw [hby]; omega))
    have hge := grownCap_ge w (L.length + M.length) cap e
    refine ⟨_, _, hr, ⟨w.heap.size, _, _, (0, 0), by rw [List.length_append], hbase, heap_alloc_new w.drew _, Or.inl (Nat.zero_le _), by rw [List.length_append]; exact hge, grownCap_le_maxLen w (L.length + M.length) cap e h63, ?_, ?_⟩, ⟨rfl, rfl, rfl, by simp, fun k hk _ => heap_alloc_old w.drew _ hk⟩⟩
    · have hz1 : (Value.int IntKind.u8 0).cells.size = 1 := rfl
      simp only [Array.size_append, List.size_toArray, size_zeroCells, hz1, cells8_length]
      omega
    · simp only [Array.toList_append, List.append_assoc]
      rw [← List.append_assoc, ← cells8_append]
      have : (cells8 (L ++ M)).length = (L ++ M).length := cells8_length _
      rw [← this]
      exact List.take_left

theorem wp_append {P : Program} (w : World) {o : Oper} {a : Act} {K : Act → World → Prop} {Q : Exit → Act → World → Prop} (s x : Operand) (t : TypeId)
    (ho : o.op = .call { callee := .builtin .append, args := #[s, x], argTypes := #[t, t] })
    (base : Nat) (e : TypeId) (i : TypeInfo) (ht : P.underlying t = some (.slice e)) (hi : P.info? e = some i) (hz : i.zero = some (.int .u8 0)) (hsize : i.size = 1) (hby : i.bytes = 1)
    (v : Value) (L M : List UInt8) (hs : a.eval s = v) (hown : Has w base e v L) (ad : Addr) (m c : Nat) (hM : M.length = m) (hx : a.eval x = .slice (some ad) m c) (hnews : ∀ j u, (cells8 M)[j]? = some u → w.cell? (ad.add j) = some u)
    (hb : L.length + M.length ≤ 140737488355328) (hbase : base ≤ w.heap.size)
    (h : ∀ v' w', Has w' base e v' (L ++ M) → w.grownBy w' v.ownBlock → K (a.put o.dst v') w') : o.wp P a w K Q := by
  subst hM
  obtain ⟨v', w', hr, h2, h3⟩ := append (P := P) w base t o.type e i ht hi hz hsize hby v L M hown ad c hnews hb hbase
  unfold Oper.wp execOp
  simp only [ho, resolve, invoke, builtin, Sem.run_bind, Sem.run_pure, Result.andThen_ok, List.map_toArray, List.map_cons, List.map_nil, hs, hx, hr]
  exact h v' w' h2 h3

theorem step_append {P : Program} {ops : Array Oper} {o : Oper} {a : Act} {w : World} {K : Act → World → Prop} {Q : Exit → Act → World → Prop} {E : Prop}
    (hg : o.guard = none) (s x : Operand) (t : TypeId) (hop : o.op = Op.call { callee := Callee.builtin Builtin.append, args := #[s, x], argTypes := #[t, t] })
    (base : Nat) (e : TypeId) (i : TypeInfo) (ht : P.underlying t = some (.slice e)) (hi : P.info? e = some i) (hz : i.zero = some (.int .u8 0)) (hsize : i.size = 1) (hby : i.bytes = 1)
    (v : Value) (L M : List UInt8) (hs : a.eval s = v) (hown : Has w base e v L) (ad : Addr) (m c : Nat) (hM : M.length = m) (hx : a.eval x = .slice (some ad) m c) (hnews : ∀ j u, (cells8 M)[j]? = some u → w.cell? (ad.add j) = some u)
    (hb : L.length + M.length ≤ 140737488355328) (hbase : base ≤ w.heap.size)
    (hK : ∀ v' w', Has w' base e v' (L ++ M) → w.grownBy w' v.ownBlock → K (a.put o.dst v') w') :
    if Region.wanted o (yielded ops a.tmps) = true then Oper.wp P o a w K Q else E := by
  have hw : Region.wanted o (yielded ops a.tmps) = true := by simp [Region.wanted, hg]
  rw [if_pos hw]
  exact wp_append w s x t hop base e i ht hi hz hsize hby v L M hs hown ad m c hM hx hnews hb hbase hK

theorem wpList_append {P : Program} (w : World) {ops : Array Oper} {rest : List Oper} {o : Oper} {a : Act} {Q : Exit → Act → World → Prop} (hgd : o.guard = none) (s x : Operand) (t : TypeId)
    (ho : o.op = .call { callee := .builtin .append, args := #[s, x], argTypes := #[t, t] })
    (base : Nat) (e : TypeId) (i : TypeInfo) (ht : P.underlying t = some (.slice e)) (hi : P.info? e = some i) (hz : i.zero = some (.int .u8 0)) (hsize : i.size = 1) (hby : i.bytes = 1)
    (v : Value) (L M : List UInt8) (hs : a.eval s = v) (hown : Has w base e v L) (ad : Addr) (m c : Nat) (hM : M.length = m) (hx : a.eval x = .slice (some ad) m c) (hnews : ∀ j u, (cells8 M)[j]? = some u → w.cell? (ad.add j) = some u)
    (hb : L.length + M.length ≤ 140737488355328) (hbase : base ≤ w.heap.size)
    (h : ∀ v' w', Has w' base e v' (L ++ M) → w.grownBy w' v.ownBlock → wpList P ops Q rest (a.put o.dst v') w') : wpList P ops Q (o :: rest) a w :=
  wpList_plain hgd fun _ hK => wp_append w s x t ho base e i ht hi hz hsize hby v L M hs hown ad m c hM hx hnews hb hbase fun v' w' h2 h3 => hK _ _ (h v' w' h2 h3)

theorem Has.alloc {w : World} {base : Nat} {e : TypeId} {v : Value} {L : List UInt8} (h : Has w base e v L) (o : Obj) : Has (w.alloc o) base e v L := by
  obtain ⟨g, cap, cur, fz, rfl, h1, hg, rest⟩ := h
  exact ⟨g, cap, cur, fz, rfl, h1, by rw [Below.heap_alloc _ _ _ (Array.getElem?_eq_some_iff.1 hg).1]; exact hg, rest⟩
theorem Has.lt {w : World} {base : Nat} {e : TypeId} {v : Value} {L : List UInt8} (h : Has w base e v L) : ∀ x, v.ownBlock = some x → base ≤ x ∧ x < w.heap.size := by
  obtain ⟨g, cap, cur, fz, rfl, h1, hg, rest⟩ := h
  intro x hx
  simp [Value.ownBlock] at hx
  subst hx
  exact ⟨h1, (Array.getElem?_eq_some_iff.1 hg).1⟩
/-- the bytes of a text, as the conversion lays them -/
theorem Has.bytes (w : World) (e : TypeId) (s : ByteArray) (hm : s.size ≤ maxLen) :
    Has (w.drew.alloc (.cells (bytesRow s (grownCap w s.size 0 e)) e ((bytesRow s (grownCap w s.size 0 e)).size, (bytesRow s (grownCap w s.size 0 e)).size + 1))) w.heap.size e (.slice (some ⟨w.heap.size, 0, none⟩) s.size (grownCap w s.size 0 e)) s.data.toList := by
  have hl : s.data.toList.length = s.size := by rw [Array.length_toList]; rfl
  have hge := grownCap_ge w s.size 0 e
  have hz : (bytesRow s (grownCap w s.size 0 e)).size = grownCap w s.size 0 e := by
    simp only [bytesRow, Array.size_append, Array.size_map, Array.size_replicate]
    have : s.data.size = s.size := rfl
    omega
  refine ⟨w.heap.size, grownCap w s.size 0 e, bytesRow s (grownCap w s.size 0 e), _, by rw [hl], Nat.le_refl _, heap_alloc_new w.drew _, Or.inr (Nat.le_refl _), by rw [hl]; exact hge, grownCap_le_maxLen w s.size 0 e hm, hz, ?_⟩
  rw [hl, bytesRow, Array.toList_append, Array.toList_map]
  have : (cells8 s.data.toList).length = s.size := by rw [cells8_length, hl]
  rw [← this]
  exact List.take_left

/-- as a text -/
theorem Has.string {P : Program} {w : World} {base : Nat} {e : TypeId} {v : Value} {L : List UInt8} (h : Has w base e v L) (src dst : TypeId) (hs : P.underlying src = some (.slice e)) (he : P.underlying e = some (.int .u8)) (hd : P.underlying dst = some .string) :
    (convert src dst v).run P w = .ok (.string ⟨L.toArray⟩) w := by
  obtain ⟨g, cap, rfl, _, _, hc⟩ := h.cells
  exact run_convert_bytes_back w _ _ e ⟨g, 0, none⟩ cap L hs he hd (fun j hj => hc j _ (by simp [cells8, hj]))
end Go.Proofs.YtonlmklkikbeiaaGreatDoor.Om

namespace Go.Proofs.YtonlmklkikbeiaaGreatDoor.Hs
open Go.ChangeShapes Go.WideShapes Go.ChangeAt Go.RowKit Bs
set_option linter.unusedVariables false
set_option linter.unusedSimpArgs false

/-- how many bytes 0 fill a text up to 56 modulo 64 behind its mark -/
def fillN (n : Nat) : Nat := (119 - n % 64) % 64
/-- the first q of the eight bytes of a length in bits -/
def lenB (n q : Nat) : List UInt8 := (List.range q).map fun i => UInt8.ofNat (n * 8 / 2 ^ (56 - 8 * i) % 256)
theorem lenB_length (n q : Nat) : (lenB n q).length = q := by simp [lenB]
theorem lenB_next (n q : Nat) : lenB n (q + 1) = lenB n q ++ [UInt8.ofNat (n * 8 / 2 ^ (56 - 8 * q) % 256)] := by simp [lenB, List.range_succ]
/-- a text with its mark and so many bytes 0 -/
def padJ (l : List UInt8) (j : Nat) : List UInt8 := l ++ 128 :: List.replicate j 0
theorem padJ_length (l : List UInt8) (j : Nat) : (padJ l j).length = l.length + 1 + j := by simp [padJ]; omega
theorem padJ_next (l : List UInt8) (j : Nat) : padJ l (j + 1) = padJ l j ++ [0] := by simp [padJ, List.replicate_succ']
def endL (l : List UInt8) (n : Nat) : List UInt8 := padJ l (fillN l.length) ++ lenB n 8
theorem endL_length (l : List UInt8) (n : Nat) : ∃ m, (endL l n).length = 64 * m := by
  refine ⟨(l.length + 9 + fillN l.length) / 64, ?_⟩
  unfold endL
  rw [List.length_append, padJ_length, lenB_length]
  unfold fillN; omega
theorem info8' : (Tryz.prog.info? 5).map (fun i => (i.zero, i.size, i.bytes)) = some (some (.int .u8 0), 1, 1) := by kernel_rfl
theorem cells8_lit (x : UInt8) : cells8 [x] = [.int .u8 x.toNat] := rfl
theorem one_cell (w : World) (x : UInt8) (v : Value) (t : TypeId) (hv : v = .int .u8 x.toNat) : ∀ j u, (cells8 [x])[j]? = some u → (w.alloc (.cells #[v] t)).cell? ((⟨w.heap.size, 0, none⟩ : Addr).add j) = some u := by
  subst hv
  exact cell_new w [.int .u8 x.toNat] t

def slen : Value → Nat
  | .slice _ n _ => n
  | _ => 0
theorem has_slice {w : World} {base : Nat} {e : TypeId} {v : Value} {L : List UInt8} {n : Nat} (h : Om.Has w base e v L) (hn : L.length = n) : ∃ g cap, v = .slice (some ⟨g, 0, none⟩) n cap := by
  obtain ⟨g, cap, hv, _⟩ := h.cells
  exact ⟨g, cap, by rw [hv, hn]⟩
theorem fill_end (n j : Nat) (hj : j ≤ fillN n) : (n + 1 + j) % 64 = 56 ↔ j = fillN n := by unfold fillN at *; omega
theorem by_shift (n e : Nat) : ((UInt8.ofNat (n * 8 / 2 ^ e % 256)).toNat : Int) = (n : Int) * 8 / 2 ^ e % 256 := by
  generalize hp : 2 ^ e = p
  have hm : n * 8 / p % 256 < 256 := Nat.mod_lt _ (by decide)
  rw [UInt8.toNat_ofNat_of_lt' (by show _ < 256; exact hm)]
  have hp2 : (2 : Int) ^ e = (p : Int) := by rw [← hp]; push_cast; rfl
  rw [hp2, show (n : Int) * 8 = ((n * 8 : Nat) : Int) by omega]
  generalize n * 8 = m
  rw [← Int.natCast_ediv]
  omega

set_option maxHeartbeats 1000000 in
set_option maxRecDepth 10000 in
theorem ending_any (s : ByteArray) (l : List UInt8) (n : Nat) (w : World) (hsl : s.data.toList = l) (hl : l.length ≤ 1048576) (hn : n ≤ 1048576) :
    Calls Tryz.prog 53 #[.string s, .int .i64 n] w fun e w' => e = .returned (.string ⟨(endL l n).toArray⟩) ∧ Below w.heap.size w w' := by
  obtain ⟨i0, hi, hz0, hz1, hz2⟩ := info_parts info8'
  have hz : s.size = l.length := by rw [← hsl, Array.length_toList]; rfl
  have hcv := fun (w : World) => run_bytes_of_string (P := Tryz.prog) w 9 78 5 s Tryz.underlying9 Tryz.underlying78 Tryz.underlying5
  have HB0 := hide (fun (w : World) => Om.Has.bytes w 5 s (by simp only [maxLen]; omega))
  rw [hsl] at HB0
  have HSL := hide hsl
  have HZ := hide hz
  clear hsl hz
  obtain ⟨z, hzz⟩ : ∃ z, z = fillN l.length := ⟨_, rfl⟩
  have hz64 : z < 64 := by rw [hzz]; unfold fillN; omega
  have HFE : Hid (∀ j, j ≤ z → ((l.length + 1 + j) % 64 = 56 ↔ j = z)) := hide (fun j hj => by rw [hzz] at hj ⊢; exact fill_end _ _ hj)
  have HZZ := hide hzz
  clear hzz
  go_enter Tryz.func53, Tryz.ntmps53
  go_wp2_with (at_builtin; refine Om.wpList_append _ rfl (.tmp 9) (.tmp 10) 78 rfl w.heap.size 5 i0 Tryz.underlying78 hi hz0 hz1 hz2 _ l [128] rfl ((unhide HB0 w).alloc _) ⟨w.heap.size + 1, 0, none⟩ 1 1 rfl rfl ?c1 ?hb ?hba ?_)
  case c1 =>
    intro j u h
    have q := fun o => one_cell (w.alloc o) 128 (.int .u8 128) 5 rfl j u h
    simpa using q _
  case hb => simp; omega
  case hba => simp; omega
  intro v1 w1 hown hg
  have hB1 : Below w.heap.size w w1 := (((Below.refl _ w).alloc (Nat.le_refl _) _).alloc (by simp) _).drew.grown hg (by simp; omega) (fun x hx => by have := (unhide HB0 w).lt x hx; omega)
  have HV1 : Hid (Om.Has w1 w.heap.size 5 v1 (padJ l 0)) := hide hown
  have HB1 := hide hB1
  clear hown hg hB1 hcv HB0
  obtain ⟨g1, c1, rfl⟩ := has_slice (n := l.length + 1) (unhide HV1) (padJ_length l 0)
  go_wp2
  go_loopw [5] (fun v5 wr => ∃ j, j ≤ z ∧ Hid (Om.Has wr w.heap.size 5 v5 (padJ l j)) ∧ Hid (Below w.heap.size w wr)) (fun v5 _ => l.length + 100 - slen v5)
  case atStart => exact ⟨0, Nat.zero_le _, HV1, HB1⟩
  case round =>
    obtain ⟨j, hj, HO, HW⟩ := hrel
    rename World => wr
    have hwz := (unhide HW).size
    obtain ⟨g, cp, rfl⟩ := has_slice (unhide HO) (padJ_length l j)
    have hfe := unhide HFE j hj
    by_cases e : j = z
    · have q1 : (((l.length : Int) + 1 + (j : Int)) % 64 != 56) = false := by have := hfe.2 e; simp; omega
      have w1 : IntKind.u64.wrap (n : Int) = (n : Int) := by rw [IntKind.wrap_u64]; omega
      have w2 : IntKind.u64.wrap ((n : Int) * 8) = (n : Int) * 8 := by rw [IntKind.wrap_u64]; omega
      have HO8 : Hid (Om.Has wr w.heap.size 5 (.slice (some ⟨g, 0, none⟩) (l.length + 1 + j) cp) (padJ l z ++ lenB n 0)) := hide (by rw [← e]; simpa [lenB] using unhide HO)
      clear e hfe
      go_wp2
      go_loopw [5, 22] (fun v5 i wq => ∃ k : Nat, k ≤ 8 ∧ i = .int .i64 k ∧ Hid (Om.Has wq w.heap.size 5 v5 (padJ l z ++ lenB n k)) ∧ Hid (Below w.heap.size w wq)) (fun _ i _ => 8 - (intOf i).toNat)
      case atStart => exact ⟨0, by omega, rfl, HO8, HW⟩
      case round =>
        obtain ⟨k, hk, rfl, HQ, HV⟩ := hrel
        rename World => wq
        have hvz := (unhide HV).size
        have hlen : (padJ l z ++ lenB n k).length = l.length + 1 + z + k := by rw [List.length_append, padJ_length, lenB_length]
        obtain ⟨g5, c5, rfl⟩ := has_slice (unhide HQ) hlen
        by_cases hlt : k < 8
        · have h8 : (k : Int) < 8 := by omega
          obtain ⟨x, hx⟩ : ∃ x : UInt8, x = UInt8.ofNat (n * 8 / 2 ^ (56 - 8 * k) % 256) := ⟨_, rfl⟩
          have hxv : ((x.toNat : Nat) : Int) = (n : Int) * 8 / 2 ^ (56 - 8 * k) % 256 := by rw [hx]; exact by_shift n _
          have HX := hide hx
          have HXV := hide hxv
          clear hx hxv
          go_wp2_with (at_builtin; refine Om.wpList_append _ rfl (.tmp 25) (.tmp 32) 78 rfl w.heap.size 5 i0 Tryz.underlying78 hi hz0 hz1 hz2 _ (padJ l z ++ lenB n k) [x] rfl ((unhide HQ).alloc _) ⟨wq.heap.size, 0, none⟩ 1 1 rfl rfl (one_cell _ x _ _ (by rw [unhide HXV])) ?hb3 ?hba3 ?_)
          case hb3 => rw [hlen]; simp; omega
          case hba3 => simp; omega
          intro v2 w2 hown hg
          have hB2 : Below w.heap.size w w2 := ((unhide HV).alloc hvz _).grown hg (by simp; omega) (fun x hx => ((unhide HQ).lt x hx).1)
          have hO2 : Om.Has w2 w.heap.size 5 v2 (padJ l z ++ lenB n (k + 1)) := by rw [lenB_next, ← unhide HX]; exact hown
          have O2 := hide hO2
          have B2 := hide hB2
          clear hown hg hB2 hO2
          go_wp2
          go_roundw
          case rel => exact ⟨k + 1, by omega, by go_num, O2, B2⟩
          case measure => simp [intOf]; omega
        · have e8 : k = 8 := by omega
          have h8 : ¬ (k : Int) < 8 := by omega
          have hst := (unhide HQ).string (P := Tryz.prog) 78 9 Tryz.underlying78 Tryz.underlying5 Tryz.underlying9
          obtain ⟨so, hso⟩ : ∃ so : ByteArray, so = ⟨(padJ l z ++ lenB n k).toArray⟩ := ⟨_, rfl⟩
          rw [← hso] at hst
          have HSO := hide hso
          have HE8 := hide e8
          clear hso e8
          go_wp2
          go_ret
          refine ⟨?_, unhide HV⟩
          rw [unhide HSO, unhide HE8, unhide HZZ]
          rfl
    · have q1 : (((l.length : Int) + 1 + (j : Int)) % 64 != 56) = true := by have h := fun h => e (hfe.1 h); simp; omega
      go_wp2_with (at_builtin; refine Om.wpList_append _ rfl (.tmp 16) (.tmp 17) 78 rfl w.heap.size 5 i0 Tryz.underlying78 hi hz0 hz1 hz2 _ (padJ l j) [0] rfl ((unhide HO).alloc _) ⟨wr.heap.size, 0, none⟩ 1 1 rfl rfl (one_cell _ 0 _ _ rfl) ?hb2 ?hba2 ?_)
      case hb2 => rw [padJ_length]; simp; omega
      case hba2 => simp; omega
      intro v2 w2 hown hg
      have hB2 : Below w.heap.size w w2 := ((unhide HW).alloc hwz _).grown hg (by simp; omega) (fun x hx => ((unhide HO).lt x hx).1)
      have hO2 : Om.Has w2 w.heap.size 5 v2 (padJ l (j + 1)) := by rw [padJ_next]; exact hown
      have hsl2 := has_slice hO2 (padJ_length l (j + 1))
      have O2 := hide hO2
      have B2 := hide hB2
      have hjz : j + 1 ≤ z := by omega
      clear hown hg hB2 hO2 hfe e
      go_wp2
      go_roundw
      case rel => exact ⟨j + 1, hjz, O2, B2⟩
      case measure => obtain ⟨g2, c2, rfl⟩ := hsl2; simp [slen]; omega
end Go.Proofs.YtonlmklkikbeiaaGreatDoor.Hs

namespace Go.Proofs.YtonlmklkikbeiaaGreatDoor.Hb
open Go.ChangeShapes Go.WideShapes Go.ChangeAt Go.RowKit
set_option linter.unusedVariables false

theorem hide {p : Prop} (h : p) : Hid p := h
theorem unhide {p : Prop} (h : Hid p) : p := h
theorem ret_int {k : IntKind} {a b : Int} (h : a = b) : Ending.returned (.int k a) = .returned (.int k b) := by rw [h]
theorem wrap_i64 (n : Int) (h0 : 0 ≤ n) (h1 : n ≤ 9223372036854775807) : IntKind.i64.wrap n = n := by
  simp [IntKind.wrap, IntKind.bits, IntKind.signed]; omega
theorem info64 : (Tryz.prog.info? 3).map (fun i => (i.zero, i.size, i.bytes)) = some (some (.int .i64 0), 1, 8) := by kernel_rfl

/-- numbers as cells -/
def c64 (L : List Int) : List Value := L.map (Value.int .i64)
theorem c64_get (L : List Int) (j : Nat) (h : j < L.length) : (c64 L)[j]? = some (.int .i64 (L.getD j 0)) := by simp [c64, h]
/-- a row of numbers, with whatever behind it -/
def Row (w : World) (g : Nat) (L : List Int) : Prop := ∃ cur : Array Value, w.heap[g]? = some (.cells cur 3 (0, 0)) ∧ cur.toList.take L.length = c64 L
theorem Row.cell {w : World} {g : Nat} {L : List Int} (h : Row w g L) (j : Nat) (hj : j < L.length) : w.cell? ⟨g, j, none⟩ = some (.int .i64 (L.getD j 0)) := by
  obtain ⟨cur, hg, ht⟩ := h
  rw [cell_of_row w g j cur _ _ hg, ← c64_get L j hj, ← ht, List.getElem?_take, if_pos hj, Array.getElem?_toList]
theorem Row.free {w : World} {g : Nat} {L : List Int} (h : Row w g L) (j : Nat) : w.frozen? ⟨g, j, none⟩ = false := by
  obtain ⟨cur, hg, _⟩ := h
  simp [World.frozen?, hg]
theorem Row.lt {w : World} {g : Nat} {L : List Int} (h : Row w g L) : g < w.heap.size := by
  obtain ⟨cur, hg, _⟩ := h
  exact lt_of_block hg
theorem Row.below {w w' : World} {g B : Nat} {L : List Int} (h : Row w g L) (hb : Below B w w') (hg : g < B) : Row w' g L := by
  obtain ⟨cur, h1, h2⟩ := h
  exact ⟨cur, (hb.block g hg).trans h1, h2⟩
theorem Row.of {w : World} {g : Nat} {L : List Int} (h : w.heap[g]? = some (.cells (c64 L).toArray 3 (0, 0))) : Row w g L :=
  ⟨_, h, by rw [List.toList_toArray, List.take_of_length_le (by simp [c64])]⟩
theorem Row.set {w : World} {g : Nat} {L : List Int} (h : Row w g L) (j : Nat) (x : Int) (hj : j < L.length) : Row (w.setCell ⟨g, j, none⟩ (.int .i64 x)) g (L.set j x) := by
  obtain ⟨cur, h1, h2⟩ := h
  have hlt := lt_of_block h1
  have h' : w.heap[g] = .cells cur 3 (0, 0) := by simpa [Array.getElem?_eq_getElem hlt] using h1
  refine ⟨cur.setIfInBounds j (.int .i64 x), ?_, ?_⟩
  · show (w.heap.modify g _)[g]? = _
    rw [Array.getElem?_eq_getElem (by simpa using hlt), Array.getElem_modify_self, h']
    rfl
  · rw [List.length_set, Array.toList_setIfInBounds, List.take_set, h2]
    simp [c64, List.map_set]
end Go.Proofs.YtonlmklkikbeiaaGreatDoor.Hb

namespace Go.Proofs.YtonlmklkikbeiaaGreatDoor.Ht
open Go.ChangeShapes Go.WideShapes Go.ChangeAt Go.RowKit Hb
set_option linter.unusedVariables false

/-! bits of two numbers that are no negative ones, as plain numbers -/
theorem i64_or_nat (a b : Nat) (ha : a < 9223372036854775808) (hb : b < 9223372036854775808) : bits .or .i64 (a : Int) (b : Int) = ((a ||| b : Nat) : Int) := by
  have hx : a ||| b < 2 ^ 63 := Nat.or_lt_two_pow (by omega) (by omega)
  show IntKind.i64.wrap ((BitVec.ofInt 64 (a : Int) ||| BitVec.ofInt 64 (b : Int)).toNat : Int) = _
  rw [BitVec.toNat_or, ofInt_u64 a (by omega), ofInt_u64 b (by omega), IntKind.wrap_i64]
  omega
theorem i64_and_nat (a b : Nat) (ha : a < 9223372036854775808) (hb : b < 9223372036854775808) : bits .and .i64 (a : Int) (b : Int) = ((a &&& b : Nat) : Int) := by
  have hx : a &&& b < 2 ^ 63 := Nat.and_lt_two_pow _ (by omega)
  show IntKind.i64.wrap ((BitVec.ofInt 64 (a : Int) &&& BitVec.ofInt 64 (b : Int)).toNat : Int) = _
  rw [BitVec.toNat_and, ofInt_u64 a (by omega), ofInt_u64 b (by omega), IntKind.wrap_i64]
  omega
theorem i64_xor_nat (a b : Nat) (ha : a < 9223372036854775808) (hb : b < 9223372036854775808) : bits .xor .i64 (a : Int) (b : Int) = ((a ^^^ b : Nat) : Int) := by
  have hx : a ^^^ b < 2 ^ 63 := Nat.xor_lt_two_pow (by omega) (by omega)
  show IntKind.i64.wrap ((BitVec.ofInt 64 (a : Int) ^^^ BitVec.ofInt 64 (b : Int)).toNat : Int) = _
  rw [BitVec.toNat_xor, ofInt_u64 a (by omega), ofInt_u64 b (by omega), IntKind.wrap_i64]
  omega

/-- a word turned right -/
def turnF (x n : Nat) : Nat := x / 2 ^ n ||| x * 2 ^ (32 - n) % 4294967296
theorem turnF_lt (x n : Nat) (hx : x < 4294967296) : turnF x n < 4294967296 := by
  have h1 : x / 2 ^ n < 2 ^ 32 := Nat.lt_of_le_of_lt (Nat.div_le_self _ _) (by omega)
  have h2 : x * 2 ^ (32 - n) % 4294967296 < 2 ^ 32 := Nat.mod_lt _ (by omega)
  exact Nat.or_lt_two_pow h1 h2
theorem turn_num (x n : Nat) (hx : x < 4294967296) (hn0 : 0 < n) (hn1 : n < 32) :
    bits .or .i64 ((x : Int) / 2 ^ n) (bits .and .i64 ((wrap64 ((x : Int) * 2 ^ (32 - n))).tmod 4294967296) 4294967295) = ((turnF x n : Nat) : Int) := by
  have hp : 2 ^ (32 - n) ≤ 2 ^ 31 := Nat.pow_le_pow_right (by omega) (by omega)
  have hm : x * 2 ^ (32 - n) ≤ 4294967296 * 2 ^ 31 := Nat.mul_le_mul (by omega) hp
  have hm' : x * 2 ^ (32 - n) < 4294967296 * 2 ^ 31 := Nat.lt_of_lt_of_le ((Nat.mul_lt_mul_right (Nat.pow_pos (by omega))).mpr hx) (Nat.mul_le_mul_left _ hp)
  obtain ⟨y, hy⟩ : ∃ y, y = x * 2 ^ (32 - n) := ⟨_, rfl⟩
  have e0 : (x : Int) * 2 ^ (32 - n) = ((y : Nat) : Int) := by rw [hy]; simp
  have e1 : wrap64 (y : Int) = (y : Int) := by rw [← hy] at hm'; simp only [wrap64]; omega
  have e2 : ((y : Int)).tmod 4294967296 = ((y % 4294967296 : Nat) : Int) := by
    rw [Int.tmod_eq_emod_of_nonneg (by omega)]; omega
  have e3 : bits .and .i64 ((y % 4294967296 : Nat) : Int) 4294967295 = ((y % 4294967296 : Nat) : Int) := by
    have h := i64_and_nat (y % 4294967296) 4294967295 (by omega) (by omega)
    have h' : y % 4294967296 &&& 4294967295 = y % 4294967296 := by
      have := Nat.and_two_pow_sub_one_eq_mod (y % 4294967296) 32
      simpa using this
    rw [h'] at h
    exact h
  have e4 : (x : Int) / 2 ^ n = ((x / 2 ^ n : Nat) : Int) := by simp
  have hd : x / 2 ^ n ≤ x := Nat.div_le_self _ _
  rw [e0, e1, e2, e3, e4, i64_or_nat _ _ (by omega) (by omega), hy]
  rfl

end Go.Proofs.YtonlmklkikbeiaaGreatDoor.Ht

namespace Go.Proofs.YtonlmklkikbeiaaGreatDoor.Ht
open Go.ChangeShapes Go.WideShapes Go.ChangeAt Go.RowKit Hb
set_option linter.unusedVariables false

theorem rot_by (n : Nat) (hn0 : 0 < n) (hn1 : n < 32) : bits .and .u64 (IntKind.u64.wrap (-(n : Int))) 31 = ((32 - n : Nat) : Int) := by
  have e : IntKind.u64.wrap (-(n : Int)) = ((18446744073709551616 - n : Nat) : Int) := by
    simp only [IntKind.wrap, IntKind.bits, IntKind.signed]; simp; omega
  have h := u64_and_nat (18446744073709551616 - n) 31 (by omega) (by omega)
  rw [nat_mask5] at h
  rw [e]
  refine Eq.trans h ?_
  omega
theorem rot_num (x m : Nat) (hx : x < 4294967296) (hm0 : 0 < m) (hm1 : m < 32) : bits .or .u32 ((x : Int) * 2 ^ m % 4294967296) ((x : Int) / 2 ^ (32 - m)) = ((turnF x (32 - m) : Nat) : Int) := by
  have e1 : (x : Int) * 2 ^ m % 4294967296 = ((x * 2 ^ m % 4294967296 : Nat) : Int) := by simp
  have e2 : (x : Int) / 2 ^ (32 - m) = ((x / 2 ^ (32 - m) : Nat) : Int) := by simp
  have hd : x / 2 ^ (32 - m) ≤ x := Nat.div_le_self _ _
  have h32 : 32 - (32 - m) = m := by omega
  rw [e1, e2, u32_or_nat _ _ (Nat.mod_lt _ (by omega)) (by omega), turnF, Nat.or_comm, h32]
theorem rot_any (x n : Nat) (w : World) (hx : x < 4294967296) (hn0 : 0 < n) (hn1 : n < 32) :
    Calls Tryz.prog 180 #[.int .u32 x, .int .i64 (-(n : Int))] w fun e w' => e = .returned (.int .u32 (turnF x n)) ∧ w' = w := by
  have hs := rot_by n hn0 hn1
  obtain ⟨m, hm⟩ : ∃ m, m = 32 - n := ⟨_, rfl⟩
  have hm0 : 0 < m := by omega
  have hm1 : m < 32 := by omega
  have hnm : n = 32 - m := by omega
  rw [← hm] at hs
  have HNM := hide hnm
  clear hm hnm hn0 hn1
  go_enter Tryz.func180, Tryz.ntmps180
  go_wp2
  go_ret
  refine ⟨?_, rfl⟩
  rw [unhide HNM]
  exact ret_int (rot_num x m hx hm0 hm1)

/-- a word turned by each of the numbers, all in one -/
def turnsF (x : Nat) (ns : List Int) : Nat → Nat
  | 0 => 0
  | j + 1 => turnsF x ns j ^^^ turnF x (ns.getD j 0).toNat
theorem turnsF_lt (x : Nat) (ns : List Int) (hx : x < 4294967296) (j : Nat) : turnsF x ns j < 4294967296 := by
  induction j with
  | zero => simp [turnsF]
  | succ j ih => exact Nat.xor_lt_two_pow (n := 32) ih (turnF_lt x _ hx)
theorem turned_any (x g c : Nat) (ns : List Int) (w : World) (hx : x < 4294967296) (hR : Row w g ns) (hl : ns.length ≤ 8) (hn : ∀ j, j < ns.length → 0 < ns.getD j 0 ∧ ns.getD j 0 < 32) :
    Calls Tryz.prog 148 #[.int .u32 x, .slice (some ⟨g, 0, none⟩) ns.length c] w fun e w' => e = .returned (.int .u32 (turnsF x ns ns.length)) ∧ w' = w := by
  have HR := hide hR
  have HN := hide hn
  clear hR hn
  go_enter Tryz.func148, Tryz.ntmps148
  go_wp2
  go_loop [5, 10] (fun vo vj => ∃ j : Nat, j ≤ ns.length ∧ vj = .int .i64 j ∧ vo = .int .u32 (turnsF x ns j)) (fun _ vj => ns.length - (intOf vj).toNat)
  case atStart => exact ⟨0, Nat.zero_le _, rfl, rfl⟩
  case round =>
    obtain ⟨j, hj, rfl, rfl⟩ := hrel
    by_cases hjt : j < ns.length
    · have hc := (unhide HR).cell j hjt
      obtain ⟨hn0, hn1⟩ := unhide HN j hjt
      have hnx : turnsF x ns (j + 1) = turnsF x ns j ^^^ turnF x (ns.getD j 0).toNat := rfl
      have ht := turnsF_lt x ns hx j
      obtain ⟨q, hq⟩ : ∃ q : Nat, q = (ns.getD j 0).toNat := ⟨_, rfl⟩
      have hq' : ns.getD j 0 = (q : Int) := by omega
      rw [hq'] at hc
      rw [← hq] at hnx
      have hq0 : 0 < q := by omega
      have hq1 : q < 32 := by omega
      have hu := turnF_lt x q hx
      have hxo := u32_xor_nat (turnsF x ns j) (turnF x q) ht hu
      obtain ⟨t, hte⟩ : ∃ t, t = turnsF x ns j := ⟨_, rfl⟩
      rw [← hte] at hnx hxo ⊢
      have HNX := hide hnx
      have HC := hide (rot_any x q w hx hq0 hq1)
      have HXO := hide hxo
      clear hnx hq hq' hn0 hn1 ht hu hte hxo
      go_wp2_with (go_at_call 180; refine (unhide HC).mono ?_; rintro e w' ⟨rfl, rfl⟩)
      refine ⟨⟨j + 1, by omega, by go_num, ?_⟩, by simp [intOf]; omega⟩
      rw [unhide HNX, unhide HXO]
    · have e : j = ns.length := by omega
      subst e
      go_wp2
      go_ret
      exact ⟨rfl, rfl⟩
end Go.Proofs.YtonlmklkikbeiaaGreatDoor.Ht

namespace Go.Proofs.YtonlmklkikbeiaaGreatDoor.Ht
open Go.ChangeShapes Go.WideShapes Go.ChangeAt Go.RowKit Hb
set_option linter.unusedVariables false

def turn3F (x p q r : Nat) : Nat := turnF x p ^^^ turnF x q ^^^ turnF x r
def turn2F (x p q : Nat) : Nat := turnF x p ^^^ turnF x q
def chF (e f g : Nat) : Nat := (e &&& f) ^^^ ((4294967295 ^^^ e) &&& g)
def majF (a b c : Nat) : Nat := ((a &&& b) ^^^ (a &&& c)) ^^^ (b &&& c)
/-- the first sum of a round, and the second -/
def oneF (e f g h x : Nat) : Nat := (h + turn3F e 6 11 25 + chF e f g + x) % 4294967296
def twoF (a b c : Nat) : Nat := (turn3F a 2 13 22 + majF a b c) % 4294967296

theorem turn3F_lt (x p q r : Nat) (hx : x < 4294967296) : turn3F x p q r < 4294967296 :=
  Nat.xor_lt_two_pow (n := 32) (Nat.xor_lt_two_pow (n := 32) (turnF_lt x p hx) (turnF_lt x q hx)) (turnF_lt x r hx)
theorem turn2F_lt (x p q : Nat) (hx : x < 4294967296) : turn2F x p q < 4294967296 :=
  Nat.xor_lt_two_pow (n := 32) (turnF_lt x p hx) (turnF_lt x q hx)
theorem and_lt32 (a b : Nat) (hb : b < 4294967296) : a &&& b < 4294967296 := Nat.and_lt_two_pow (n := 32) _ hb
theorem xor_lt32 (a b : Nat) (ha : a < 4294967296) (hb : b < 4294967296) : a ^^^ b < 4294967296 := Nat.xor_lt_two_pow (n := 32) ha hb
theorem chF_lt (e f g : Nat) (hf : f < 4294967296) (hg : g < 4294967296) : chF e f g < 4294967296 := xor_lt32 _ _ (and_lt32 _ _ hf) (and_lt32 _ _ hg)
theorem majF_lt (a b c : Nat) (hb : b < 4294967296) (hc : c < 4294967296) : majF a b c < 4294967296 := xor_lt32 _ _ (xor_lt32 _ _ (and_lt32 _ _ hb) (and_lt32 _ _ hc)) (and_lt32 _ _ hc)
theorem ch_num (e f g : Nat) (he : e < 4294967296) (hf : f < 4294967296) (hg : g < 4294967296) :
    bits .xor .u32 (bits .and .u32 (e : Int) (f : Int)) (bits .and .u32 (bits .xor .u32 IntKind.u32.max (e : Int)) (g : Int)) = ((chF e f g : Nat) : Int) := by
  have e0 : IntKind.u32.max = ((4294967295 : Nat) : Int) := by decide
  rw [e0, u32_xor_nat _ _ (by omega) he, u32_and_nat _ _ he hf, u32_and_nat _ _ (xor_lt32 _ _ (by omega) he) hg, u32_xor_nat _ _ (and_lt32 _ _ hf) (and_lt32 _ _ hg)]
  rfl
theorem maj_num (a b c : Nat) (ha : a < 4294967296) (hb : b < 4294967296) (hc : c < 4294967296) :
    bits .xor .u32 (bits .xor .u32 (bits .and .u32 (a : Int) (b : Int)) (bits .and .u32 (a : Int) (c : Int))) (bits .and .u32 (b : Int) (c : Int)) = ((majF a b c : Nat) : Int) := by
  rw [u32_and_nat _ _ ha hb, u32_and_nat _ _ ha hc, u32_and_nat _ _ hb hc, u32_xor_nat _ _ (and_lt32 _ _ hb) (and_lt32 _ _ hc), u32_xor_nat _ _ (xor_lt32 _ _ (and_lt32 _ _ hb) (and_lt32 _ _ hc)) (and_lt32 _ _ hc)]
  rfl
theorem turned_3 (x p q r : Nat) (w : World) (hx : x < 4294967296) (hp0 : 0 < p) (hp : p < 32) (hq0 : 0 < q) (hq : q < 32) (hr0 : 0 < r) (hr : r < 32) :
    Calls Tryz.prog 148 #[.int .u32 x, .slice (some ⟨w.heap.size, 0, none⟩) 3 3] (w.alloc (.cells #[.int .i64 p, .int .i64 q, .int .i64 r] 3)) fun e w' =>
      e = .returned (.int .u32 (turn3F x p q r)) ∧ w' = w.alloc (.cells #[.int .i64 p, .int .i64 q, .int .i64 r] 3) := by
  have h := turned_any x w.heap.size 3 [(p : Int), (q : Int), (r : Int)] _ hx (Row.of (heap_alloc_new w (.cells #[.int .i64 p, .int .i64 q, .int .i64 r] 3))) (by simp) (by
    intro j hj
    match j, hj with
    | 0, _ => simp; omega
    | 1, _ => simp; omega
    | 2, _ => simp; omega)
  refine h.mono ?_
  rintro e w' ⟨rfl, rfl⟩
  refine ⟨?_, rfl⟩
  simp [turnsF, turn3F]
theorem turned_2 (x p q : Nat) (w : World) (hx : x < 4294967296) (hp0 : 0 < p) (hp : p < 32) (hq0 : 0 < q) (hq : q < 32) :
    Calls Tryz.prog 148 #[.int .u32 x, .slice (some ⟨w.heap.size, 0, none⟩) 2 2] (w.alloc (.cells #[.int .i64 p, .int .i64 q] 3)) fun e w' =>
      e = .returned (.int .u32 (turn2F x p q)) ∧ w' = w.alloc (.cells #[.int .i64 p, .int .i64 q] 3) := by
  have h := turned_any x w.heap.size 2 [(p : Int), (q : Int)] _ hx (Row.of (heap_alloc_new w (.cells #[.int .i64 p, .int .i64 q] 3))) (by simp) (by
    intro j hj
    match j, hj with
    | 0, _ => simp; omega
    | 1, _ => simp; omega)
  refine h.mono ?_
  rintro e w' ⟨rfl, rfl⟩
  refine ⟨?_, rfl⟩
  simp [turnsF, turn2F]
end Go.Proofs.YtonlmklkikbeiaaGreatDoor.Ht

namespace Go.Proofs.YtonlmklkikbeiaaGreatDoor.Hm
open Ht
set_option linter.unusedVariables false

theorem not32 (e : Nat) (he : e < 4294967296) : 4294967295 ^^^ e = 4294967295 - e := by
  have h := congrArg BitVec.toNat (BitVec.xor_allOnes (x := BitVec.ofNat 32 e))
  rw [BitVec.toNat_xor, BitVec.toNat_not, BitVec.toNat_ofNat, BitVec.toNat_allOnes] at h
  rw [Nat.mod_eq_of_lt (by omega : e < 2 ^ 32)] at h
  rw [Nat.xor_comm]
  simpa using h
/-- the reference's choice and majority, with 'or' -/
theorem ch_or (e f g : Nat) (he : e < 4294967296) : (e &&& f) ||| ((4294967295 - e) &&& g) = chF e f g := by
  rw [chF, ← not32 e he]
  apply Nat.eq_of_testBit_eq
  intro i
  simp only [Nat.testBit_or, Nat.testBit_xor, Nat.testBit_and]
  by_cases hi : i < 32
  · have h1 : Nat.testBit 4294967295 i = true := by
      have := Nat.testBit_two_pow_sub_one 32 i
      simpa [hi] using this
    rw [h1]
    cases e.testBit i <;> cases f.testBit i <;> cases g.testBit i <;> rfl
  · have h1 : Nat.testBit 4294967295 i = false := by
      have := Nat.testBit_two_pow_sub_one 32 i
      simpa [hi] using this
    have h2 : e.testBit i = false := Nat.testBit_lt_two_pow (Nat.lt_of_lt_of_le he (Nat.pow_le_pow_right (show 2 > 0 by decide) (by omega : 32 ≤ i)))
    rw [h1, h2]
    cases f.testBit i <;> cases g.testBit i <;> rfl
theorem maj_or (a b c : Nat) : ((a &&& b) ||| (a &&& c)) ||| (b &&& c) = majF a b c := by
  rw [majF]
  apply Nat.eq_of_testBit_eq
  intro i
  simp only [Nat.testBit_or, Nat.testBit_xor, Nat.testBit_and]
  cases a.testBit i <;> cases b.testBit i <;> cases c.testBit i <;> rfl

/-- eight words -/
structure St where
  a : Nat
  b : Nat
  c : Nat
  d : Nat
  e : Nat
  f : Nat
  g : Nat
  h : Nat
def St.ok (s : St) : Prop := s.a < 4294967296 ∧ s.b < 4294967296 ∧ s.c < 4294967296 ∧ s.d < 4294967296 ∧ s.e < 4294967296 ∧ s.f < 4294967296 ∧ s.g < 4294967296 ∧ s.h < 4294967296
/-- one round of the code -/
def St.round (s : St) (x : Nat) : St := ⟨(oneF s.e s.f s.g s.h x + twoF s.a s.b s.c) % 4294967296, s.a, s.b, s.c, (s.d + oneF s.e s.f s.g s.h x) % 4294967296, s.e, s.f, s.g⟩
theorem St.round_ok (s : St) (x : Nat) (h : s.ok) : (s.round x).ok := by
  obtain ⟨h1, h2, h3, h4, h5, h6, h7, h8⟩ := h
  exact ⟨Nat.mod_lt _ (by decide), h1, h2, h3, Nat.mod_lt _ (by decide), h5, h6, h7⟩
/-- the same with sums that are cut at their ends alone, as the reference says it -/
theorem St.round_ref (s : St) (k w : Nat) (hs : s.ok) :
    s.round ((k + w) % 4294967296) = ⟨(s.h + turn3F s.e 6 11 25 + chF s.e s.f s.g + k + w + turn3F s.a 2 13 22 + majF s.a s.b s.c) % 4294967296, s.a, s.b, s.c, (s.d + (s.h + turn3F s.e 6 11 25 + chF s.e s.f s.g + k + w)) % 4294967296, s.e, s.f, s.g⟩ := by
  have e1 : (oneF s.e s.f s.g s.h ((k + w) % 4294967296) + twoF s.a s.b s.c) % 4294967296 = (s.h + turn3F s.e 6 11 25 + chF s.e s.f s.g + k + w + turn3F s.a 2 13 22 + majF s.a s.b s.c) % 4294967296 := by
    unfold oneF twoF; omega
  have e2 : (s.d + oneF s.e s.f s.g s.h ((k + w) % 4294967296)) % 4294967296 = (s.d + (s.h + turn3F s.e 6 11 25 + chF s.e s.f s.g + k + w)) % 4294967296 := by
    unfold oneF; omega
  unfold St.round
  rw [e1, e2]
def St.rounds (s : St) (K W : Nat → Nat) : Nat → St
  | 0 => s
  | n + 1 => (St.rounds s K W n).round ((K n + W n) % 4294967296)
theorem St.rounds_ok (s : St) (K W : Nat → Nat) (h : s.ok) : ∀ n, (s.rounds K W n).ok
  | 0 => h
  | n + 1 => St.round_ok _ _ (St.rounds_ok s K W h n)
def St.plus (s t : St) : St := ⟨(s.a + t.a) % 4294967296, (s.b + t.b) % 4294967296, (s.c + t.c) % 4294967296, (s.d + t.d) % 4294967296, (s.e + t.e) % 4294967296, (s.f + t.f) % 4294967296, (s.g + t.g) % 4294967296, (s.h + t.h) % 4294967296⟩
theorem St.plus_ok (s t : St) : (s.plus t).ok := by
  unfold St.plus St.ok
  exact ⟨Nat.mod_lt _ (by decide), Nat.mod_lt _ (by decide), Nat.mod_lt _ (by decide), Nat.mod_lt _ (by decide), Nat.mod_lt _ (by decide), Nat.mod_lt _ (by decide), Nat.mod_lt _ (by decide), Nat.mod_lt _ (by decide)⟩

/-- a number of n bytes from s on, the highest first -/
def be (b : List UInt8) (s : Nat) : Nat → Nat
  | 0 => 0
  | n + 1 => 256 * be b s n + (b.getD (s + n) 0).toNat
theorem be_lt (b : List UInt8) (s : Nat) : ∀ n, be b s n < 256 ^ n
  | 0 => by simp [be]
  | n + 1 => by
    have h := be_lt b s n
    have hb := (b.getD (s + n) 0).toNat_lt
    rw [be, Nat.pow_succ]
    omega
theorem be_4 (b : List UInt8) (s : Nat) : be b s 4 = (b.getD s 0).toNat * 16777216 + (b.getD (s + 1) 0).toNat * 65536 + (b.getD (s + 2) 0).toNat * 256 + (b.getD (s + 3) 0).toNat := by
  simp only [be, Nat.add_zero]; omega
/-- the words of a block: as a list that grows -/
def nextW (L : List Nat) : Nat :=
  let i := L.length
  (L.getD (i - 16) 0 + L.getD (i - 7) 0 + (turn2F (L.getD (i - 2) 0) 17 19 ^^^ (L.getD (i - 2) 0 / 1024)) + (turn2F (L.getD (i - 15) 0) 7 18 ^^^ (L.getD (i - 15) 0 / 8))) % 4294967296
def wordsL (b : List UInt8) : Nat → List Nat
  | 0 => []
  | i + 1 => let L := wordsL b i; L ++ [if i < 16 then be b (4 * i) 4 else nextW L]
theorem wordsL_length (b : List UInt8) : ∀ i, (wordsL b i).length = i
  | 0 => rfl
  | i + 1 => by simp [wordsL, wordsL_length b i]
def wordF (b : List UInt8) (i : Nat) : Nat := (wordsL b (i + 1)).getD i 0
theorem wordsL_get (b : List UInt8) (i j : Nat) (h : i < j) : (wordsL b j).getD i 0 = wordF b i := by
  induction j with
  | zero => omega
  | succ j ih =>
    by_cases hij : i = j
    · subst hij; rfl
    · rw [wordsL]
      have hl := wordsL_length b j
      rw [List.getD_eq_getElem?_getD, List.getElem?_append_left (by omega), ← List.getD_eq_getElem?_getD]
      exact ih (by omega)
theorem wordF_low (b : List UInt8) (i : Nat) (h : i < 16) : wordF b i = be b (4 * i) 4 := by
  have hl := wordsL_length b i
  unfold wordF
  rw [wordsL, List.getD_eq_getElem?_getD, List.getElem?_append_right (by omega), hl]
  simp [h]
theorem wordF_high (b : List UInt8) (i : Nat) (h : 16 ≤ i) : wordF b i = (wordF b (i - 16) + wordF b (i - 7) + (turn2F (wordF b (i - 2)) 17 19 ^^^ (wordF b (i - 2) / 1024)) + (turn2F (wordF b (i - 15)) 7 18 ^^^ (wordF b (i - 15) / 8))) % 4294967296 := by
  have hl := wordsL_length b i
  rw [show wordF b i = nextW (wordsL b i) by
    unfold wordF
    rw [wordsL, List.getD_eq_getElem?_getD, List.getElem?_append_right (by omega), hl]
    have : ¬ i < 16 := by omega
    simp [this]]
  unfold nextW
  simp only [hl]
  rw [wordsL_get b (i - 16) i (by omega), wordsL_get b (i - 7) i (by omega), wordsL_get b (i - 2) i (by omega), wordsL_get b (i - 15) i (by omega)]
theorem wordF_lt (b : List UInt8) (i : Nat) : wordF b i < 4294967296 := by
  by_cases h : i < 16
  · rw [wordF_low b i h]; exact be_lt b _ 4
  · rw [wordF_high b i (by omega)]; exact Nat.mod_lt _ (by decide)
/-- a state behind one block, behind all whole blocks of a text -/
def St.mix (s : St) (K : Nat → Nat) (b : List UInt8) : St := s.plus (s.rounds K (wordF b) 64)
def St.mixN (s : St) (K : Nat → Nat) (l : List UInt8) : Nat → St
  | 0 => s
  | n + 1 => (St.mixN s K l n).mix K ((l.drop (64 * n)).take 64)
theorem St.mixN_ok (s : St) (K : Nat → Nat) (l : List UInt8) (h : s.ok) : ∀ n, (s.mixN K l n).ok
  | 0 => h
  | n + 1 => St.plus_ok _ _
theorem St.mixN_left (s : St) (K : Nat → Nat) (l r : List UInt8) (n : Nat) (h : 64 * n ≤ l.length) : s.mixN K (l ++ r) n = s.mixN K l n := by
  induction n with
  | zero => rfl
  | succ n ih =>
    rw [St.mixN, St.mixN, ih (by omega), List.drop_append_of_le_length (by omega), List.take_append_of_le_length (by rw [List.length_drop]; omega)]
theorem St.mixN_split (s : St) (K : Nat → Nat) (l r : List UInt8) (m n : Nat) (h : l.length = 64 * m) : s.mixN K (l ++ r) (m + n) = (s.mixN K l m).mixN K r n := by
  induction n with
  | zero => rw [Nat.add_zero, St.mixN_left s K l r m (by omega)]; rfl
  | succ n ih =>
    rw [← Nat.add_assoc, St.mixN, ih, St.mixN]
    have e : (l ++ r).drop (64 * (m + n)) = r.drop (64 * n) := by
      rw [List.drop_append, List.drop_eq_nil_of_le (by omega), List.nil_append]
      congr 1
      omega
    rw [e]
end Go.Proofs.YtonlmklkikbeiaaGreatDoor.Hm

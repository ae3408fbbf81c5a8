import Derived.Test.YtoifihhmneldeaaDoorRows
import Derived.WalkKit
import Derived.ProofKit
import Derived.WalkSpells
import Derived.WalkLawsBesides
import Derived.Outline
import Derived.OneCell
import Derived.Laws.BitsAllLaws
import Derived.Deep.QuietTactic
import Derived.BigQuiet
import Derived.Deep.LoopGhost
namespace Go.Proofs.YtoifihhmneldeaaDoor.Hb
open Go.ChangeShapes Go.WideShapes Go.ChangeAt Go.RowKit
set_option linter.unusedVariables false

theorem hide {p : Prop} (h : p) : Hid p := h
theorem unhide {p : Prop} (h : Hid p) : p := h
theorem ret_int {k : IntKind} {a b : Int} (h : a = b) : Ending.returned (.int k a) = .returned (.int k b) := by rw [h]
theorem wrap_i64 (n : Int) (h0 : 0 ≤ n) (h1 : n ≤ 9223372036854775807) : IntKind.i64.wrap n = n := by
  simp [IntKind.wrap, IntKind.bits, IntKind.signed]; omega
theorem info64 : (Tryd.prog.info? 3).map (fun i => (i.zero, i.size, i.bytes)) = some (some (.int .i64 0), 1, 8) := by kernel_rfl

/-- numbers as cells -/
def c64 (L : List Int) : List Value := L.map (Value.int .i64)
theorem c64_get (L : List Int) (j : Nat) (h : j < L.length) : (c64 L)[j]? = some (.int .i64 (L.getD j 0)) := by simp [c64, h]
/-- a row of numbers, with whatever behind it -/
def Row (w : World) (g : Nat) (L : List Int) : Prop := ∃ cur : Array Value, w.heap[g]? = some (.cells cur 3 (0, 0)) ∧ cur.toList.take L.length = c64 L
theorem Row.cell {w : World} {g : Nat} {L : List Int} (h : Row w g L) (j : Nat) (hj : j < L.length) : w.cell? ⟨g, j, none⟩ = some (.int .i64 (L.getD j 0)) := by
  obtain ⟨cur, hg, ht⟩ := h
  rw [cell_of_row w g j cur _ _ hg, ← c64_get L j hj, ← ht, List.getElem?_take, if_pos hj, Array.getElem?_toList]
theorem Row.free {w : World} {g : Nat} {L : List Int} (h : Row w g L) (j : Nat) : w.frozen? ⟨g, j, none⟩ = false := by
  obtain ⟨cur, hg, _⟩ := h
  simp [World.frozen?, hg]
theorem Row.lt {w : World} {g : Nat} {L : List Int} (h : Row w g L) : g < w.heap.size := by
  obtain ⟨cur, hg, _⟩ := h
  exact lt_of_block hg
theorem Row.below {w w' : World} {g B : Nat} {L : List Int} (h : Row w g L) (hb : Below B w w') (hg : g < B) : Row w' g L := by
  obtain ⟨cur, h1, h2⟩ := h
  exact ⟨cur, (hb.block g hg).trans h1, h2⟩
theorem Row.of {w : World} {g : Nat} {L : List Int} (h : w.heap[g]? = some (.cells (c64 L).toArray 3 (0, 0))) : Row w g L :=
  ⟨_, h, by rw [List.toList_toArray, List.take_of_length_le (by simp [c64])]⟩
theorem Row.set {w : World} {g : Nat} {L : List Int} (h : Row w g L) (j : Nat) (x : Int) (hj : j < L.length) : Row (w.setCell ⟨g, j, none⟩ (.int .i64 x)) g (L.set j x) := by
  obtain ⟨cur, h1, h2⟩ := h
  have hlt := lt_of_block h1
  have h' : w.heap[g] = .cells cur 3 (0, 0) := by simpa [Array.getElem?_eq_getElem hlt] using h1
  refine ⟨cur.setIfInBounds j (.int .i64 x), ?_, ?_⟩
  · show (w.heap.modify g _)[g]? = _
    rw [Array.getElem?_eq_getElem (by simpa using hlt), Array.getElem_modify_self, h']
    rfl
  · rw [List.length_set, Array.toList_setIfInBounds, List.take_set, h2]
    simp [c64, List.map_set]
end Go.Proofs.YtoifihhmneldeaaDoor.Hb

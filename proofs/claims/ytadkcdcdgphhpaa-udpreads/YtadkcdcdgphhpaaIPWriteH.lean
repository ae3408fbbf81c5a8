import Derived.Test.YtadkcdcdgphhpaaIPWriteW
import Derived.Deep.RegionHeld3
import Derived.Deep.CutRange
import Derived.Deep.DeepCutAuto
namespace Go.Proofs.Ytadkcdcdgphhpaa.Ip
open Go.ChangeShapes Go.WideShapes Go.ChangeAt Go.RowKit Bs Rb Wt Arp
set_option linter.unusedVariables false

theorem conv2 (u : World) (g : Nat) (a b : Int) (ha : 0 ≤ a ∧ a ≤ 255) (hb : 0 ≤ b ∧ b ≤ 255) (h0 : u.cell? ⟨g, 0, none⟩ = some (.int .u8 a)) (h1 : u.cell? ⟨g, 1, none⟩ = some (.int .u8 b)) :
    (convert 80 9 (.slice (some ⟨g, 0, none⟩) 2 2)).run Try.prog u = .ok (.string ⟨#[by8 a, by8 b]⟩) u := by
  refine run_convert_bytes_back _ _ _ 5 ⟨g, 0, none⟩ 2 [by8 a, by8 b] Try.underlying80 Try.underlying5 Try.underlying9 (fun j hj => ?_)
  rw [add_lit']
  match j, hj with
  | 0, _ => rw [h0]; simp only [List.getElem_cons_zero, by8_toNat]; rw [Int.emod_eq_of_lt ha.1 (by omega)]
  | 1, _ => rw [h1]; simp only [List.getElem_cons_succ, List.getElem_cons_zero, by8_toNat]; rw [Int.emod_eq_of_lt hb.1 (by omega)]
theorem ret_pair {a b : ByteArray} {k : Int} (h : a = b) : Ending.returned (.tuple #[.string a, .int .i64 k]) = .returned (.tuple #[.string b, .int .i64 k]) := by rw [h]
theorem six_cells {w u : World} {cs : Array Value} {t : TypeId} (h : Below (w.heap.size + 1) (w.alloc (.cells cs t)) u) : ∀ j, u.cell? ⟨w.heap.size, j, none⟩ = cs[j]? := fun j => by
  rw [h.cell (p := ⟨w.heap.size, j, none⟩) (by simp), cell_of_row _ w.heap.size j cs t (0, 0) (heap_alloc_new w _)]
theorem sizes {w u : World} {o : Obj} (h : Below (w.heap.size + 1) (w.alloc o) u) : w.heap.size + 1 ≤ u.heap.size := by have := h.size; simpa using this

end Go.Proofs.Ytadkcdcdgphhpaa.Ip

import Derived.Test.YtbhbbeebncmaiaaGreatDoorMgZ09
import Derived.Deep.RegionHeld3
import Derived.Test.YtbhbbeebncmaiaaGreatDoorMgZ12
import Derived.Lib.BufferWrite
import Derived.Lib.UnsafeStr
import Derived.Laws.MakeOwn
import Derived.Test.YtbhbbeebncmaiaaGreatDoorMgZ07
import Derived.Deep.CutRange
import Derived.Deep.DeepCutAuto
namespace Go.Proofs.YtbhbbeebncmaiaaGreatDoor.Dh
open Go.ChangeShapes Go.WideShapes Go.ChangeAt Go.RowKit Bs
set_option linter.unusedVariables false
set_option linter.unusedSimpArgs false
theorem below_drewN {N : Nat} {a w : World} (h : Below N a w) (n : Nat) : Below N a (w.drewN n) := ⟨h.os, h.tape, h.output, h.size, h.block⟩
def cellsO (os : Opts) : List Value := os.flatMap fun o => [.int .u8 o.1.toNat, .string ⟨o.2.toArray⟩]
theorem cellsO_append (a b : Opts) : cellsO (a ++ b) = cellsO a ++ cellsO b := by simp [cellsO]
theorem cellsO_get (os : Opts) (i : Nat) (h : i < os.length) : (cellsO os)[i * 2]? = some (.int .u8 os[i].1.toNat) ∧ (cellsO os)[i * 2 + 1]? = some (.string ⟨os[i].2.toArray⟩) := by
  induction os generalizing i with
  | nil => simp at h
  | cons o r ih =>
    cases i with
    | zero => exact ⟨rfl, rfl⟩
    | succ i =>
      have := ih i (by simpa using h)
      simp only [cellsO, List.flatMap_cons] at this ⊢
      rw [show (i + 1) * 2 = i * 2 + 1 + 1 by omega]
      simpa using this
theorem cellsO_one (os : Opts) : ∀ u ∈ cellsO os, u.oneCell' = true := by
  intro u hu
  simp only [cellsO, List.mem_flatMap] at hu
  obtain ⟨o, _, ho⟩ := hu
  simp at ho
  rcases ho with rfl | rfl <;> rfl
theorem add_next (ad : Addr) (n : Nat) : (⟨(ad.add n).block, (ad.add n).off + 1, none⟩ : Addr) = ad.add (n + 1) := by
  unfold Addr.add
  by_cases h : n = 0
  · subst h; simp
  · simp [h]; omega
theorem At.ofCells {w : World} {ad : Addr} {os : Opts} (h : ∀ j u, (cellsO os)[j]? = some u → w.cell? (ad.add j) = some u) : At w (some ad) os := fun i hi => by
  obtain ⟨g0, g1⟩ := cellsO_get os i hi
  exact ⟨ad, rfl, h _ _ g0, by rw [add_next]; exact h _ _ g1⟩

end Go.Proofs.YtbhbbeebncmaiaaGreatDoor.Dh
namespace Go.Proofs.YtbhbbeebncmaiaaGreatDoor.Rd
open Go.ChangeShapes Go.WideShapes Go.ChangeAt Go.RowKit Bs
set_option linter.unusedVariables false
theorem infoSize1 : (Tryz.prog.info? 5).map (·.size) = some 1 := by kernel_rfl
theorem cellsOne : Tryz.prog.cellsOf 5 = 1 := by kernel_rfl

set_option maxHeartbeats 4000000 in
set_option maxRecDepth 10000 in
theorem clone_lite (s : ByteArray) (w : World) (hs : s.size ≤ 1099511627776) :
    Calls Tryz.prog 78 #[.string s] w fun e w' => e = .returned (.string s) ∧ Below w.heap.size w w' := by
  by_cases h0 : s.size = 0
  · have e : s = ⟨#[]⟩ := ByteArray.ext (Array.eq_empty_of_size_eq_zero h0)
    subst e
    go_enter Tryz.func78, Tryz.ntmps78
    go_wp2
    go_ret
    exact ⟨rfl, Below.refl _ _⟩
  · obtain ⟨i0, hi, hz0, hz1, hz2⟩ := info_parts info8
    have hlen := len_str s
    -- the new row, its bytes still 0
    obtain ⟨M, hM⟩ : ∃ M, M = madeCells #[Value.int .u8 0] s.size := ⟨_, rfl⟩
    have hMs : M.size = s.size := by rw [hM, ← Array.length_toList, toList_madeCells_one]; simp
    have hmk : ∀ u : World, (Instr.makeSlice 55 (.int .i64 (s.size : Int)) (.int .i64 (s.size : Int))).run Tryz.prog u = .ok (.slice (some ⟨u.heap.size, 0, none⟩) s.size s.size) (u.alloc (.cells M 5)) := fun u => by
      have h := run_make (P := Tryz.prog) u 55 5 i0 (.int .u8 0) Tryz.underlying55 hi hz0 .i64 .i64 (s.size : Int) (s.size : Int) (by omega) (Int.le_refl _) (by rw [hz2]; omega) (by omega)
      rw [hM]
      simpa [hz1, Value.cells] using h
    clear hM
    -- the bytes are laid into it
    have hcp := Lib.run_copy_row_string (P := Tryz.prog) (w.alloc (.cells M 5)) 55 9 3 5 w.heap.size 0 s.size s.size s M 5 Tryz.underlying55 infoSize1 (heap_alloc_new w _) (Nat.le_refl _) (by omega)
    obtain ⟨Y, hY⟩ : ∃ Y, Y = (M.toList.take 0 ++ Lib.byteCells s.data.toList ++ M.toList.drop (0 + s.size)).toArray := ⟨_, rfl⟩
    rw [← hY] at hcp
    have hYl : Y.toList = cells8 s.data.toList := by
      rw [hY, List.toList_toArray, List.take_zero, List.nil_append, List.drop_of_length_le (by rw [Array.length_toList]; omega), List.append_nil]; rfl
    have hYs : Y.size = s.size := by rw [← Array.length_toList, hYl, cells8_length, hlen]
    have hrow : ((w.alloc (.cells M 5)).setRow w.heap.size Y).heap[w.heap.size]? = some (.cells Y 5 (0, 0)) := setRow_heap _ _ M _ 5 (0, 0) (heap_alloc_new w _)
    have hne : s.data.toList ≠ [] := fun e => h0 (by rw [← hlen, e]; rfl)
    have hus := Lib.run_unsafeString_row (P := Tryz.prog) ((w.alloc (.cells M 5)).setRow w.heap.size Y) 178 3 9 5 Tryz.underlying178 cellsOne w.heap.size Y.size (by unfold World.shape?; rw [hrow]) s.data.toList hne (by omega) (by omega)
      (fun j x hx => by
        rw [add_lit', cell_of_row _ w.heap.size j Y 5 (0, 0) hrow, ← Array.getElem?_toList, hYl]
        have hj : j < s.data.toList.length := (List.getElem?_eq_some_iff.1 hx).1
        rw [cells8_get _ j hj]
        rw [List.getElem?_eq_getElem hj] at hx
        simp at hx ⊢
        rw [hx])
    rw [hlen, str_eta] at hus
    clear hY hlen
    go_enter Tryz.func78, Tryz.ntmps78
    go_wp2
    go_ret
    have hb1 : Below w.heap.size w (w.alloc (.cells M 5)) := (Below.refl _ w).alloc (Nat.le_refl _) _
    have hb2 : Below w.heap.size (w.alloc (.cells M 5)) ((w.alloc (.cells M 5)).setRow w.heap.size Y) := ⟨rfl, rfl, rfl, by simp, fun k hk => setRow_other _ _ _ _ (by omega)⟩
    exact ⟨rfl, Lib.below_freeze (hb1.trans hb2) (p := ⟨w.heap.size, 0, none⟩) (Nat.le_refl _) _⟩

set_option maxHeartbeats 1000000 in
theorem clone_any (s : ByteArray) (w : World) (hs : s.size ≤ 1099511627776) :
    Calls Tryz.prog 49 #[.string s] w fun e w' => e = .returned (.string s) ∧ Below w.heap.size w w' := by
  have HC := hide (clone_lite s w hs)
  go_enter Tryz.func49, Tryz.ntmps49
  go_wp2_with fail
  refine (unhide HC).mono ?_
  rintro e w1 ⟨rfl, hb⟩
  go_wp2
  go_ret
  exact ⟨rfl, hb⟩

end Go.Proofs.YtbhbbeebncmaiaaGreatDoor.Rd
namespace Go.Proofs.YtbhbbeebncmaiaaGreatDoor.Ip
open Go.ChangeShapes Go.WideShapes Go.ChangeAt Go.RowKit Bs Rb Wt Arp
set_option linter.unusedVariables false
theorem conv2 (u : World) (g : Nat) (a b : Int) (ha : 0 ≤ a ∧ a ≤ 255) (hb : 0 ≤ b ∧ b ≤ 255) (h0 : u.cell? ⟨g, 0, none⟩ = some (.int .u8 a)) (h1 : u.cell? ⟨g, 1, none⟩ = some (.int .u8 b)) :
    (convert 55 9 (.slice (some ⟨g, 0, none⟩) 2 2)).run Tryz.prog u = .ok (.string ⟨#[by8 a, by8 b]⟩) u := by
  refine run_convert_bytes_back _ _ _ 5 ⟨g, 0, none⟩ 2 [by8 a, by8 b] Tryz.underlying55 Tryz.underlying5 Tryz.underlying9 (fun j hj => ?_)
  rw [add_lit']
  match j, hj with
  | 0, _ => rw [h0]; simp only [List.getElem_cons_zero, by8_toNat]; rw [Int.emod_eq_of_lt ha.1 (by omega)]
  | 1, _ => rw [h1]; simp only [List.getElem_cons_succ, List.getElem_cons_zero, by8_toNat]; rw [Int.emod_eq_of_lt hb.1 (by omega)]
theorem ret_pair {a b : ByteArray} {k : Int} (h : a = b) : Ending.returned (.tuple #[.string a, .int .i64 k]) = .returned (.tuple #[.string b, .int .i64 k]) := by rw [h]
theorem six_cells {w u : World} {cs : Array Value} {t : TypeId} (h : Below (w.heap.size + 1) (w.alloc (.cells cs t)) u) : ∀ j, u.cell? ⟨w.heap.size, j, none⟩ = cs[j]? := fun j => by
  rw [h.cell (p := ⟨w.heap.size, j, none⟩) (by simp), cell_of_row _ w.heap.size j cs t (0, 0) (heap_alloc_new w _)]
theorem sizes {w u : World} {o : Obj} (h : Below (w.heap.size + 1) (w.alloc o) u) : w.heap.size + 1 ≤ u.heap.size := by have := h.size; simpa using this

end Go.Proofs.YtbhbbeebncmaiaaGreatDoor.Ip

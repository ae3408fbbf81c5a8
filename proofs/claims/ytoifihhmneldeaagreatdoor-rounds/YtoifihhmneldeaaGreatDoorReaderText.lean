import Derived.Test.YtoifihhmneldeaaGreatDoorReader
import Derived.Lib.BufferWrite
import Derived.Lib.UnsafeStr
import Derived.Laws.MakeOwn
namespace Go.Proofs.YtoifihhmneldeaaGreatDoor.Rd
open Go.ChangeShapes Go.WideShapes Go.ChangeAt Go.RowKit Bs
set_option linter.unusedVariables false

theorem infoSize1 : (Tryz.prog.info? 5).map (·.size) = some 1 := by kernel_rfl
theorem cellsOne : Tryz.prog.cellsOf 5 = 1 := by kernel_rfl

set_option maxHeartbeats 4000000 in
set_option maxRecDepth 10000 in
/-- a copy of a text: the same bytes, in memory of their own -/
theorem clone_lite (s : ByteArray) (w : World) (hs : s.size ≤ 1099511627776) :
    Calls Tryz.prog 100 #[.string s] w fun e w' => e = .returned (.string s) ∧ Below w.heap.size w w' := by
  by_cases h0 : s.size = 0
  · have e : s = ⟨#[]⟩ := ByteArray.ext (Array.eq_empty_of_size_eq_zero h0)
    subst e
    go_enter Tryz.func100, Tryz.ntmps100
    go_wp2
    go_ret
    exact ⟨rfl, Below.refl _ _⟩
  · obtain ⟨i0, hi, hz0, hz1, hz2⟩ := info_parts info8
    have hlen := len_str s
    -- the new row, its bytes still 0
    obtain ⟨M, hM⟩ : ∃ M, M = madeCells #[Value.int .u8 0] s.size := ⟨_, rfl⟩
    have hMs : M.size = s.size := by rw [hM, ← Array.length_toList, toList_madeCells_one]; simp
    have hmk : ∀ u : World, (Instr.makeSlice 71 (.int .i64 (s.size : Int)) (.int .i64 (s.size : Int))).run Tryz.prog u = .ok (.slice (some ⟨u.heap.size, 0, none⟩) s.size s.size) (u.alloc (.cells M 5)) := fun u => by
      have h := run_make (P := Tryz.prog) u 71 5 i0 (.int .u8 0) Tryz.underlying71 hi hz0 .i64 .i64 (s.size : Int) (s.size : Int) (by omega) (Int.le_refl _) (by rw [hz2]; omega) (by omega)
      rw [hM]
      simpa [hz1, Value.cells] using h
    clear hM
    -- the bytes are laid into it
    have hcp := Lib.run_copy_row_string (P := Tryz.prog) (w.alloc (.cells M 5)) 71 9 3 5 w.heap.size 0 s.size s.size s M 5 Tryz.underlying71 infoSize1 (heap_alloc_new w _) (Nat.le_refl _) (by omega)
    obtain ⟨Y, hY⟩ : ∃ Y, Y = (M.toList.take 0 ++ Lib.byteCells s.data.toList ++ M.toList.drop (0 + s.size)).toArray := ⟨_, rfl⟩
    rw [← hY] at hcp
    have hYl : Y.toList = cells8 s.data.toList := by
      rw [hY, List.toList_toArray, List.take_zero, List.nil_append, List.drop_of_length_le (by rw [Array.length_toList]; omega), List.append_nil]; rfl
    have hYs : Y.size = s.size := by rw [← Array.length_toList, hYl, cells8_length, hlen]
    have hrow : ((w.alloc (.cells M 5)).setRow w.heap.size Y).heap[w.heap.size]? = some (.cells Y 5 (0, 0)) := setRow_heap _ _ M _ 5 (0, 0) (heap_alloc_new w _)
    have hne : s.data.toList ≠ [] := fun e => h0 (by rw [← hlen, e]; rfl)
    have hus := Lib.run_unsafeString_row (P := Tryz.prog) ((w.alloc (.cells M 5)).setRow w.heap.size Y) 144 3 9 5 Tryz.underlying144 cellsOne w.heap.size Y.size (by unfold World.shape?; rw [hrow]) s.data.toList hne (by omega) (by omega)
      (fun j x hx => by
        rw [add_lit', cell_of_row _ w.heap.size j Y 5 (0, 0) hrow, ← Array.getElem?_toList, hYl]
        have hj : j < s.data.toList.length := (List.getElem?_eq_some_iff.1 hx).1
        rw [cells8_get _ j hj]
        rw [List.getElem?_eq_getElem hj] at hx
        simp at hx ⊢
        rw [hx])
    rw [hlen, str_eta] at hus
    clear hY hlen
    go_enter Tryz.func100, Tryz.ntmps100
    go_wp2
    go_ret
    have hb1 : Below w.heap.size w (w.alloc (.cells M 5)) := (Below.refl _ w).alloc (Nat.le_refl _) _
    have hb2 : Below w.heap.size (w.alloc (.cells M 5)) ((w.alloc (.cells M 5)).setRow w.heap.size Y) := ⟨rfl, rfl, rfl, by simp, fun k hk => setRow_other _ _ _ _ (by omega)⟩
    exact ⟨rfl, Lib.below_freeze (hb1.trans hb2) (p := ⟨w.heap.size, 0, none⟩) (Nat.le_refl _) _⟩

set_option maxHeartbeats 1000000 in
theorem clone_any (s : ByteArray) (w : World) (hs : s.size ≤ 1099511627776) :
    Calls Tryz.prog 82 #[.string s] w fun e w' => e = .returned (.string s) ∧ Below w.heap.size w w' := by
  have HC := hide (clone_lite s w hs)
  go_enter Tryz.func82, Tryz.ntmps82
  go_wp2_with fail
  refine (unhide HC).mono ?_
  rintro e w1 ⟨rfl, hb⟩
  go_wp2
  go_ret
  exact ⟨rfl, hb⟩

set_option maxHeartbeats 1000000 in
theorem text_ok (B : Nat) (l : List UInt8) (n : Nat) (w : World) (h : Rdr w B l) (hn : n ≤ l.length) (hs : l.length ≤ 1099511627776) :
    Calls Tryz.prog 65 #[.pointer (some ⟨B, 0, none⟩), .int .i64 n] w fun e w' => e = .returned (.string ⟨(l.take n).toArray⟩) ∧ Rdr w' B (l.drop n) ∧ w.grownBy w' (some B) := by
  have HN := hide (take_ok B l n w h hn (by unfold maxLen; omega))
  have HC := hide (fun u => clone_any ⟨(l.take n).toArray⟩ u (by rw [str_size, List.length_take]; omega))
  have HR := hide (h.set (l.drop n))
  clear h
  go_enter Tryz.func65, Tryz.ntmps65
  go_wp2_with fail
  refine (unhide HN).mono ?_
  rintro e w1 ⟨rfl, rfl⟩
  go_wp2_with fail
  refine (unhide HC _).mono ?_
  rintro e w2 ⟨rfl, hb⟩
  have HB := hide hb
  clear hb
  go_wp2
  go_ret
  refine ⟨rfl, ?_, grown_below (grown_set _) (unhide HB)⟩
  exact ((unhide HB).block B (unhide HR).lt).trans (unhide HR)

set_option maxHeartbeats 1000000 in
theorem remaining_ok (B : Nat) (l : List UInt8) (w : World) (h : Rdr w B l) (hs : l.length ≤ 1099511627776) :
    Calls Tryz.prog 56 #[.pointer (some ⟨B, 0, none⟩)] w fun e w' => e = .returned (.string ⟨l.toArray⟩) ∧ Rdr w' B [] ∧ w.grownBy w' (some B) := by
  have hc := cell_of_one h
  have hz := str_size l
  have ht := text_ok B l l.length w h (Nat.le_refl _) hs
  rw [List.take_length, List.drop_length] at ht
  have HT := hide ht
  clear h ht
  go_enter Tryz.func56, Tryz.ntmps56
  go_wp2_with fail
  refine (unhide HT).mono ?_
  rintro e w1 ⟨rfl, h1, g1⟩
  have H1 := hide h1
  have G1 := hide g1
  clear h1 g1 hc
  go_wp2
  go_ret
  exact ⟨rfl, unhide H1, unhide G1⟩
end Go.Proofs.YtoifihhmneldeaaGreatDoor.Rd

import Derived.Test.YtoifihhmneldeaaGreatDoorEtherRh
import Derived.Test.YtoifihhmneldeaaGreatDoorStructSame
namespace Go.Proofs.YtoifihhmneldeaaGreatDoor.EtR
open Go.ChangeShapes Go.WideShapes Go.ChangeAt Go.RowKit Bs Rd
set_option linter.unusedVariables false

set_option maxHeartbeats 1000000 in
theorem wire_of (s : ByteArray) (a0 a1 a2 a3 a4 a5 a6 a7 a8 a9 a10 a11 a12 : Int) (a13 : ByteArray) (k : Int) (w : World)
    (hR : ∀ u : World, Calls Tryz.prog 34 #[.string s, .func (.func 35) #[] #[]] u fun ee w' => ee = .returned (.tuple #[.agg #[.int .u8 a0, .int .u8 a1, .int .u8 a2, .int .u8 a3, .int .u8 a4, .int .u8 a5, .int .u8 a6, .int .u8 a7, .int .u8 a8, .int .u8 a9, .int .u8 a10, .int .u8 a11, .int .u16 a12, .string a13], .int .i64 k]) ∧ Below u.heap.size u w') :
    Calls Tryz.prog 14 #[.string s] w fun ee w' => ee = .returned (.tuple #[.agg #[.int .u8 a0, .int .u8 a1, .int .u8 a2, .int .u8 a3, .int .u8 a4, .int .u8 a5, .int .u8 a6, .int .u8 a7, .int .u8 a8, .int .u8 a9, .int .u8 a10, .int .u8 a11, .int .u16 a12, .string a13], .int .i64 k]) ∧ Below w.heap.size w w' := by
  have HR := hide hR
  clear hR
  go_enter Tryz.func14, Tryz.ntmps14
  go_wp2_with fail
  refine (unhide HR _).mono ?_
  rintro ee w1 ⟨rfl, hb⟩
  have hr : w1.heap[w.heap.size]? = some (.cells #[.int .u8 0, .int .u8 0, .int .u8 0, .int .u8 0, .int .u8 0, .int .u8 0, .int .u8 0, .int .u8 0, .int .u8 0, .int .u8 0, .int .u8 0, .int .u8 0, .int .u16 0, .string ⟨#[]⟩] 27 (0, 0)) := (hb.block _ (by simp)).trans (heap_alloc_new w _)
  have d0 : w1.cell? ⟨w.heap.size, 0, none⟩ = some (.int .u8 0) := row_cell hr rfl
  have d1 : w1.cell? ⟨w.heap.size, 1, none⟩ = some (.int .u8 0) := row_cell hr rfl
  have d2 : w1.cell? ⟨w.heap.size, 2, none⟩ = some (.int .u8 0) := row_cell hr rfl
  have d3 : w1.cell? ⟨w.heap.size, 3, none⟩ = some (.int .u8 0) := row_cell hr rfl
  have d4 : w1.cell? ⟨w.heap.size, 4, none⟩ = some (.int .u8 0) := row_cell hr rfl
  have d5 : w1.cell? ⟨w.heap.size, 5, none⟩ = some (.int .u8 0) := row_cell hr rfl
  have d6 : w1.cell? ⟨w.heap.size, 6, none⟩ = some (.int .u8 0) := row_cell hr rfl
  have d7 : w1.cell? ⟨w.heap.size, 7, none⟩ = some (.int .u8 0) := row_cell hr rfl
  have d8 : w1.cell? ⟨w.heap.size, 8, none⟩ = some (.int .u8 0) := row_cell hr rfl
  have d9 : w1.cell? ⟨w.heap.size, 9, none⟩ = some (.int .u8 0) := row_cell hr rfl
  have d10 : w1.cell? ⟨w.heap.size, 10, none⟩ = some (.int .u8 0) := row_cell hr rfl
  have d11 : w1.cell? ⟨w.heap.size, 11, none⟩ = some (.int .u8 0) := row_cell hr rfl
  have d12 : w1.cell? ⟨w.heap.size, 12, none⟩ = some (.int .u16 0) := row_cell hr rfl
  have d13 : w1.cell? ⟨w.heap.size, 13, none⟩ = some (.string ⟨#[]⟩) := row_cell hr rfl
  have fr := row_free hr
  have HB : Hid (Below w.heap.size w w1) := hide (((Below.refl _ w).alloc (Nat.le_refl _) _).trans (hb.mono (by simp)))
  obtain ⟨U, hU⟩ : ∃ U, U = ((((((((((((((w1.setCell ⟨w.heap.size, 0, none⟩ (.int .u8 a0)).setCell ⟨w.heap.size, 1, none⟩ (.int .u8 a1)).setCell ⟨w.heap.size, 2, none⟩ (.int .u8 a2)).setCell ⟨w.heap.size, 3, none⟩ (.int .u8 a3)).setCell ⟨w.heap.size, 4, none⟩ (.int .u8 a4)).setCell ⟨w.heap.size, 5, none⟩ (.int .u8 a5)).setCell ⟨w.heap.size, 6, none⟩ (.int .u8 a6)).setCell ⟨w.heap.size, 7, none⟩ (.int .u8 a7)).setCell ⟨w.heap.size, 8, none⟩ (.int .u8 a8)).setCell ⟨w.heap.size, 9, none⟩ (.int .u8 a9)).setCell ⟨w.heap.size, 10, none⟩ (.int .u8 a10)).setCell ⟨w.heap.size, 11, none⟩ (.int .u8 a11)).setCell ⟨w.heap.size, 12, none⟩ (.int .u16 a12)).setCell ⟨w.heap.size, 13, none⟩ (.string a13)) := ⟨_, rfl⟩
  have hu : U.heap[w.heap.size]? = some (.cells #[.int .u8 a0, .int .u8 a1, .int .u8 a2, .int .u8 a3, .int .u8 a4, .int .u8 a5, .int .u8 a6, .int .u8 a7, .int .u8 a8, .int .u8 a9, .int .u8 a10, .int .u8 a11, .int .u16 a12, .string a13] 27 (0, 0)) := by
    rw [hU]
    exact row_set14 _ _ _ _ _ _ _ _ _ _ _ _ _ _ _ _ _ _ _ _ _ _ _ _ _ _ _ _ hr
  have HBU : Hid (Below w.heap.size w U) := by
    show Below w.heap.size w U
    rw [hU]
    iterate 14 refine below_at ?_
    exact unhide HB
  have u0 : U.cell? ⟨w.heap.size, 0, none⟩ = some (.int .u8 a0) := row_cell hu rfl
  have u1 : U.cell? ⟨w.heap.size, 1, none⟩ = some (.int .u8 a1) := row_cell hu rfl
  have u2 : U.cell? ⟨w.heap.size, 2, none⟩ = some (.int .u8 a2) := row_cell hu rfl
  have u3 : U.cell? ⟨w.heap.size, 3, none⟩ = some (.int .u8 a3) := row_cell hu rfl
  have u4 : U.cell? ⟨w.heap.size, 4, none⟩ = some (.int .u8 a4) := row_cell hu rfl
  have u5 : U.cell? ⟨w.heap.size, 5, none⟩ = some (.int .u8 a5) := row_cell hu rfl
  have u6 : U.cell? ⟨w.heap.size, 6, none⟩ = some (.int .u8 a6) := row_cell hu rfl
  have u7 : U.cell? ⟨w.heap.size, 7, none⟩ = some (.int .u8 a7) := row_cell hu rfl
  have u8 : U.cell? ⟨w.heap.size, 8, none⟩ = some (.int .u8 a8) := row_cell hu rfl
  have u9 : U.cell? ⟨w.heap.size, 9, none⟩ = some (.int .u8 a9) := row_cell hu rfl
  have u10 : U.cell? ⟨w.heap.size, 10, none⟩ = some (.int .u8 a10) := row_cell hu rfl
  have u11 : U.cell? ⟨w.heap.size, 11, none⟩ = some (.int .u8 a11) := row_cell hu rfl
  have u12 : U.cell? ⟨w.heap.size, 12, none⟩ = some (.int .u16 a12) := row_cell hu rfl
  have u13 : U.cell? ⟨w.heap.size, 13, none⟩ = some (.string a13) := row_cell hu rfl
  have HU := hide hU
  clear hr hu hU hb HR
  go_wp2
  rw [← unhide HU]
  clear HU d0 d1 d2 d3 d4 d5 d6 d7 d8 d9 d10 d11 d12 d13 fr
  exact bodyPost_ret (v := .tuple #[.agg #[.int .u8 a0, .int .u8 a1, .int .u8 a2, .int .u8 a3, .int .u8 a4, .int .u8 a5, .int .u8 a6, .int .u8 a7, .int .u8 a8, .int .u8 a9, .int .u8 a10, .int .u8 a11, .int .u16 a12, .string a13], .int .i64 k]) (by simp [results, Tryz.results14, go_sem, u0, u1, u2, u3, u4, u5, u6, u7, u8, u9, u10, u11, u12, u13]) rfl ⟨rfl, unhide HBU⟩

set_option maxHeartbeats 1000000 in
theorem boot_of (s : ByteArray) (a0 a1 a2 a3 a4 a5 a6 a7 a8 a9 a10 a11 a12 : Int) (a13 : ByteArray) (k : Int) (w : World)
    (hR : ∀ u : World, Calls Tryz.prog 14 #[.string s] u fun ee w' => ee = .returned (.tuple #[.agg #[.int .u8 a0, .int .u8 a1, .int .u8 a2, .int .u8 a3, .int .u8 a4, .int .u8 a5, .int .u8 a6, .int .u8 a7, .int .u8 a8, .int .u8 a9, .int .u8 a10, .int .u8 a11, .int .u16 a12, .string a13], .int .i64 k]) ∧ Below u.heap.size u w') :
    Calls Tryz.prog 6 #[.string s] w fun ee w' => ee = .returned (.tuple #[.agg #[.int .u8 a0, .int .u8 a1, .int .u8 a2, .int .u8 a3, .int .u8 a4, .int .u8 a5, .int .u8 a6, .int .u8 a7, .int .u8 a8, .int .u8 a9, .int .u8 a10, .int .u8 a11, .int .u16 a12, .string a13], .int .i64 k]) ∧ Below w.heap.size w w' := by
  have HR := hide hR
  clear hR
  go_enter Tryz.func6, Tryz.ntmps6
  go_wp2_with fail
  refine (unhide HR _).mono ?_
  rintro ee w1 ⟨rfl, hb⟩
  have hr : w1.heap[w.heap.size]? = some (.cells #[.int .u8 0, .int .u8 0, .int .u8 0, .int .u8 0, .int .u8 0, .int .u8 0, .int .u8 0, .int .u8 0, .int .u8 0, .int .u8 0, .int .u8 0, .int .u8 0, .int .u16 0, .string ⟨#[]⟩] 27 (0, 0)) := (hb.block _ (by simp)).trans (heap_alloc_new w _)
  have d0 : w1.cell? ⟨w.heap.size, 0, none⟩ = some (.int .u8 0) := row_cell hr rfl
  have d1 : w1.cell? ⟨w.heap.size, 1, none⟩ = some (.int .u8 0) := row_cell hr rfl
  have d2 : w1.cell? ⟨w.heap.size, 2, none⟩ = some (.int .u8 0) := row_cell hr rfl
  have d3 : w1.cell? ⟨w.heap.size, 3, none⟩ = some (.int .u8 0) := row_cell hr rfl
  have d4 : w1.cell? ⟨w.heap.size, 4, none⟩ = some (.int .u8 0) := row_cell hr rfl
  have d5 : w1.cell? ⟨w.heap.size, 5, none⟩ = some (.int .u8 0) := row_cell hr rfl
  have d6 : w1.cell? ⟨w.heap.size, 6, none⟩ = some (.int .u8 0) := row_cell hr rfl
  have d7 : w1.cell? ⟨w.heap.size, 7, none⟩ = some (.int .u8 0) := row_cell hr rfl
  have d8 : w1.cell? ⟨w.heap.size, 8, none⟩ = some (.int .u8 0) := row_cell hr rfl
  have d9 : w1.cell? ⟨w.heap.size, 9, none⟩ = some (.int .u8 0) := row_cell hr rfl
  have d10 : w1.cell? ⟨w.heap.size, 10, none⟩ = some (.int .u8 0) := row_cell hr rfl
  have d11 : w1.cell? ⟨w.heap.size, 11, none⟩ = some (.int .u8 0) := row_cell hr rfl
  have d12 : w1.cell? ⟨w.heap.size, 12, none⟩ = some (.int .u16 0) := row_cell hr rfl
  have d13 : w1.cell? ⟨w.heap.size, 13, none⟩ = some (.string ⟨#[]⟩) := row_cell hr rfl
  have fr := row_free hr
  have HB : Hid (Below w.heap.size w w1) := hide (((Below.refl _ w).alloc (Nat.le_refl _) _).trans (hb.mono (by simp)))
  obtain ⟨U, hU⟩ : ∃ U, U = ((((((((((((((w1.setCell ⟨w.heap.size, 0, none⟩ (.int .u8 a0)).setCell ⟨w.heap.size, 1, none⟩ (.int .u8 a1)).setCell ⟨w.heap.size, 2, none⟩ (.int .u8 a2)).setCell ⟨w.heap.size, 3, none⟩ (.int .u8 a3)).setCell ⟨w.heap.size, 4, none⟩ (.int .u8 a4)).setCell ⟨w.heap.size, 5, none⟩ (.int .u8 a5)).setCell ⟨w.heap.size, 6, none⟩ (.int .u8 a6)).setCell ⟨w.heap.size, 7, none⟩ (.int .u8 a7)).setCell ⟨w.heap.size, 8, none⟩ (.int .u8 a8)).setCell ⟨w.heap.size, 9, none⟩ (.int .u8 a9)).setCell ⟨w.heap.size, 10, none⟩ (.int .u8 a10)).setCell ⟨w.heap.size, 11, none⟩ (.int .u8 a11)).setCell ⟨w.heap.size, 12, none⟩ (.int .u16 a12)).setCell ⟨w.heap.size, 13, none⟩ (.string a13)) := ⟨_, rfl⟩
  have hu : U.heap[w.heap.size]? = some (.cells #[.int .u8 a0, .int .u8 a1, .int .u8 a2, .int .u8 a3, .int .u8 a4, .int .u8 a5, .int .u8 a6, .int .u8 a7, .int .u8 a8, .int .u8 a9, .int .u8 a10, .int .u8 a11, .int .u16 a12, .string a13] 27 (0, 0)) := by
    rw [hU]
    exact row_set14 _ _ _ _ _ _ _ _ _ _ _ _ _ _ _ _ _ _ _ _ _ _ _ _ _ _ _ _ hr
  have HBU : Hid (Below w.heap.size w U) := by
    show Below w.heap.size w U
    rw [hU]
    iterate 14 refine below_at ?_
    exact unhide HB
  have u0 : U.cell? ⟨w.heap.size, 0, none⟩ = some (.int .u8 a0) := row_cell hu rfl
  have u1 : U.cell? ⟨w.heap.size, 1, none⟩ = some (.int .u8 a1) := row_cell hu rfl
  have u2 : U.cell? ⟨w.heap.size, 2, none⟩ = some (.int .u8 a2) := row_cell hu rfl
  have u3 : U.cell? ⟨w.heap.size, 3, none⟩ = some (.int .u8 a3) := row_cell hu rfl
  have u4 : U.cell? ⟨w.heap.size, 4, none⟩ = some (.int .u8 a4) := row_cell hu rfl
  have u5 : U.cell? ⟨w.heap.size, 5, none⟩ = some (.int .u8 a5) := row_cell hu rfl
  have u6 : U.cell? ⟨w.heap.size, 6, none⟩ = some (.int .u8 a6) := row_cell hu rfl
  have u7 : U.cell? ⟨w.heap.size, 7, none⟩ = some (.int .u8 a7) := row_cell hu rfl
  have u8 : U.cell? ⟨w.heap.size, 8, none⟩ = some (.int .u8 a8) := row_cell hu rfl
  have u9 : U.cell? ⟨w.heap.size, 9, none⟩ = some (.int .u8 a9) := row_cell hu rfl
  have u10 : U.cell? ⟨w.heap.size, 10, none⟩ = some (.int .u8 a10) := row_cell hu rfl
  have u11 : U.cell? ⟨w.heap.size, 11, none⟩ = some (.int .u8 a11) := row_cell hu rfl
  have u12 : U.cell? ⟨w.heap.size, 12, none⟩ = some (.int .u16 a12) := row_cell hu rfl
  have u13 : U.cell? ⟨w.heap.size, 13, none⟩ = some (.string a13) := row_cell hu rfl
  have HU := hide hU
  clear hr hu hU hb HR
  go_wp2
  rw [← unhide HU]
  clear HU d0 d1 d2 d3 d4 d5 d6 d7 d8 d9 d10 d11 d12 d13 fr
  exact bodyPost_ret (v := .tuple #[.agg #[.int .u8 a0, .int .u8 a1, .int .u8 a2, .int .u8 a3, .int .u8 a4, .int .u8 a5, .int .u8 a6, .int .u8 a7, .int .u8 a8, .int .u8 a9, .int .u8 a10, .int .u8 a11, .int .u16 a12, .string a13], .int .i64 k]) (by simp [results, Tryz.results6, go_sem, u0, u1, u2, u3, u4, u5, u6, u7, u8, u9, u10, u11, u12, u13]) rfl ⟨rfl, unhide HBU⟩

end Go.Proofs.YtoifihhmneldeaaGreatDoor.EtR

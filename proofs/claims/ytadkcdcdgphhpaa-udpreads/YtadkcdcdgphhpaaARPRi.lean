import Derived.Test.YtadkcdcdgphhpaaARPRh
import Derived.Test.YtadkcdcdgphhpaaStructSameA
namespace Go.Proofs.Ytadkcdcdgphhpaa.ArR
open Go.ChangeShapes Go.WideShapes Go.ChangeAt Go.RowKit Bs Rd
open EtR (row_cell row_free row_set below_at)
set_option linter.unusedVariables false

set_option maxHeartbeats 1000000 in
theorem wire_of (s : ByteArray) (a0 a1 a2 a3 a4 a5 a6 a7 a8 a9 a10 a11 a12 a13 a14 k : Int) (w : World)
    (hR : ∀ u : World, Calls Try.prog 80 #[.string s, .func (.func 81) #[] #[]] u fun ee w' => ee = .returned (.tuple #[.agg #[.int .u16 a0, .int .u8 a1, .int .u8 a2, .int .u8 a3, .int .u8 a4, .int .u8 a5, .int .u8 a6, .int .u32 a7, .int .u8 a8, .int .u8 a9, .int .u8 a10, .int .u8 a11, .int .u8 a12, .int .u8 a13, .int .u32 a14], .int .i64 k]) ∧ Below u.heap.size u w') :
    Calls Try.prog 50 #[.string s] w fun ee w' => ee = .returned (.tuple #[.agg #[.int .u16 a0, .int .u8 a1, .int .u8 a2, .int .u8 a3, .int .u8 a4, .int .u8 a5, .int .u8 a6, .int .u32 a7, .int .u8 a8, .int .u8 a9, .int .u8 a10, .int .u8 a11, .int .u8 a12, .int .u8 a13, .int .u32 a14], .int .i64 k]) ∧ Below w.heap.size w w' := by
  have HR := hide hR
  clear hR
  go_enter Try.func50, Try.ntmps50
  go_wp2_with fail
  refine (unhide HR _).mono ?_
  rintro ee w1 ⟨rfl, hb⟩
  have hr : w1.heap[w.heap.size]? = some (.cells #[.int .u16 0, .int .u8 0, .int .u8 0, .int .u8 0, .int .u8 0, .int .u8 0, .int .u8 0, .int .u32 0, .int .u8 0, .int .u8 0, .int .u8 0, .int .u8 0, .int .u8 0, .int .u8 0, .int .u32 0] 37 (0, 0)) := (hb.block _ (by simp)).trans (heap_alloc_new w _)
  have d0 : w1.cell? ⟨w.heap.size, 0, none⟩ = some (.int .u16 0) := row_cell hr rfl
  have d1 : w1.cell? ⟨w.heap.size, 1, none⟩ = some (.int .u8 0) := row_cell hr rfl
  have d2 : w1.cell? ⟨w.heap.size, 2, none⟩ = some (.int .u8 0) := row_cell hr rfl
  have d3 : w1.cell? ⟨w.heap.size, 3, none⟩ = some (.int .u8 0) := row_cell hr rfl
  have d4 : w1.cell? ⟨w.heap.size, 4, none⟩ = some (.int .u8 0) := row_cell hr rfl
  have d5 : w1.cell? ⟨w.heap.size, 5, none⟩ = some (.int .u8 0) := row_cell hr rfl
  have d6 : w1.cell? ⟨w.heap.size, 6, none⟩ = some (.int .u8 0) := row_cell hr rfl
  have d7 : w1.cell? ⟨w.heap.size, 7, none⟩ = some (.int .u32 0) := row_cell hr rfl
  have d8 : w1.cell? ⟨w.heap.size, 8, none⟩ = some (.int .u8 0) := row_cell hr rfl
  have d9 : w1.cell? ⟨w.heap.size, 9, none⟩ = some (.int .u8 0) := row_cell hr rfl
  have d10 : w1.cell? ⟨w.heap.size, 10, none⟩ = some (.int .u8 0) := row_cell hr rfl
  have d11 : w1.cell? ⟨w.heap.size, 11, none⟩ = some (.int .u8 0) := row_cell hr rfl
  have d12 : w1.cell? ⟨w.heap.size, 12, none⟩ = some (.int .u8 0) := row_cell hr rfl
  have d13 : w1.cell? ⟨w.heap.size, 13, none⟩ = some (.int .u8 0) := row_cell hr rfl
  have d14 : w1.cell? ⟨w.heap.size, 14, none⟩ = some (.int .u32 0) := row_cell hr rfl
  have fr := row_free hr
  have HB : Hid (Below w.heap.size w w1) := hide (((Below.refl _ w).alloc (Nat.le_refl _) _).trans (hb.mono (by simp)))
  obtain ⟨U, hU⟩ : ∃ U, U = (((((((((((((((w1.setCell ⟨w.heap.size, 0, none⟩ (.int .u16 a0)).setCell ⟨w.heap.size, 1, none⟩ (.int .u8 a1)).setCell ⟨w.heap.size, 2, none⟩ (.int .u8 a2)).setCell ⟨w.heap.size, 3, none⟩ (.int .u8 a3)).setCell ⟨w.heap.size, 4, none⟩ (.int .u8 a4)).setCell ⟨w.heap.size, 5, none⟩ (.int .u8 a5)).setCell ⟨w.heap.size, 6, none⟩ (.int .u8 a6)).setCell ⟨w.heap.size, 7, none⟩ (.int .u32 a7)).setCell ⟨w.heap.size, 8, none⟩ (.int .u8 a8)).setCell ⟨w.heap.size, 9, none⟩ (.int .u8 a9)).setCell ⟨w.heap.size, 10, none⟩ (.int .u8 a10)).setCell ⟨w.heap.size, 11, none⟩ (.int .u8 a11)).setCell ⟨w.heap.size, 12, none⟩ (.int .u8 a12)).setCell ⟨w.heap.size, 13, none⟩ (.int .u8 a13)).setCell ⟨w.heap.size, 14, none⟩ (.int .u32 a14)) := ⟨_, rfl⟩
  have hu : U.heap[w.heap.size]? = some (.cells #[.int .u16 a0, .int .u8 a1, .int .u8 a2, .int .u8 a3, .int .u8 a4, .int .u8 a5, .int .u8 a6, .int .u32 a7, .int .u8 a8, .int .u8 a9, .int .u8 a10, .int .u8 a11, .int .u8 a12, .int .u8 a13, .int .u32 a14] 37 (0, 0)) := by
    rw [hU]
    exact row_set15 _ _ _ _ _ _ _ _ _ _ _ _ _ _ _ _ _ _ _ _ _ _ _ _ _ _ _ _ _ _ hr
  have HBU : Hid (Below w.heap.size w U) := by
    show Below w.heap.size w U
    rw [hU]
    iterate 15 refine below_at ?_
    exact unhide HB
  have u0 : U.cell? ⟨w.heap.size, 0, none⟩ = some (.int .u16 a0) := row_cell hu rfl
  have u1 : U.cell? ⟨w.heap.size, 1, none⟩ = some (.int .u8 a1) := row_cell hu rfl
  have u2 : U.cell? ⟨w.heap.size, 2, none⟩ = some (.int .u8 a2) := row_cell hu rfl
  have u3 : U.cell? ⟨w.heap.size, 3, none⟩ = some (.int .u8 a3) := row_cell hu rfl
  have u4 : U.cell? ⟨w.heap.size, 4, none⟩ = some (.int .u8 a4) := row_cell hu rfl
  have u5 : U.cell? ⟨w.heap.size, 5, none⟩ = some (.int .u8 a5) := row_cell hu rfl
  have u6 : U.cell? ⟨w.heap.size, 6, none⟩ = some (.int .u8 a6) := row_cell hu rfl
  have u7 : U.cell? ⟨w.heap.size, 7, none⟩ = some (.int .u32 a7) := row_cell hu rfl
  have u8 : U.cell? ⟨w.heap.size, 8, none⟩ = some (.int .u8 a8) := row_cell hu rfl
  have u9 : U.cell? ⟨w.heap.size, 9, none⟩ = some (.int .u8 a9) := row_cell hu rfl
  have u10 : U.cell? ⟨w.heap.size, 10, none⟩ = some (.int .u8 a10) := row_cell hu rfl
  have u11 : U.cell? ⟨w.heap.size, 11, none⟩ = some (.int .u8 a11) := row_cell hu rfl
  have u12 : U.cell? ⟨w.heap.size, 12, none⟩ = some (.int .u8 a12) := row_cell hu rfl
  have u13 : U.cell? ⟨w.heap.size, 13, none⟩ = some (.int .u8 a13) := row_cell hu rfl
  have u14 : U.cell? ⟨w.heap.size, 14, none⟩ = some (.int .u32 a14) := row_cell hu rfl
  have HU := hide hU
  clear hr hu hU hb HR
  go_wp2
  rw [← unhide HU]
  clear HU d0 d1 d2 d3 d4 d5 d6 d7 d8 d9 d10 d11 d12 d13 d14 fr
  exact bodyPost_ret (v := .tuple #[.agg #[.int .u16 a0, .int .u8 a1, .int .u8 a2, .int .u8 a3, .int .u8 a4, .int .u8 a5, .int .u8 a6, .int .u32 a7, .int .u8 a8, .int .u8 a9, .int .u8 a10, .int .u8 a11, .int .u8 a12, .int .u8 a13, .int .u32 a14], .int .i64 k]) (by simp [results, Try.results50, go_sem, u0, u1, u2, u3, u4, u5, u6, u7, u8, u9, u10, u11, u12, u13, u14]) rfl ⟨rfl, unhide HBU⟩

set_option maxHeartbeats 1000000 in
theorem boot_of (s : ByteArray) (a0 a1 a2 a3 a4 a5 a6 a7 a8 a9 a10 a11 a12 a13 a14 k : Int) (w : World)
    (hR : ∀ u : World, Calls Try.prog 50 #[.string s] u fun ee w' => ee = .returned (.tuple #[.agg #[.int .u16 a0, .int .u8 a1, .int .u8 a2, .int .u8 a3, .int .u8 a4, .int .u8 a5, .int .u8 a6, .int .u32 a7, .int .u8 a8, .int .u8 a9, .int .u8 a10, .int .u8 a11, .int .u8 a12, .int .u8 a13, .int .u32 a14], .int .i64 k]) ∧ Below u.heap.size u w') :
    Calls Try.prog 19 #[.string s] w fun ee w' => ee = .returned (.tuple #[.agg #[.int .u16 a0, .int .u8 a1, .int .u8 a2, .int .u8 a3, .int .u8 a4, .int .u8 a5, .int .u8 a6, .int .u32 a7, .int .u8 a8, .int .u8 a9, .int .u8 a10, .int .u8 a11, .int .u8 a12, .int .u8 a13, .int .u32 a14], .int .i64 k]) ∧ Below w.heap.size w w' := by
  have HR := hide hR
  clear hR
  go_enter Try.func19, Try.ntmps19
  go_wp2_with fail
  refine (unhide HR _).mono ?_
  rintro ee w1 ⟨rfl, hb⟩
  have hr : w1.heap[w.heap.size]? = some (.cells #[.int .u16 0, .int .u8 0, .int .u8 0, .int .u8 0, .int .u8 0, .int .u8 0, .int .u8 0, .int .u32 0, .int .u8 0, .int .u8 0, .int .u8 0, .int .u8 0, .int .u8 0, .int .u8 0, .int .u32 0] 37 (0, 0)) := (hb.block _ (by simp)).trans (heap_alloc_new w _)
  have d0 : w1.cell? ⟨w.heap.size, 0, none⟩ = some (.int .u16 0) := row_cell hr rfl
  have d1 : w1.cell? ⟨w.heap.size, 1, none⟩ = some (.int .u8 0) := row_cell hr rfl
  have d2 : w1.cell? ⟨w.heap.size, 2, none⟩ = some (.int .u8 0) := row_cell hr rfl
  have d3 : w1.cell? ⟨w.heap.size, 3, none⟩ = some (.int .u8 0) := row_cell hr rfl
  have d4 : w1.cell? ⟨w.heap.size, 4, none⟩ = some (.int .u8 0) := row_cell hr rfl
  have d5 : w1.cell? ⟨w.heap.size, 5, none⟩ = some (.int .u8 0) := row_cell hr rfl
  have d6 : w1.cell? ⟨w.heap.size, 6, none⟩ = some (.int .u8 0) := row_cell hr rfl
  have d7 : w1.cell? ⟨w.heap.size, 7, none⟩ = some (.int .u32 0) := row_cell hr rfl
  have d8 : w1.cell? ⟨w.heap.size, 8, none⟩ = some (.int .u8 0) := row_cell hr rfl
  have d9 : w1.cell? ⟨w.heap.size, 9, none⟩ = some (.int .u8 0) := row_cell hr rfl
  have d10 : w1.cell? ⟨w.heap.size, 10, none⟩ = some (.int .u8 0) := row_cell hr rfl
  have d11 : w1.cell? ⟨w.heap.size, 11, none⟩ = some (.int .u8 0) := row_cell hr rfl
  have d12 : w1.cell? ⟨w.heap.size, 12, none⟩ = some (.int .u8 0) := row_cell hr rfl
  have d13 : w1.cell? ⟨w.heap.size, 13, none⟩ = some (.int .u8 0) := row_cell hr rfl
  have d14 : w1.cell? ⟨w.heap.size, 14, none⟩ = some (.int .u32 0) := row_cell hr rfl
  have fr := row_free hr
  have HB : Hid (Below w.heap.size w w1) := hide (((Below.refl _ w).alloc (Nat.le_refl _) _).trans (hb.mono (by simp)))
  obtain ⟨U, hU⟩ : ∃ U, U = (((((((((((((((w1.setCell ⟨w.heap.size, 0, none⟩ (.int .u16 a0)).setCell ⟨w.heap.size, 1, none⟩ (.int .u8 a1)).setCell ⟨w.heap.size, 2, none⟩ (.int .u8 a2)).setCell ⟨w.heap.size, 3, none⟩ (.int .u8 a3)).setCell ⟨w.heap.size, 4, none⟩ (.int .u8 a4)).setCell ⟨w.heap.size, 5, none⟩ (.int .u8 a5)).setCell ⟨w.heap.size, 6, none⟩ (.int .u8 a6)).setCell ⟨w.heap.size, 7, none⟩ (.int .u32 a7)).setCell ⟨w.heap.size, 8, none⟩ (.int .u8 a8)).setCell ⟨w.heap.size, 9, none⟩ (.int .u8 a9)).setCell ⟨w.heap.size, 10, none⟩ (.int .u8 a10)).setCell ⟨w.heap.size, 11, none⟩ (.int .u8 a11)).setCell ⟨w.heap.size, 12, none⟩ (.int .u8 a12)).setCell ⟨w.heap.size, 13, none⟩ (.int .u8 a13)).setCell ⟨w.heap.size, 14, none⟩ (.int .u32 a14)) := ⟨_, rfl⟩
  have hu : U.heap[w.heap.size]? = some (.cells #[.int .u16 a0, .int .u8 a1, .int .u8 a2, .int .u8 a3, .int .u8 a4, .int .u8 a5, .int .u8 a6, .int .u32 a7, .int .u8 a8, .int .u8 a9, .int .u8 a10, .int .u8 a11, .int .u8 a12, .int .u8 a13, .int .u32 a14] 37 (0, 0)) := by
    rw [hU]
    exact row_set15 _ _ _ _ _ _ _ _ _ _ _ _ _ _ _ _ _ _ _ _ _ _ _ _ _ _ _ _ _ _ hr
  have HBU : Hid (Below w.heap.size w U) := by
    show Below w.heap.size w U
    rw [hU]
    iterate 15 refine below_at ?_
    exact unhide HB
  have u0 : U.cell? ⟨w.heap.size, 0, none⟩ = some (.int .u16 a0) := row_cell hu rfl
  have u1 : U.cell? ⟨w.heap.size, 1, none⟩ = some (.int .u8 a1) := row_cell hu rfl
  have u2 : U.cell? ⟨w.heap.size, 2, none⟩ = some (.int .u8 a2) := row_cell hu rfl
  have u3 : U.cell? ⟨w.heap.size, 3, none⟩ = some (.int .u8 a3) := row_cell hu rfl
  have u4 : U.cell? ⟨w.heap.size, 4, none⟩ = some (.int .u8 a4) := row_cell hu rfl
  have u5 : U.cell? ⟨w.heap.size, 5, none⟩ = some (.int .u8 a5) := row_cell hu rfl
  have u6 : U.cell? ⟨w.heap.size, 6, none⟩ = some (.int .u8 a6) := row_cell hu rfl
  have u7 : U.cell? ⟨w.heap.size, 7, none⟩ = some (.int .u32 a7) := row_cell hu rfl
  have u8 : U.cell? ⟨w.heap.size, 8, none⟩ = some (.int .u8 a8) := row_cell hu rfl
  have u9 : U.cell? ⟨w.heap.size, 9, none⟩ = some (.int .u8 a9) := row_cell hu rfl
  have u10 : U.cell? ⟨w.heap.size, 10, none⟩ = some (.int .u8 a10) := row_cell hu rfl
  have u11 : U.cell? ⟨w.heap.size, 11, none⟩ = some (.int .u8 a11) := row_cell hu rfl
  have u12 : U.cell? ⟨w.heap.size, 12, none⟩ = some (.int .u8 a12) := row_cell hu rfl
  have u13 : U.cell? ⟨w.heap.size, 13, none⟩ = some (.int .u8 a13) := row_cell hu rfl
  have u14 : U.cell? ⟨w.heap.size, 14, none⟩ = some (.int .u32 a14) := row_cell hu rfl
  have HU := hide hU
  clear hr hu hU hb HR
  go_wp2
  rw [← unhide HU]
  clear HU d0 d1 d2 d3 d4 d5 d6 d7 d8 d9 d10 d11 d12 d13 d14 fr
  exact bodyPost_ret (v := .tuple #[.agg #[.int .u16 a0, .int .u8 a1, .int .u8 a2, .int .u8 a3, .int .u8 a4, .int .u8 a5, .int .u8 a6, .int .u32 a7, .int .u8 a8, .int .u8 a9, .int .u8 a10, .int .u8 a11, .int .u8 a12, .int .u8 a13, .int .u32 a14], .int .i64 k]) (by simp [results, Try.results19, go_sem, u0, u1, u2, u3, u4, u5, u6, u7, u8, u9, u10, u11, u12, u13, u14]) rfl ⟨rfl, unhide HBU⟩

set_option maxHeartbeats 1000000 in
theorem law_of (s : ByteArray) (a0 a1 a2 a3 a4 a5 a6 a7 a8 a9 a10 a11 a12 a13 a14 k : Int) (w : World)
    (hO : ∀ u : World, Calls Try.prog 19 #[.string s] u fun ee w' => ee = .returned (.tuple #[.agg #[.int .u16 a0, .int .u8 a1, .int .u8 a2, .int .u8 a3, .int .u8 a4, .int .u8 a5, .int .u8 a6, .int .u32 a7, .int .u8 a8, .int .u8 a9, .int .u8 a10, .int .u8 a11, .int .u8 a12, .int .u8 a13, .int .u32 a14], .int .i64 k]) ∧ Below u.heap.size u w')
    (hR : ∀ u : World, Calls Try.prog 20 #[.string s] u fun ee w' => ee = .returned (.tuple #[.agg #[.int .u16 a0, .int .u8 a1, .int .u8 a2, .int .u8 a3, .int .u8 a4, .int .u8 a5, .int .u8 a6, .int .u32 a7, .int .u8 a8, .int .u8 a9, .int .u8 a10, .int .u8 a11, .int .u8 a12, .int .u8 a13, .int .u32 a14], .int .i64 k]) ∧ Below u.heap.size u w') :
    Calls Try.prog 5 #[.string s] w fun ee w' => ee = .returned (.bool true) ∧ Below w.heap.size w w' := by
  have HO := hide hO
  have HR := hide hR
  clear hO hR
  have heq := fun u => Sq.eql_arp a0 a1 a2 a3 a4 a5 a6 a7 a8 a9 a10 a11 a12 a13 a14 u
  go_enter Try.func5, Try.ntmps5
  go_wp2_with fail
  refine (unhide HO _).mono ?_
  rintro ee w1 ⟨rfl, hb1⟩
  have HB1 := hide hb1
  clear hb1 HO
  go_wp2_with fail
  refine (unhide HR _).mono ?_
  rintro ee w2 ⟨rfl, hb2⟩
  have hc := Arp.below_cells hb2
  have HB2 := hide hb2
  have hz : w1.heap.size < w2.heap.size := by have := hb2.size; simp at this; omega
  clear hb2 HR
  go_wp2
  go_ret
  refine ⟨by simp, ?_⟩
  have q := (unhide HB1).size
  exact (((unhide HB1).alloc q _).trans ((unhide HB2).mono (by simp; omega))).alloc (by omega) _
end Go.Proofs.Ytadkcdcdgphhpaa.ArR

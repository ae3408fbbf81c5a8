import Derived.Test.YtoifihhmneldeaaDoorIPRf
import Derived.Test.YtoifihhmneldeaaDoorEtherRh
namespace Go.Proofs.YtoifihhmneldeaaDoor.IpR
open Go.ChangeShapes Go.WideShapes Go.ChangeAt Go.RowKit Bs Rd
open EtR (row_cell row_free row_set below_of below_at new_reader assert_errno)
set_option linter.unusedVariables false

theorem row_set6 {w : World} {g : Nat} {t : TypeId} (b0 b1 b2 b3 b4 b5 v0 v1 v2 v3 v4 v5 : Value) (h : w.heap[g]? = some (.cells #[b0, b1, b2, b3, b4, b5] t (0, 0))) :
    ((((((w.setCell ⟨g, 0, none⟩ v0).setCell ⟨g, 1, none⟩ v1).setCell ⟨g, 2, none⟩ v2).setCell ⟨g, 3, none⟩ v3).setCell ⟨g, 4, none⟩ v4).setCell ⟨g, 5, none⟩ v5).heap[g]? = some (.cells #[v0, v1, v2, v3, v4, v5] t (0, 0)) := by
  have h0 : (w.setCell ⟨g, 0, none⟩ v0).heap[g]? = some (.cells #[v0, b1, b2, b3, b4, b5] t (0, 0)) := row_set h 0 v0
  have h1 : ((w.setCell ⟨g, 0, none⟩ v0).setCell ⟨g, 1, none⟩ v1).heap[g]? = some (.cells #[v0, v1, b2, b3, b4, b5] t (0, 0)) := row_set h0 1 v1
  have h2 : (((w.setCell ⟨g, 0, none⟩ v0).setCell ⟨g, 1, none⟩ v1).setCell ⟨g, 2, none⟩ v2).heap[g]? = some (.cells #[v0, v1, v2, b3, b4, b5] t (0, 0)) := row_set h1 2 v2
  have h3 : ((((w.setCell ⟨g, 0, none⟩ v0).setCell ⟨g, 1, none⟩ v1).setCell ⟨g, 2, none⟩ v2).setCell ⟨g, 3, none⟩ v3).heap[g]? = some (.cells #[v0, v1, v2, v3, b4, b5] t (0, 0)) := row_set h2 3 v3
  have h4 : (((((w.setCell ⟨g, 0, none⟩ v0).setCell ⟨g, 1, none⟩ v1).setCell ⟨g, 2, none⟩ v2).setCell ⟨g, 3, none⟩ v3).setCell ⟨g, 4, none⟩ v4).heap[g]? = some (.cells #[v0, v1, v2, v3, v4, b5] t (0, 0)) := row_set h3 4 v4
  have h5 : ((((((w.setCell ⟨g, 0, none⟩ v0).setCell ⟨g, 1, none⟩ v1).setCell ⟨g, 2, none⟩ v2).setCell ⟨g, 3, none⟩ v3).setCell ⟨g, 4, none⟩ v4).setCell ⟨g, 5, none⟩ v5).heap[g]? = some (.cells #[v0, v1, v2, v3, v4, v5] t (0, 0)) := row_set h4 5 v5
  exact h5

theorem catch_panicking (p : Addr) (x k : Int) (older : List PanicEntry) (w : World) (hc : w.cell? p = some (.int .i64 x)) (hz : w.frozen? p = false) :
    CallsD Tryd.prog 43 #[.pointer (some p)] (.panicking ({ v := .iface 32 (.int .i64 k), recovered := false } :: older)) w fun e u' w' =>
      e = .returned (.tuple #[]) ∧ u' = .panicking ({ v := .iface 32 (.int .i64 k), recovered := true } :: older) ∧ w' = w.setCell p (.int .i64 k) := by
  refine callsD_of_wpS Tryd.func43 rfl fun c₀ cs hu => ?_
  apply wpS_seq
  apply wpS_region
  simp [wpOpsS, go_sem, recoverD, hu, Tryd.ntmps43, Exit.thenS]
  refine wpS_of_wp ?_
  change Code.wp _ _ _ { tmps := #[.pointer (some p), .iface 32 (.int .i64 k), .iface 32 (.int .i64 k), undef, undef, undef, undef], defers := [] } _
  have hta := fun u => assert_errno k u
  go_wp2
  exact ⟨rfl, _, rfl, .tuple #[], by simp [results, Tryd.results43], rfl, rfl, rfl⟩

theorem catch_idle (p : Addr) (w : World) :
    CallsD Tryd.prog 43 #[.pointer (some p)] .returning w fun e u' w' => e = .returned (.tuple #[]) ∧ u' = .returning ∧ w' = w := by
  refine callsD_of_wpS Tryd.func43 rfl fun c₀ cs hu => ?_
  apply wpS_seq
  apply wpS_region
  simp [wpOpsS, go_sem, recoverD, hu, Tryd.ntmps43, Exit.thenS]
  refine wpS_of_wp ?_
  change Code.wp _ _ _ { tmps := #[.pointer (some p), .nilIface, .nilIface, undef, undef, undef, undef], defers := [] } _
  go_wp2
  cases c₀
  simp_all [bodyPostS, results, Tryd.results43]

theorem blocks {w w1 W : World} {s : ByteArray} (g : W.grownBy w1 (some (w.heap.size + 1 + 1))) (hW : W = ((w.alloc (.cells #[.int .u16 0, .int .u8 0, .int .u8 0, .int .u32 0, .int .u32 0, .string ⟨#[]⟩] 31)).alloc (.cells #[.int .i64 0] 32)).alloc (.cells #[.string s] 80)) :
    w1.heap[w.heap.size]? = some (.cells #[.int .u16 0, .int .u8 0, .int .u8 0, .int .u32 0, .int .u32 0, .string ⟨#[]⟩] 31 (0, 0)) ∧ w1.heap[w.heap.size + 1]? = some (.cells #[.int .i64 0] 32 (0, 0)) := by
  have z2 : ((w.alloc (.cells #[.int .u16 0, .int .u8 0, .int .u8 0, .int .u32 0, .int .u32 0, .string ⟨#[]⟩] 31)).alloc (.cells #[.int .i64 0] 32)).heap.size = w.heap.size + 1 + 1 := by simp
  have z1 : (w.alloc (.cells #[.int .u16 0, .int .u8 0, .int .u8 0, .int .u32 0, .int .u32 0, .string ⟨#[]⟩] 31)).heap.size = w.heap.size + 1 := by simp
  have e0 : W.heap[w.heap.size]? = some (.cells #[.int .u16 0, .int .u8 0, .int .u8 0, .int .u32 0, .int .u32 0, .string ⟨#[]⟩] 31 (0, 0)) := by
    rw [hW, Below.heap_alloc _ _ _ (by omega), Below.heap_alloc _ _ _ (by omega)]; exact heap_alloc_new w _
  have e1 : W.heap[w.heap.size + 1]? = some (.cells #[.int .i64 0] 32 (0, 0)) := by
    rw [hW, Below.heap_alloc _ _ _ (by omega)]
    have q := heap_alloc_new (w.alloc (.cells #[.int .u16 0, .int .u8 0, .int .u8 0, .int .u32 0, .int .u32 0, .string ⟨#[]⟩] 31)) (.cells #[.int .i64 0] 32)
    rw [z1] at q
    exact q
  exact ⟨(g.block _ (lt_of_block e0) (fun q => by simp at q; omega)).trans e0, (g.block _ (lt_of_block e1) (fun q => by simp at q)).trans e1⟩

set_option maxHeartbeats 1000000 in
theorem read_no (s : ByteArray) (k : Int) (w : World)
    (hR : ∀ u B, Rdr u B s.data.toList → (∀ b o, b < w.heap.size → u.cell? ⟨b, o, none⟩ = w.cell? ⟨b, o, none⟩) → Calls Tryd.prog 30 #[.pointer (some ⟨B, 0, none⟩)] u fun ee w' => ee = .panicked (errP k) ∧ u.grownBy w' (some B)) :
    Calls Tryd.prog 29 #[.string s, .func (.func 30) #[] #[]] w fun ee w' => ee = .returned (.tuple #[.agg #[.int .u16 0, .int .u8 0, .int .u8 0, .int .u32 0, .int .u32 0, .string ⟨#[]⟩], .int .i64 k]) ∧ Below w.heap.size w w' := by
  have hmf : ∀ (fn : Fn) (first cap : Array Value) (w : World), (Instr.makeFunc fn first cap).run Tryd.prog w = .ok (.func fn first cap) w := fun _ _ _ _ => rfl
  have HR := hide hR
  clear hR
  go_enter_defers Tryd.func29, Tryd.ntmps29
  go_wp2_with fail
  refine (unhide HR _ _ (new_reader _ _ s (by simp)) (fun b o hb => ((((Below.refl _ w).alloc (Nat.le_refl _) _).alloc (by simp) _).alloc (by simp; omega) _).cell (p := ⟨b, o, none⟩) hb)).mono ?_
  rintro ee w1 ⟨rfl, g1⟩
  obtain ⟨hr, he⟩ := blocks g1 rfl
  have d0 : w1.cell? ⟨w.heap.size, 0, none⟩ = some (.int .u16 0) := row_cell hr rfl
  have d1 : w1.cell? ⟨w.heap.size, 1, none⟩ = some (.int .u8 0) := row_cell hr rfl
  have d2 : w1.cell? ⟨w.heap.size, 2, none⟩ = some (.int .u8 0) := row_cell hr rfl
  have d3 : w1.cell? ⟨w.heap.size, 3, none⟩ = some (.int .u32 0) := row_cell hr rfl
  have d4 : w1.cell? ⟨w.heap.size, 4, none⟩ = some (.int .u32 0) := row_cell hr rfl
  have d5 : w1.cell? ⟨w.heap.size, 5, none⟩ = some (.string ⟨#[]⟩) := row_cell hr rfl
  have hc := cell_of_one he
  have hf := free_of_one he
  refine leaves_cons (f := 43) (args := #[.pointer (some ⟨w.heap.size + 1, 0, none⟩)]) (by simp) (by simp [go_sem]) ?_
  refine (catch_panicking ⟨w.heap.size + 1, 0, none⟩ 0 k [] _ hc hf).mono ?_
  rintro e u' w'' ⟨rfl, rfl, rfl⟩
  simp [Leaves, settle, results, Tryd.results29, go_sem, d0, d1, d2, d3, d4, d5, hc]
  exact (below_of g1 ((((Below.refl _ w).alloc (Nat.le_refl _) _).alloc (by simp) _).alloc (by simp; omega) _) (by omega)).setCell (by simp) _

set_option maxHeartbeats 1000000 in
theorem read_ok (s : ByteArray) (a0 a1 a2 a3 a4 : Int) (a5 : ByteArray) (w : World)
    (hR : ∀ u B, Rdr u B s.data.toList → (∀ b o, b < w.heap.size → u.cell? ⟨b, o, none⟩ = w.cell? ⟨b, o, none⟩) → Calls Tryd.prog 30 #[.pointer (some ⟨B, 0, none⟩)] u fun ee w' => ee = .returned (.agg #[.int .u16 a0, .int .u8 a1, .int .u8 a2, .int .u32 a3, .int .u32 a4, .string a5]) ∧ u.grownBy w' (some B)) :
    Calls Tryd.prog 29 #[.string s, .func (.func 30) #[] #[]] w fun ee w' => ee = .returned (.tuple #[.agg #[.int .u16 a0, .int .u8 a1, .int .u8 a2, .int .u32 a3, .int .u32 a4, .string a5], .int .i64 0]) ∧ Below w.heap.size w w' := by
  have hmf : ∀ (fn : Fn) (first cap : Array Value) (w : World), (Instr.makeFunc fn first cap).run Tryd.prog w = .ok (.func fn first cap) w := fun _ _ _ _ => rfl
  have HR := hide hR
  clear hR
  go_enter_defers Tryd.func29, Tryd.ntmps29
  go_wp2_with fail
  refine (unhide HR _ _ (new_reader _ _ s (by simp)) (fun b o hb => ((((Below.refl _ w).alloc (Nat.le_refl _) _).alloc (by simp) _).alloc (by simp; omega) _).cell (p := ⟨b, o, none⟩) hb)).mono ?_
  rintro ee w1 ⟨rfl, g1⟩
  obtain ⟨hr, he⟩ := blocks g1 rfl
  have d0 : w1.cell? ⟨w.heap.size, 0, none⟩ = some (.int .u16 0) := row_cell hr rfl
  have d1 : w1.cell? ⟨w.heap.size, 1, none⟩ = some (.int .u8 0) := row_cell hr rfl
  have d2 : w1.cell? ⟨w.heap.size, 2, none⟩ = some (.int .u8 0) := row_cell hr rfl
  have d3 : w1.cell? ⟨w.heap.size, 3, none⟩ = some (.int .u32 0) := row_cell hr rfl
  have d4 : w1.cell? ⟨w.heap.size, 4, none⟩ = some (.int .u32 0) := row_cell hr rfl
  have d5 : w1.cell? ⟨w.heap.size, 5, none⟩ = some (.string ⟨#[]⟩) := row_cell hr rfl
  have fr := row_free hr
  have hc := cell_of_one he
  have hf := free_of_one he
  have HB := hide (below_of g1 ((((Below.refl _ w).alloc (Nat.le_refl _) _).alloc (by simp) _).alloc (by simp; omega) _) (by omega))
  obtain ⟨U, hU⟩ : ∃ U, U = (((((((w1.setCell ⟨w.heap.size, 0, none⟩ (.int .u16 a0)).setCell ⟨w.heap.size, 1, none⟩ (.int .u8 a1)).setCell ⟨w.heap.size, 2, none⟩ (.int .u8 a2)).setCell ⟨w.heap.size, 3, none⟩ (.int .u32 a3)).setCell ⟨w.heap.size, 4, none⟩ (.int .u32 a4)).setCell ⟨w.heap.size, 5, none⟩ (.string a5)).setCell ⟨w.heap.size + 1, 0, none⟩ (.int .i64 0)) := ⟨_, rfl⟩
  have hu : U.heap[w.heap.size]? = some (.cells #[.int .u16 a0, .int .u8 a1, .int .u8 a2, .int .u32 a3, .int .u32 a4, .string a5] 31 (0, 0)) := by
    rw [hU, Below.heap_setCell _ _ _ _ (by simp)]
    exact row_set6 _ _ _ _ _ _ _ _ _ _ _ _ hr
  have u0 : U.cell? ⟨w.heap.size, 0, none⟩ = some (.int .u16 a0) := row_cell hu rfl
  have u1 : U.cell? ⟨w.heap.size, 1, none⟩ = some (.int .u8 a1) := row_cell hu rfl
  have u2 : U.cell? ⟨w.heap.size, 2, none⟩ = some (.int .u8 a2) := row_cell hu rfl
  have u3 : U.cell? ⟨w.heap.size, 3, none⟩ = some (.int .u32 a3) := row_cell hu rfl
  have u4 : U.cell? ⟨w.heap.size, 4, none⟩ = some (.int .u32 a4) := row_cell hu rfl
  have u5 : U.cell? ⟨w.heap.size, 5, none⟩ = some (.string a5) := row_cell hu rfl
  have hv : U.heap[w.heap.size + 1]? = some (.cells #[.int .i64 0] 32 (0, 0)) := by
    rw [hU]
    refine one_setCell (v := .int .i64 0) ?_
    rw [Below.heap_setCell _ _ _ _ (by simp), Below.heap_setCell _ _ _ _ (by simp), Below.heap_setCell _ _ _ _ (by simp), Below.heap_setCell _ _ _ _ (by simp), Below.heap_setCell _ _ _ _ (by simp), Below.heap_setCell _ _ _ _ (by simp)]
    exact he
  have HBU : Hid (Below w.heap.size w U) := by
    show Below w.heap.size w U
    rw [hU]
    refine Below.setCell ?_ (by simp) _
    iterate 6 refine below_at ?_
    exact unhide HB
  have uv := cell_of_one hv
  have HU := hide hU
  clear g1 hr he hu hv hU
  go_wp2
  rw [← unhide HU]
  clear HU d0 d1 d2 d3 d4 d5 hc hf fr
  refine leaves_cons (f := 43) (args := #[.pointer (some ⟨w.heap.size + 1, 0, none⟩)]) (by simp) (by simp [go_sem]) ?_
  refine (catch_idle ⟨w.heap.size + 1, 0, none⟩ _).mono ?_
  rintro e u' w'' ⟨rfl, rfl, rfl⟩
  simp [Leaves, settle, results, Tryd.results29, go_sem, u0, u1, u2, u3, u4, u5, uv]
  exact unhide HBU

set_option maxHeartbeats 1000000 in
theorem wire_of (s : ByteArray) (a0 a1 a2 a3 a4 : Int) (a5 : ByteArray) (k : Int) (w : World)
    (hR : ∀ u : World, Calls Tryd.prog 29 #[.string s, .func (.func 30) #[] #[]] u fun ee w' => ee = .returned (.tuple #[.agg #[.int .u16 a0, .int .u8 a1, .int .u8 a2, .int .u32 a3, .int .u32 a4, .string a5], .int .i64 k]) ∧ Below u.heap.size u w') :
    Calls Tryd.prog 20 #[.string s] w fun ee w' => ee = .returned (.tuple #[.agg #[.int .u16 a0, .int .u8 a1, .int .u8 a2, .int .u32 a3, .int .u32 a4, .string a5], .int .i64 k]) ∧ Below w.heap.size w w' := by
  have HR := hide hR
  clear hR
  go_enter Tryd.func20, Tryd.ntmps20
  go_wp2_with fail
  refine (unhide HR _).mono ?_
  rintro ee w1 ⟨rfl, hb⟩
  have hr : w1.heap[w.heap.size]? = some (.cells #[.int .u16 0, .int .u8 0, .int .u8 0, .int .u32 0, .int .u32 0, .string ⟨#[]⟩] 31 (0, 0)) := (hb.block _ (by simp)).trans (heap_alloc_new w _)
  have d0 : w1.cell? ⟨w.heap.size, 0, none⟩ = some (.int .u16 0) := row_cell hr rfl
  have d1 : w1.cell? ⟨w.heap.size, 1, none⟩ = some (.int .u8 0) := row_cell hr rfl
  have d2 : w1.cell? ⟨w.heap.size, 2, none⟩ = some (.int .u8 0) := row_cell hr rfl
  have d3 : w1.cell? ⟨w.heap.size, 3, none⟩ = some (.int .u32 0) := row_cell hr rfl
  have d4 : w1.cell? ⟨w.heap.size, 4, none⟩ = some (.int .u32 0) := row_cell hr rfl
  have d5 : w1.cell? ⟨w.heap.size, 5, none⟩ = some (.string ⟨#[]⟩) := row_cell hr rfl
  have fr := row_free hr
  have HB : Hid (Below w.heap.size w w1) := hide (((Below.refl _ w).alloc (Nat.le_refl _) _).trans (hb.mono (by simp)))
  obtain ⟨U, hU⟩ : ∃ U, U = ((((((w1.setCell ⟨w.heap.size, 0, none⟩ (.int .u16 a0)).setCell ⟨w.heap.size, 1, none⟩ (.int .u8 a1)).setCell ⟨w.heap.size, 2, none⟩ (.int .u8 a2)).setCell ⟨w.heap.size, 3, none⟩ (.int .u32 a3)).setCell ⟨w.heap.size, 4, none⟩ (.int .u32 a4)).setCell ⟨w.heap.size, 5, none⟩ (.string a5)) := ⟨_, rfl⟩
  have hu : U.heap[w.heap.size]? = some (.cells #[.int .u16 a0, .int .u8 a1, .int .u8 a2, .int .u32 a3, .int .u32 a4, .string a5] 31 (0, 0)) := by
    rw [hU]
    exact row_set6 _ _ _ _ _ _ _ _ _ _ _ _ hr
  have u0 : U.cell? ⟨w.heap.size, 0, none⟩ = some (.int .u16 a0) := row_cell hu rfl
  have u1 : U.cell? ⟨w.heap.size, 1, none⟩ = some (.int .u8 a1) := row_cell hu rfl
  have u2 : U.cell? ⟨w.heap.size, 2, none⟩ = some (.int .u8 a2) := row_cell hu rfl
  have u3 : U.cell? ⟨w.heap.size, 3, none⟩ = some (.int .u32 a3) := row_cell hu rfl
  have u4 : U.cell? ⟨w.heap.size, 4, none⟩ = some (.int .u32 a4) := row_cell hu rfl
  have u5 : U.cell? ⟨w.heap.size, 5, none⟩ = some (.string a5) := row_cell hu rfl
  have HBU : Hid (Below w.heap.size w U) := by
    show Below w.heap.size w U
    rw [hU]
    iterate 6 refine below_at ?_
    exact unhide HB
  have HU := hide hU
  clear hr hu hU hb HR
  go_wp2
  rw [← unhide HU]
  clear HU d0 d1 d2 d3 d4 d5 fr
  exact bodyPost_ret (v := .tuple #[.agg #[.int .u16 a0, .int .u8 a1, .int .u8 a2, .int .u32 a3, .int .u32 a4, .string a5], .int .i64 k]) (by simp [results, Tryd.results20, go_sem, u0, u1, u2, u3, u4, u5]) rfl ⟨rfl, unhide HBU⟩

set_option maxHeartbeats 1000000 in
theorem boot_of (s : ByteArray) (a0 a1 a2 a3 a4 : Int) (a5 : ByteArray) (k : Int) (w : World)
    (hR : ∀ u : World, Calls Tryd.prog 20 #[.string s] u fun ee w' => ee = .returned (.tuple #[.agg #[.int .u16 a0, .int .u8 a1, .int .u8 a2, .int .u32 a3, .int .u32 a4, .string a5], .int .i64 k]) ∧ Below u.heap.size u w') :
    Calls Tryd.prog 10 #[.string s] w fun ee w' => ee = .returned (.tuple #[.agg #[.int .u16 a0, .int .u8 a1, .int .u8 a2, .int .u32 a3, .int .u32 a4, .string a5], .int .i64 k]) ∧ Below w.heap.size w w' := by
  have HR := hide hR
  clear hR
  go_enter Tryd.func10, Tryd.ntmps10
  go_wp2_with fail
  refine (unhide HR _).mono ?_
  rintro ee w1 ⟨rfl, hb⟩
  have hr : w1.heap[w.heap.size]? = some (.cells #[.int .u16 0, .int .u8 0, .int .u8 0, .int .u32 0, .int .u32 0, .string ⟨#[]⟩] 31 (0, 0)) := (hb.block _ (by simp)).trans (heap_alloc_new w _)
  have d0 : w1.cell? ⟨w.heap.size, 0, none⟩ = some (.int .u16 0) := row_cell hr rfl
  have d1 : w1.cell? ⟨w.heap.size, 1, none⟩ = some (.int .u8 0) := row_cell hr rfl
  have d2 : w1.cell? ⟨w.heap.size, 2, none⟩ = some (.int .u8 0) := row_cell hr rfl
  have d3 : w1.cell? ⟨w.heap.size, 3, none⟩ = some (.int .u32 0) := row_cell hr rfl
  have d4 : w1.cell? ⟨w.heap.size, 4, none⟩ = some (.int .u32 0) := row_cell hr rfl
  have d5 : w1.cell? ⟨w.heap.size, 5, none⟩ = some (.string ⟨#[]⟩) := row_cell hr rfl
  have fr := row_free hr
  have HB : Hid (Below w.heap.size w w1) := hide (((Below.refl _ w).alloc (Nat.le_refl _) _).trans (hb.mono (by simp)))
  obtain ⟨U, hU⟩ : ∃ U, U = ((((((w1.setCell ⟨w.heap.size, 0, none⟩ (.int .u16 a0)).setCell ⟨w.heap.size, 1, none⟩ (.int .u8 a1)).setCell ⟨w.heap.size, 2, none⟩ (.int .u8 a2)).setCell ⟨w.heap.size, 3, none⟩ (.int .u32 a3)).setCell ⟨w.heap.size, 4, none⟩ (.int .u32 a4)).setCell ⟨w.heap.size, 5, none⟩ (.string a5)) := ⟨_, rfl⟩
  have hu : U.heap[w.heap.size]? = some (.cells #[.int .u16 a0, .int .u8 a1, .int .u8 a2, .int .u32 a3, .int .u32 a4, .string a5] 31 (0, 0)) := by
    rw [hU]
    exact row_set6 _ _ _ _ _ _ _ _ _ _ _ _ hr
  have u0 : U.cell? ⟨w.heap.size, 0, none⟩ = some (.int .u16 a0) := row_cell hu rfl
  have u1 : U.cell? ⟨w.heap.size, 1, none⟩ = some (.int .u8 a1) := row_cell hu rfl
  have u2 : U.cell? ⟨w.heap.size, 2, none⟩ = some (.int .u8 a2) := row_cell hu rfl
  have u3 : U.cell? ⟨w.heap.size, 3, none⟩ = some (.int .u32 a3) := row_cell hu rfl
  have u4 : U.cell? ⟨w.heap.size, 4, none⟩ = some (.int .u32 a4) := row_cell hu rfl
  have u5 : U.cell? ⟨w.heap.size, 5, none⟩ = some (.string a5) := row_cell hu rfl
  have HBU : Hid (Below w.heap.size w U) := by
    show Below w.heap.size w U
    rw [hU]
    iterate 6 refine below_at ?_
    exact unhide HB
  have HU := hide hU
  clear hr hu hU hb HR
  go_wp2
  rw [← unhide HU]
  clear HU d0 d1 d2 d3 d4 d5 fr
  exact bodyPost_ret (v := .tuple #[.agg #[.int .u16 a0, .int .u8 a1, .int .u8 a2, .int .u32 a3, .int .u32 a4, .string a5], .int .i64 k]) (by simp [results, Tryd.results10, go_sem, u0, u1, u2, u3, u4, u5]) rfl ⟨rfl, unhide HBU⟩

end Go.Proofs.YtoifihhmneldeaaDoor.IpR

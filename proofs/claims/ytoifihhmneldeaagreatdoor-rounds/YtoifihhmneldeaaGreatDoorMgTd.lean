import Derived.Test.YtoifihhmneldeaaGreatDoorMgTc
import Derived.Test.YtoifihhmneldeaaGreatDoorEtherRh
import Derived.Test.YtoifihhmneldeaaGreatDoorMgTa
namespace Go.Proofs.YtoifihhmneldeaaGreatDoor.TfR
open Go.ChangeShapes Go.WideShapes Go.ChangeAt Go.RowKit Bs Rd
open EtR (row_cell row_free row_set below_of below_at new_reader assert_errno)
set_option linter.unusedVariables false
set_option linter.unusedSimpArgs false

/-- a list of options as a call hands it out -/
def OutP (n : Nat) (xs : List Value) (w : World) (mk : Option Addr → Nat → Value) (ee : Ending) (w' : World) : Prop :=
  ∃ sa sc, ee = .returned (mk sa sc) ∧ w'.ownsRow w.heap.size 64 2 (.slice sa n sc) n xs ∧ Below w.heap.size w w'

theorem row_set5 {w : World} {g : Nat} {t : TypeId} (b0 b1 b2 b3 b4 v0 v1 v2 v3 v4 : Value) (h : w.heap[g]? = some (.cells #[b0, b1, b2, b3, b4] t (0, 0))) :
    (((((w.setCell ⟨g, 0, none⟩ v0).setCell ⟨g, 1, none⟩ v1).setCell ⟨g, 2, none⟩ v2).setCell ⟨g, 3, none⟩ v3).setCell ⟨g, 4, none⟩ v4).heap[g]? = some (.cells #[v0, v1, v2, v3, v4] t (0, 0)) := by
  have h0 : (w.setCell ⟨g, 0, none⟩ v0).heap[g]? = some (.cells #[v0, b1, b2, b3, b4] t (0, 0)) := row_set h 0 v0
  have h1 : ((w.setCell ⟨g, 0, none⟩ v0).setCell ⟨g, 1, none⟩ v1).heap[g]? = some (.cells #[v0, v1, b2, b3, b4] t (0, 0)) := row_set h0 1 v1
  have h2 : (((w.setCell ⟨g, 0, none⟩ v0).setCell ⟨g, 1, none⟩ v1).setCell ⟨g, 2, none⟩ v2).heap[g]? = some (.cells #[v0, v1, v2, b3, b4] t (0, 0)) := row_set h1 2 v2
  have h3 : ((((w.setCell ⟨g, 0, none⟩ v0).setCell ⟨g, 1, none⟩ v1).setCell ⟨g, 2, none⟩ v2).setCell ⟨g, 3, none⟩ v3).heap[g]? = some (.cells #[v0, v1, v2, v3, b4] t (0, 0)) := row_set h2 3 v3
  have h4 : (((((w.setCell ⟨g, 0, none⟩ v0).setCell ⟨g, 1, none⟩ v1).setCell ⟨g, 2, none⟩ v2).setCell ⟨g, 3, none⟩ v3).setCell ⟨g, 4, none⟩ v4).heap[g]? = some (.cells #[v0, v1, v2, v3, v4] t (0, 0)) := row_set h3 4 v4
  exact h4

theorem catch_panicking (p : Addr) (x k : Int) (older : List PanicEntry) (w : World) (hc : w.cell? p = some (.int .i64 x)) (hz : w.frozen? p = false) :
    CallsD Tryz.prog 96 #[.pointer (some p)] (.panicking ({ v := .iface 28 (.int .i64 k), recovered := false } :: older)) w fun e u' w' =>
      e = .returned (.tuple #[]) ∧ u' = .panicking ({ v := .iface 28 (.int .i64 k), recovered := true } :: older) ∧ w' = w.setCell p (.int .i64 k) := by
  refine callsD_of_wpS Tryz.func96 rfl fun c₀ cs hu => ?_
  apply wpS_seq
  apply wpS_region
  simp [wpOpsS, go_sem, recoverD, hu, Tryz.ntmps96, Exit.thenS]
  refine wpS_of_wp ?_
  change Code.wp _ _ _ { tmps := #[.pointer (some p), .iface 28 (.int .i64 k), .iface 28 (.int .i64 k), undef, undef, undef, undef], defers := [] } _
  have hta := fun u => assert_errno k u
  go_wp2
  exact ⟨rfl, _, rfl, .tuple #[], by simp [results, Tryz.results96], rfl, rfl, rfl⟩

theorem catch_idle (p : Addr) (w : World) :
    CallsD Tryz.prog 96 #[.pointer (some p)] .returning w fun e u' w' => e = .returned (.tuple #[]) ∧ u' = .returning ∧ w' = w := by
  refine callsD_of_wpS Tryz.func96 rfl fun c₀ cs hu => ?_
  apply wpS_seq
  apply wpS_region
  simp [wpOpsS, go_sem, recoverD, hu, Tryz.ntmps96, Exit.thenS]
  refine wpS_of_wp ?_
  change Code.wp _ _ _ { tmps := #[.pointer (some p), .nilIface, .nilIface, undef, undef, undef, undef], defers := [] } _
  go_wp2
  cases c₀
  simp_all [bodyPostS, results, Tryz.results96]

theorem blocks {w w1 W : World} {s : ByteArray} (g : W.grownBy w1 (some (w.heap.size + 1 + 1))) (hW : W = ((w.alloc (.cells #[.int .u16 0, .int .u16 0, .string ⟨#[]⟩, .string ⟨#[]⟩, .slice none 0 0] 62)).alloc (.cells #[.int .i64 0] 28)).alloc (.cells #[.string s] 99)) :
    w1.heap[w.heap.size]? = some (.cells #[.int .u16 0, .int .u16 0, .string ⟨#[]⟩, .string ⟨#[]⟩, .slice none 0 0] 62 (0, 0)) ∧ w1.heap[w.heap.size + 1]? = some (.cells #[.int .i64 0] 28 (0, 0)) := by
  have z2 : ((w.alloc (.cells #[.int .u16 0, .int .u16 0, .string ⟨#[]⟩, .string ⟨#[]⟩, .slice none 0 0] 62)).alloc (.cells #[.int .i64 0] 28)).heap.size = w.heap.size + 1 + 1 := by simp
  have z1 : (w.alloc (.cells #[.int .u16 0, .int .u16 0, .string ⟨#[]⟩, .string ⟨#[]⟩, .slice none 0 0] 62)).heap.size = w.heap.size + 1 := by simp
  have e0 : W.heap[w.heap.size]? = some (.cells #[.int .u16 0, .int .u16 0, .string ⟨#[]⟩, .string ⟨#[]⟩, .slice none 0 0] 62 (0, 0)) := by
    rw [hW, Below.heap_alloc _ _ _ (by omega), Below.heap_alloc _ _ _ (by omega)]; exact heap_alloc_new w _
  have e1 : W.heap[w.heap.size + 1]? = some (.cells #[.int .i64 0] 28 (0, 0)) := by
    rw [hW, Below.heap_alloc _ _ _ (by omega)]
    have q := heap_alloc_new (w.alloc (.cells #[.int .u16 0, .int .u16 0, .string ⟨#[]⟩, .string ⟨#[]⟩, .slice none 0 0] 62)) (.cells #[.int .i64 0] 28)
    rw [z1] at q
    exact q
  exact ⟨(g.block _ (lt_of_block e0) (fun q => by simp at q; omega)).trans e0, (g.block _ (lt_of_block e1) (fun q => by simp at q)).trans e1⟩

set_option maxHeartbeats 4000000 in
set_option maxRecDepth 10000 in
theorem read_no (s : ByteArray) (k : Int) (w : World)
    (hR : ∀ u B, Rdr u B s.data.toList → (∀ b o, b < w.heap.size → u.cell? ⟨b, o, none⟩ = w.cell? ⟨b, o, none⟩) → Calls Tryz.prog 79 #[.pointer (some ⟨B, 0, none⟩)] u fun ee w' => ee = .panicked (errP k) ∧ u.grownBy w' (some B)) :
    Calls Tryz.prog 78 #[.string s, .func (.func 79) #[] #[]] w fun ee w' => ee = .returned (.tuple #[.agg #[.int .u16 0, .int .u16 0, .string ⟨#[]⟩, .string ⟨#[]⟩, .slice none 0 0], .int .i64 k]) ∧ Below w.heap.size w w' := by
  have hmf : ∀ (fn : Fn) (first cap : Array Value) (w : World), (Instr.makeFunc fn first cap).run Tryz.prog w = .ok (.func fn first cap) w := fun _ _ _ _ => rfl
  have HR := hide hR
  clear hR
  go_enter_defers Tryz.func78, Tryz.ntmps78
  go_wp2_with fail
  refine (unhide HR _ _ (new_reader _ _ s (by simp)) (fun b o hb => ((((Below.refl _ w).alloc (Nat.le_refl _) _).alloc (by simp) _).alloc (by simp; omega) _).cell (p := ⟨b, o, none⟩) hb)).mono ?_
  rintro ee w1 ⟨rfl, g1⟩
  obtain ⟨hr, he⟩ := blocks g1 rfl
  have d0 : w1.cell? ⟨w.heap.size, 0, none⟩ = some (.int .u16 0) := row_cell hr rfl
  have d1 : w1.cell? ⟨w.heap.size, 1, none⟩ = some (.int .u16 0) := row_cell hr rfl
  have d2 : w1.cell? ⟨w.heap.size, 2, none⟩ = some (.string ⟨#[]⟩) := row_cell hr rfl
  have d3 : w1.cell? ⟨w.heap.size, 3, none⟩ = some (.string ⟨#[]⟩) := row_cell hr rfl
  have d4 : w1.cell? ⟨w.heap.size, 4, none⟩ = some (.slice none 0 0) := row_cell hr rfl
  have hc := cell_of_one he
  have hf := free_of_one he
  refine leaves_cons (f := 96) (args := #[.pointer (some ⟨w.heap.size + 1, 0, none⟩)]) (by simp) (by simp [go_sem]) ?_
  refine (catch_panicking ⟨w.heap.size + 1, 0, none⟩ 0 k [] _ hc hf).mono ?_
  rintro e u' w'' ⟨rfl, rfl, rfl⟩
  simp [Leaves, settle, results, Tryz.results78, go_sem, d0, d1, d2, d3, d4, hc]
  exact (below_of g1 ((((Below.refl _ w).alloc (Nat.le_refl _) _).alloc (by simp) _).alloc (by simp; omega) _) (by omega)).setCell (by simp) _

set_option maxHeartbeats 4000000 in
set_option maxRecDepth 10000 in
theorem read_ok (s : ByteArray) (a0 a1 : Int) (a2 a3 : ByteArray) (sn : Nat) (xs : List Value) (w : World)
    (hR : ∀ u B, Rdr u B s.data.toList → (∀ b o, b < w.heap.size → u.cell? ⟨b, o, none⟩ = w.cell? ⟨b, o, none⟩) → Calls Tryz.prog 79 #[.pointer (some ⟨B, 0, none⟩)] u fun ee w' => (∃ sa sc, ee = .returned (.agg #[.int .u16 a0, .int .u16 a1, .string a2, .string a3, .slice sa sn sc]) ∧ w'.ownsRow u.heap.size 64 2 (.slice sa sn sc) sn xs) ∧ u.grownBy w' (some B)) :
    Calls Tryz.prog 78 #[.string s, .func (.func 79) #[] #[]] w fun ee w' => OutP sn xs w (fun sa sc => .tuple #[.agg #[.int .u16 a0, .int .u16 a1, .string a2, .string a3, .slice sa sn sc], .int .i64 0]) ee w' := by
  have hmf : ∀ (fn : Fn) (first cap : Array Value) (w : World), (Instr.makeFunc fn first cap).run Tryz.prog w = .ok (.func fn first cap) w := fun _ _ _ _ => rfl
  have HR := hide hR
  clear hR
  go_enter_defers Tryz.func78, Tryz.ntmps78
  go_wp2_with fail
  refine (unhide HR _ _ (new_reader _ _ s (by simp)) (fun b o hb => ((((Below.refl _ w).alloc (Nat.le_refl _) _).alloc (by simp) _).alloc (by simp; omega) _).cell (p := ⟨b, o, none⟩) hb)).mono ?_
  rintro ee w1 ⟨⟨sa, sc, rfl, ho⟩, g1⟩
  obtain ⟨hr, he⟩ := blocks g1 rfl
  have d0 : w1.cell? ⟨w.heap.size, 0, none⟩ = some (.int .u16 0) := row_cell hr rfl
  have d1 : w1.cell? ⟨w.heap.size, 1, none⟩ = some (.int .u16 0) := row_cell hr rfl
  have d2 : w1.cell? ⟨w.heap.size, 2, none⟩ = some (.string ⟨#[]⟩) := row_cell hr rfl
  have d3 : w1.cell? ⟨w.heap.size, 3, none⟩ = some (.string ⟨#[]⟩) := row_cell hr rfl
  have d4 : w1.cell? ⟨w.heap.size, 4, none⟩ = some (.slice none 0 0) := row_cell hr rfl
  have fr := row_free hr
  have hc := cell_of_one he
  have hf := free_of_one he
  have HB := hide (below_of g1 ((((Below.refl _ w).alloc (Nat.le_refl _) _).alloc (by simp) _).alloc (by simp; omega) _) (by omega))
  obtain ⟨U, hU⟩ : ∃ U, U = ((((((w1.setCell ⟨w.heap.size, 0, none⟩ (.int .u16 a0)).setCell ⟨w.heap.size, 1, none⟩ (.int .u16 a1)).setCell ⟨w.heap.size, 2, none⟩ (.string a2)).setCell ⟨w.heap.size, 3, none⟩ (.string a3)).setCell ⟨w.heap.size, 4, none⟩ (.slice sa sn sc)).setCell ⟨w.heap.size + 1, 0, none⟩ (.int .i64 0)) := ⟨_, rfl⟩
  have hu : U.heap[w.heap.size]? = some (.cells #[.int .u16 a0, .int .u16 a1, .string a2, .string a3, .slice sa sn sc] 62 (0, 0)) := by
    rw [hU, Below.heap_setCell _ _ _ _ (by simp)]
    exact row_set5 _ _ _ _ _ _ _ _ _ _ hr
  have u0 : U.cell? ⟨w.heap.size, 0, none⟩ = some (.int .u16 a0) := row_cell hu rfl
  have u1 : U.cell? ⟨w.heap.size, 1, none⟩ = some (.int .u16 a1) := row_cell hu rfl
  have u2 : U.cell? ⟨w.heap.size, 2, none⟩ = some (.string a2) := row_cell hu rfl
  have u3 : U.cell? ⟨w.heap.size, 3, none⟩ = some (.string a3) := row_cell hu rfl
  have u4 : U.cell? ⟨w.heap.size, 4, none⟩ = some (.slice sa sn sc) := row_cell hu rfl
  have hv : U.heap[w.heap.size + 1]? = some (.cells #[.int .i64 0] 28 (0, 0)) := by
    rw [hU]
    refine one_setCell (v := .int .i64 0) ?_
    rw [Below.heap_setCell _ _ _ _ (by simp), Below.heap_setCell _ _ _ _ (by simp), Below.heap_setCell _ _ _ _ (by simp), Below.heap_setCell _ _ _ _ (by simp), Below.heap_setCell _ _ _ _ (by simp)]
    exact he
  have HBU : Hid (Below w.heap.size w U) := by
    show Below w.heap.size w U
    rw [hU]
    refine Below.setCell ?_ (by simp) _
    iterate 5 refine below_at ?_
    exact unhide HB
  have HOU : Hid (U.ownsRow w.heap.size 64 2 (.slice sa sn sc) sn xs) := by
    show U.ownsRow w.heap.size 64 2 (.slice sa sn sc) sn xs
    rw [hU]
    refine Tf.own_mono (b := w.heap.size + 3) ?_ (by omega)
    iterate 6 refine ownsRow_setCell_below ?_ (by first | (show w.heap.size < _; omega) | (show w.heap.size + 1 < _; omega)) _
    exact Tf.own_mono ho (by simp)
  have uv := cell_of_one hv
  have HU := hide hU
  clear g1 hr he hu hv hU ho
  go_wp2
  rw [← unhide HU]
  clear HU d0 d1 d2 d3 d4 hc hf fr
  refine leaves_cons (f := 96) (args := #[.pointer (some ⟨w.heap.size + 1, 0, none⟩)]) (by simp) (by simp [go_sem]) ?_
  refine (catch_idle ⟨w.heap.size + 1, 0, none⟩ _).mono ?_
  rintro e u' w'' ⟨rfl, rfl, rfl⟩
  simp [Leaves, settle, results, Tryz.results78, go_sem, u0, u1, u2, u3, u4, uv]
  exact ⟨sa, sc, rfl, unhide HOU, unhide HBU⟩

set_option maxHeartbeats 4000000 in
set_option maxRecDepth 10000 in
theorem wire_of_ok (s : ByteArray) (a0 a1 : Int) (a2 a3 : ByteArray) (sn : Nat) (xs : List Value) (w : World)
    (hR : ∀ u : World, Calls Tryz.prog 78 #[.string s, .func (.func 79) #[] #[]] u fun ee w' => OutP sn xs u (fun sa sc => .tuple #[.agg #[.int .u16 a0, .int .u16 a1, .string a2, .string a3, .slice sa sn sc], .int .i64 0]) ee w') :
    Calls Tryz.prog 50 #[.string s] w fun ee w' => OutP sn xs w (fun sa sc => .tuple #[.agg #[.int .u16 a0, .int .u16 a1, .string a2, .string a3, .slice sa sn sc], .int .i64 0]) ee w' := by
  have HR := hide hR
  clear hR
  go_enter Tryz.func50, Tryz.ntmps50
  go_wp2_with fail
  refine (unhide HR _).mono ?_
  rintro ee w1 ⟨sa, sc, rfl, ho, hb⟩
  have hr : w1.heap[w.heap.size]? = some (.cells #[.int .u16 0, .int .u16 0, .string ⟨#[]⟩, .string ⟨#[]⟩, .slice none 0 0] 62 (0, 0)) := (hb.block _ (by simp)).trans (heap_alloc_new w _)
  have d0 : w1.cell? ⟨w.heap.size, 0, none⟩ = some (.int .u16 0) := row_cell hr rfl
  have d1 : w1.cell? ⟨w.heap.size, 1, none⟩ = some (.int .u16 0) := row_cell hr rfl
  have d2 : w1.cell? ⟨w.heap.size, 2, none⟩ = some (.string ⟨#[]⟩) := row_cell hr rfl
  have d3 : w1.cell? ⟨w.heap.size, 3, none⟩ = some (.string ⟨#[]⟩) := row_cell hr rfl
  have d4 : w1.cell? ⟨w.heap.size, 4, none⟩ = some (.slice none 0 0) := row_cell hr rfl
  have fr := row_free hr
  have HB : Hid (Below w.heap.size w w1) := hide (((Below.refl _ w).alloc (Nat.le_refl _) _).trans (hb.mono (by simp)))
  obtain ⟨U, hU⟩ : ∃ U, U = (((((w1.setCell ⟨w.heap.size, 0, none⟩ (.int .u16 a0)).setCell ⟨w.heap.size, 1, none⟩ (.int .u16 a1)).setCell ⟨w.heap.size, 2, none⟩ (.string a2)).setCell ⟨w.heap.size, 3, none⟩ (.string a3)).setCell ⟨w.heap.size, 4, none⟩ (.slice sa sn sc)) := ⟨_, rfl⟩
  have hu : U.heap[w.heap.size]? = some (.cells #[.int .u16 a0, .int .u16 a1, .string a2, .string a3, .slice sa sn sc] 62 (0, 0)) := by
    rw [hU]
    exact row_set5 _ _ _ _ _ _ _ _ _ _ hr
  have u0 : U.cell? ⟨w.heap.size, 0, none⟩ = some (.int .u16 a0) := row_cell hu rfl
  have u1 : U.cell? ⟨w.heap.size, 1, none⟩ = some (.int .u16 a1) := row_cell hu rfl
  have u2 : U.cell? ⟨w.heap.size, 2, none⟩ = some (.string a2) := row_cell hu rfl
  have u3 : U.cell? ⟨w.heap.size, 3, none⟩ = some (.string a3) := row_cell hu rfl
  have u4 : U.cell? ⟨w.heap.size, 4, none⟩ = some (.slice sa sn sc) := row_cell hu rfl
  have HBU : Hid (Below w.heap.size w U) := by
    show Below w.heap.size w U
    rw [hU]
    iterate 5 refine below_at ?_
    exact unhide HB
  have HOU : Hid (U.ownsRow w.heap.size 64 2 (.slice sa sn sc) sn xs) := by
    show U.ownsRow w.heap.size 64 2 (.slice sa sn sc) sn xs
    rw [hU]
    refine Tf.own_mono (b := w.heap.size + 1) ?_ (by omega)
    iterate 5 refine ownsRow_setCell_below ?_ (by show w.heap.size < _; omega) _
    exact Tf.own_mono ho (by simp)
  have HU := hide hU
  clear hr hu hU hb HR ho
  go_wp2
  rw [← unhide HU]
  clear HU d0 d1 d2 d3 d4 fr
  exact bodyPost_ret (v := .tuple #[.agg #[.int .u16 a0, .int .u16 a1, .string a2, .string a3, .slice sa sn sc], .int .i64 0]) (by simp [results, Tryz.results50, go_sem, u0, u1, u2, u3, u4]) rfl ⟨sa, sc, rfl, unhide HOU, unhide HBU⟩

set_option maxHeartbeats 4000000 in
set_option maxRecDepth 10000 in
theorem boot_of_ok (s : ByteArray) (a0 a1 : Int) (a2 a3 : ByteArray) (sn : Nat) (xs : List Value) (w : World)
    (hR : ∀ u : World, Calls Tryz.prog 50 #[.string s] u fun ee w' => OutP sn xs u (fun sa sc => .tuple #[.agg #[.int .u16 a0, .int .u16 a1, .string a2, .string a3, .slice sa sn sc], .int .i64 0]) ee w') :
    Calls Tryz.prog 26 #[.string s] w fun ee w' => OutP sn xs w (fun sa sc => .tuple #[.agg #[.int .u16 a0, .int .u16 a1, .string a2, .string a3, .slice sa sn sc], .int .i64 0]) ee w' := by
  have HR := hide hR
  clear hR
  go_enter Tryz.func26, Tryz.ntmps26
  go_wp2_with fail
  refine (unhide HR _).mono ?_
  rintro ee w1 ⟨sa, sc, rfl, ho, hb⟩
  have hr : w1.heap[w.heap.size]? = some (.cells #[.int .u16 0, .int .u16 0, .string ⟨#[]⟩, .string ⟨#[]⟩, .slice none 0 0] 62 (0, 0)) := (hb.block _ (by simp)).trans (heap_alloc_new w _)
  have d0 : w1.cell? ⟨w.heap.size, 0, none⟩ = some (.int .u16 0) := row_cell hr rfl
  have d1 : w1.cell? ⟨w.heap.size, 1, none⟩ = some (.int .u16 0) := row_cell hr rfl
  have d2 : w1.cell? ⟨w.heap.size, 2, none⟩ = some (.string ⟨#[]⟩) := row_cell hr rfl
  have d3 : w1.cell? ⟨w.heap.size, 3, none⟩ = some (.string ⟨#[]⟩) := row_cell hr rfl
  have d4 : w1.cell? ⟨w.heap.size, 4, none⟩ = some (.slice none 0 0) := row_cell hr rfl
  have fr := row_free hr
  have HB : Hid (Below w.heap.size w w1) := hide (((Below.refl _ w).alloc (Nat.le_refl _) _).trans (hb.mono (by simp)))
  obtain ⟨U, hU⟩ : ∃ U, U = (((((w1.setCell ⟨w.heap.size, 0, none⟩ (.int .u16 a0)).setCell ⟨w.heap.size, 1, none⟩ (.int .u16 a1)).setCell ⟨w.heap.size, 2, none⟩ (.string a2)).setCell ⟨w.heap.size, 3, none⟩ (.string a3)).setCell ⟨w.heap.size, 4, none⟩ (.slice sa sn sc)) := ⟨_, rfl⟩
  have hu : U.heap[w.heap.size]? = some (.cells #[.int .u16 a0, .int .u16 a1, .string a2, .string a3, .slice sa sn sc] 62 (0, 0)) := by
    rw [hU]
    exact row_set5 _ _ _ _ _ _ _ _ _ _ hr
  have u0 : U.cell? ⟨w.heap.size, 0, none⟩ = some (.int .u16 a0) := row_cell hu rfl
  have u1 : U.cell? ⟨w.heap.size, 1, none⟩ = some (.int .u16 a1) := row_cell hu rfl
  have u2 : U.cell? ⟨w.heap.size, 2, none⟩ = some (.string a2) := row_cell hu rfl
  have u3 : U.cell? ⟨w.heap.size, 3, none⟩ = some (.string a3) := row_cell hu rfl
  have u4 : U.cell? ⟨w.heap.size, 4, none⟩ = some (.slice sa sn sc) := row_cell hu rfl
  have HBU : Hid (Below w.heap.size w U) := by
    show Below w.heap.size w U
    rw [hU]
    iterate 5 refine below_at ?_
    exact unhide HB
  have HOU : Hid (U.ownsRow w.heap.size 64 2 (.slice sa sn sc) sn xs) := by
    show U.ownsRow w.heap.size 64 2 (.slice sa sn sc) sn xs
    rw [hU]
    refine Tf.own_mono (b := w.heap.size + 1) ?_ (by omega)
    iterate 5 refine ownsRow_setCell_below ?_ (by show w.heap.size < _; omega) _
    exact Tf.own_mono ho (by simp)
  have HU := hide hU
  clear hr hu hU hb HR ho
  go_wp2
  rw [← unhide HU]
  clear HU d0 d1 d2 d3 d4 fr
  exact bodyPost_ret (v := .tuple #[.agg #[.int .u16 a0, .int .u16 a1, .string a2, .string a3, .slice sa sn sc], .int .i64 0]) (by simp [results, Tryz.results26, go_sem, u0, u1, u2, u3, u4]) rfl ⟨sa, sc, rfl, unhide HOU, unhide HBU⟩

set_option maxHeartbeats 4000000 in
set_option maxRecDepth 10000 in
theorem wire_of_no (s : ByteArray) (k : Int) (w : World)
    (hR : ∀ u : World, Calls Tryz.prog 78 #[.string s, .func (.func 79) #[] #[]] u fun ee w' => ee = .returned (.tuple #[.agg #[.int .u16 0, .int .u16 0, .string ⟨#[]⟩, .string ⟨#[]⟩, .slice none 0 0], .int .i64 k]) ∧ Below u.heap.size u w') :
    Calls Tryz.prog 50 #[.string s] w fun ee w' => ee = .returned (.tuple #[.agg #[.int .u16 0, .int .u16 0, .string ⟨#[]⟩, .string ⟨#[]⟩, .slice none 0 0], .int .i64 k]) ∧ Below w.heap.size w w' := by
  have HR := hide hR
  clear hR
  go_enter Tryz.func50, Tryz.ntmps50
  go_wp2_with fail
  refine (unhide HR _).mono ?_
  rintro ee w1 ⟨rfl, hb⟩
  have hr : w1.heap[w.heap.size]? = some (.cells #[.int .u16 0, .int .u16 0, .string ⟨#[]⟩, .string ⟨#[]⟩, .slice none 0 0] 62 (0, 0)) := (hb.block _ (by simp)).trans (heap_alloc_new w _)
  have d0 : w1.cell? ⟨w.heap.size, 0, none⟩ = some (.int .u16 0) := row_cell hr rfl
  have d1 : w1.cell? ⟨w.heap.size, 1, none⟩ = some (.int .u16 0) := row_cell hr rfl
  have d2 : w1.cell? ⟨w.heap.size, 2, none⟩ = some (.string ⟨#[]⟩) := row_cell hr rfl
  have d3 : w1.cell? ⟨w.heap.size, 3, none⟩ = some (.string ⟨#[]⟩) := row_cell hr rfl
  have d4 : w1.cell? ⟨w.heap.size, 4, none⟩ = some (.slice none 0 0) := row_cell hr rfl
  have fr := row_free hr
  have HB : Hid (Below w.heap.size w w1) := hide (((Below.refl _ w).alloc (Nat.le_refl _) _).trans (hb.mono (by simp)))
  obtain ⟨U, hU⟩ : ∃ U, U = (((((w1.setCell ⟨w.heap.size, 0, none⟩ (.int .u16 0)).setCell ⟨w.heap.size, 1, none⟩ (.int .u16 0)).setCell ⟨w.heap.size, 2, none⟩ (.string ⟨#[]⟩)).setCell ⟨w.heap.size, 3, none⟩ (.string ⟨#[]⟩)).setCell ⟨w.heap.size, 4, none⟩ (.slice none 0 0)) := ⟨_, rfl⟩
  have hu : U.heap[w.heap.size]? = some (.cells #[.int .u16 0, .int .u16 0, .string ⟨#[]⟩, .string ⟨#[]⟩, .slice none 0 0] 62 (0, 0)) := by
    rw [hU]
    exact row_set5 _ _ _ _ _ _ _ _ _ _ hr
  have u0 : U.cell? ⟨w.heap.size, 0, none⟩ = some (.int .u16 0) := row_cell hu rfl
  have u1 : U.cell? ⟨w.heap.size, 1, none⟩ = some (.int .u16 0) := row_cell hu rfl
  have u2 : U.cell? ⟨w.heap.size, 2, none⟩ = some (.string ⟨#[]⟩) := row_cell hu rfl
  have u3 : U.cell? ⟨w.heap.size, 3, none⟩ = some (.string ⟨#[]⟩) := row_cell hu rfl
  have u4 : U.cell? ⟨w.heap.size, 4, none⟩ = some (.slice none 0 0) := row_cell hu rfl
  have HBU : Hid (Below w.heap.size w U) := by
    show Below w.heap.size w U
    rw [hU]
    iterate 5 refine below_at ?_
    exact unhide HB
  have HU := hide hU
  clear hr hu hU hb HR
  go_wp2
  rw [← unhide HU]
  clear HU d0 d1 d2 d3 d4 fr
  exact bodyPost_ret (v := .tuple #[.agg #[.int .u16 0, .int .u16 0, .string ⟨#[]⟩, .string ⟨#[]⟩, .slice none 0 0], .int .i64 k]) (by simp [results, Tryz.results50, go_sem, u0, u1, u2, u3, u4]) rfl ⟨rfl, unhide HBU⟩

set_option maxHeartbeats 4000000 in
set_option maxRecDepth 10000 in
theorem boot_of_no (s : ByteArray) (k : Int) (w : World)
    (hR : ∀ u : World, Calls Tryz.prog 50 #[.string s] u fun ee w' => ee = .returned (.tuple #[.agg #[.int .u16 0, .int .u16 0, .string ⟨#[]⟩, .string ⟨#[]⟩, .slice none 0 0], .int .i64 k]) ∧ Below u.heap.size u w') :
    Calls Tryz.prog 26 #[.string s] w fun ee w' => ee = .returned (.tuple #[.agg #[.int .u16 0, .int .u16 0, .string ⟨#[]⟩, .string ⟨#[]⟩, .slice none 0 0], .int .i64 k]) ∧ Below w.heap.size w w' := by
  have HR := hide hR
  clear hR
  go_enter Tryz.func26, Tryz.ntmps26
  go_wp2_with fail
  refine (unhide HR _).mono ?_
  rintro ee w1 ⟨rfl, hb⟩
  have hr : w1.heap[w.heap.size]? = some (.cells #[.int .u16 0, .int .u16 0, .string ⟨#[]⟩, .string ⟨#[]⟩, .slice none 0 0] 62 (0, 0)) := (hb.block _ (by simp)).trans (heap_alloc_new w _)
  have d0 : w1.cell? ⟨w.heap.size, 0, none⟩ = some (.int .u16 0) := row_cell hr rfl
  have d1 : w1.cell? ⟨w.heap.size, 1, none⟩ = some (.int .u16 0) := row_cell hr rfl
  have d2 : w1.cell? ⟨w.heap.size, 2, none⟩ = some (.string ⟨#[]⟩) := row_cell hr rfl
  have d3 : w1.cell? ⟨w.heap.size, 3, none⟩ = some (.string ⟨#[]⟩) := row_cell hr rfl
  have d4 : w1.cell? ⟨w.heap.size, 4, none⟩ = some (.slice none 0 0) := row_cell hr rfl
  have fr := row_free hr
  have HB : Hid (Below w.heap.size w w1) := hide (((Below.refl _ w).alloc (Nat.le_refl _) _).trans (hb.mono (by simp)))
  obtain ⟨U, hU⟩ : ∃ U, U = (((((w1.setCell ⟨w.heap.size, 0, none⟩ (.int .u16 0)).setCell ⟨w.heap.size, 1, none⟩ (.int .u16 0)).setCell ⟨w.heap.size, 2, none⟩ (.string ⟨#[]⟩)).setCell ⟨w.heap.size, 3, none⟩ (.string ⟨#[]⟩)).setCell ⟨w.heap.size, 4, none⟩ (.slice none 0 0)) := ⟨_, rfl⟩
  have hu : U.heap[w.heap.size]? = some (.cells #[.int .u16 0, .int .u16 0, .string ⟨#[]⟩, .string ⟨#[]⟩, .slice none 0 0] 62 (0, 0)) := by
    rw [hU]
    exact row_set5 _ _ _ _ _ _ _ _ _ _ hr
  have u0 : U.cell? ⟨w.heap.size, 0, none⟩ = some (.int .u16 0) := row_cell hu rfl
  have u1 : U.cell? ⟨w.heap.size, 1, none⟩ = some (.int .u16 0) := row_cell hu rfl
  have u2 : U.cell? ⟨w.heap.size, 2, none⟩ = some (.string ⟨#[]⟩) := row_cell hu rfl
  have u3 : U.cell? ⟨w.heap.size, 3, none⟩ = some (.string ⟨#[]⟩) := row_cell hu rfl
  have u4 : U.cell? ⟨w.heap.size, 4, none⟩ = some (.slice none 0 0) := row_cell hu rfl
  have HBU : Hid (Below w.heap.size w U) := by
    show Below w.heap.size w U
    rw [hU]
    iterate 5 refine below_at ?_
    exact unhide HB
  have HU := hide hU
  clear hr hu hU hb HR
  go_wp2
  rw [← unhide HU]
  clear HU d0 d1 d2 d3 d4 fr
  exact bodyPost_ret (v := .tuple #[.agg #[.int .u16 0, .int .u16 0, .string ⟨#[]⟩, .string ⟨#[]⟩, .slice none 0 0], .int .i64 k]) (by simp [results, Tryz.results26, go_sem, u0, u1, u2, u3, u4]) rfl ⟨rfl, unhide HBU⟩


/-- what ReadTFTP answers of bytes -/
theorem boot_any (s : ByteArray) (l : List UInt8) (w : World) (hsl : s.data.toList = l) (hl : l.length ≤ 1048576) :
    Calls Tryz.prog 26 #[.string s] w fun ee w' =>
      ((Tf.rdR l).1 ≠ 0 ∧ ee = .returned (.tuple #[.agg #[.int .u16 0, .int .u16 0, .string ⟨#[]⟩, .string ⟨#[]⟩, .slice none 0 0], .int .i64 (Tf.rdR l).1]) ∧ Below w.heap.size w w') ∨
      ((Tf.rdR l).1 = 0 ∧ OutP (Tf.rdR l).2.fs.length (Tf.cellsF (Tf.rdR l).2.fs) w (fun sa sc => .tuple #[.agg #[.int .u16 (Tf.rdR l).2.op, .int .u16 (Tf.rdR l).2.block, .string ⟨(Tf.rdR l).2.text.toArray⟩, .string ⟨(Tf.rdR l).2.data.toArray⟩, .slice sa (Tf.rdR l).2.fs.length sc], .int .i64 0]) ee w') := by
  by_cases h0 : (Tf.rdR l).1 = 0
  · refine (boot_of_ok s _ _ _ _ _ _ w (fun u => wire_of_ok s _ _ _ _ _ _ u (fun u2 => read_ok s _ _ _ _ (Tf.rdR l).2.fs.length (Tf.cellsF (Tf.rdR l).2.fs) u2 (fun u3 B hr _ => ?_)))).mono fun ee w' h => Or.inr ⟨h0, h⟩
    refine (Tf.rdT_any B l u3 (by rw [← hsl]; exact hr) hl).mono ?_
    rintro ee w' ⟨hg, h | ⟨_, v, rfl, hown⟩⟩
    · exact absurd h0 h.1
    · obtain ⟨sa, sc, rfl⟩ := Tf.own_slice hown
      exact ⟨⟨sa, sc, rfl, hown⟩, hg⟩
  · refine (boot_of_no s ((Tf.rdR l).1 : Int) w (fun u => wire_of_no s _ u (fun u2 => read_no s _ u2 (fun u3 B hr _ => ?_)))).mono fun ee w' h => Or.inl ⟨h0, h.1, h.2⟩
    refine (Tf.rdT_any B l u3 (by rw [← hsl]; exact hr) hl).mono ?_
    rintro ee w' ⟨hg, ⟨_, rfl⟩ | h⟩
    · exact ⟨rfl, hg⟩
    · exact absurd h.1 h0
end Go.Proofs.YtoifihhmneldeaaGreatDoor.TfR

namespace Go.Proofs.YtoifihhmneldeaaGreatDoor.Tf
set_option linter.unusedVariables false

theorem name_no0 {l : List UInt8} (h : nameB l = true) : (0 : UInt8) ∉ l := by
  intro h0
  simp only [nameB, Bool.and_eq_true] at h
  have q := List.all_eq_true.1 h.2 0 h0
  revert q
  decide
theorem name_ne {l : List UInt8} (h : nameB l = true) : l ≠ [] := by
  intro e
  subst e
  simp [nameB] at h
theorem cut_at (a b : List UInt8) (h : (0 : UInt8) ∉ a) : cut (a ++ [0] ++ b) = some (a, b) := by
  rw [List.append_assoc]; exact cut_mk a b h
theorem fieldsK_back : ∀ fs : Flds, fs.all goodF = true → fieldsK (flds8 fs) = some fs
  | [], _ => fieldsK_nil
  | f :: r, h => by
    simp only [List.all_cons, Bool.and_eq_true] at h
    obtain ⟨hf, hr⟩ := h
    have ih := fieldsK_back r hr
    simp only [goodF, Bool.and_eq_true, beq_iff_eq] at hf
    obtain ⟨⟨hn, hl⟩, hv⟩ := hf
    have e : flds8 (f :: r) = f.1 ++ [0] ++ (f.2 ++ [0] ++ flds8 r) := by simp [flds8, fd8]
    have hne : flds8 (f :: r) ≠ [] := by rw [e]; simp
    have c1 : cut (flds8 (f :: r)) = some (f.1, f.2 ++ [0] ++ flds8 r) := by rw [e]; exact cut_at _ _ (name_no0 hn)
    have c2 : cut (f.2 ++ [0] ++ flds8 r) = some (f.2, flds8 r) := cut_at _ _ (name_no0 hv)
    rw [fieldsK_next hne c1 c2 hn hv, ih, hl]
theorem fldsR_back (fs : Flds) (h : toldB fs = true) : fldsR (flds8 fs) = some fs := by
  simp only [toldB, Bool.and_eq_true] at h
  unfold fldsR
  rw [fieldsK_back fs h.1]
  simp only [h.2, if_true]
theorem be2_back (n : Nat) (h : n < 65536) (r : List UInt8) : ((be2 n ++ r).getD 0 0).toNat * 256 + ((be2 n ++ r).getD 1 0).toNat = n := by
  simp only [be2, List.cons_append, List.nil_append, List.getD_cons_zero, List.getD_cons_succ]
  rw [UInt8.toNat_ofNat', UInt8.toNat_ofNat']
  omega
theorem low_octet : lowL octet = octet := by decide
/-- what is left out where a kind does not say it -/
def plainM (m : Msg) : Prop := (m.op = 1 → m.block = 0 ∧ m.data = []) ∧ (m.op = 6 → m.block = 0 ∧ m.text = [] ∧ m.data = []) ∧ (m.op = 3 → m.text = [] ∧ m.fs = []) ∧ (m.op = 4 → m.text = [] ∧ m.data = [] ∧ m.fs = []) ∧ (m.op = 5 → m.data = [] ∧ m.fs = [])
theorem rd_wr (m : Msg) (hk : wrK m = 0) (hp : plainM m) (hb : m.block < 65536) : rdR (wrB m) = (0, m) := by
  have ht : toldM m = true := by
    cases h : toldM m with
    | true => rfl
    | false => unfold wrK at hk; rw [if_pos h] at hk; simp at hk
  have hlen : ¬ (m.op = 3 ∧ 1024 < m.data.length) := by
    intro h
    unfold wrK at hk
    rw [if_neg (by rw [ht]; simp), if_pos h] at hk
    simp at hk
  have hw : wrB m = bytesM m := by unfold wrB; rw [if_pos hk]
  rw [hw]
  obtain ⟨op, bl, tx, da, fs⟩ := m
  obtain ⟨p1, p6, p3, p4, p5⟩ := hp
  simp only at hb hlen p1 p6 p3 p4 p5
  unfold toldM at ht
  simp only at ht
  have two : ∀ (n : Nat) (r : List UInt8), ¬ (be2 n ++ r).length < 2 := fun n r => by simp [be2]
  have drp : ∀ (n : Nat) (r : List UInt8), (be2 n ++ r).drop 2 = r := fun n r => by simp [be2]
  by_cases o1 : op = 1
  · subst o1
    obtain ⟨rfl, rfl⟩ := p1 rfl
    simp only [if_true, Bool.and_eq_true] at ht
    have e : bytesM ⟨1, 0, tx, [], fs⟩ = be2 1 ++ (tx ++ [0] ++ (octet ++ [0] ++ flds8 fs)) := by simp [bytesM]
    rw [e]
    unfold rdR
    rw [if_neg (two _ _), be2_back 1 (by decide), drp]
    simp only [if_true]
    rw [cut_at tx _ (name_no0 ht.1)]
    simp only [ht.1]
    rw [cut_at octet _ (by decide)]
    simp only [low_octet, fldsR_back fs ht.2]
    simp
  by_cases o6 : op = 6
  · subst o6
    obtain ⟨rfl, rfl, rfl⟩ := p6 rfl
    simp only [show ¬ (6 : Nat) = 1 by decide, if_false, if_true] at ht
    have e : bytesM ⟨6, 0, [], [], fs⟩ = be2 6 ++ flds8 fs := by simp [bytesM]
    rw [e]
    unfold rdR
    rw [if_neg (two _ _), be2_back 6 (by decide), drp]
    simp [fldsR_back fs ht]
  rw [if_neg o1, if_neg o6] at ht
  have h345 : op = 3 ∨ op = 4 ∨ op = 5 := by
    by_cases o5 : op = 5
    · exact Or.inr (Or.inr o5)
    · rw [if_neg o5] at ht
      simp only [Bool.or_eq_true, beq_iff_eq] at ht
      rcases ht with h | h
      · exact Or.inl h
      · exact Or.inr (Or.inl h)
  rcases h345 with rfl | rfl | rfl
  · obtain ⟨rfl, rfl⟩ := p3 rfl
    have e : bytesM ⟨3, bl, [], da, []⟩ = be2 3 ++ (be2 bl ++ da) := by simp [bytesM]
    rw [e]
    unfold rdR
    rw [if_neg (two _ _), be2_back 3 (by decide), drp]
    simp only [show ¬ (3 : Nat) = 1 by decide, show ¬ (3 : Nat) = 6 by decide, if_false, true_or, if_true]
    rw [if_neg (two _ _), be2_back bl hb, drp, if_neg (by intro h; exact hlen ⟨rfl, h⟩)]
  · obtain ⟨rfl, rfl, rfl⟩ := p4 rfl
    have e : bytesM ⟨4, bl, [], [], []⟩ = be2 4 ++ (be2 bl ++ []) := by simp [bytesM]
    rw [e]
    unfold rdR
    rw [if_neg (two _ _), be2_back 4 (by decide), drp]
    simp only [show ¬ (4 : Nat) = 1 by decide, show ¬ (4 : Nat) = 6 by decide, show ¬ (4 : Nat) = 3 by decide, if_false, true_or, or_true, if_true]
    rw [if_neg (two _ _), be2_back bl hb, drp, if_pos rfl]
  · obtain ⟨rfl, rfl⟩ := p5 rfl
    simp only [if_true, Bool.not_eq_true'] at ht
    have h0 : (0 : UInt8) ∉ tx := by simpa using ht
    have e : bytesM ⟨5, bl, tx, [], []⟩ = be2 5 ++ (be2 bl ++ (tx ++ [0] ++ [])) := by simp [bytesM]
    rw [e]
    unfold rdR
    rw [if_neg (two _ _), be2_back 5 (by decide), drp]
    simp only [show ¬ (5 : Nat) = 1 by decide, show ¬ (5 : Nat) = 6 by decide, show ¬ (5 : Nat) = 3 by decide, show ¬ (5 : Nat) = 4 by decide, if_false, or_true, if_true]
    rw [if_neg (two _ _), be2_back bl hb, drp, cut_at tx [] h0]
    simp
end Go.Proofs.YtoifihhmneldeaaGreatDoor.Tf

import Derived.Test.YtbhbbeebncmaiaaGreatDoorMgZ16
namespace Go.Proofs.YtbhbbeebncmaiaaGreatDoor.Mac
open Go.ChangeShapes Go.WideShapes Go.ChangeAt Go.RowKit Bs
set_option linter.unusedVariables false
set_option linter.unusedSimpArgs false
variable {w0 : World} {P : Nat → Prop} {w w' : World} {B Q : Nat} {m m' : Mc}
structure Bx (w0 : World) (P : Nat → Prop) (w : World) (Q B : Nat) (m : Mc) : Prop where
  mx : Mx w0 P w B m
  row : w.heap[Q]? = some (.cells #[.pointer (some ⟨B, 0, none⟩)] 77 (0, 0))
theorem Bx.lt (h : Bx w0 P w Q B m) : Q < w.heap.size := lt_of_block h.row
theorem Bx.no (h : Bx w0 P w Q B m) : ¬ Foot B m Q := by
  intro hf
  have hr := h.row
  rcases hf with rfl | rfl | rfl | rfl | hk
  · have h1 := h.mx.row
    rw [hr] at h1
    simp only [Option.some.injEq, Obj.cells.injEq] at h1
    exact absurd h1.2.1 (by decide)
  · obtain ⟨es, c, h1, _⟩ := h.mx.map
    rw [hr] at h1; simp at h1
  · obtain ⟨a, b, c, d, arr, h1, _⟩ := h.mx.came
    rw [hr] at h1
    simp only [Option.some.injEq, Obj.cells.injEq] at h1
    exact absurd h1.2.1 (by decide)
  · obtain ⟨a, b, c, d, arr, h1, _⟩ := h.mx.goes
    rw [hr] at h1
    simp only [Option.some.injEq, Obj.cells.injEq] at h1
    exact absurd h1.2.1 (by decide)
  · rcases h.mx.image.2 with ⟨h1, _⟩ | ⟨g, cap, cur, e1, e2, e3, e4⟩
    · rw [h1] at hk; cases hk
    · rw [e1] at hk
      have : g = Q := Option.some.inj hk
      subst this
      rw [hr] at e3
      simp only [Option.some.injEq, Obj.cells.injEq] at e3
      exact absurd e3.2.1 (by decide)
theorem Bx.next (h : Bx w0 P w Q B m) (k : Mx w (Foot B m) w' B m') : Bx w0 P w' Q B m' :=
  ⟨h.mx.join k, (k.kept Q h.lt h.no).trans h.row⟩
theorem Bx.below (h : Bx w0 P w Q B m) (hb : Below w.heap.size w w') : Bx w0 P w' Q B m := ⟨h.mx.below hb, (hb.block Q h.lt).trans h.row⟩
theorem Bx.alloc (h : Bx w0 P w Q B m) (o : Obj) : Bx w0 P (w.alloc o) Q B m := h.below ((Below.refl _ _).alloc (Nat.le_refl _) o)
theorem machine_any (h : Bx w0 P w Q B m) : Calls Tryz.prog 33 #[.pointer (some ⟨Q, 0, none⟩)] w fun e w' => e = .returned (.pointer (some ⟨B, 0, none⟩)) ∧ w' = w := by
  have c0 := cell_of_one h.row
  clear h
  go_enter Tryz.func33, Tryz.ntmps33
  go_wp2
  go_ret
  exact ⟨rfl, rfl⟩
set_option maxHeartbeats 1000000 in
theorem bootTick_early (h : Bx w0 P w Q B m) (he : m.Early) (d : Int) (hd : 0 ≤ d ∧ d ≤ 4294967295) : Calls Tryz.prog 21 #[.pointer (some ⟨Q, 0, none⟩), .int .u32 d] w fun ee w' => ee = .returned (.tuple #[]) ∧ ∃ b, Bx w0 P w' Q B ((m.tickE d).at b) := by
  have HM := hide (machine_any h)
  have HT := hide (tick_early h.mx.base he d hd)
  have HB := hide h
  clear h
  go_enter Tryz.func21, Tryz.ntmps21
  go_wp2_with fail
  refine (unhide HM).mono ?_
  rintro ee u ⟨rfl, rfl⟩
  go_wp2_with fail
  refine (unhide HT).mono ?_
  rintro ee u ⟨rfl, b, hu⟩
  have HU := hide ((unhide HB).next hu)
  clear hu HT HM HB
  go_wp2
  go_end0
  exact ⟨rfl, b, unhide HU⟩
set_option maxHeartbeats 1000000 in
theorem take_any (h : Mx w0 P w B m) : Calls Tryz.prog 35 #[.pointer (some ⟨B, 0, none⟩)] w fun ee w' => ee = .returned (.tuple #[.string (headS m.gq), .bool (!m.gq.isEmpty)]) ∧ Mx w0 P w' B m.goes1 := by
  have HN := hide (goNext_any h)
  clear h
  go_enter Tryz.func35, Tryz.ntmps35
  go_wp2_with fail
  refine (unhide HN).mono ?_
  rintro ee u ⟨rfl, hu⟩
  have HU := hide hu
  clear hu HN
  go_wp2
  go_ret2
  exact ⟨rfl, unhide HU⟩
set_option maxHeartbeats 1000000 in
theorem bootTake_any (h : Bx w0 P w Q B m) : Calls Tryz.prog 19 #[.pointer (some ⟨Q, 0, none⟩)] w fun ee w' => ee = .returned (.tuple #[.string (headS m.gq), .bool (!m.gq.isEmpty)]) ∧ Bx w0 P w' Q B m.goes1 := by
  have HM := hide (machine_any h)
  have HT := hide (take_any h.mx.base)
  have HB := hide h
  clear h
  go_enter Tryz.func19, Tryz.ntmps19
  go_wp2_with fail
  refine (unhide HM).mono ?_
  rintro ee u ⟨rfl, rfl⟩
  go_wp2_with fail
  refine (unhide HT).mono ?_
  rintro ee u ⟨rfl, hu⟩
  have HU := hide ((unhide HB).next hu)
  clear hu HT HM HB
  go_wp2
  go_ret2
  exact ⟨rfl, unhide HU⟩
def Mc.cached (m : Mc) : Nat := Maps.size m.cd
set_option maxHeartbeats 2000000 in
theorem look_any (h : Mx w0 P w B m) : Calls Tryz.prog 45 #[.pointer (some ⟨B, 0, none⟩)] w fun ee w' => ee = .returned (.agg #[.int .i64 m.now, .int .i64 m.st, .int .i64 m.phase, .int .u32 m.addr, .int .i64 m.boots, .int .i64 m.imgL.length, .int .i64 m.lost, .int .i64 m.cached]) ∧ Below w.heap.size w w' := by
  have c14 := h.c14
  have c25 := h.c25
  have c40 := h.c40
  have c24 := h.c24
  have c52 := h.c52
  have c22 := h.c22
  have c0 := h.c0
  obtain ⟨ia, ic, hi⟩ := Dh.own_slice h.image
  rw [hi] at c52
  obtain ⟨es, clk, hmp, hfit, hle, hD⟩ := h.map
  have hsz : Maps.size m.cd = es.size := by rw [hD]; exact length_read es
  have hlen : ∀ (u : World) (ty : TypeId), u.heap[m.bm]? = some (.map es clk) → (Builtin.len_ #[86] ty #[.map (some m.bm)]).run Tryz.prog u = .ok (.int .i64 es.size) u := fun u ty hu => by
    simp [Builtin.len_, run_underlying Tryz.underlying86, MapKept.run_getObj_map hu]
    rfl
  have hbm := lt_of_block hmp
  have hne : B ≠ w.heap.size := Nat.ne_of_lt h.lt
  have hset : ∀ (u : World) (j : Nat) (v : Value), (u.setCell ⟨w.heap.size, j, none⟩ v).heap[m.bm]? = u.heap[m.bm]? := fun u j v => Below.heap_setCell _ _ _ _ (by show m.bm ≠ w.heap.size; omega)
  have hal : (w.alloc (.cells #[.int .i64 0, .int .i64 0, .int .i64 0, .int .u32 0, .int .i64 0, .int .i64 0, .int .i64 0, .int .i64 0] 69)).heap[m.bm]? = some (.map es clk) := (Below.heap_alloc _ _ _ hbm).trans hmp
  have HA := hide (address_any (h.alloc (.cells #[.int .i64 0, .int .i64 0, .int .i64 0, .int .u32 0, .int .i64 0, .int .i64 0, .int .i64 0, .int .i64 0] 69)).drew)
  have hlt := h.lt
  clear h
  go_enter Tryz.func45, Tryz.ntmps45
  go_wp2
  have hal2 : ∀ o : Obj, (w.alloc o).drew.heap[m.bm]? = some (.map es clk) := fun o => (Below.heap_alloc _ _ _ hbm).trans hmp
  clear hset hal
  go_region_held3 (fun u => u.cell? ⟨B, 14, none⟩ = some (.int .i64 m.now) ∧ u.cell? ⟨B, 25, none⟩ = some (.int .i64 m.st) ∧ u.cell? ⟨B, 40, none⟩ = some (.int .i64 m.phase) ∧ u.cell? ⟨B, 24, none⟩ = some (.int .i64 m.boots) ∧ u.cell? ⟨B, 52, none⟩ = some (.slice ia m.imgL.length ic) ∧ u.cell? ⟨B, 22, none⟩ = some (.int .i64 m.lost) ∧ u.cell? ⟨B, 0, none⟩ = some (.map (some m.bm)) ∧ u.heap[m.bm]? = some (.map es clk)) (go_keep)
    (first | (go_at_call 74; refine (unhide HA).mono ?_; rintro ee u ⟨rfl, rfl⟩))
  go_wp2
  go_returns
  refine ⟨?_, ((Below.refl _ _).alloc (Nat.le_refl _) _).drew⟩
  unfold Mc.cached
  rw [hsz]
set_option maxHeartbeats 1000000 in
theorem bootLook_any (h : Bx w0 P w Q B m) : Calls Tryz.prog 25 #[.pointer (some ⟨Q, 0, none⟩)] w fun ee w' => ee = .returned (.agg #[.int .i64 m.now, .int .i64 m.st, .int .i64 m.phase, .int .u32 m.addr, .int .i64 m.boots, .int .i64 m.imgL.length, .int .i64 m.lost, .int .i64 m.cached]) ∧ Below w.heap.size w w' := by
  have HB := hide (h.alloc (.cells #[.int .i64 0, .int .i64 0, .int .i64 0, .int .u32 0, .int .i64 0, .int .i64 0, .int .i64 0, .int .i64 0] 69))
  have HM := hide (machine_any (unhide HB))
  have HL := hide (look_any (unhide HB).mx)
  clear h HB
  generalize m.cached = cc at *
  generalize m.addr = aa at *
  go_enter Tryz.func25, Tryz.ntmps25
  go_wp2_with fail
  refine (unhide HM).mono ?_
  rintro ee u ⟨rfl, rfl⟩
  go_wp2_with fail
  refine (unhide HL).mono ?_
  rintro ee u ⟨rfl, hb⟩
  have hrow : u.heap[w.heap.size]? = some (.cells #[.int .i64 0, .int .i64 0, .int .i64 0, .int .u32 0, .int .i64 0, .int .i64 0, .int .i64 0, .int .i64 0] 69 (0, 0)) := (hb.block _ (by simp)).trans (heap_alloc_new w _)
  have fz : ∀ j, u.frozen? ⟨w.heap.size, j, none⟩ = false := fun j => by simp [World.frozen?, hrow]
  have ec : ∀ j, u.cell? ⟨w.heap.size, j, none⟩ = (#[.int .i64 0, .int .i64 0, .int .i64 0, .int .u32 0, .int .i64 0, .int .i64 0, .int .i64 0, .int .i64 0] : Array Value)[j]? := fun j => cell_of_row u _ j _ _ _ hrow
  have e0 := ec 0
  have e1 := ec 1
  have e2 := ec 2
  have e3 := ec 3
  have e4 := ec 4
  have e5 := ec 5
  have e6 := ec 6
  have e7 := ec 7
  simp only [List.getElem?_toArray, List.getElem?_cons_succ, List.getElem?_cons_zero] at e0 e1 e2 e3 e4 e5 e6 e7
  obtain ⟨l, hl⟩ : ∃ l : List (Nat × Value), l = [(0, .int .i64 m.now), (1, .int .i64 m.st), (2, .int .i64 m.phase), (3, .int .u32 aa), (4, .int .i64 m.boots), (5, .int .i64 m.imgL.length), (6, .int .i64 m.lost), (7, .int .i64 cc)] := ⟨_, rfl⟩
  have hr2 := many_row w.heap.size l u _ hrow
  have hcs : setCs #[.int .i64 0, .int .i64 0, .int .i64 0, .int .u32 0, .int .i64 0, .int .i64 0, .int .i64 0, .int .i64 0] l = #[.int .i64 m.now, .int .i64 m.st, .int .i64 m.phase, .int .u32 aa, .int .i64 m.boots, .int .i64 m.imgL.length, .int .i64 m.lost, .int .i64 cc] := by rw [hl]; kernel_rfl
  rw [hcs] at hr2
  have HW : Hid (Below w.heap.size w (setMany u w.heap.size l)) := hide (by
    have q := ((Below.refl w.heap.size w).alloc (Nat.le_refl _) (.cells #[.int .i64 0, .int .i64 0, .int .i64 0, .int .u32 0, .int .i64 0, .int .i64 0, .int .i64 0, .int .i64 0] 69)).trans (hb.mono (by simp))
    obtain ⟨o1, o2, o3⟩ := many_os w.heap.size l u
    exact ⟨o1.trans q.os, o2.trans q.tape, o3.trans q.output, by rw [many_size]; exact q.size, fun k hk => (many_other _ k (by omega) l u).trans (q.block k hk)⟩)
  obtain ⟨U, hU⟩ : ∃ U, U = setMany u w.heap.size l := ⟨_, rfl⟩
  have r := fun j => cell_of_row _ _ j _ _ _ hr2
  rw [← hU] at HW hr2
  rw [← hU] at r
  have r0 := r 0
  have r1 := r 1
  have r2 := r 2
  have r3 := r 3
  have r4 := r 4
  have r5 := r 5
  have r6 := r 6
  have r7 := r 7
  simp only [List.getElem?_toArray, List.getElem?_cons_succ, List.getElem?_cons_zero] at r0 r1 r2 r3 r4 r5 r6 r7
  rw [hl] at hU
  simp only [setMany] at hU
  have HU := hide hU
  clear hb HM HL hrow ec hr2 hcs r hU hl
  go_wp2
  rw [← unhide HU]
  refine bodyPost_ret (v := .agg #[.int .i64 m.now, .int .i64 m.st, .int .i64 m.phase, .int .u32 aa, .int .i64 m.boots, .int .i64 m.imgL.length, .int .i64 m.lost, .int .i64 cc]) (by simp [results, Tryz.results25, go_sem, r0, r1, r2, r3, r4, r5, r6, r7]) rfl ?_
  exact ⟨rfl, unhide HW⟩
end Go.Proofs.YtbhbbeebncmaiaaGreatDoor.Mac

import Derived.Test.YtbhbbeebncmaiaaGreatDoorMgZ37
import Derived.Laws.CopyOwn
namespace Go.Proofs.YtbhbbeebncmaiaaGreatDoor.Ref
open Go.ChangeShapes Go.WideShapes Go.ChangeAt Go.RowKit Bs Mac
set_option linter.unusedVariables false
set_option linter.unusedSimpArgs false
variable {w0 : World} {P : Nat → Prop} {w w' : World} {G : Nat} {r r' : Rf}
def Rf.dropR (r : Rf) : Rf := { r with cv := .slice none 0 0, lease := 0, xid := 0, adr := 0, mask := 0, rou := 0, srv := 0, src := 0, t1 := 0, t2 := 0, til := 0, again := 0, sends := 0, phase := 0, port := 0, peer := 0, fblk := 0, wind := 0, next := 0, came := 0, tagain := 0, tsends := 0, tto := 0, last := ⟨#[]⟩, iv := .slice none 0 0 }
theorem Rm.row_set (h : Rm w0 P w G r) (e1 : r'.rv = r.rv) (e2 : r'.tv = r.tv) (e3 : r'.rl = r.rl) (e4 : r'.tl = r.tl) : Rm w0 P (w.setRow G r'.cells) G r' := by
  have hk : ∀ k, k ≠ G → (w.setRow G r'.cells).heap[k]? = w.heap[k]? := fun k hk => setRow_other _ _ _ _ hk
  exact
  { os := h.os, tape := h.tape, output := h.output, size := by rw [size_setRow]; exact h.size
    kept := fun k hk' hP => (hk k (by
      rintro rfl
      rcases h.own k (Or.inl rfl) with e | e
      · exact hP e
      · omega)).trans (h.kept k hk' hP)
    own := fun k hk => h.own k (by unfold FootR at hk ⊢; rw [e1, e2] at hk; exact hk)
    low := h.low, gl := h.gl
    row := setRow_heap w G _ _ _ _ h.row
    came := by rw [e1, e3]; exact row_other h.came (fun k hk' => hk k (h.ne_rv hk'))
    goes := by rw [e2, e4]; exact row_other h.goes (fun k hk' => hk k (h.ne_tv hk'))
    apart := by rw [e1, e2]; exact h.apart }
theorem exec_build {P : Program} {w : World} {ρ : Operand → Value} {o : Oper} (t : TypeId) (parts : Array (Nat × Operand)) (pv : Array (Nat × Value)) (ho : o.op = .build t parts) (hp : (parts.map fun (i, x) => (i, ρ x)) = pv) (v : Value) (h : (Instr.build t pv).run P w = .ok v w) : (execOp ρ o).run P w = .ok (.value v) w := by
  unfold execOp
  simp only [ho]
  rw [hp]
  simp only [Sem.run_bind, h, Result.andThen_ok, Sem.run_pure]
set_option maxHeartbeats 4000000 in
set_option maxRecDepth 10000 in
theorem drop_any (h : Rm w0 P w G r) (tp : Option Addr) (ht : r.t = .pointer tp) : Calls Tryz.prog 61 #[.pointer (some ⟨G, 0, none⟩)] w fun ee w' => ee = .returned (.tuple #[]) ∧ Rm w0 P w' G r.dropR := by
  have HM := hide h
  obtain ⟨ra, rc, hrv⟩ := own_sl h.came
  obtain ⟨ta, tc, htv⟩ := own_sl h.goes
  have HCELLS : Hid (r.dropR.cells = (List.toArray ((.pointer tp : Value) :: (.int .u8 r.k0.toNat) :: (.int .u8 r.k1.toNat) :: (.int .u8 r.k2.toNat) :: (.int .u8 r.k3.toNat) :: (.int .u8 r.k4.toNat) :: (.int .u8 r.k5.toNat) :: (.string r.name) :: (.int .i64 r.cap) :: (.string r.dig) :: (.int .i64 r.blk) :: (.int .i64 r.win) :: (.int .i64 r.rx) :: (.int .i64 r.tx) :: (.slice ra r.rl.length rc) :: (.slice ta r.tl.length tc) :: (.int .i64 r.now) :: (.int .u32 r.draw) :: (.int .i64 r.boots) :: (.int .i64 r.lost) :: (.int .i64 r.id) :: (.slice none 0 0) :: (.int .i64 0) :: (.int .u32 0) :: (.int .u32 0) :: (.int .u32 0) :: (.int .u32 0) :: (.int .u32 0) :: (.int .u32 0) :: (.int .i64 0) :: (.int .i64 0) :: (.int .i64 0) :: (.int .i64 0) :: (.int .i64 0) :: (.int .i64 0) :: (.int .i64 0) :: (.int .i64 0) :: (.int .i64 0) :: (.int .i64 0) :: (.int .i64 0) :: (.int .i64 0) :: (.int .i64 0) :: (.int .i64 0) :: (.int .i64 0) :: (.string ⟨#[]⟩) :: (.slice none 0 0) :: []))) := hide (by unfold Rf.cells Rf.dropR; dsimp only; rw [ht, hrv, htv])
  have HK : Hid (∀ u, Below w.heap.size w u → u.cell? ⟨G, 0, none⟩ = some (.pointer tp) ∧ u.cell? ⟨G, 1, none⟩ = some (.int .u8 r.k0.toNat) ∧ u.cell? ⟨G, 2, none⟩ = some (.int .u8 r.k1.toNat) ∧ u.cell? ⟨G, 3, none⟩ = some (.int .u8 r.k2.toNat) ∧ u.cell? ⟨G, 4, none⟩ = some (.int .u8 r.k3.toNat) ∧ u.cell? ⟨G, 5, none⟩ = some (.int .u8 r.k4.toNat) ∧ u.cell? ⟨G, 6, none⟩ = some (.int .u8 r.k5.toNat) ∧ u.cell? ⟨G, 7, none⟩ = some (.string r.name) ∧ u.cell? ⟨G, 8, none⟩ = some (.int .i64 r.cap) ∧ u.cell? ⟨G, 9, none⟩ = some (.string r.dig) ∧ u.cell? ⟨G, 10, none⟩ = some (.int .i64 r.blk) ∧ u.cell? ⟨G, 11, none⟩ = some (.int .i64 r.win) ∧ u.cell? ⟨G, 12, none⟩ = some (.int .i64 r.rx) ∧ u.cell? ⟨G, 13, none⟩ = some (.int .i64 r.tx) ∧ u.cell? ⟨G, 14, none⟩ = some (.slice ra r.rl.length rc) ∧ u.cell? ⟨G, 15, none⟩ = some (.slice ta r.tl.length tc) ∧ u.cell? ⟨G, 16, none⟩ = some (.int .i64 r.now) ∧ u.cell? ⟨G, 17, none⟩ = some (.int .u32 r.draw) ∧ u.cell? ⟨G, 18, none⟩ = some (.int .i64 r.boots) ∧ u.cell? ⟨G, 19, none⟩ = some (.int .i64 r.lost) ∧ u.cell? ⟨G, 20, none⟩ = some (.int .i64 r.id)) := hide (fun u hb => by
    refine ⟨?_, ?_, ?_, ?_, ?_, ?_, ?_, ?_, ?_, ?_, ?_, ?_, ?_, ?_, ?_, ?_, ?_, ?_, ?_, ?_, ?_⟩
    · rw [(h.below hb).c0, ht]
    · exact (h.below hb).c1
    · exact (h.below hb).c2
    · exact (h.below hb).c3
    · exact (h.below hb).c4
    · exact (h.below hb).c5
    · exact (h.below hb).c6
    · exact (h.below hb).c7
    · exact (h.below hb).c8
    · exact (h.below hb).c9
    · exact (h.below hb).c10
    · exact (h.below hb).c11
    · exact (h.below hb).c12
    · exact (h.below hb).c13
    · rw [(h.below hb).c14, hrv]
    · rw [(h.below hb).c15, htv]
    · exact (h.below hb).c16
    · exact (h.below hb).c17
    · exact (h.below hb).c18
    · exact (h.below hb).c19
    · exact (h.below hb).c20
    )
  obtain ⟨c0, c1, c2, c3, c4, c5, c6, c7, c8, c9, c10, c11, c12, c13, c14, c15, c16, c17, c18, c19, c20⟩ := unhide HK w (Below.refl _ _)
  have hbuild : ∀ u : World, (Instr.build 57 #[(0, .pointer tp), (1, .agg #[.int .u8 r.k0.toNat, .int .u8 r.k1.toNat, .int .u8 r.k2.toNat, .int .u8 r.k3.toNat, .int .u8 r.k4.toNat, .int .u8 r.k5.toNat, .string r.name, .int .i64 r.cap, .string r.dig, .int .i64 r.blk, .int .i64 r.win, .int .i64 r.rx, .int .i64 r.tx]), (2, .slice ra r.rl.length rc), (3, .slice ta r.tl.length tc), (4, .int .i64 r.now), (5, .int .u32 r.draw), (6, .int .i64 r.boots), (7, .int .i64 r.lost), (8, .int .i64 r.id)]).run Tryz.prog u = .ok (.agg (List.toArray ((.pointer tp : Value) :: (.int .u8 r.k0.toNat) :: (.int .u8 r.k1.toNat) :: (.int .u8 r.k2.toNat) :: (.int .u8 r.k3.toNat) :: (.int .u8 r.k4.toNat) :: (.int .u8 r.k5.toNat) :: (.string r.name) :: (.int .i64 r.cap) :: (.string r.dig) :: (.int .i64 r.blk) :: (.int .i64 r.win) :: (.int .i64 r.rx) :: (.int .i64 r.tx) :: (.slice ra r.rl.length rc) :: (.slice ta r.tl.length tc) :: (.int .i64 r.now) :: (.int .u32 r.draw) :: (.int .i64 r.boots) :: (.int .i64 r.lost) :: (.int .i64 r.id) :: (.slice none 0 0) :: (.int .i64 0) :: (.int .u32 0) :: (.int .u32 0) :: (.int .u32 0) :: (.int .u32 0) :: (.int .u32 0) :: (.int .u32 0) :: (.int .i64 0) :: (.int .i64 0) :: (.int .i64 0) :: (.int .i64 0) :: (.int .i64 0) :: (.int .i64 0) :: (.int .i64 0) :: (.int .i64 0) :: (.int .i64 0) :: (.int .i64 0) :: (.int .i64 0) :: (.int .i64 0) :: (.int .i64 0) :: (.int .i64 0) :: (.int .i64 0) :: (.string ⟨#[]⟩) :: (.slice none 0 0) :: []))) u := fun u => run_build u _ _ _ (by kernel_rfl)
  have hlt := h.lt
  clear h ht hrv htv
  go_enter Tryz.func61, Tryz.ntmps61
  go_wp2
  go_cut [2] (fun s2 wc => s2 = .pointer (some ⟨w.heap.size, 0, none⟩) ∧ Hid (Rm w0 P wc G r ∧ wc.heap[w.heap.size]? = some (.cells r.dropR.cells 57 (0, 0))))
  case first =>
    refine wp_region_held_drew (S := fun u => u.cell? ⟨G, 0, none⟩ = some (.pointer tp) ∧ u.cell? ⟨G, 1, none⟩ = some (.int .u8 r.k0.toNat) ∧ u.cell? ⟨G, 2, none⟩ = some (.int .u8 r.k1.toNat) ∧ u.cell? ⟨G, 3, none⟩ = some (.int .u8 r.k2.toNat) ∧ u.cell? ⟨G, 4, none⟩ = some (.int .u8 r.k3.toNat) ∧ u.cell? ⟨G, 5, none⟩ = some (.int .u8 r.k4.toNat) ∧ u.cell? ⟨G, 6, none⟩ = some (.int .u8 r.k5.toNat) ∧ u.cell? ⟨G, 7, none⟩ = some (.string r.name) ∧ u.cell? ⟨G, 8, none⟩ = some (.int .i64 r.cap) ∧ u.cell? ⟨G, 9, none⟩ = some (.string r.dig) ∧ u.cell? ⟨G, 10, none⟩ = some (.int .i64 r.blk) ∧ u.cell? ⟨G, 11, none⟩ = some (.int .i64 r.win) ∧ u.cell? ⟨G, 12, none⟩ = some (.int .i64 r.rx) ∧ u.cell? ⟨G, 13, none⟩ = some (.int .i64 r.tx) ∧ u.cell? ⟨G, 14, none⟩ = some (.slice ra r.rl.length rc) ∧ u.cell? ⟨G, 15, none⟩ = some (.slice ta r.tl.length tc) ∧ u.cell? ⟨G, 16, none⟩ = some (.int .i64 r.now) ∧ u.cell? ⟨G, 17, none⟩ = some (.int .u32 r.draw) ∧ u.cell? ⟨G, 18, none⟩ = some (.int .i64 r.boots) ∧ u.cell? ⟨G, 19, none⟩ = some (.int .i64 r.lost) ∧ u.cell? ⟨G, 20, none⟩ = some (.int .i64 r.id)) (by kernel_rfl) (unhide HK _ ((Below.refl _ _).drew)) (fun hHeld => ?_)
    refine wpAnyH_take (i := 0) (v := (.pointer (some ⟨G, 0, none⟩))) rfl (by kernel_rfl) (by kernel_rfl) (by kernel_rfl) (fun _ _ _ h => h) (Or.inl ⟨by rfl, ?_⟩) hHeld ?_
    · (intro wz hSz; (try dsimp only at hSz); go_simp)
    simp only [Act.put, List.setIfInBounds_toArray, List.set_cons_zero, List.set_cons_succ]
    refine wpAnyH_take (i := 1) (v := (.pointer (some ⟨G, 0, none⟩))) rfl (by kernel_rfl) (by kernel_rfl) (by kernel_rfl) (fun _ _ _ h => h) (Or.inl ⟨by rfl, ?_⟩) hHeld ?_
    · (intro wz hSz; (try dsimp only at hSz); go_simp)
    simp only [Act.put, List.setIfInBounds_toArray, List.set_cons_zero, List.set_cons_succ]
    refine wpAnyH_take (i := 2) (v := (.pointer (some ⟨G, 0, none⟩))) rfl (by kernel_rfl) (by kernel_rfl) (by kernel_rfl) (fun _ _ _ h => h) (Or.inl ⟨by rfl, ?_⟩) hHeld ?_
    · (intro wz hSz; (try dsimp only at hSz); go_simp)
    simp only [Act.put, List.setIfInBounds_toArray, List.set_cons_zero, List.set_cons_succ]
    refine wpAnyH_take (i := 3) (v := (.pointer tp)) rfl (by kernel_rfl) (by kernel_rfl) (by kernel_rfl) (fun _ _ _ h => h) (Or.inl ⟨by rfl, ?_⟩) hHeld ?_
    · (intro wz hSz; (try dsimp only at hSz); go_simp)
    simp only [Act.put, List.setIfInBounds_toArray, List.set_cons_zero, List.set_cons_succ]
    refine wpAnyH_take (i := 4) (v := (.pointer (some ⟨G, 0, none⟩))) rfl (by kernel_rfl) (by kernel_rfl) (by kernel_rfl) (fun _ _ _ h => h) (Or.inl ⟨by rfl, ?_⟩) hHeld ?_
    · (intro wz hSz; (try dsimp only at hSz); go_simp)
    simp only [Act.put, List.setIfInBounds_toArray, List.set_cons_zero, List.set_cons_succ]
    refine wpAnyH_take (i := 5) (v := (.pointer (some ⟨G, 0, none⟩))) rfl (by kernel_rfl) (by kernel_rfl) (by kernel_rfl) (fun _ _ _ h => h) (Or.inl ⟨by rfl, ?_⟩) hHeld ?_
    · (intro wz hSz; (try dsimp only at hSz); go_simp)
    simp only [Act.put, List.setIfInBounds_toArray, List.set_cons_zero, List.set_cons_succ]
    refine wpAnyH_take (i := 6) (v := (.pointer (some ⟨G, 1, none⟩))) rfl (by kernel_rfl) (by kernel_rfl) (by kernel_rfl) (fun _ _ _ h => h) (Or.inl ⟨by rfl, ?_⟩) hHeld ?_
    · (intro wz hSz; (try dsimp only at hSz); go_simp)
    simp only [Act.put, List.setIfInBounds_toArray, List.set_cons_zero, List.set_cons_succ]
    refine wpAnyH_take (i := 7) (v := (.agg #[.int .u8 r.k0.toNat, .int .u8 r.k1.toNat, .int .u8 r.k2.toNat, .int .u8 r.k3.toNat, .int .u8 r.k4.toNat, .int .u8 r.k5.toNat, .string r.name, .int .i64 r.cap, .string r.dig, .int .i64 r.blk, .int .i64 r.win, .int .i64 r.rx, .int .i64 r.tx])) rfl (by kernel_rfl) (by kernel_rfl) (by kernel_rfl) (fun _ _ _ h => h) (Or.inl ⟨by rfl, ?_⟩) hHeld ?_
    · (intro wz hSz; (try dsimp only at hSz); go_simp)
    simp only [Act.put, List.setIfInBounds_toArray, List.set_cons_zero, List.set_cons_succ]
    refine wpAnyH_take (i := 8) (v := (.pointer (some ⟨G, 0, none⟩))) rfl (by kernel_rfl) (by kernel_rfl) (by kernel_rfl) (fun _ _ _ h => h) (Or.inl ⟨by rfl, ?_⟩) hHeld ?_
    · (intro wz hSz; (try dsimp only at hSz); go_simp)
    simp only [Act.put, List.setIfInBounds_toArray, List.set_cons_zero, List.set_cons_succ]
    refine wpAnyH_take (i := 9) (v := (.pointer (some ⟨G, 0, none⟩))) rfl (by kernel_rfl) (by kernel_rfl) (by kernel_rfl) (fun _ _ _ h => h) (Or.inl ⟨by rfl, ?_⟩) hHeld ?_
    · (intro wz hSz; (try dsimp only at hSz); go_simp)
    simp only [Act.put, List.setIfInBounds_toArray, List.set_cons_zero, List.set_cons_succ]
    refine wpAnyH_take (i := 10) (v := (.pointer (some ⟨G, 14, none⟩))) rfl (by kernel_rfl) (by kernel_rfl) (by kernel_rfl) (fun _ _ _ h => h) (Or.inl ⟨by rfl, ?_⟩) hHeld ?_
    · (intro wz hSz; (try dsimp only at hSz); go_simp)
    simp only [Act.put, List.setIfInBounds_toArray, List.set_cons_zero, List.set_cons_succ]
    refine wpAnyH_take (i := 11) (v := (.slice ra r.rl.length rc)) rfl (by kernel_rfl) (by kernel_rfl) (by kernel_rfl) (fun _ _ _ h => h) (Or.inl ⟨by rfl, ?_⟩) hHeld ?_
    · (intro wz hSz; (try dsimp only at hSz); go_simp)
    simp only [Act.put, List.setIfInBounds_toArray, List.set_cons_zero, List.set_cons_succ]
    refine wpAnyH_take (i := 12) (v := (.pointer (some ⟨G, 0, none⟩))) rfl (by kernel_rfl) (by kernel_rfl) (by kernel_rfl) (fun _ _ _ h => h) (Or.inl ⟨by rfl, ?_⟩) hHeld ?_
    · (intro wz hSz; (try dsimp only at hSz); go_simp)
    simp only [Act.put, List.setIfInBounds_toArray, List.set_cons_zero, List.set_cons_succ]
    refine wpAnyH_take (i := 13) (v := (.pointer (some ⟨G, 0, none⟩))) rfl (by kernel_rfl) (by kernel_rfl) (by kernel_rfl) (fun _ _ _ h => h) (Or.inl ⟨by rfl, ?_⟩) hHeld ?_
    · (intro wz hSz; (try dsimp only at hSz); go_simp)
    simp only [Act.put, List.setIfInBounds_toArray, List.set_cons_zero, List.set_cons_succ]
    refine wpAnyH_take (i := 14) (v := (.pointer (some ⟨G, 15, none⟩))) rfl (by kernel_rfl) (by kernel_rfl) (by kernel_rfl) (fun _ _ _ h => h) (Or.inl ⟨by rfl, ?_⟩) hHeld ?_
    · (intro wz hSz; (try dsimp only at hSz); go_simp)
    simp only [Act.put, List.setIfInBounds_toArray, List.set_cons_zero, List.set_cons_succ]
    refine wpAnyH_take (i := 15) (v := (.slice ta r.tl.length tc)) rfl (by kernel_rfl) (by kernel_rfl) (by kernel_rfl) (fun _ _ _ h => h) (Or.inl ⟨by rfl, ?_⟩) hHeld ?_
    · (intro wz hSz; (try dsimp only at hSz); go_simp)
    simp only [Act.put, List.setIfInBounds_toArray, List.set_cons_zero, List.set_cons_succ]
    refine wpAnyH_take (i := 16) (v := (.pointer (some ⟨G, 0, none⟩))) rfl (by kernel_rfl) (by kernel_rfl) (by kernel_rfl) (fun _ _ _ h => h) (Or.inl ⟨by rfl, ?_⟩) hHeld ?_
    · (intro wz hSz; (try dsimp only at hSz); go_simp)
    simp only [Act.put, List.setIfInBounds_toArray, List.set_cons_zero, List.set_cons_succ]
    refine wpAnyH_take (i := 17) (v := (.pointer (some ⟨G, 0, none⟩))) rfl (by kernel_rfl) (by kernel_rfl) (by kernel_rfl) (fun _ _ _ h => h) (Or.inl ⟨by rfl, ?_⟩) hHeld ?_
    · (intro wz hSz; (try dsimp only at hSz); go_simp)
    simp only [Act.put, List.setIfInBounds_toArray, List.set_cons_zero, List.set_cons_succ]
    refine wpAnyH_take (i := 18) (v := (.pointer (some ⟨G, 16, none⟩))) rfl (by kernel_rfl) (by kernel_rfl) (by kernel_rfl) (fun _ _ _ h => h) (Or.inl ⟨by rfl, ?_⟩) hHeld ?_
    · (intro wz hSz; (try dsimp only at hSz); go_simp)
    simp only [Act.put, List.setIfInBounds_toArray, List.set_cons_zero, List.set_cons_succ]
    refine wpAnyH_take (i := 19) (v := (.int .i64 r.now)) rfl (by kernel_rfl) (by kernel_rfl) (by kernel_rfl) (fun _ _ _ h => h) (Or.inl ⟨by rfl, ?_⟩) hHeld ?_
    · (intro wz hSz; (try dsimp only at hSz); go_simp)
    simp only [Act.put, List.setIfInBounds_toArray, List.set_cons_zero, List.set_cons_succ]
    refine wpAnyH_take (i := 20) (v := (.pointer (some ⟨G, 0, none⟩))) rfl (by kernel_rfl) (by kernel_rfl) (by kernel_rfl) (fun _ _ _ h => h) (Or.inl ⟨by rfl, ?_⟩) hHeld ?_
    · (intro wz hSz; (try dsimp only at hSz); go_simp)
    simp only [Act.put, List.setIfInBounds_toArray, List.set_cons_zero, List.set_cons_succ]
    refine wpAnyH_take (i := 21) (v := (.pointer (some ⟨G, 0, none⟩))) rfl (by kernel_rfl) (by kernel_rfl) (by kernel_rfl) (fun _ _ _ h => h) (Or.inl ⟨by rfl, ?_⟩) hHeld ?_
    · (intro wz hSz; (try dsimp only at hSz); go_simp)
    simp only [Act.put, List.setIfInBounds_toArray, List.set_cons_zero, List.set_cons_succ]
    refine wpAnyH_take (i := 22) (v := (.pointer (some ⟨G, 17, none⟩))) rfl (by kernel_rfl) (by kernel_rfl) (by kernel_rfl) (fun _ _ _ h => h) (Or.inl ⟨by rfl, ?_⟩) hHeld ?_
    · (intro wz hSz; (try dsimp only at hSz); go_simp)
    simp only [Act.put, List.setIfInBounds_toArray, List.set_cons_zero, List.set_cons_succ]
    refine wpAnyH_take (i := 23) (v := (.int .u32 r.draw)) rfl (by kernel_rfl) (by kernel_rfl) (by kernel_rfl) (fun _ _ _ h => h) (Or.inl ⟨by rfl, ?_⟩) hHeld ?_
    · (intro wz hSz; (try dsimp only at hSz); go_simp)
    simp only [Act.put, List.setIfInBounds_toArray, List.set_cons_zero, List.set_cons_succ]
    refine wpAnyH_take (i := 24) (v := (.pointer (some ⟨G, 0, none⟩))) rfl (by kernel_rfl) (by kernel_rfl) (by kernel_rfl) (fun _ _ _ h => h) (Or.inl ⟨by rfl, ?_⟩) hHeld ?_
    · (intro wz hSz; (try dsimp only at hSz); go_simp)
    simp only [Act.put, List.setIfInBounds_toArray, List.set_cons_zero, List.set_cons_succ]
    refine wpAnyH_take (i := 25) (v := (.pointer (some ⟨G, 0, none⟩))) rfl (by kernel_rfl) (by kernel_rfl) (by kernel_rfl) (fun _ _ _ h => h) (Or.inl ⟨by rfl, ?_⟩) hHeld ?_
    · (intro wz hSz; (try dsimp only at hSz); go_simp)
    simp only [Act.put, List.setIfInBounds_toArray, List.set_cons_zero, List.set_cons_succ]
    refine wpAnyH_take (i := 26) (v := (.pointer (some ⟨G, 18, none⟩))) rfl (by kernel_rfl) (by kernel_rfl) (by kernel_rfl) (fun _ _ _ h => h) (Or.inl ⟨by rfl, ?_⟩) hHeld ?_
    · (intro wz hSz; (try dsimp only at hSz); go_simp)
    simp only [Act.put, List.setIfInBounds_toArray, List.set_cons_zero, List.set_cons_succ]
    refine wpAnyH_take (i := 27) (v := (.int .i64 r.boots)) rfl (by kernel_rfl) (by kernel_rfl) (by kernel_rfl) (fun _ _ _ h => h) (Or.inl ⟨by rfl, ?_⟩) hHeld ?_
    · (intro wz hSz; (try dsimp only at hSz); go_simp)
    simp only [Act.put, List.setIfInBounds_toArray, List.set_cons_zero, List.set_cons_succ]
    refine wpAnyH_take (i := 28) (v := (.pointer (some ⟨G, 0, none⟩))) rfl (by kernel_rfl) (by kernel_rfl) (by kernel_rfl) (fun _ _ _ h => h) (Or.inl ⟨by rfl, ?_⟩) hHeld ?_
    · (intro wz hSz; (try dsimp only at hSz); go_simp)
    simp only [Act.put, List.setIfInBounds_toArray, List.set_cons_zero, List.set_cons_succ]
    refine wpAnyH_take (i := 29) (v := (.pointer (some ⟨G, 0, none⟩))) rfl (by kernel_rfl) (by kernel_rfl) (by kernel_rfl) (fun _ _ _ h => h) (Or.inl ⟨by rfl, ?_⟩) hHeld ?_
    · (intro wz hSz; (try dsimp only at hSz); go_simp)
    simp only [Act.put, List.setIfInBounds_toArray, List.set_cons_zero, List.set_cons_succ]
    refine wpAnyH_take (i := 30) (v := (.pointer (some ⟨G, 19, none⟩))) rfl (by kernel_rfl) (by kernel_rfl) (by kernel_rfl) (fun _ _ _ h => h) (Or.inl ⟨by rfl, ?_⟩) hHeld ?_
    · (intro wz hSz; (try dsimp only at hSz); go_simp)
    simp only [Act.put, List.setIfInBounds_toArray, List.set_cons_zero, List.set_cons_succ]
    refine wpAnyH_take (i := 31) (v := (.int .i64 r.lost)) rfl (by kernel_rfl) (by kernel_rfl) (by kernel_rfl) (fun _ _ _ h => h) (Or.inl ⟨by rfl, ?_⟩) hHeld ?_
    · (intro wz hSz; (try dsimp only at hSz); go_simp)
    simp only [Act.put, List.setIfInBounds_toArray, List.set_cons_zero, List.set_cons_succ]
    refine wpAnyH_take (i := 32) (v := (.pointer (some ⟨G, 0, none⟩))) rfl (by kernel_rfl) (by kernel_rfl) (by kernel_rfl) (fun _ _ _ h => h) (Or.inl ⟨by rfl, ?_⟩) hHeld ?_
    · (intro wz hSz; (try dsimp only at hSz); go_simp)
    simp only [Act.put, List.setIfInBounds_toArray, List.set_cons_zero, List.set_cons_succ]
    refine wpAnyH_take (i := 33) (v := (.pointer (some ⟨G, 0, none⟩))) rfl (by kernel_rfl) (by kernel_rfl) (by kernel_rfl) (fun _ _ _ h => h) (Or.inl ⟨by rfl, ?_⟩) hHeld ?_
    · (intro wz hSz; (try dsimp only at hSz); go_simp)
    simp only [Act.put, List.setIfInBounds_toArray, List.set_cons_zero, List.set_cons_succ]
    refine wpAnyH_take (i := 34) (v := (.pointer (some ⟨G, 20, none⟩))) rfl (by kernel_rfl) (by kernel_rfl) (by kernel_rfl) (fun _ _ _ h => h) (Or.inl ⟨by rfl, ?_⟩) hHeld ?_
    · (intro wz hSz; (try dsimp only at hSz); go_simp)
    simp only [Act.put, List.setIfInBounds_toArray, List.set_cons_zero, List.set_cons_succ]
    refine wpAnyH_take (i := 35) (v := (.int .i64 r.id)) rfl (by kernel_rfl) (by kernel_rfl) (by kernel_rfl) (fun _ _ _ h => h) (Or.inl ⟨by rfl, ?_⟩) hHeld ?_
    · (intro wz hSz; (try dsimp only at hSz); go_simp)
    simp only [Act.put, List.setIfInBounds_toArray, List.set_cons_zero, List.set_cons_succ]
    refine wpAnyH_take (i := 36) (v := .agg (List.toArray ((.pointer tp : Value) :: (.int .u8 r.k0.toNat) :: (.int .u8 r.k1.toNat) :: (.int .u8 r.k2.toNat) :: (.int .u8 r.k3.toNat) :: (.int .u8 r.k4.toNat) :: (.int .u8 r.k5.toNat) :: (.string r.name) :: (.int .i64 r.cap) :: (.string r.dig) :: (.int .i64 r.blk) :: (.int .i64 r.win) :: (.int .i64 r.rx) :: (.int .i64 r.tx) :: (.slice ra r.rl.length rc) :: (.slice ta r.tl.length tc) :: (.int .i64 r.now) :: (.int .u32 r.draw) :: (.int .i64 r.boots) :: (.int .i64 r.lost) :: (.int .i64 r.id) :: (.slice none 0 0) :: (.int .i64 0) :: (.int .u32 0) :: (.int .u32 0) :: (.int .u32 0) :: (.int .u32 0) :: (.int .u32 0) :: (.int .u32 0) :: (.int .i64 0) :: (.int .i64 0) :: (.int .i64 0) :: (.int .i64 0) :: (.int .i64 0) :: (.int .i64 0) :: (.int .i64 0) :: (.int .i64 0) :: (.int .i64 0) :: (.int .i64 0) :: (.int .i64 0) :: (.int .i64 0) :: (.int .i64 0) :: (.int .i64 0) :: (.int .i64 0) :: (.string ⟨#[]⟩) :: (.slice none 0 0) :: []))) rfl (by kernel_rfl) (by kernel_rfl) (by kernel_rfl) (fun _ _ _ h => h) (Or.inl ⟨by rfl, ?_⟩) hHeld ?_
    · intro wz hSz
      refine exec_build _ _ _ rfl ?_ _ (hbuild wz)
      first | kernel_rfl | go_simp | (simp [Act.eval]; done)
    simp only [Act.put, List.setIfInBounds_toArray, List.set_cons_zero, List.set_cons_succ]
    refine wpAnyH_ready (rs := [37]) (by kernel_rfl) (by simp) ?_
    refine AllReadyH.cons rfl (fun K hK => ?_) AllReadyH.nil
    go_simp
    clear hHeld
    refine hK.out _ _ ?_ (fun hHeld => ?_)
    · exact unhide HK _ (by (repeat (first | exact Below.refl _ _ | (refine Below.drew ?_) | (refine Below.alloc ?_ (by first | (simp; done) | (simp; omega)) _))))
    clear hK K
    try simp only [Act.put, List.setIfInBounds_toArray, List.set_cons_zero, List.set_cons_succ]
    refine wpAnyH_ready (rs := [38]) (by kernel_rfl) (by simp) ?_
    refine AllReadyH.cons rfl (fun K hK => ?_) AllReadyH.nil
    rw [if_pos (by rfl)]
    refine wp_store_row 57 (.tmp 2) (.tmp 39) rfl w.heap.size (List.toArray ((.pointer tp : Value) :: (.int .u8 r.k0.toNat) :: (.int .u8 r.k1.toNat) :: (.int .u8 r.k2.toNat) :: (.int .u8 r.k3.toNat) :: (.int .u8 r.k4.toNat) :: (.int .u8 r.k5.toNat) :: (.string r.name) :: (.int .i64 r.cap) :: (.string r.dig) :: (.int .i64 r.blk) :: (.int .i64 r.win) :: (.int .i64 r.rx) :: (.int .i64 r.tx) :: (.slice ra r.rl.length rc) :: (.slice ta r.tl.length tc) :: (.int .i64 r.now) :: (.int .u32 r.draw) :: (.int .i64 r.boots) :: (.int .i64 r.lost) :: (.int .i64 r.id) :: (.slice none 0 0) :: (.int .i64 0) :: (.int .u32 0) :: (.int .u32 0) :: (.int .u32 0) :: (.int .u32 0) :: (.int .u32 0) :: (.int .u32 0) :: (.int .i64 0) :: (.int .i64 0) :: (.int .i64 0) :: (.int .i64 0) :: (.int .i64 0) :: (.int .i64 0) :: (.int .i64 0) :: (.int .i64 0) :: (.int .i64 0) :: (.int .i64 0) :: (.int .i64 0) :: (.int .i64 0) :: (.int .i64 0) :: (.int .i64 0) :: (.int .i64 0) :: (.string ⟨#[]⟩) :: (.slice none 0 0) :: [])) rfl rfl 57 _ (heap_alloc_new w.drew _) (by kernel_rfl) (by kernel_rfl) (by kernel_rfl) ?_
    clear hHeld
    refine hK.out _ _ ?_ (fun hHeld => ?_)
    · exact unhide HK _ (below_setRow (by (repeat (first | exact Below.refl _ _ | (refine Below.drew ?_) | (refine Below.alloc ?_ (by first | (simp; done) | (simp; omega)) _)))) (Nat.le_refl _) _)
    clear hK K
    try simp only [Act.put, List.setIfInBounds_toArray, List.set_cons_zero, List.set_cons_succ]
    refine wpAnyH_done (by kernel_rfl) ?_ _
    clear hHeld hbuild
    go_wp2
    go_meet
    refine ⟨rfl, hide ⟨(unhide HM).below (below_setRow (by (repeat (first | exact Below.refl _ _ | (refine Below.drew ?_) | (refine Below.alloc ?_ (by first | (simp; done) | (simp; omega)) _)))) (Nat.le_refl _) _), ?_⟩⟩
    rw [unhide HCELLS]
    exact setRow_heap _ _ _ _ _ _ (heap_alloc_new w.drew _)
  case rest =>
    rename World => wc
    obtain ⟨rfl, HC⟩ := hcut
    have HR := hide (unhide HC).2
    have HM1 := hide (unhide HC).1
    have HG := hide (unhide HM1).row
    have HE : Hid (Rm w0 P (wc.setRow G r.dropR.cells) G r.dropR) := hide ((unhide HM1).row_set rfl rfl rfl rfl)
    rw [unhide HCELLS] at HR HE
    clear hbuild HK HM HC HM1 HCELLS c0 c1 c2 c3 c4 c5 c6 c7 c8 c9 c10 c11 c12 c13 c14 c15 c16 c17 c18 c19 c20
    go_wp2_with (first | (refine wpList_load_row rfl 57 (.tmp 2) rfl w.heap.size rfl 57 _ (0, 0) _ (unhide HR) Tryz.underlying57 rfl (by kernel_rfl) ?_) | (refine wpList_store_row rfl 57 (.tmp 42) (.tmp 41) rfl G (List.toArray ((.pointer tp : Value) :: (.int .u8 r.k0.toNat) :: (.int .u8 r.k1.toNat) :: (.int .u8 r.k2.toNat) :: (.int .u8 r.k3.toNat) :: (.int .u8 r.k4.toNat) :: (.int .u8 r.k5.toNat) :: (.string r.name) :: (.int .i64 r.cap) :: (.string r.dig) :: (.int .i64 r.blk) :: (.int .i64 r.win) :: (.int .i64 r.rx) :: (.int .i64 r.tx) :: (.slice ra r.rl.length rc) :: (.slice ta r.tl.length tc) :: (.int .i64 r.now) :: (.int .u32 r.draw) :: (.int .i64 r.boots) :: (.int .i64 r.lost) :: (.int .i64 r.id) :: (.slice none 0 0) :: (.int .i64 0) :: (.int .u32 0) :: (.int .u32 0) :: (.int .u32 0) :: (.int .u32 0) :: (.int .u32 0) :: (.int .u32 0) :: (.int .i64 0) :: (.int .i64 0) :: (.int .i64 0) :: (.int .i64 0) :: (.int .i64 0) :: (.int .i64 0) :: (.int .i64 0) :: (.int .i64 0) :: (.int .i64 0) :: (.int .i64 0) :: (.int .i64 0) :: (.int .i64 0) :: (.int .i64 0) :: (.int .i64 0) :: (.int .i64 0) :: (.string ⟨#[]⟩) :: (.slice none 0 0) :: [])) rfl rfl 57 _ (unhide HG) (by kernel_rfl) (by kernel_rfl) (by kernel_rfl) ?_))
    go_end0
    exact ⟨rfl, unhide HE⟩
end Go.Proofs.YtbhbbeebncmaiaaGreatDoor.Ref

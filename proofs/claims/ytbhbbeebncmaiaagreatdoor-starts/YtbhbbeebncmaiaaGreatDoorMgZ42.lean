import Derived.Test.YtbhbbeebncmaiaaGreatDoorMgZ37
namespace Go.Proofs.YtbhbbeebncmaiaaGreatDoor.Ref
open Go.ChangeShapes Go.WideShapes Go.ChangeAt Go.RowKit Bs Mac
set_option linter.unusedVariables false
set_option linter.unusedSimpArgs false
variable {w0 : World} {P : Nat → Prop} {w w' : World} {G : Nat} {r r' : Rf}
set_option maxHeartbeats 2000000 in
theorem look_any (h : Rm w0 P w G r) (hl : r.lease < 4) (hc : r.cv = .slice none 0 0) (hi : r.iv = .slice none 0 0) : Calls Tryz.prog 26 #[.pointer (some ⟨G, 0, none⟩)] w fun ee w' => ee = .returned (.agg #[.int .i64 r.now, .int .i64 r.lease, .int .i64 r.phase, .int .u32 0, .int .i64 r.boots, .int .i64 0, .int .i64 r.lost, .int .i64 0]) ∧ Below w.heap.size w w' := by
  have c16 := h.c16
  have c22 := h.c22
  have c34 := h.c34
  have c18 := h.c18
  have c45 := h.c45
  have c19 := h.c19
  have c21 := h.c21
  rw [hc] at c21
  rw [hi] at c45
  have hne : G ≠ w.heap.size := Nat.ne_of_lt h.lt
  have HA := hide (address_off (h.alloc (.cells #[.int .i64 0, .int .i64 0, .int .i64 0, .int .u32 0, .int .i64 0, .int .i64 0, .int .i64 0, .int .i64 0] 69)).drew hl)
  have hlt := h.lt
  clear h
  go_enter Tryz.func26, Tryz.ntmps26
  go_wp2
  go_region_held3 (fun u => u.cell? ⟨G, 16, none⟩ = some (.int .i64 r.now) ∧ u.cell? ⟨G, 22, none⟩ = some (.int .i64 r.lease) ∧ u.cell? ⟨G, 34, none⟩ = some (.int .i64 r.phase) ∧ u.cell? ⟨G, 18, none⟩ = some (.int .i64 r.boots) ∧ u.cell? ⟨G, 45, none⟩ = some (.slice none 0 0) ∧ u.cell? ⟨G, 19, none⟩ = some (.int .i64 r.lost) ∧ u.cell? ⟨G, 21, none⟩ = some (.slice none 0 0)) (go_keep)
    (first | (go_at_call 46; refine (unhide HA).mono ?_; rintro ee u ⟨rfl, rfl⟩))
  go_wp2
  go_returns
  exact ⟨rfl, ((Below.refl _ _).alloc (Nat.le_refl _) _).drew⟩
end Go.Proofs.YtbhbbeebncmaiaaGreatDoor.Ref

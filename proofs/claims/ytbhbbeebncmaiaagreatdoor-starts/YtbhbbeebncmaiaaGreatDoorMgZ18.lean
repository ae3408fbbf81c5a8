import Derived.Test.YtbhbbeebncmaiaaGreatDoorMgZ16
import Derived.Test.YtbhbbeebncmaiaaGreatDoorMgZ48
namespace Go.Proofs.YtbhbbeebncmaiaaGreatDoor.Mac
open Go.ChangeShapes Go.WideShapes Go.ChangeAt Go.RowKit Bs
set_option linter.unusedVariables false
set_option linter.unusedSimpArgs false
variable {w0 : World} {P : Nat → Prop} {w w' : World} {B : Nat} {m m' : Mc}
theorem mac_eq (a0 a1 a2 a3 a4 a5 b0 b1 b2 b3 b4 b5 : Int) (w : World) :
    (Op.equalIn 10000 26 (.agg #[.int .u8 a0, .int .u8 a1, .int .u8 a2, .int .u8 a3, .int .u8 a4, .int .u8 a5]) (.agg #[.int .u8 b0, .int .u8 b1, .int .u8 b2, .int .u8 b3, .int .u8 b4, .int .u8 b5])).run Tryz.prog w = .ok (a0 == b0 && a1 == b1 && a2 == b2 && a3 == b3 && a4 == b4 && a5 == b5) w := by
  obtain ⟨i0, hi, hz0, hz1, hz2⟩ := info_parts info8
  rw [run_equalIn_array w 9999 _ _ Tryz.underlying26 hi, Sq.cells8]
  have p0 : ∀ (a0 a1 a2 a3 a4 a5 : Int) u, (part 5 #[.int .u8 a0, .int .u8 a1, .int .u8 a2, .int .u8 a3, .int .u8 a4, .int .u8 a5] 0).run Tryz.prog u = .ok (.int .u8 a0) u := fun _ _ _ _ _ _ _ => by kernel_rfl
  have p1 : ∀ (a0 a1 a2 a3 a4 a5 : Int) u, (part 5 #[.int .u8 a0, .int .u8 a1, .int .u8 a2, .int .u8 a3, .int .u8 a4, .int .u8 a5] 1).run Tryz.prog u = .ok (.int .u8 a1) u := fun _ _ _ _ _ _ _ => by kernel_rfl
  have p2 : ∀ (a0 a1 a2 a3 a4 a5 : Int) u, (part 5 #[.int .u8 a0, .int .u8 a1, .int .u8 a2, .int .u8 a3, .int .u8 a4, .int .u8 a5] 2).run Tryz.prog u = .ok (.int .u8 a2) u := fun _ _ _ _ _ _ _ => by kernel_rfl
  have p3 : ∀ (a0 a1 a2 a3 a4 a5 : Int) u, (part 5 #[.int .u8 a0, .int .u8 a1, .int .u8 a2, .int .u8 a3, .int .u8 a4, .int .u8 a5] 3).run Tryz.prog u = .ok (.int .u8 a3) u := fun _ _ _ _ _ _ _ => by kernel_rfl
  have p4 : ∀ (a0 a1 a2 a3 a4 a5 : Int) u, (part 5 #[.int .u8 a0, .int .u8 a1, .int .u8 a2, .int .u8 a3, .int .u8 a4, .int .u8 a5] 4).run Tryz.prog u = .ok (.int .u8 a4) u := fun _ _ _ _ _ _ _ => by kernel_rfl
  have p5 : ∀ (a0 a1 a2 a3 a4 a5 : Int) u, (part 5 #[.int .u8 a0, .int .u8 a1, .int .u8 a2, .int .u8 a3, .int .u8 a4, .int .u8 a5] 5).run Tryz.prog u = .ok (.int .u8 a5) u := fun _ _ _ _ _ _ _ => by kernel_rfl
  have q : ∀ (x y : Int) u, (Op.equalIn 9999 5 (.int .u8 x) (.int .u8 y)).run Tryz.prog u = .ok (x == y) u := fun x y u => by
    rw [run_equalIn_int u 9998 5 .u8 .u8 x y Tryz.underlying5]
  rw [show List.range 6 = [0, 1, 2, 3, 4, 5] from rfl]
  simp only [Op.eqItems, Sem.run_bind, Nat.mul_one, p0, p1, p2, p3, p4, p5, q, Result.andThen_ok, Bool.false_eq_true, if_false, Sem.run_pure, Sem.run_ite]
  cases a0 == b0 <;> cases a1 == b1 <;> cases a2 == b2 <;> cases a3 == b3 <;> cases a4 == b4 <;> cases a5 == b5 <;> simp
def cardB (k0 k1 k2 k3 k4 k5 : UInt8) : Bool := !(k0.toNat == 0 && k1.toNat == 0 && k2.toNat == 0 && k3.toNat == 0 && k4.toNat == 0 && k5.toNat == 0) && k0.toNat % 2 == 0
theorem eq_nat0 (k : UInt8) : ((k.toNat : Int) == 0) = (k.toNat == 0) := by
  by_cases h : k.toNat = 0
  · simp [h]
  · rw [beq_eq_false_iff_ne.2 h, beq_eq_false_iff_ne.2 (by omega)]
theorem and_one : ∀ n : Fin 256, bits .and .u8 ((n.val : Nat) : Int) 1 = ((n.val % 2 : Nat) : Int) := by decide +kernel
set_option maxHeartbeats 1000000 in
theorem isCard_any (k0 k1 k2 k3 k4 k5 : UInt8) (w : World) :
    Calls Tryz.prog 75 #[.agg #[.int .u8 k0.toNat, .int .u8 k1.toNat, .int .u8 k2.toNat, .int .u8 k3.toNat, .int .u8 k4.toNat, .int .u8 k5.toNat]] w fun e w' => e = .returned (.bool (cardB k0 k1 k2 k3 k4 k5)) ∧ Below w.heap.size w w' := by
  have hq := fun u => mac_eq k0.toNat k1.toNat k2.toNat k3.toNat k4.toNat k5.toNat 0 0 0 0 0 0 u
  simp only [eq_nat0] at hq
  have hk := UInt8.toNat_lt k0
  unfold cardB
  generalize (k0.toNat == 0 && k1.toNat == 0 && k2.toNat == 0 && k3.toNat == 0 && k4.toNat == 0 && k5.toNat == 0) = z at *
  cases z with
  | true =>
    go_enter Tryz.func75, Tryz.ntmps75
    go_wp2
    go_ret
    exact ⟨by simp, (Below.refl _ _).alloc (Nat.le_refl _) _⟩
  | false =>
    go_enter Tryz.func75, Tryz.ntmps75
    go_wp2
    go_ret
    refine ⟨?_, (Below.refl _ _).alloc (Nat.le_refl _) _⟩
    have e := and_one ⟨k0.toNat, hk⟩
    simp only at e
    rw [e]
    by_cases h2 : k0.toNat % 2 = 0
    · simp [h2]
    · have h3 : k0.toNat % 2 = 1 := by omega
      simp [h3]
theorem isIn_any (n a b : Int) (w : World) : Calls Tryz.prog 77 #[.int .i64 n, .int .i64 a, .int .i64 b] w fun e w' => e = .returned (.bool (decide (a ≤ n) && decide (n ≤ b))) ∧ w' = w := by
  by_cases h1 : a ≤ n
  · have e : (decide (a ≤ n) && decide (n ≤ b)) = decide (n ≤ b) := by simp [h1]
    rw [e]
    clear e
    go_enter Tryz.func77, Tryz.ntmps77
    go_wp2
    go_ret
    exact ⟨rfl, rfl⟩
  · have e : (decide (a ≤ n) && decide (n ≤ b)) = false := by simp [h1]
    rw [e]
    clear e
    go_enter Tryz.func77, Tryz.ntmps77
    go_wp2
    go_ret
    exact ⟨rfl, rfl⟩
theorem infoS : (Tryz.prog.info? 9).map (fun i => (i.zero, i.size, i.bytes)) = some (some (.string ⟨#[]⟩), 1, 16) := by kernel_rfl
set_option maxHeartbeats 1000000 in
theorem ringNew_any (n : Nat) (h0 : 0 < n) (hn : n ≤ 16) (w : World) : Calls Tryz.prog 50 #[.int .i64 n] w fun e w' => ∃ g arr, e = .returned (.agg #[.slice (some ⟨g, 0, none⟩) n n, .int .i64 0, .int .i64 0]) ∧ w.heap.size ≤ g ∧ w'.heap[g]? = some (.cells arr 9 (0, 0)) ∧ arr.size = n ∧ Below w.heap.size w w' := by
  obtain ⟨i0, hi, hz0, hz1, hz2⟩ := info_parts infoS
  obtain ⟨M, hM⟩ : ∃ M, M = madeCells #[Value.string ⟨#[]⟩] n := ⟨_, rfl⟩
  have hMs : M.size = n := by rw [hM, ← Array.length_toList, toList_madeCells_one]; simp
  have hmk : ∀ u : World, (Instr.makeSlice 49 (.int .i64 (n : Int)) (.int .i64 (n : Int))).run Tryz.prog u = .ok (.slice (some ⟨u.heap.size, 0, none⟩) n n) (u.alloc (.cells M 9)) := fun u => by
    have h := run_make (P := Tryz.prog) u 49 9 i0 (.string ⟨#[]⟩) Tryz.underlying49 hi hz0 .i64 .i64 (n : Int) (n : Int) (by omega) (Int.le_refl _) (by rw [hz2]; omega) (by omega)
    rw [hM]
    simpa [hz1, Value.cells] using h
  clear hM
  clear hi hz0 hz1 hz2
  go_enter Tryz.func50, Tryz.ntmps50
  go_wp2
  go_returns
  exact ⟨_, M, rfl, Nat.le_succ _, second_new w _ _, hMs, ((Below.refl _ _).alloc (Nat.le_refl _) _).alloc (by simp) _⟩
end Go.Proofs.YtbhbbeebncmaiaaGreatDoor.Mac

import Derived.Test.YtoifihhmneldeaaDoorARPMath
namespace Go.Proofs.YtoifihhmneldeaaDoor.Arp
open Go.ChangeShapes Go.WideShapes Go.ChangeAt Go.RowKit Bs Rb Wt
set_option linter.unusedVariables false

set_option maxHeartbeats 1000000 in
theorem write_ok (op : Int) (a b c d e f : UInt8) (fi : Int) (a' b' c' d' e' f' : UInt8) (ti : Int) (w : World)
    (h1 : 0 ≤ op) (h2 : op ≤ 65535) (h3 : 0 ≤ fi) (h4 : fi ≤ 4294967295) (h5 : 0 ≤ ti) (h6 : ti ≤ 4294967295) (hop : (op == 1 || op == 2) = true) :
    Calls Tryd.prog 22 #[.agg #[.int .u16 op, .int .u8 a.toNat, .int .u8 b.toNat, .int .u8 c.toNat, .int .u8 d.toNat, .int .u8 e.toNat, .int .u8 f.toNat, .int .u32 fi,
        .int .u8 a'.toNat, .int .u8 b'.toNat, .int .u8 c'.toNat, .int .u8 d'.toNat, .int .u8 e'.toNat, .int .u8 f'.toNat, .int .u32 ti]] w fun ee w' =>
      ee = .returned (.tuple #[.string ⟨(arpL op [a, b, c, d, e, f] fi [a', b', c', d', e', f'] ti).toArray⟩, .int .i64 0]) ∧ Below w.heap.size w w' := by
  have HO := hide (isOp_any op)
  go_enter Tryd.func22, Tryd.ntmps22
  go_wp2_with fail
  refine (unhide HO _).mono ?_
  rintro ee w1 ⟨rfl, rfl⟩
  rw [hop]
  obtain ⟨W, hW⟩ : ∃ W, W = w.alloc (.cells #[.int .u16 op, .int .u8 a.toNat, .int .u8 b.toNat, .int .u8 c.toNat, .int .u8 d.toNat, .int .u8 e.toNat, .int .u8 f.toNat, .int .u32 fi, .int .u8 a'.toNat, .int .u8 b'.toNat, .int .u8 c'.toNat, .int .u8 d'.toNat, .int .u8 e'.toNat, .int .u8 f'.toNat, .int .u32 ti] 42) := ⟨_, rfl⟩
  have hz : W.heap.size = w.heap.size + 1 := by rw [hW]; simp
  have n0 := wr_new W
  rw [hz, hW] at n0
  have HN := hide n0
  clear n0 hz hW W
  go_wp2_with fail
  refine (texts_one _ _ _ _ _ (unhide HN) (by simp) (by decide)).mono ?_
  rintro ee w1 ⟨rfl, k1, q1⟩
  have r1 := kept_cells q1 (b := w.heap.size) (by omega)
  have K1 := hide k1
  have Q1 := hide q1
  clear k1 q1
  go_wp2_with fail
  refine (words_one _ _ _ _ _ (unhide K1) rfl (by omega) (by omega) (by simp)).mono ?_
  rintro ee w2 ⟨rfl, k2, q2⟩
  have r2 := kept_cells q2 (b := w.heap.size) (by omega)
  have K2 := hide k2
  have Q2 := hide q2
  clear k2 q2
  go_wp2_with fail
  refine (cards_one _ _ _ _ _ _ _ _ _ _ (unhide K2) rfl (by simp [word8])).mono ?_
  rintro ee w3 ⟨rfl, k3, q3⟩
  have r3 := kept_cells q3 (b := w.heap.size) (by omega)
  have K3 := hide k3
  have Q3 := hide q3
  clear k3 q3
  go_wp2_with fail
  refine (addresses_one _ _ _ _ _ (unhide K3) rfl (by omega) (by omega) (by simp [word8])).mono ?_
  rintro ee w4 ⟨rfl, k4, q4⟩
  have r4 := kept_cells q4 (b := w.heap.size) (by omega)
  have K4 := hide k4
  have Q4 := hide q4
  clear k4 q4
  go_wp2_with fail
  refine (cards_one _ _ _ _ _ _ _ _ _ _ (unhide K4) rfl (by simp [word8, dword8, words8])).mono ?_
  rintro ee w5 ⟨rfl, k5, q5⟩
  have r5 := kept_cells q5 (b := w.heap.size) (by omega)
  have K5 := hide k5
  have Q5 := hide q5
  clear k5 q5
  go_wp2_with fail
  refine (addresses_one _ _ _ _ _ (unhide K5) rfl (by omega) (by omega) (by simp [word8, dword8, words8])).mono ?_
  rintro ee w6 ⟨rfl, k6, q6⟩
  have r6 := kept_cells q6 (b := w.heap.size) (by omega)
  have K6 := hide k6
  have Q6 := hide q6
  clear k6 q6
  go_wp2_with fail
  refine (text_any _ _ _ (unhide K6)).mono ?_
  rintro ee w7 ⟨rfl, rfl⟩
  clear r1 r2 r3 r4 r5 r6
  go_wp2
  go_ret2
  refine ⟨rfl, ?_⟩
  have q := ((((((unhide Q1).trans (unhide Q2)).trans (unhide Q3)).trans (unhide Q4)).trans (unhide Q5)).trans (unhide Q6)).below
  exact (((Below.refl w.heap.size w).alloc (Nat.le_refl _) _).alloc (by simp) _).trans (q.mono (by omega))
end Go.Proofs.YtoifihhmneldeaaDoor.Arp

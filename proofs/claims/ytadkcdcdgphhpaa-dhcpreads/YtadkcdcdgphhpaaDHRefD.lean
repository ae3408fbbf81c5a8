import Derived.Test.YtadkcdcdgphhpaaDHRefA
namespace Go.Proofs.Ytadkcdcdgphhpaa.Dh
open Go.ChangeShapes Go.WideShapes Go.ChangeAt Go.RowKit Bs
set_option linter.unusedVariables false
set_option linter.unusedSimpArgs false

theorem bne_flip {a b : List UInt8} {x : Bool} (h : (a != b) = x) : (a == b) = !x := by rw [← h, bne, Bool.not_not]

set_option maxHeartbeats 4000000 in
set_option maxRecDepth 10000 in
/-- another head -/
theorem ref_head (s : ByteArray) (x0 : UInt8) (w : World) (hz : 240 ≤ s.size) (hm : s.size ≤ 1048576) (i0 : ∀ u, (Instr.index 9 (.string s) (.int .i64 0)).run Try.prog u = .ok (.int .u8 x0.toNat) u)
    (h : (((x0.toNat : Int) == 1 || (x0.toNat : Int) == 2) = false) ∨ ((((x0.toNat : Int) == 1 || (x0.toNat : Int) == 2) = true) ∧ (((s.extract 1 3).toList != [1, 6]) = true ∨ (((s.extract 1 3).toList != [1, 6]) = false ∧ ((s.extract 236 240).toList != [99, 130, 83, 99]) = true)))) :
    Calls Try.prog 32 #[.string s] w fun ee w' => ee = .returned (.tuple #[.agg #[.bool false, .int .u32 0, .int .u32 0, .int .u32 0, .int .u32 0, .int .u8 0, .int .u8 0, .int .u8 0, .int .u8 0, .int .u8 0, .int .u8 0, .slice none 0 0], .int .i64 2]) ∧ Below w.heap.size w w' := by
  have k3 : (3 : Int) ≤ (s.size : Int) := by omega
  have k236 : (236 : Int) ≤ (s.size : Int) := by omega
  have k240 : (240 : Int) ≤ (s.size : Int) := by omega
  have k240' : ¬ (s.size : Int) < 240 := by omega
  have hmx : (s.size : Int) ≤ 9223372036854775807 := by omega
  have hc : (((x0.toNat : Int) != 1) = true ∧ ((x0.toNat : Int) != 2) = true) ∨ ((((x0.toNat : Int) != 1) = false) ∧ (((s.extract 1 3).toList != [1, 6]) = true ∨ (((s.extract 1 3).toList != [1, 6]) = false ∧ ((s.extract 236 240).toList != [99, 130, 83, 99]) = true))) ∨ ((((x0.toNat : Int) != 1) = true ∧ ((x0.toNat : Int) != 2) = false) ∧ (((s.extract 1 3).toList != [1, 6]) = true ∨ (((s.extract 1 3).toList != [1, 6]) = false ∧ ((s.extract 236 240).toList != [99, 130, 83, 99]) = true))) := by
    rcases h with h | ⟨h, h2⟩
    · rw [Bool.or_eq_false_iff] at h
      exact Or.inl ⟨by rw [bne, h.1]; rfl, by rw [bne, h.2]; rfl⟩
    · rw [Bool.or_eq_true] at h
      by_cases q1 : ((x0.toNat : Int) == 1) = true
      · exact Or.inr (Or.inl ⟨by rw [bne, q1]; rfl, h2⟩)
      · refine Or.inr (Or.inr ⟨⟨by rw [bne, Bool.eq_false_iff.2 q1]; rfl, ?_⟩, h2⟩)
        rcases h with q | q
        · exact absurd q q1
        · rw [bne, q]; rfl
  clear h hz hm
  rcases hc with ⟨h1, h2⟩ | ⟨h1, h3 | ⟨h3, h4⟩⟩ | ⟨⟨h1, h2⟩, h3 | ⟨h3, h4⟩⟩
  all_goals
    try have h3' := bne_flip h3
    try have h4' := bne_flip h4
    go_enter Try.func32, Try.ntmps32
    go_wp2
    exact bodyPost_ret (v := .tuple #[.agg #[.bool false, .int .u32 0, .int .u32 0, .int .u32 0, .int .u32 0, .int .u8 0, .int .u8 0, .int .u8 0, .int .u8 0, .int .u8 0, .int .u8 0, .slice none 0 0], .int .i64 2]) (by simp [results, Try.results32, go_sem]) rfl ⟨rfl, (Below.refl _ _).alloc (Nat.le_refl _) _⟩
end Go.Proofs.Ytadkcdcdgphhpaa.Dh

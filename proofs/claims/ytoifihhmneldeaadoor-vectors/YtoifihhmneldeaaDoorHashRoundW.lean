import Derived.Test.YtoifihhmneldeaaDoorHashRound
import Derived.Handy
namespace Go.Proofs.YtoifihhmneldeaaDoor.Ht
open Go.ChangeShapes Go.WideShapes Go.ChangeAt Go.RowKit Hb
set_option linter.unusedVariables false

theorem turned_6 (x : Nat) (hx : x < 4294967296) (W : World) (k : Nat) (hk : W.heap.size = k) : Calls Tryd.prog 58 #[.int .u32 x, .slice (some ⟨k, 0, none⟩) 3 3] (W.alloc (.cells #[.int .i64 6, .int .i64 11, .int .i64 25] 3)).drew fun en w' => en = .returned (.int .u32 (turn3F x 6 11 25 : Nat)) ∧ w' = (W.alloc (.cells #[.int .i64 6, .int .i64 11, .int .i64 25] 3)).drew := by
  subst hk
  have h := turned_any x W.heap.size 3 [6, 11, 25] (W.alloc (.cells #[.int .i64 6, .int .i64 11, .int .i64 25] 3)).drew hx (Row.of (heap_alloc_new W (.cells #[.int .i64 6, .int .i64 11, .int .i64 25] 3))) (by simp) (by
    intro j hj
    match j, hj with
    | 0, _ => simp
    | 1, _ => simp
    | 2, _ => simp)
  exact h.mono (by rintro e w' ⟨rfl, rfl⟩; exact ⟨by simp [turnsF, turn3F], rfl⟩)
theorem turned_13 (x : Nat) (hx : x < 4294967296) (W : World) (k : Nat) (hk : W.heap.size = k) : Calls Tryd.prog 58 #[.int .u32 x, .slice (some ⟨k, 0, none⟩) 3 3] (W.alloc (.cells #[.int .i64 2, .int .i64 13, .int .i64 22] 3)).drew fun en w' => en = .returned (.int .u32 (turn3F x 2 13 22 : Nat)) ∧ w' = (W.alloc (.cells #[.int .i64 2, .int .i64 13, .int .i64 22] 3)).drew := by
  subst hk
  have h := turned_any x W.heap.size 3 [2, 13, 22] (W.alloc (.cells #[.int .i64 2, .int .i64 13, .int .i64 22] 3)).drew hx (Row.of (heap_alloc_new W (.cells #[.int .i64 2, .int .i64 13, .int .i64 22] 3))) (by simp) (by
    intro j hj
    match j, hj with
    | 0, _ => simp
    | 1, _ => simp
    | 2, _ => simp)
  exact h.mono (by rintro e w' ⟨rfl, rfl⟩; exact ⟨by simp [turnsF, turn3F], rfl⟩)

set_option maxHeartbeats 1000000 in
theorem round_any (a b c d e f g v x : Nat) (w : World) (ha : a < 4294967296) (hb : b < 4294967296) (hc : c < 4294967296) (hd : d < 4294967296) (he : e < 4294967296) (hf : f < 4294967296) (hg : g < 4294967296) (hv : v < 4294967296) (hx : x < 4294967296) :
    Calls Tryd.prog 54 #[.agg #[.int .u32 a, .int .u32 b, .int .u32 c, .int .u32 d, .int .u32 e, .int .u32 f, .int .u32 g, .int .u32 v], .int .u32 x] w fun en w' =>
      en = .returned (.agg #[.int .u32 ((oneF e f g v x + twoF a b c) % 4294967296 : Nat), .int .u32 a, .int .u32 b, .int .u32 c, .int .u32 ((d + oneF e f g v x) % 4294967296 : Nat), .int .u32 e, .int .u32 f, .int .u32 g]) ∧ Below w.heap.size w w' := by
  have hch := ch_num e f g he hf hg
  have hmj := maj_num a b c ha hb hc
  have hs1 := turn3F_lt e 6 11 25 he
  have hs0 := turn3F_lt a 2 13 22 ha
  have hcl := chF_lt e f g hf hg
  have hml := majF_lt a b c hb hc
  have HH1 := hide (turned_6 e he)
  have HH2 := hide (turned_13 a ha)
  have hone : oneF e f g v x = (v + turn3F e 6 11 25 + chF e f g + x) % 4294967296 := rfl
  have htwo : twoF a b c = (turn3F a 2 13 22 + majF a b c) % 4294967296 := rfl
  have HONE := hide hone
  have HTWO := hide htwo
  clear hone htwo
  obtain ⟨s1, es1⟩ : ∃ s, s = turn3F e 6 11 25 := ⟨_, rfl⟩
  obtain ⟨s0, es0⟩ : ∃ s, s = turn3F a 2 13 22 := ⟨_, rfl⟩
  obtain ⟨cc, ecc⟩ : ∃ s, s = chF e f g := ⟨_, rfl⟩
  obtain ⟨mm, emm⟩ : ∃ s, s = majF a b c := ⟨_, rfl⟩
  rw [← es1] at hs1 HH1 HONE
  rw [← es0] at hs0 HH2 HTWO
  rw [← ecc] at hch hcl HONE
  rw [← emm] at hmj hml HTWO
  clear es1 es0 ecc emm
  go_enter Tryd.func54, Tryd.ntmps54
  go_wp2
  go_cut [7] (fun s7 wx => s7 = .int .u32 ((v + s1 + cc + x) % 4294967296 : Nat) ∧ wx = (((w.alloc (.cells #[.int .u32 a, .int .u32 b, .int .u32 c, .int .u32 d, .int .u32 e, .int .u32 f, .int .u32 g, .int .u32 v] 57)).alloc (.cells #[.int .u32 0, .int .u32 0, .int .u32 0, .int .u32 0, .int .u32 0, .int .u32 0, .int .u32 0, .int .u32 0] 57)).alloc (.cells #[.int .i64 6, .int .i64 11, .int .i64 25] 3)).drew)
  case first =>
    go_region_with (go_at_call 58; refine (unhide HH1 _ _ ?_).mono ?_; simp; rintro en w' ⟨rfl, rfl⟩)
    all_goals go_wp2
    all_goals go_meet
    all_goals exact ⟨by congr 1; simp only [IntKind.wrap_u32']; omega, rfl⟩
  case rest =>
    obtain ⟨rfl, rfl⟩ := hcut
    go_wp2_with (go_at_call 58; refine (unhide HH2 _ _ ?_).mono ?_; simp; rintro en w' ⟨rfl, rfl⟩)
    have e1 : ((v : Int) + s1 + cc + x + (s0 + mm)) % 4294967296 = (((oneF e f g v x + twoF a b c) % 4294967296 : Nat) : Int) := by rw [unhide HONE, unhide HTWO]; omega
    have e2 : ((d : Int) + (v + s1 + cc + x)) % 4294967296 = (((d + oneF e f g v x) % 4294967296 : Nat) : Int) := by rw [unhide HONE]; omega
    rw [e1, e2]
    go_returns
    refine ⟨rfl, ?_⟩
    refine (Below.alloc (Below.alloc (Below.alloc (Below.alloc (Below.refl _ _) (Nat.le_refl _) _) (by simp) _) (by simp; omega) _) (by simp; omega) _).drew
end Go.Proofs.YtoifihhmneldeaaDoor.Ht

import Derived.Test.YtoifihhmneldeaaGreatDoorCheckMath
import Derived.ProofKit
import Derived.WalkSpells
import Derived.WalkLawsBesides
import Derived.Outline
import Derived.Deep.QuietTactic
import Derived.BigQuiet
namespace Go.Proofs.YtoifihhmneldeaaGreatDoor.Chk
set_option linter.unusedVariables false
open Go.ChangeShapes Go.WideShapes Go.ChangeAt Go.RowKit

/-- the round's two ends, over the word x that was read there -/
theorem end_lt (c x r t : Int) (h0 : 0 ≤ c) (h1 : c ≤ 65535) (h2 : 0 ≤ x) (h3 : x ≤ 65535) (hr : 0 ≤ r) (h : IntKind.u16.wrap (c + x) < x) (hf : fold (c + (x + r)) = t) :
    0 ≤ IntKind.u16.wrap (IntKind.u16.wrap (c + x) + 1) ∧ IntKind.u16.wrap (IntKind.u16.wrap (c + x) + 1) ≤ 65535 ∧ fold (IntKind.u16.wrap (IntKind.u16.wrap (c + x) + 1) + r) = t := by
  obtain ⟨a, b⟩ := step_lt c x h0 h1 h2 h3 h
  rw [b]
  exact ⟨by omega, by omega, by rw [fold_wrap c x r h0 h2 a hr]; exact hf⟩
theorem end_ge (c x r t : Int) (h0 : 0 ≤ c) (h1 : c ≤ 65535) (h2 : 0 ≤ x) (h3 : x ≤ 65535) (h : x ≤ IntKind.u16.wrap (c + x)) (hf : fold (c + (x + r)) = t) :
    0 ≤ IntKind.u16.wrap (c + x) ∧ IntKind.u16.wrap (c + x) ≤ 65535 ∧ fold (IntKind.u16.wrap (c + x) + r) = t := by
  obtain ⟨a, b⟩ := step_ge c x h0 h1 h2 h3 h
  rw [b]
  exact ⟨by omega, by omega, by rw [Int.add_assoc]; exact hf⟩

set_option maxHeartbeats 400000 in
theorem wire_check (s : ByteArray) (w : World) (hs : s.size ≤ 1099511627776) :
    Calls Tryz.prog 17 #[.string s] w fun e w' => e = .returned (.int .u16 (65535 - fold (wsum s.data.toList))) ∧ w' = w := by
  have hlen : Hid (s.data.toList.length = s.size) := hide (by rw [Array.length_toList]; rfl)
  go_enter Tryz.func17, Tryz.ntmps17
  go_wp2
  go_loop [3, 4] (fun n i => ∃ (k : Nat) (c : Int), k ≤ s.size + 1 ∧ 0 ≤ c ∧ c ≤ 65535 ∧ i = .int .i64 k ∧ n = .int .u16 c ∧ Hid (fold (c + wsum (s.data.toList.drop k)) = fold (wsum s.data.toList))) (fun _ i => s.size + 1 - (intOf i).toNat)
  case atStart => exact ⟨0, 0, Nat.zero_le _, by omega, by omega, rfl, rfl, hide (by simp)⟩
  case round =>
    obtain ⟨k, c, hk, hc0, hc1, rfl, rfl, HF⟩ := hrel
    by_cases hlt : k < s.size
    · by_cases hlt1 : k + 1 < s.size
      · have ha : s[k].toNat < 256 := s[k].toNat_lt
        have hb : s[k + 1].toNat < 256 := s[k + 1].toNat_lt
        have HW := hide (u16_word s[k].toNat s[k + 1].toNat ha hb)
        have hr := wsum_nonneg (s.data.toList.drop (k + 2))
        have HT : Hid (fold (c + (256 * (s[k].toNat : Int) + (s[k + 1].toNat : Int) + wsum (s.data.toList.drop (k + 2)))) = fold (wsum s.data.toList)) := by
          have e := wsum_two s.data.toList k (by rw [unhide hlen]; exact hlt1)
          rw [← unhide HF, e]; rfl
        go_wp2
        · rename_i hcmp
          rw [unhide HW] at hcmp
          obtain ⟨e1, e2, e3⟩ := end_lt c _ _ _ hc0 hc1 (by omega) (by omega) hr hcmp (unhide HT)
          go_round
          case rel => rw [unhide HW]; exact ⟨k + 2, _, by omega, e1, e2, by go_num, rfl, hide e3⟩
          case measure => simp [intOf]; omega
        · rename_i hcmp
          rw [unhide HW] at hcmp
          obtain ⟨e1, e2, e3⟩ := end_ge c _ _ _ hc0 hc1 (by omega) (by omega) hcmp (unhide HT)
          go_round
          case rel => rw [unhide HW]; exact ⟨k + 2, _, by omega, e1, e2, by go_num, rfl, hide e3⟩
          case measure => simp [intOf]; omega
      · have ha : s[k].toNat < 256 := s[k].toNat_lt
        have HT : Hid (fold (c + ((s[k].toNat : Int) * 256 + 0)) = fold (wsum s.data.toList)) := by
          have e := wsum_one s.data.toList k (by rw [unhide hlen]; omega)
          rw [← unhide HF, e]; show fold _ = fold _; congr 1; show _ = c + 256 * (s[k].toNat : Int); omega
        have HZ := hide (wsum_zero s.data.toList (k + 2) (by rw [unhide hlen]; omega))
        go_wp2
        · rename_i hcmp
          obtain ⟨e1, e2, e3⟩ := end_lt c _ _ _ hc0 hc1 (by omega) (by omega) (by omega) hcmp (unhide HT)
          go_round
          case rel => exact ⟨k + 2, _, by omega, e1, e2, by go_num, rfl, hide (by rw [unhide HZ]; exact e3)⟩
          case measure => simp [intOf]; omega
        · rename_i hcmp
          obtain ⟨e1, e2, e3⟩ := end_ge c _ _ _ hc0 hc1 (by omega) (by omega) hcmp (unhide HT)
          go_round
          case rel => exact ⟨k + 2, _, by omega, e1, e2, by go_num, rfl, hide (by rw [unhide HZ]; exact e3)⟩
          case measure => simp [intOf]; omega
    · go_wp2
      go_ret
      refine ⟨ret_int ?_, rfl⟩
      rw [u16_not c hc0 hc1, ← unhide HF, wsum_zero _ _ (by rw [unhide hlen]; omega), fold_small _ (by omega) (by omega)]
      omega
end Go.Proofs.YtoifihhmneldeaaGreatDoor.Chk

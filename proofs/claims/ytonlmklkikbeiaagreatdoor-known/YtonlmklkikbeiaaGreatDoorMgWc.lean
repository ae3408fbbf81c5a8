import Derived.Test.YtonlmklkikbeiaaGreatDoorRows
import Derived.WalkKit
import Derived.ProofKit
import Derived.Laws.BitsAllLaws
import Derived.WalkSpells
import Derived.WalkLawsBesides
import Derived.Outline
import Derived.Deep.QuietTactic
import Derived.BigQuiet
namespace Go.Proofs.YtonlmklkikbeiaaGreatDoor.Chk
open Go.ChangeShapes Go.WideShapes Go.ChangeAt Go.RowKit
set_option linter.unusedVariables false

/-- what is above sixteen bits added again, to the end -/
def fold (n : Int) : Int := if n = 0 then 0 else 1 + (n - 1) % 65535
/-- the words of a text, the last filled up, together -/
def wsum : List UInt8 → Int
  | [] => 0
  | [a] => 256 * (a.toNat : Int)
  | a :: b :: r => 256 * (a.toNat : Int) + (b.toNat : Int) + wsum r

theorem fold_small (n : Int) (h0 : 0 ≤ n) (h1 : n ≤ 65535) : fold n = n := by
  unfold fold; split <;> omega
theorem fold_bd (n : Int) (h0 : 0 ≤ n) : 0 ≤ fold n ∧ fold n ≤ 65535 := by
  unfold fold; split <;> omega
/-- the code's step: what is carried is added again -/
theorem fold_wrap (c x r : Int) (h0 : 0 ≤ c) (h2 : 0 ≤ x) (h4 : 65536 ≤ c + x) (hr : 0 ≤ r) :
    fold (c + x - 65535 + r) = fold (c + (x + r)) := by
  unfold fold; rw [if_neg (by omega), if_neg (by omega)]; omega
/-- the paper's step -/
theorem fold_turn (n : Int) (h : 65535 < n) : fold (n / 65536 + n % 65536) = fold n := by
  unfold fold; rw [if_neg (by omega), if_neg (by omega)]; omega
theorem wsum_nonneg : ∀ l : List UInt8, 0 ≤ wsum l
  | [] => by simp [wsum]
  | [a] => by simp [wsum]; omega
  | a :: b :: r => by have := wsum_nonneg r; simp only [wsum]; omega
theorem wsum_le : ∀ l : List UInt8, wsum l ≤ 65535 * l.length
  | [] => by simp [wsum]
  | [a] => by have := a.toNat_lt; simp [wsum]; omega
  | a :: b :: r => by
    have := wsum_le r; have ha := a.toNat_lt; have hb := b.toNat_lt
    simp only [wsum, List.length_cons]; omega
theorem drop_two (l : List UInt8) (k : Nat) (h : k + 1 < l.length) : l.drop k = l[k] :: l[k + 1] :: l.drop (k + 2) := by
  rw [List.drop_eq_getElem_cons (by omega), List.drop_eq_getElem_cons (by omega : k + 1 < l.length)]
theorem drop_one (l : List UInt8) (k : Nat) (h : k + 1 = l.length) : l.drop k = [l[k]] := by
  rw [List.drop_eq_getElem_cons (by omega), List.drop_eq_nil_of_le (by omega)]
theorem wsum_two (l : List UInt8) (k : Nat) (h : k + 1 < l.length) :
    wsum (l.drop k) = 256 * (l[k].toNat : Int) + (l[k + 1].toNat : Int) + wsum (l.drop (k + 2)) := by
  rw [drop_two l k h, wsum]
theorem wsum_one (l : List UInt8) (k : Nat) (h : k + 1 = l.length) :
    wsum (l.drop k) = 256 * (l[k].toNat : Int) := by
  rw [drop_one l k h, wsum]
theorem wsum_zero (l : List UInt8) (k : Nat) (h : l.length ≤ k) : wsum (l.drop k) = 0 := by
  rw [List.drop_eq_nil_of_le h, wsum]
/-- a byte 0 behind an odd number of bytes -/
theorem wsum_pad : ∀ l : List UInt8, l.length % 2 = 1 → wsum (l ++ [0]) = wsum l
  | [], h => by simp at h
  | [a], _ => by simp [wsum]
  | a :: b :: r, h => by
    have := wsum_pad r (by simp at h; omega)
    simp only [List.cons_append, wsum]; omega
theorem hide {p : Prop} (h : p) : Hid p := h
theorem unhide {p : Prop} (h : Hid p) : p := h
theorem ret_int {k : IntKind} {a b : Int} (h : a = b) : Ending.returned (.int k a) = .returned (.int k b) := by rw [h]
theorem val_int {k : IntKind} {a b : Int} (h : a = b) : Value.int k a = .int k b := by rw [h]
/-- two bytes as a word, as the code joins them -/
theorem u16_word (a b : Nat) (ha : a < 256) (hb : b < 256) :
    bits .or .u16 ((a : Int) * 256) (b : Int) = 256 * (a : Int) + (b : Int) := by
  have e1 : (a : Int) * 256 = ((256 * a : Nat) : Int) := by omega
  rw [e1, u16_or_nat _ _ (by omega) (by omega), nat_join 8 _ _ (by omega) (by omega)]
  omega
theorem nat_not16 (a : Nat) (h : a < 65536) : 65535 ^^^ a = 65535 - a := by
  have e := congrArg BitVec.toNat (BitVec.xor_allOnes (x := BitVec.ofNat 16 a))
  rw [BitVec.toNat_xor, BitVec.toNat_not, BitVec.toNat_ofNat, BitVec.toNat_allOnes] at e
  rw [Nat.mod_eq_of_lt (by omega : a < 2 ^ 16)] at e
  rw [Nat.xor_comm]
  simpa using e
theorem u16_not (c : Int) (h0 : 0 ≤ c) (h1 : c ≤ 65535) : bits .xor .u16 IntKind.u16.max c = 65535 - c := by
  have e : IntKind.u16.max = 65535 := by decide
  rw [e, u16_xor 65535 c (by omega) (by omega) h0 (by omega)]
  rw [show (65535 : Int).toNat = 65535 from rfl, nat_not16 c.toNat (by omega)]
  omega
/-- the code's sum behind one word -/
theorem step_lt (c x : Int) (h0 : 0 ≤ c) (h1 : c ≤ 65535) (h2 : 0 ≤ x) (h3 : x ≤ 65535) (h : IntKind.u16.wrap (c + x) < x) :
    65536 ≤ c + x ∧ IntKind.u16.wrap (IntKind.u16.wrap (c + x) + 1) = c + x - 65535 := by
  simp only [IntKind.wrap_u16] at *; omega
theorem step_ge (c x : Int) (h0 : 0 ≤ c) (h1 : c ≤ 65535) (h2 : 0 ≤ x) (h3 : x ≤ 65535) (h : x ≤ IntKind.u16.wrap (c + x)) :
    c + x ≤ 65535 ∧ IntKind.u16.wrap (c + x) = c + x := by
  simp only [IntKind.wrap_u16] at *; omega
end Go.Proofs.YtonlmklkikbeiaaGreatDoor.Chk

namespace Go.Proofs.YtonlmklkikbeiaaGreatDoor.Chk
set_option linter.unusedVariables false
open Go.ChangeShapes Go.WideShapes Go.ChangeAt Go.RowKit

/-- the round's two ends, over the word x that was read there -/
theorem end_lt (c x r t : Int) (h0 : 0 ≤ c) (h1 : c ≤ 65535) (h2 : 0 ≤ x) (h3 : x ≤ 65535) (hr : 0 ≤ r) (h : IntKind.u16.wrap (c + x) < x) (hf : fold (c + (x + r)) = t) :
    0 ≤ IntKind.u16.wrap (IntKind.u16.wrap (c + x) + 1) ∧ IntKind.u16.wrap (IntKind.u16.wrap (c + x) + 1) ≤ 65535 ∧ fold (IntKind.u16.wrap (IntKind.u16.wrap (c + x) + 1) + r) = t := by
  obtain ⟨a, b⟩ := step_lt c x h0 h1 h2 h3 h
  rw [b]
  exact ⟨by omega, by omega, by rw [fold_wrap c x r h0 h2 a hr]; exact hf⟩
theorem end_ge (c x r t : Int) (h0 : 0 ≤ c) (h1 : c ≤ 65535) (h2 : 0 ≤ x) (h3 : x ≤ 65535) (h : x ≤ IntKind.u16.wrap (c + x)) (hf : fold (c + (x + r)) = t) :
    0 ≤ IntKind.u16.wrap (c + x) ∧ IntKind.u16.wrap (c + x) ≤ 65535 ∧ fold (IntKind.u16.wrap (c + x) + r) = t := by
  obtain ⟨a, b⟩ := step_ge c x h0 h1 h2 h3 h
  rw [b]
  exact ⟨by omega, by omega, by rw [Int.add_assoc]; exact hf⟩

set_option maxHeartbeats 400000 in
theorem wire_check (s : ByteArray) (w : World) (hs : s.size ≤ 1099511627776) :
    Calls Tryz.prog 84 #[.string s] w fun e w' => e = .returned (.int .u16 (65535 - fold (wsum s.data.toList))) ∧ w' = w := by
  have hlen : Hid (s.data.toList.length = s.size) := hide (by rw [Array.length_toList]; rfl)
  go_enter Tryz.func84, Tryz.ntmps84
  go_wp2
  go_loop [3, 4] (fun n i => ∃ (k : Nat) (c : Int), k ≤ s.size + 1 ∧ 0 ≤ c ∧ c ≤ 65535 ∧ i = .int .i64 k ∧ n = .int .u16 c ∧ Hid (fold (c + wsum (s.data.toList.drop k)) = fold (wsum s.data.toList))) (fun _ i => s.size + 1 - (intOf i).toNat)
  case atStart => exact ⟨0, 0, Nat.zero_le _, by omega, by omega, rfl, rfl, hide (by simp)⟩
  case round =>
    obtain ⟨k, c, hk, hc0, hc1, rfl, rfl, HF⟩ := hrel
    by_cases hlt : k < s.size
    · by_cases hlt1 : k + 1 < s.size
      · have ha : s[k].toNat < 256 := s[k].toNat_lt
        have hb : s[k + 1].toNat < 256 := s[k + 1].toNat_lt
        have HW := hide (u16_word s[k].toNat s[k + 1].toNat ha hb)
        have hr := wsum_nonneg (s.data.toList.drop (k + 2))
        have HT : Hid (fold (c + (256 * (s[k].toNat : Int) + (s[k + 1].toNat : Int) + wsum (s.data.toList.drop (k + 2)))) = fold (wsum s.data.toList)) := by
          have e := wsum_two s.data.toList k (by rw [unhide hlen]; exact hlt1)
          rw [← unhide HF, e]; rfl
        go_wp2
        · rename_i hcmp
          rw [unhide HW] at hcmp
          obtain ⟨e1, e2, e3⟩ := end_lt c _ _ _ hc0 hc1 (by omega) (by omega) hr hcmp (unhide HT)
          go_round
          case rel => rw [unhide HW]; exact ⟨k + 2, _, by omega, e1, e2, by go_num, rfl, hide e3⟩
          case measure => simp [intOf]; omega
        · rename_i hcmp
          rw [unhide HW] at hcmp
          obtain ⟨e1, e2, e3⟩ := end_ge c _ _ _ hc0 hc1 (by omega) (by omega) hcmp (unhide HT)
          go_round
          case rel => rw [unhide HW]; exact ⟨k + 2, _, by omega, e1, e2, by go_num, rfl, hide e3⟩
          case measure => simp [intOf]; omega
      · have ha : s[k].toNat < 256 := s[k].toNat_lt
        have HT : Hid (fold (c + ((s[k].toNat : Int) * 256 + 0)) = fold (wsum s.data.toList)) := by
          have e := wsum_one s.data.toList k (by rw [unhide hlen]; omega)
          rw [← unhide HF, e]; show fold _ = fold _; congr 1; show _ = c + 256 * (s[k].toNat : Int); omega
        have HZ := hide (wsum_zero s.data.toList (k + 2) (by rw [unhide hlen]; omega))
        go_wp2
        · rename_i hcmp
          obtain ⟨e1, e2, e3⟩ := end_lt c _ _ _ hc0 hc1 (by omega) (by omega) (by omega) hcmp (unhide HT)
          go_round
          case rel => exact ⟨k + 2, _, by omega, e1, e2, by go_num, rfl, hide (by rw [unhide HZ]; exact e3)⟩
          case measure => simp [intOf]; omega
        · rename_i hcmp
          obtain ⟨e1, e2, e3⟩ := end_ge c _ _ _ hc0 hc1 (by omega) (by omega) hcmp (unhide HT)
          go_round
          case rel => exact ⟨k + 2, _, by omega, e1, e2, by go_num, rfl, hide (by rw [unhide HZ]; exact e3)⟩
          case measure => simp [intOf]; omega
    · go_wp2
      go_ret
      refine ⟨ret_int ?_, rfl⟩
      rw [u16_not c hc0 hc1, ← unhide HF, wsum_zero _ _ (by rw [unhide hlen]; omega), fold_small _ (by omega) (by omega)]
      omega
end Go.Proofs.YtonlmklkikbeiaaGreatDoor.Chk

namespace Go.Proofs.YtonlmklkikbeiaaGreatDoor.Chk
open Go.ChangeShapes Go.WideShapes Go.ChangeAt Go.RowKit
set_option linter.unusedVariables false

theorem pad_size (s : ByteArray) : (s ++ ({ data := #[0] } : ByteArray)).size = s.size + 1 := by
  rw [ByteArray.size_append]; rfl
theorem wrap_i64 (n : Int) (h0 : 0 ≤ n) (h1 : n ≤ 9223372036854775807) : IntKind.i64.wrap n = n := by
  simp [IntKind.wrap, IntKind.bits, IntKind.signed]; omega
theorem pad_list (s : ByteArray) : (s ++ ({ data := #[0] } : ByteArray)).data.toList = s.data.toList ++ [0] := by
  rw [ByteArray.data_append, Array.toList_append]

end Go.Proofs.YtonlmklkikbeiaaGreatDoor.Chk

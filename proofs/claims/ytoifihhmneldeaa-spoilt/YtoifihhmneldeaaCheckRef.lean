import Derived.Test.YtoifihhmneldeaaCheckWalks
namespace Go.Proofs.Ytoifihhmneldeaa.Chk
open Go.ChangeShapes Go.WideShapes Go.ChangeAt Go.RowKit
set_option linter.unusedVariables false

theorem pad_size (s : ByteArray) : (s ++ ({ data := #[0] } : ByteArray)).size = s.size + 1 := by
  rw [ByteArray.size_append]; rfl
theorem wrap_i64 (n : Int) (h0 : 0 ≤ n) (h1 : n ≤ 9223372036854775807) : IntKind.i64.wrap n = n := by
  simp [IntKind.wrap, IntKind.bits, IntKind.signed]; omega
theorem pad_list (s : ByteArray) : (s ++ ({ data := #[0] } : ByteArray)).data.toList = s.data.toList ++ [0] := by
  rw [ByteArray.data_append, Array.toList_append]

set_option maxHeartbeats 1000000 in
theorem ref_check (s : ByteArray) (w : World) (hs : s.size ≤ 1099511627776) :
    Calls Try.prog 6 #[.string s] w fun e w' => e = .returned (.int .i64 (65535 - fold (wsum s.data.toList))) ∧ ∃ n, w' = w.drewN n := by
  have hlen : s.data.toList.length = s.size := by rw [Array.length_toList]; rfl
  obtain ⟨S, hS⟩ : ∃ S, wsum s.data.toList = S := ⟨_, rfl⟩
  rw [hS]
  by_cases hodd : s.size % 2 = 1
  · have hts := pad_size s
    have htl := pad_list s
    have htw : wsum (s ++ ({ data := #[0] } : ByteArray)).data.toList = S := by
      rw [htl, wsum_pad _ (by rw [hlen]; exact hodd), hS]
    have ho : ((s.size : Int) % 2 == 1) = true := by simp; omega
    have hev : (s ++ ({ data := #[0] } : ByteArray)).size % 2 = 0 := by omega
    have hsz : (s ++ ({ data := #[0] } : ByteArray)).size ≤ 1099511627777 := by omega
    have HW := hide htw
    clear htw htl hlen hS hts
    go_enter Try.func6, Try.ntmps6
    go_wp2
    generalize (s ++ ({ data := #[0] } : ByteArray)) = t at *
    have hlen : Hid (t.data.toList.length = t.size) := hide (by rw [Array.length_toList]; rfl)
    go_loopw [3, 4] (fun n i wr => ∃ (q k : Nat) (c : Int), k ≤ t.size ∧ k % 2 = 0 ∧ 0 ≤ c ∧ c ≤ 65535 * k ∧ i = .int .i64 k ∧ n = .int .i64 c ∧ wr = w.drewN q ∧ Hid (c + wsum (t.data.toList.drop k) = S)) (fun _ i _ => t.size - (intOf i).toNat)
    case atStart => exact ⟨0, 0, 0, Nat.zero_le _, rfl, by omega, by omega, rfl, rfl, rfl, hide (by simpa using unhide HW)⟩
    case round =>
      obtain ⟨q, k, c, hk, hk2, hc0, hc1, rfl, rfl, rfl, HF⟩ := hrel
      by_cases hlt : k < t.size
      · have ha : t[k].toNat < 256 := t[k].toNat_lt
        have hb : t[k + 1].toNat < 256 := t[k + 1].toNat_lt
        have hlt1 : (k : Int) + 1 < (t.size : Int) := by omega
        have HT : Hid (c + (256 * (t[k].toNat : Int) + (t[k + 1].toNat : Int)) + wsum (t.data.toList.drop (k + 2)) = S) := by
          have e := wsum_two t.data.toList k (by rw [unhide hlen]; omega)
          have e2 : c + wsum (t.data.toList.drop k) = S := unhide HF
          rw [e] at e2
          rw [Int.add_assoc]
          exact e2
        have q0 : 0 ≤ (k : Int) + 1 := by omega
        have q1 : IntKind.i64.wrap ((k : Int) + 1) = (k : Int) + 1 := wrap_i64 _ (by omega) (by omega)
        have q2 : IntKind.i64.wrap (t[k].toNat : Int) = (t[k].toNat : Int) := wrap_i64 _ (by omega) (by omega)
        have q3 : IntKind.i64.wrap (256 * (t[k].toNat : Int)) = 256 * (t[k].toNat : Int) := wrap_i64 _ (by omega) (by omega)
        have q4 : IntKind.i64.wrap (t[k + 1].toNat : Int) = (t[k + 1].toNat : Int) := wrap_i64 _ (by omega) (by omega)
        have q5 : IntKind.i64.wrap (256 * (t[k].toNat : Int) + (t[k + 1].toNat : Int)) = 256 * (t[k].toNat : Int) + (t[k + 1].toNat : Int) := wrap_i64 _ (by omega) (by omega)
        have q6 : IntKind.i64.wrap (c + (256 * (t[k].toNat : Int) + (t[k + 1].toNat : Int))) = c + (256 * (t[k].toNat : Int) + (t[k + 1].toNat : Int)) := wrap_i64 _ (by omega) (by omega)
        go_wp2
        go_quiet (fail)
        clear q1 q2 q3 q4 q5 q6
        go_wp2
        refine ⟨⟨q + nq, k + 2, _, by omega, by omega, ?_, ?_, by go_num, rfl, rfl, HT⟩, by simp [intOf]; omega⟩
        · omega
        · omega
      · have HF' : Hid (fold c = fold S) := by
          have e : c + wsum (t.data.toList.drop k) = S := unhide HF
          rw [wsum_zero _ _ (by rw [unhide hlen]; omega)] at e
          exact congrArg fold (by omega)
        have hc2 : c ≤ 72057594038000000 := by omega
        clear HF hc1 hlen HW
        go_wp2
        go_loop [3] (fun n => ∃ (c : Int), 0 ≤ c ∧ c ≤ 72057594038000000 ∧ n = .int .i64 c ∧ Hid (fold c = fold S)) (fun n => (intOf n).toNat)
        case atStart => exact ⟨c, hc0, by omega, rfl, HF'⟩
        case round =>
          clear HF'
          obtain ⟨n, hn0, hn1, rfl, HN⟩ := hrel
          by_cases hgt : 65535 < n
          · have HT := hide (fold_turn n hgt)
            go_wp2
            go_round
            case rel => exact ⟨_, by omega, by omega, rfl, hide ((unhide HT).trans (unhide HN))⟩
            case measure => simp [intOf]; omega
          · go_wp2
            go_ret
            refine ⟨ret_int ?_, q, rfl⟩
            rw [← unhide HN, fold_small n hn0 (by omega)]
  · have ho : ((s.size : Int) % 2 == 1) = false := by simp; omega
    have hev : s.size % 2 = 0 := by omega
    have hsz : s.size ≤ 1099511627777 := by omega
    have HW := hide hS
    clear hlen hS
    go_enter Try.func6, Try.ntmps6
    go_wp2
    rename ByteArray => t
    have hlen : Hid (t.data.toList.length = t.size) := hide (by rw [Array.length_toList]; rfl)
    go_loopw [3, 4] (fun n i wr => ∃ (q k : Nat) (c : Int), k ≤ t.size ∧ k % 2 = 0 ∧ 0 ≤ c ∧ c ≤ 65535 * k ∧ i = .int .i64 k ∧ n = .int .i64 c ∧ wr = w.drewN q ∧ Hid (c + wsum (t.data.toList.drop k) = S)) (fun _ i _ => t.size - (intOf i).toNat)
    case atStart => exact ⟨0, 0, 0, Nat.zero_le _, rfl, by omega, by omega, rfl, rfl, rfl, hide (by simpa using unhide HW)⟩
    case round =>
      obtain ⟨q, k, c, hk, hk2, hc0, hc1, rfl, rfl, rfl, HF⟩ := hrel
      by_cases hlt : k < t.size
      · have ha : t[k].toNat < 256 := t[k].toNat_lt
        have hb : t[k + 1].toNat < 256 := t[k + 1].toNat_lt
        have hlt1 : (k : Int) + 1 < (t.size : Int) := by omega
        have HT : Hid (c + (256 * (t[k].toNat : Int) + (t[k + 1].toNat : Int)) + wsum (t.data.toList.drop (k + 2)) = S) := by
          have e := wsum_two t.data.toList k (by rw [unhide hlen]; omega)
          have e2 : c + wsum (t.data.toList.drop k) = S := unhide HF
          rw [e] at e2
          rw [Int.add_assoc]
          exact e2
        have q0 : 0 ≤ (k : Int) + 1 := by omega
        have q1 : IntKind.i64.wrap ((k : Int) + 1) = (k : Int) + 1 := wrap_i64 _ (by omega) (by omega)
        have q2 : IntKind.i64.wrap (t[k].toNat : Int) = (t[k].toNat : Int) := wrap_i64 _ (by omega) (by omega)
        have q3 : IntKind.i64.wrap (256 * (t[k].toNat : Int)) = 256 * (t[k].toNat : Int) := wrap_i64 _ (by omega) (by omega)
        have q4 : IntKind.i64.wrap (t[k + 1].toNat : Int) = (t[k + 1].toNat : Int) := wrap_i64 _ (by omega) (by omega)
        have q5 : IntKind.i64.wrap (256 * (t[k].toNat : Int) + (t[k + 1].toNat : Int)) = 256 * (t[k].toNat : Int) + (t[k + 1].toNat : Int) := wrap_i64 _ (by omega) (by omega)
        have q6 : IntKind.i64.wrap (c + (256 * (t[k].toNat : Int) + (t[k + 1].toNat : Int))) = c + (256 * (t[k].toNat : Int) + (t[k + 1].toNat : Int)) := wrap_i64 _ (by omega) (by omega)
        go_wp2
        go_quiet (fail)
        clear q1 q2 q3 q4 q5 q6
        go_wp2
        refine ⟨⟨q + nq, k + 2, _, by omega, by omega, ?_, ?_, by go_num, rfl, rfl, HT⟩, by simp [intOf]; omega⟩
        · omega
        · omega
      · have HF' : Hid (fold c = fold S) := by
          have e : c + wsum (t.data.toList.drop k) = S := unhide HF
          rw [wsum_zero _ _ (by rw [unhide hlen]; omega)] at e
          exact congrArg fold (by omega)
        have hc2 : c ≤ 72057594038000000 := by omega
        clear HF hc1 hlen HW
        go_wp2
        go_loop [3] (fun n => ∃ (c : Int), 0 ≤ c ∧ c ≤ 72057594038000000 ∧ n = .int .i64 c ∧ Hid (fold c = fold S)) (fun n => (intOf n).toNat)
        case atStart => exact ⟨c, hc0, by omega, rfl, HF'⟩
        case round =>
          clear HF'
          obtain ⟨n, hn0, hn1, rfl, HN⟩ := hrel
          by_cases hgt : 65535 < n
          · have HT := hide (fold_turn n hgt)
            go_wp2
            go_round
            case rel => exact ⟨_, by omega, by omega, rfl, hide ((unhide HT).trans (unhide HN))⟩
            case measure => simp [intOf]; omega
          · go_wp2
            go_ret
            refine ⟨ret_int ?_, q, rfl⟩
            rw [← unhide HN, fold_small n hn0 (by omega)]

set_option maxHeartbeats 400000 in
theorem boot_check (s : ByteArray) (w : World) (hs : s.size ≤ 1099511627776) :
    Calls Try.prog 5 #[.string s] w fun e w' => e = .returned (.int .u16 (65535 - fold (wsum s.data.toList))) ∧ w' = w := by
  go_enter Try.func5, Try.ntmps5
  go_wp2_with fail
  refine (wire_check _ _ hs).mono ?_
  rintro e w' ⟨rfl, rfl⟩
  go_wp2
  go_ret
  exact ⟨rfl, rfl⟩
end Go.Proofs.Ytoifihhmneldeaa.Chk

import Derived.Test.YtadkcdcdgphhpaaTFMay
namespace Go.Proofs.Ytadkcdcdgphhpaa.Tf
open Go.ChangeShapes Go.WideShapes Go.ChangeAt Go.RowKit Bs
set_option linter.unusedVariables false
set_option linter.unusedSimpArgs false

set_option maxHeartbeats 1000000 in
theorem word_any (s : ByteArray) (l : List UInt8) (w : World) (hsl : s.data.toList = l) (hl : l.length ≤ 9223372036854775806) :
    Calls Try.prog 66 #[.string s] w fun e w' => e = .returned (.bool (nameB l)) ∧ w = w' := by
  have hz : s.size = l.length := by rw [← hsl, Array.length_toList]; rfl
  have HIX := hide (fun k hk u => idx_get s l hsl k hk u)
  clear hsl
  go_enter Try.func66, Try.ntmps66
  go_wp2
  go_loop [3] (fun i => ∃ k : Nat, k ≤ l.length ∧ i = .int .i64 k ∧ Hid ((l.take k).all okC = true)) (fun i => l.length - (intOf i).toNat)
  case atStart => exact ⟨0, Nat.zero_le _, rfl, hide rfl⟩
  case round =>
    obtain ⟨k, hk, rfl, HA⟩ := hrel
    by_cases hlt : k < l.length
    · have x0 := unhide HIX k hlt
      have hlt' : (k : Int) < (l.length : Int) := by omega
      have l0 := (l.getD k 0).toNat_lt
      have hcd : okC (l.getD k 0) = decide (33 ≤ (l.getD k 0).toNat ∧ (l.getD k 0).toNat ≤ 126) := rfl
      have HBAD := hide (fun h => all_bad (l := l) hlt h)
      have HOK := hide (fun h => all_take (l := l) hlt (unhide HA) h)
      obtain ⟨c, hc⟩ : ∃ c, c = l.getD k 0 := ⟨_, rfl⟩
      rw [← hc] at x0 l0 hcd HBAD HOK
      obtain ⟨y, hy⟩ : ∃ y : Nat, y = c.toNat := ⟨_, rfl⟩
      rw [← hy] at x0 l0 hcd
      have HC := hide hcd
      clear hc hcd
      by_cases h33 : y < 33
      · have g0 : (y : Int) < 33 := by omega
        have HN : Hid (nameB l = false) := hide (unhide HBAD (by rw [unhide HC, decide_eq_false_iff_not]; omega))
        clear HBAD HOK hy
        go_wp2
        go_ret
        exact ⟨by rw [unhide HN]; rfl, rfl⟩
      · have g0 : ¬ (y : Int) < 33 := by omega
        by_cases h126 : 126 < y
        · have g1 : (126 : Int) < (y : Int) := by omega
          have HN : Hid (nameB l = false) := hide (unhide HBAD (by rw [unhide HC, decide_eq_false_iff_not]; omega))
          clear HBAD HOK hy
          go_wp2
          go_ret
          exact ⟨by rw [unhide HN]; rfl, rfl⟩
        · have g1 : ¬ (126 : Int) < (y : Int) := by omega
          have HN : Hid ((l.take (k + 1)).all okC = true) := hide (unhide HOK (by rw [unhide HC, decide_eq_true_eq]; omega))
          clear HBAD HOK hy
          go_wp2
          go_round
          case rel => exact ⟨k + 1, by omega, by go_num, HN⟩
          case measure => simp [intOf]; omega
    · have hlt' : ¬ (k : Int) < (l.length : Int) := by omega
      have HN : Hid (nameB l = decide (0 < l.length)) := hide (by
        have q := unhide HA
        rw [List.take_of_length_le (by omega)] at q
        unfold nameB; rw [q, Bool.and_true]
        cases l with
        | nil => rfl
        | cons a r => simp)
      go_wp2
      go_ret
      exact ⟨by rw [unhide HN]; rfl, rfl⟩

theorem add_str (a b : List UInt8) : (⟨a.toArray⟩ : ByteArray) ++ (⟨b.toArray⟩ : ByteArray) = ⟨(a ++ b).toArray⟩ := by
  apply ByteArray.ext
  simp [ByteArray.data_append]
theorem byte_str (w : World) (x : UInt8) (y : Int) (h : ((x.toNat : Nat) : Int) = y) : (convert 80 9 (.slice (some ⟨w.heap.size, 0, none⟩) 1 1)).run Try.prog (w.alloc (.cells #[.int .u8 y] 5)) = .ok (.string ⟨#[x]⟩) (w.alloc (.cells #[.int .u8 y] 5)) := by
  subst h
  have q := run_convert_bytes_back (P := Try.prog) (w.alloc (.cells #[.int .u8 x.toNat] 5)) 80 9 5 ⟨w.heap.size, 0, none⟩ 1 [x] Try.underlying80 Try.underlying5 Try.underlying9 (fun j hj => Bs.cell_new w [.int .u8 x.toNat] 5 j _ (by
    match j, hj with
    | 0, _ => rfl))
  exact q
theorem lowL_take (l : List UInt8) (k : Nat) (h : k < l.length) : lowL (l.take (k + 1)) = lowL (l.take k) ++ [lowC (l.getD k 0)] := by
  rw [List.take_succ_eq_append_getElem h, List.getD_eq_getElem?_getD, List.getElem?_eq_getElem h, lowL, lowL, List.map_append]
  rfl

set_option maxHeartbeats 1000000 in
theorem low_any (s : ByteArray) (l : List UInt8) (w : World) (hsl : s.data.toList = l) (hl : l.length ≤ 1099511627776) :
    Calls Try.prog 67 #[.string s] w fun e w' => e = .returned (.string ⟨(lowL l).toArray⟩) ∧ Below w.heap.size w w' := by
  have hz : s.size = l.length := by rw [← hsl, Array.length_toList]; rfl
  have HIX := hide (fun k hk u => idx_get s l hsl k hk u)
  clear hsl
  go_enter Try.func67, Try.ntmps67
  go_wp2
  go_loopw [3, 4] (fun v3 i wr => ∃ k : Nat, k ≤ l.length ∧ i = .int .i64 k ∧ v3 = .string ⟨(lowL (l.take k)).toArray⟩ ∧ Hid (Below w.heap.size w wr)) (fun _ i _ => l.length - (intOf i).toNat)
  case atStart => exact ⟨0, Nat.zero_le _, rfl, by simp [lowL], hide (Below.refl _ _)⟩
  case round =>
    obtain ⟨k, hk, rfl, rfl, HW⟩ := hrel
    rename World => wr
    have hwz := (unhide HW).size
    obtain ⟨sk, hsk⟩ : ∃ s : ByteArray, s = ⟨(lowL (l.take k)).toArray⟩ := ⟨_, rfl⟩
    have hskz : sk.size ≤ l.length := by rw [hsk, str_size, lowL_length, List.length_take]; omega
    rw [← hsk]
    have HSK := hide hsk
    by_cases hlt : k < l.length
    · have x0 := unhide HIX k hlt
      have hlt' : (k : Int) < (l.length : Int) := by omega
      have HT := hide (lowL_take l k hlt)
      have hlc := lowC_nat (l.getD k 0)
      obtain ⟨c, hc⟩ : ∃ c, c = l.getD k 0 := ⟨_, rfl⟩
      rw [← hc] at x0 HT hlc
      have l0 := c.toNat_lt
      obtain ⟨y, hy⟩ : ∃ y : Nat, y = c.toNat := ⟨_, rfl⟩
      rw [← hy] at x0 l0 hlc
      obtain ⟨x, hx⟩ : ∃ x, x = lowC c := ⟨_, rfl⟩
      rw [← hx] at HT hlc
      have hlim : ¬ 9223372036854775807 < sk.size + 1 := by omega
      have HLC := hide hlc
      clear hc hlc hx hsk hy
      by_cases hup : 65 ≤ y ∧ y ≤ 90
      · obtain ⟨g0, g1⟩ := hup
        have g0' : (65 : Int) ≤ (y : Int) := by omega
        have g1' : (y : Int) ≤ 90 := by omega
        have q1 : IntKind.u8.wrap ((y : Int) + 32) = (y : Int) + 32 := by rw [IntKind.wrap_u8]; omega
        have hcv := byte_str wr x ((y : Int) + 32) (by rw [unhide HLC, if_pos ⟨g0, g1⟩]; omega)
        go_wp2
        go_roundw
        case rel => exact ⟨k + 1, by omega, by go_num, by rw [unhide HSK, show (⟨#[x]⟩ : ByteArray) = ⟨[x].toArray⟩ from rfl, add_str, unhide HT], hide ((unhide HW).alloc hwz _)⟩
        case measure => simp [intOf]; omega
      · have hcv := byte_str wr x (y : Int) (by rw [unhide HLC, if_neg hup])
        by_cases g0 : 65 ≤ y
        · have g0' : (65 : Int) ≤ (y : Int) := by omega
          have g1' : ¬ (y : Int) ≤ 90 := by omega
          clear hup
          go_wp2
          go_roundw
          case rel => exact ⟨k + 1, by omega, by go_num, by rw [unhide HSK, show (⟨#[x]⟩ : ByteArray) = ⟨[x].toArray⟩ from rfl, add_str, unhide HT], hide ((unhide HW).alloc hwz _)⟩
          case measure => simp [intOf]; omega
        · have g0' : ¬ (65 : Int) ≤ (y : Int) := by omega
          clear hup
          go_wp2
          go_roundw
          case rel => exact ⟨k + 1, by omega, by go_num, by rw [unhide HSK, show (⟨#[x]⟩ : ByteArray) = ⟨[x].toArray⟩ from rfl, add_str, unhide HT], hide ((unhide HW).alloc hwz _)⟩
          case measure => simp [intOf]; omega
    · have hlt' : ¬ (k : Int) < (l.length : Int) := by omega
      have HF : Hid (sk = ⟨(lowL l).toArray⟩) := hide (by rw [hsk, List.take_of_length_le (by omega)])
      clear hsk
      go_wp2
      go_ret
      exact ⟨by rw [unhide HF]; rfl, unhide HW⟩

theorem AtF.take {w : World} {a : Option Addr} {fs : Flds} (h : AtF w a fs) (k : Nat) : AtF w a (fs.take k) := fun i hi => by
  have hi' : i < fs.length := by rw [List.length_take] at hi; omega
  obtain ⟨ad, e, h0, h1⟩ := h i hi'
  refine ⟨ad, e, ?_, ?_⟩
  · rw [List.getElem_take]; exact h0
  · rw [List.getElem_take]; exact h1
theorem namedB_take {fs : Flds} {n : List UInt8} {k : Nat} (h : k < fs.length) (h0 : namedB (fs.take k) n = false) (h1 : (fs[k].1 == n) = false) : namedB (fs.take (k + 1)) n = false := by
  unfold namedB at *
  rw [List.take_succ_eq_append_getElem h, List.any_append, h0]
  simpa using h1
theorem namedB_hit {fs : Flds} {n : List UInt8} {k : Nat} (h : k < fs.length) (h1 : (fs[k].1 == n) = true) : namedB fs n = true := by
  unfold namedB
  rw [List.any_eq_true]
  exact ⟨fs[k], List.getElem_mem h, h1⟩

set_option maxHeartbeats 1000000 in
theorem named_any (a : Option Addr) (cap : Nat) (fs : Flds) (s : ByteArray) (n : List UInt8) (w : World) (hs : s.data.toList = n) (hA : AtF w a fs) (hl : fs.length ≤ 268435456) :
    Calls Try.prog 70 #[.slice a fs.length cap, .string s] w fun e w' => e = .returned (.bool (namedB fs n)) ∧ Below w.heap.size w w' := by
  have HA := hide hA
  have HSN := hide hs
  clear hA hs
  go_enter Try.func70, Try.ntmps70
  go_wp2
  go_loopw [9] (fun i wr => ∃ k : Nat, k ≤ fs.length ∧ i = .int .i64 k ∧ Hid (namedB (fs.take k) n = false) ∧ Hid (Below w.heap.size w wr)) (fun i _ => fs.length - (intOf i).toNat)
  case atStart => exact ⟨0, Nat.zero_le _, rfl, hide rfl, hide (Below.refl _ _)⟩
  case round =>
    obtain ⟨k, hk, rfl, HN, HW⟩ := hrel
    rename World => wr
    have hwz := (unhide HW).size
    by_cases hlt : k < fs.length
    · obtain ⟨ad, rfl, c0, c1⟩ := (unhide HA).below (unhide HW) (Nat.le_refl _) k hlt
      have hlt' : (k : Int) < (fs.length : Int) := by omega
      have HT := hide (fun h => namedB_take (n := n) hlt (unhide HN) h)
      have HH := hide (fun h => namedB_hit (n := n) hlt h)
      obtain ⟨x, v, hxv⟩ : ∃ x v, fs[k] = (x, v) := ⟨_, _, rfl⟩
      rw [hxv] at c0 c1 HT HH
      have heq : ((⟨x.toArray⟩ : ByteArray).toList == s.toList) = (x == n) := by
        rw [ByteArray.toList_eq, ByteArray.toList_eq, unhide HSN]
      obtain ⟨xs, hxs⟩ : ∃ xs : ByteArray, xs = ⟨x.toArray⟩ := ⟨_, rfl⟩
      rw [← hxs] at c0 heq
      clear hxv hxs
      by_cases e : (x == n) = true
      · rw [e] at heq
        have HF : Hid (namedB fs n = true) := hide (unhide HH e)
        clear HT HH e
        go_wp2
        go_ret
        exact ⟨by rw [unhide HF]; rfl, (unhide HW).alloc hwz _⟩
      · have e' : (x == n) = false := by simpa using e
        rw [e'] at heq
        have HF : Hid (namedB (fs.take (k + 1)) n = false) := hide (unhide HT e')
        clear HT HH e e'
        go_wp2
        go_roundw
        case rel => exact ⟨k + 1, by omega, by go_num, HF, hide ((unhide HW).alloc hwz _)⟩
        case measure => simp [intOf]; omega
    · have hlt' : ¬ (k : Int) < (fs.length : Int) := by omega
      have HF : Hid (namedB fs n = false) := hide (by have q := unhide HN; rwa [List.take_of_length_le (by omega)] at q)
      go_wp2
      go_ret
      exact ⟨by rw [unhide HF]; rfl, unhide HW⟩
end Go.Proofs.Ytadkcdcdgphhpaa.Tf

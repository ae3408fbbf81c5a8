import Derived.Test.YtbhbbeebncmaiaaGreatDoorMgZ05
import Derived.Test.YtbhbbeebncmaiaaGreatDoorMgZ19
import Derived.Test.YtbhbbeebncmaiaaGreatDoorMgZ18
import Derived.Test.YtbhbbeebncmaiaaGreatDoorMgZ38
namespace Go.Proofs.YtbhbbeebncmaiaaGreatDoor.Tf
open Go.ChangeShapes Go.WideShapes Go.ChangeAt Go.RowKit Bs
set_option linter.unusedVariables false
set_option linter.unusedSimpArgs false
theorem str_size (l : List UInt8) : (⟨l.toArray⟩ : ByteArray).size = l.length := by show l.toArray.size = _; simp
theorem idx_get (s : ByteArray) (l : List UInt8) (hsl : s.data.toList = l) (k : Nat) (hk : k < l.length) (u : World) : (Instr.index 9 (.string s) (.int .i64 (k : Int))).run Tryz.prog u = .ok (.int .u8 (l.getD k 0).toNat) u := by
  have hz : s.size = l.length := by rw [← hsl, Array.length_toList]; rfl
  have h2 : (k : Int) < (s.size : Int) := by omega
  have hk' : k < s.size := by omega
  have h3 : s[k] = l.getD k 0 := by
    have hk2 : k < s.data.size := hk'
    have q : s.data[k]? = l[k]? := by rw [← hsl, Array.getElem?_toList]
    rw [Array.getElem?_eq_getElem hk2, List.getElem?_eq_getElem hk] at q
    rw [List.getD_eq_getElem?_getD, List.getElem?_eq_getElem hk]
    exact Option.some.inj q
  simp [Instr.index, run_underlying Tryz.underlying9, asIntOf, h2, hk', go_sem, h3]
theorem all_take {l : List UInt8} {k : Nat} (h : k < l.length) (h0 : (l.take k).all okC = true) (h1 : okC (l.getD k 0) = true) : (l.take (k + 1)).all okC = true := by
  rw [List.take_succ_eq_append_getElem h, List.all_append, h0]
  rw [List.getD_eq_getElem?_getD, List.getElem?_eq_getElem h] at h1
  simpa using h1
theorem all_bad {l : List UInt8} {k : Nat} (h : k < l.length) (h1 : okC (l.getD k 0) = false) : nameB l = false := by
  rw [List.getD_eq_getElem?_getD, List.getElem?_eq_getElem h] at h1
  unfold nameB
  have : l.all okC = false := by
    rw [← Bool.not_eq_true, List.all_eq_true]
    intro hh
    have := hh l[k] (List.getElem_mem h)
    simp at h1
    rw [h1] at this; cases this
  rw [this, Bool.and_false]
theorem empty_str (s : ByteArray) (l : List UInt8) (hsl : s.data.toList = l) : s.toList.isEmpty = l.isEmpty := by rw [ByteArray.toList_eq, hsl]

set_option maxHeartbeats 1000000 in
theorem isName_any (s : ByteArray) (l : List UInt8) (w : World) (hsl : s.data.toList = l) (hl : l.length ≤ 9223372036854775807) :
    Calls Tryz.prog 76 #[.string s] w fun e w' => e = .returned (.bool (nameB l)) ∧ w' = w := by
  have hz : s.size = l.length := by rw [← hsl, Array.length_toList]; rfl
  have hie := empty_str s l hsl
  have HIX := hide (fun k hk u => idx_get s l hsl k hk u)
  have HZ := hide hz
  clear hsl hz
  go_enter Tryz.func76, Tryz.ntmps76
  go_wp2
  go_loop [6] (fun i => ∃ k : Nat, k ≤ l.length ∧ i = .int .i64 k ∧ Hid ((l.take k).all okC = true)) (fun i => l.length - (intOf i).toNat)
  case atStart => exact ⟨0, Nat.zero_le _, rfl, hide rfl⟩
  case round =>
    obtain ⟨k, hk, rfl, HA⟩ := hrel
    have hz := unhide HZ
    by_cases hlt : k < l.length
    · have x0 := unhide HIX k hlt
      have hlt' : (k : Int) < (s.size : Int) := by omega
      have l0 := (l.getD k 0).toNat_lt
      have hcd : okC (l.getD k 0) = decide (33 ≤ (l.getD k 0).toNat ∧ (l.getD k 0).toNat ≤ 126) := rfl
      have HBAD := hide (fun h => all_bad (l := l) hlt h)
      have HOK := hide (fun h => all_take (l := l) hlt (unhide HA) h)
      obtain ⟨c, hc⟩ : ∃ c, c = l.getD k 0 := ⟨_, rfl⟩
      rw [← hc] at x0 l0 hcd HBAD HOK
      obtain ⟨y, hy⟩ : ∃ y : Nat, y = c.toNat := ⟨_, rfl⟩
      rw [← hy] at x0 l0 hcd
      have HC := hide hcd
      clear hc hcd hz
      by_cases h33 : y < 33
      · have g0 : (y : Int) < 33 := by omega
        have HN : Hid (nameB l = false) := hide (unhide HBAD (by rw [unhide HC, decide_eq_false_iff_not]; omega))
        clear HBAD HOK hy
        go_wp2
        go_ret
        exact ⟨by rw [unhide HN]; rfl, rfl⟩
      · have g0 : ¬ (y : Int) < 33 := by omega
        by_cases h126 : 126 < y
        · have g1 : (126 : Int) < (y : Int) := by omega
          have HN : Hid (nameB l = false) := hide (unhide HBAD (by rw [unhide HC, decide_eq_false_iff_not]; omega))
          clear HBAD HOK hy
          go_wp2
          go_ret
          exact ⟨by rw [unhide HN]; rfl, rfl⟩
        · have g1 : ¬ (126 : Int) < (y : Int) := by omega
          have HN : Hid ((l.take (k + 1)).all okC = true) := hide (unhide HOK (by rw [unhide HC, decide_eq_true_eq]; omega))
          clear HBAD HOK hy
          go_wp2
          go_round
          case rel => exact ⟨k + 1, by omega, by go_num, HN⟩
          case measure => simp [intOf]; omega
    · have hlt' : ¬ (k : Int) < (s.size : Int) := by omega
      have HN : Hid (nameB l = !l.isEmpty) := hide (by
        have q := unhide HA
        rw [List.take_of_length_le (by omega)] at q
        unfold nameB; rw [q, Bool.and_true])
      clear hz
      go_wp2
      go_ret
      exact ⟨by rw [unhide HN]; rfl, rfl⟩

end Go.Proofs.YtbhbbeebncmaiaaGreatDoor.Tf
namespace Go.Proofs.YtbhbbeebncmaiaaGreatDoor.Mac
open Go.ChangeShapes Go.WideShapes Go.ChangeAt Go.RowKit Bs
set_option linter.unusedVariables false
set_option linter.unusedSimpArgs false
variable {w0 : World} {P : Nat → Prop} {w w' : World} {B : Nat} {m m' : Mc}
theorem isIn_yes (n a b : Int) (w : World) (h1 : a ≤ n) (h2 : n ≤ b) : Calls Tryz.prog 77 #[.int .i64 n, .int .i64 a, .int .i64 b] w fun e w' => e = .returned (.bool true) ∧ w' = w := by
  have q := isIn_any n a b w
  have e : (decide (a ≤ n) && decide (n ≤ b)) = true := by simp [h1, h2]
  rw [e] at q
  exact q
structure Cfg where
  k0 : UInt8
  k1 : UInt8
  k2 : UInt8
  k3 : UInt8
  k4 : UInt8
  k5 : UInt8
  name : ByteArray
  cap : Int
  dig : ByteArray
  blk : Int
  win : Int
  rx : Int
  tx : Int
structure Cfg.Good (c : Cfg) : Prop where
  card : cardB c.k0 c.k1 c.k2 c.k3 c.k4 c.k5 = true
  name : Tf.nameB c.name.data.toList = true
  long : c.name.size ≤ 20
  dig : c.dig.size = 32
  cap : 1 ≤ c.cap ∧ c.cap ≤ 600000
  blk : 8 ≤ c.blk ∧ c.blk ≤ 1024
  win : 1 ≤ c.win ∧ c.win ≤ 8
  rx : 1 ≤ c.rx ∧ c.rx ≤ 16
  tx : 1 ≤ c.tx ∧ c.tx ≤ 16
set_option maxHeartbeats 1000000 in
theorem mayBe_good (c : Cfg) (hg : c.Good) (w : World) : Calls Tryz.prog 48 #[.agg #[.int .u8 c.k0.toNat, .int .u8 c.k1.toNat, .int .u8 c.k2.toNat, .int .u8 c.k3.toNat, .int .u8 c.k4.toNat, .int .u8 c.k5.toNat, .string c.name, .int .i64 c.cap, .string c.dig, .int .i64 c.blk, .int .i64 c.win, .int .i64 c.rx, .int .i64 c.tx]] w fun e w' => e = .returned (.bool true) ∧ Below w.heap.size w w' := by
  obtain ⟨k0, k1, k2, k3, k4, k5, name, cap, dig, blk, win, rx, tx⟩ := c
  obtain ⟨g1, g2, g3, g4, g5, g6, g7, g8, g9⟩ := hg
  dsimp only at *
  have HC := fun u => hide (isCard_any k0 k1 k2 k3 k4 k5 u)
  rw [g1] at HC
  have HN := fun u => hide (Tf.isName_any name _ u rfl (by rw [len_str]; omega))
  rw [g2] at HN
  have hlen : (name.size : Int) ≤ 20 := by omega
  have hdig : ((dig.size : Int) == 32) = true := by rw [g4]; rfl
  obtain ⟨h5a, h5b⟩ := g5
  obtain ⟨h6a, h6b⟩ := g6
  obtain ⟨h7a, h7b⟩ := g7
  obtain ⟨h8a, h8b⟩ := g8
  obtain ⟨h9a, h9b⟩ := g9
  clear g1 g2 g3 g4
  go_enter Tryz.func48, Tryz.ntmps48
  go_wp2_with fail
  refine (unhide (HC _)).mono ?_
  rintro ee u ⟨rfl, hb⟩
  have hc := Arp.below_cells hb
  have HB := hide hb
  clear hb HC
  go_wp2_with fail
  refine (unhide (HN _)).mono ?_
  rintro ee u2 ⟨rfl, rfl⟩
  go_wp2_with fail
  refine (isIn_yes _ _ _ _ h5a h5b).mono ?_
  rintro ee u3 ⟨rfl, rfl⟩
  go_wp2_with fail
  refine (isIn_yes _ _ _ _ h6a h6b).mono ?_
  rintro ee u4 ⟨rfl, rfl⟩
  go_wp2_with fail
  refine (isIn_yes _ _ _ _ h7a h7b).mono ?_
  rintro ee u5 ⟨rfl, rfl⟩
  go_wp2_with fail
  refine (isIn_yes _ _ _ _ h8a h8b).mono ?_
  rintro ee u6 ⟨rfl, rfl⟩
  go_wp2_with fail
  refine (isIn_yes _ _ _ _ h9a h9b).mono ?_
  rintro ee u7 ⟨rfl, rfl⟩
  go_wp2
  go_ret
  exact ⟨rfl, ((Below.refl w.heap.size w).alloc (Nat.le_refl _) _).trans ((unhide HB).mono (by simp))⟩
end Go.Proofs.YtbhbbeebncmaiaaGreatDoor.Mac
namespace Go.Proofs.YtbhbbeebncmaiaaGreatDoor.Ht
open Go.ChangeShapes Go.WideShapes Go.ChangeAt Go.RowKit Hb
set_option linter.unusedVariables false
def abvF (a b : List Int) : Nat → Bool
  | 0 => false
  | k + 1 => if a.getD k 0 = b.getD k 0 then abvF a b k else decide (b.getD k 0 < a.getD k 0)
def aboveF (a b : List Int) : Bool := abvF a b (max a.length b.length)
theorem getD_past (a : List Int) (k : Nat) (h : a.length ≤ k) : a.getD k 0 = 0 := by simp [List.getD_eq_getElem?_getD, List.getElem?_eq_none h]
theorem abv_eq (a b : List Int) (k : Nat) (h : a.getD k 0 = b.getD k 0) : abvF a b (k + 1) = abvF a b k := by rw [abvF, if_pos h]
theorem abv_ne (a b : List Int) (k : Nat) (h : ¬ a.getD k 0 = b.getD k 0) : abvF a b (k + 1) = decide (b.getD k 0 < a.getD k 0) := by rw [abvF, if_neg h]
theorem ret_bool {a b : Bool} (h : a = b) : Ending.returned (.bool a) = .returned (.bool b) := by rw [h]

set_option maxHeartbeats 1000000 in
theorem above_any (ga gb ca cb : Nat) (a b : List Int) (w : World) (hA : Row w ga a) (hB : Row w gb b) (hla : a.length ≤ 64) (hlb : b.length ≤ 64) :
    Calls Tryz.prog 29 #[.slice (some ⟨ga, 0, none⟩) a.length ca, .slice (some ⟨gb, 0, none⟩) b.length cb] w fun e w' =>
      e = .returned (.bool (aboveF a b)) ∧ w' = w := by
  have HA := hide hA
  have HB := hide hB
  obtain ⟨M, hM⟩ : ∃ M, M = max a.length b.length := ⟨_, rfl⟩
  have hM1 : a.length ≤ M := by omega
  have hM2 : b.length ≤ M := by omega
  have hM3 : M ≤ 64 := by omega
  have HG : Hid (aboveF a b = abvF a b M) := hide (by rw [hM]; rfl)
  have hM4 : M ≤ a.length ∨ M ≤ b.length := by omega
  have H4 := hide hM4
  clear hA hB hM hM4
  go_enter Tryz.func29, Tryz.ntmps29
  go_wp2
  all_goals
    go_loop [5] (fun vk => ∃ m : Nat, m ≤ M ∧ vk = .int .i64 ((m : Int) - 1) ∧ Hid (abvF a b m = aboveF a b)) (fun vk => (intOf vk + 1).toNat)
    case atStart =>
      have h4 := unhide H4
      refine ⟨M, Nat.le_refl _, ?_, hide (unhide HG).symm⟩
      congr 1
      rcases h4 with h4 | h4 <;> omega
    case round =>
      obtain ⟨m, hm, rfl, HM⟩ := hrel
      cases m with
      | zero =>
        go_wp2
        go_ret
        exact ⟨ret_bool (unhide HM), rfl⟩
      | succ n =>
        have e : ((n + 1 : Nat) : Int) - 1 = (n : Int) := by omega
        rw [e]
        have q1 := getD_past a n
        have q2 := getD_past b n
        have hgo := hide (abv_eq a b n)
        have hno := hide (abv_ne a b n)
        have hca := fun h => (unhide HA).cell n h
        have hcb := fun h => (unhide HB).cell n h
        obtain ⟨x, hx⟩ : ∃ x, x = a.getD n 0 := ⟨_, rfl⟩
        obtain ⟨y, hy⟩ : ∃ y, y = b.getD n 0 := ⟨_, rfl⟩
        rw [← hx] at q1 hgo hno hca
        rw [← hy] at q2 hgo hno hcb
        clear hx hy e
        by_cases hxy : x = y
        · have HG1 := hide ((unhide hgo hxy).symm.trans (unhide HM))
          have hb1 : (x != y) = false := by simp [hxy]
          clear hgo hno hxy
          by_cases ha : n < a.length
          all_goals by_cases hb : n < b.length
          all_goals first | (have q3 := hca ha; clear hca) | (have q3 : x = 0 := q1 (by omega); subst q3; clear hca)
          all_goals first | (have q4 := hcb hb; clear hcb) | (have q4 : y = 0 := q2 (by omega); subst q4; clear hcb)
          all_goals clear q1 q2
          all_goals go_wp2
          all_goals exact ⟨⟨n, by omega, rfl, HG1⟩, by simp [intOf]⟩
        · have HG1 := hide ((unhide hno hxy).symm.trans (unhide HM))
          have hb1 : (x != y) = true := by simpa using hxy
          clear hgo hno hxy
          by_cases ha : n < a.length
          all_goals by_cases hb : n < b.length
          all_goals first | (have q3 := hca ha; clear hca) | (have q3 : x = 0 := q1 (by omega); subst q3; clear hca)
          all_goals first | (have q4 := hcb hb; clear hcb) | (have q4 : y = 0 := q2 (by omega); subst q4; clear hcb)
          all_goals clear q1 q2
          all_goals first | (exfalso; simp at hb1; done) | skip
          all_goals go_wp2
          all_goals go_ret
          all_goals exact ⟨ret_bool (unhide HG1), rfl⟩
end Go.Proofs.YtbhbbeebncmaiaaGreatDoor.Ht
namespace Go.Proofs.YtbhbbeebncmaiaaGreatDoor.Ht
open Go.ChangeShapes Go.WideShapes Go.ChangeAt Go.RowKit Hb
set_option linter.unusedVariables false
def digF (x : Int) : List Int := [x % 65536, x / 65536 % 65536, x / 65536 / 65536]
def powF (d : List Int) : Nat → List Int
  | 0 => d
  | k + 1 => timesF (powF d k) d
def goalF (p : Int) (power : Nat) : List Int := List.replicate (2 * power) 0 ++ [p]
def stepF (p : Int) (power : Nat) (bit r : Int) : Int := if aboveF (powF (digF (r + bit)) (power - 1)) (goalF p power) then r else r + bit
def rootL (p : Int) (power : Nat) : Nat → Int → Int
  | 0, r => r
  | m + 1, r => rootL p power m (stepF p power (2 ^ m) r)
def rootF (p : Int) (power : Nat) : Int := rootL p power 37 0 % 4294967296

theorem inF_in' (i : Nat) (x : Int) (b O : List Int) (M : Int) (hx0 : 0 ≤ x) (hx1 : x ≤ 65535) (hb : In 65535 b) (hO : In M O) (hM0 : 65535 ≤ M) (hM1 : M ≤ 16777216) (j : Nat) :
    In M (inF i x b O j).1 ∧ 0 ≤ (inF i x b O j).2 ∧ (inF i x b O j).2 ≤ 70000 := by
  induction j with
  | zero => exact ⟨hO, by simp [inF], by simp [inF]⟩
  | succ j ih =>
    obtain ⟨h1, h2, h3⟩ := ih
    have p0 : 0 ≤ x * b.getD j 0 := Int.mul_nonneg hx0 (hb j).1
    have p1 : x * b.getD j 0 ≤ 65535 * b.getD j 0 := Int.mul_le_mul_of_nonneg_right hx1 (hb j).1
    have p2 := (hb j).2
    have q := h1 (i + j)
    simp only [inF]
    refine ⟨h1.set _ _ ?_ ?_, ?_, ?_⟩ <;> omega
theorem outF_in' (a b : List Int) (ha : In 65535 a) (hb : In 65535 b) (i : Nat) (hi : i ≤ 16) : In (65535 + 70000 * i) (outF a b i) := by
  induction i with
  | zero =>
    intro j
    have : (outF a b 0).getD j 0 = 0 := by
      simp only [outF, List.getD_eq_getElem?_getD, List.getElem?_replicate]
      split <;> rfl
    rw [this]; omega
  | succ i ih =>
    have h := inF_in' i (a.getD i 0) b (outF a b i) (65535 + 70000 * i) (ha i).1 (ha i).2 hb (ih (by omega)) (by omega) (by omega) b.length
    have q := h.1 (i + b.length)
    simp only [outF]
    refine In.set (h.1.mono (by omega)) _ _ ?_ ?_ <;> omega
theorem timesF_in (a b : List Int) (ha : In 65535 a) (hb : In 65535 b) (hl : a.length ≤ 16) : In 16777216 (timesF a b) :=
  (outF_in' a b ha hb a.length hl).mono (by omega)
theorem timesF_len (a b : List Int) : (timesF a b).length = a.length + b.length := outF_len a b _
theorem digF_in (x : Int) (h0 : 0 ≤ x) (h1 : x ≤ 281474976710655) : In 65535 (digF x) := by
  intro j
  match j with
  | 0 => simp [digF]; omega
  | 1 => simp [digF]; omega
  | 2 => simp [digF]; omega
  | j + 3 => simp [digF]
theorem digF_len (x : Int) : (digF x).length = 3 := rfl

theorem make_goal (w : World) (n : Nat) (h : n ≤ 100) : ∃ w1, (Instr.makeSlice 40 (.int .i64 (n : Int)) (.int .i64 ((n : Int) + 1))).run Tryz.prog w = .ok (.slice (some ⟨w.heap.size, 0, none⟩) n (n + 1)) w1 ∧
    Row w1 w.heap.size (List.replicate (n + 1) 0) ∧ Below w.heap.size w w1 := by
  obtain ⟨i0, hi, hz0, hz1, hz2⟩ := info_parts info64
  have h := run_make (P := Tryz.prog) w 40 3 i0 (.int .i64 0) Tryz.underlying40 hi hz0 .i64 .i64 (n : Int) ((n : Int) + 1) (by omega) (by omega) (by rw [hz2]; omega) (by omega)
  have e : ((n : Int) + 1).toNat = n + 1 := by omega
  have e' : ((n : Int)).toNat = n := by omega
  rw [e, e', hz1, Nat.mul_one] at h
  exact ⟨_, h, Row.of (made_row w (n + 1)), (Below.refl _ _).alloc (Nat.le_refl _) _⟩

theorem goal_set (p : Int) (power : Nat) : (List.replicate (2 * power + 1) (0 : Int)).set (2 * power) p = goalF p power := by
  apply List.ext_getElem
  · simp [goalF]
  · intro k h1 h2
    simp only [goalF, List.getElem_set, List.getElem_append, List.getElem_replicate, List.length_replicate]
    by_cases h : 2 * power = k
    · subst h; simp
    · rw [if_neg h, dif_pos (by simp at h1; omega)]
theorem goal_len (p : Int) (power : Nat) : (goalF p power).length = 2 * power + 1 := by simp [goalF]

theorem step_goal (w w1 : World) (p : Int) (power : Nat) (hR : Row w1 w.heap.size (List.replicate (2 * power + 1) 0)) (hb : Below w.heap.size w w1) :
    Row ((w1.alloc (.cells #[.int .i64 p] 3)).setCells w.heap.size (2 * power) [.int .i64 p]) w.heap.size (goalF p power) ∧
    Below w.heap.size w ((w1.alloc (.cells #[.int .i64 p] 3)).setCells w.heap.size (2 * power) [.int .i64 p]) := by
  have hlt := hR.lt
  have hR2 : Row (w1.alloc (.cells #[.int .i64 p] 3)) w.heap.size (List.replicate (2 * power + 1) 0) := hR.below ((Below.refl _ _).alloc (Nat.le_refl _) _) hlt
  have h := hR2.set (2 * power) p (by simp)
  rw [goal_set] at h
  have e : (w1.alloc (.cells #[.int .i64 p] 3)).setCells w.heap.size (2 * power) [.int .i64 p] = (w1.alloc (.cells #[.int .i64 p] 3)).setCell ⟨w.heap.size, 2 * power, none⟩ (.int .i64 p) := by
    simp [World.setCells]
  rw [e]
  exact ⟨h, ((hb.alloc (Nat.le_of_lt hlt) _)).setCell (Nat.le_refl _) _⟩

theorem powF_len (x : Int) (j : Nat) : (powF (digF x) j).length = 3 * (j + 1) := by
  induction j with
  | zero => rfl
  | succ j ih => rw [powF, timesF_len, ih, digF_len]; omega
theorem powF_in (x : Int) (h0 : 0 ≤ x) (h1 : x ≤ 281474976710655) (j : Nat) (hj : j ≤ 1) : In 16777216 (powF (digF x) j) := by
  have hd := digF_in x h0 h1
  match j, hj with
  | 0, _ => exact hd.mono (by omega)
  | 1, _ => exact timesF_in (digF x) (digF x) hd hd (by rw [digF_len]; omega)
theorem times_at (ga gb ca cb la lb : Nat) (a b : List Int) (w : World) (hA : Row w ga a) (hB : Row w gb b) (ea : a.length = la) (eb : b.length = lb) (hla : la ≤ 16) (hlb : lb ≤ 16) (ha : In 16777216 a) (hb : In 16777216 b) :
    Calls Tryz.prog 28 #[.slice (some ⟨ga, 0, none⟩) la ca, .slice (some ⟨gb, 0, none⟩) lb cb] w fun e w' =>
      e = .returned (.slice (some ⟨w.heap.size, 0, none⟩) (la + lb) (la + lb)) ∧ Row w' w.heap.size (timesF a b) ∧ Below w.heap.size w w' := by
  subst ea eb
  exact times_any ga gb ca cb a b w hA hB hla hlb ha hb
theorem above_at (ga gb ca cb la lb : Nat) (a b : List Int) (w : World) (hA : Row w ga a) (hB : Row w gb b) (ea : a.length = la) (eb : b.length = lb) (hla : la ≤ 64) (hlb : lb ≤ 64) :
    Calls Tryz.prog 29 #[.slice (some ⟨ga, 0, none⟩) la ca, .slice (some ⟨gb, 0, none⟩) lb cb] w fun e w' =>
      e = .returned (.bool (aboveF a b)) ∧ w' = w := by
  subst ea eb
  exact above_any ga gb ca cb a b w hA hB hla hlb
theorem pow_half (n : Nat) : (2 : Int) ^ (n + 1) / 2 = 2 ^ n := by rw [Int.pow_succ]; omega
theorem pow_le36 (n : Nat) (h : n ≤ 36) : (2 : Int) ^ n ≤ 68719476736 := by
  have h1 : (2 : Nat) ^ n ≤ 2 ^ 36 := Nat.pow_le_pow_right (by omega) h
  have h2 : (((2 : Nat) ^ n : Nat) : Int) ≤ ((2 ^ 36 : Nat) : Int) := Int.ofNat_le.mpr h1
  rw [Int.natCast_pow] at h2
  simpa using h2
theorem pow_pos' (n : Nat) : (0 : Int) < 2 ^ n := Int.pow_pos (by omega)
theorem dig_row (w : World) (x : Int) : Row (w.alloc (.cells #[.int .i64 (x % 65536), .int .i64 (x / 65536 % 65536), .int .i64 (x / 65536 / 65536)] 3)) w.heap.size (digF x) :=
  Row.of (heap_alloc_new w _)

set_option maxHeartbeats 2000000 in
theorem root_any (p : Int) (power : Nat) (w : World) (hp0 : 0 ≤ p) (hp1 : p ≤ 65535) (hpw0 : 2 ≤ power) (hpw1 : power ≤ 3) :
    Calls Tryz.prog 13 #[.int .i64 p, .int .i64 power] w fun e w' =>
      e = .returned (.int .i64 (rootF p power)) ∧ Below w.heap.size w w' := by
  obtain ⟨i0, hi, hz0, hz1, hz2⟩ := info_parts info64
  obtain ⟨w1, hmk, hR1, hb1⟩ := make_goal w (2 * power) (by omega)
  obtain ⟨hR3, hb3⟩ := step_goal w w1 p power hR1 hb1
  have hc1 := fun j (hj : j < 2 * power + 1) => (hR1.below ((Below.refl _ _).alloc (Nat.le_refl _) (.cells #[.int .i64 p] 3)) hR1.lt).cell j (by simpa using hj)
  have hf1 := fun j => (hR1.below ((Below.refl _ _).alloc (Nat.le_refl _) (.cells #[.int .i64 p] 3)) hR1.lt).free j
  have HC1 := hide hc1
  have HF1 := hide hf1
  clear hc1 hf1
  have hcast : ((2 * power : Nat) : Int) = 2 * (power : Int) := by omega
  rw [hcast] at hmk
  have HR3 := hide hR3
  clear hR1 hb1 hR3
  go_enter Tryz.func13, Tryz.ntmps13
  go_wp2_with (at_builtin; refine wpList_append_arg _ rfl (.tmp 18) (.tmp 20) 40 rfl 3 i0 (.int .i64 0) 1 8 Tryz.underlying40 hi hz0 hz1 hz2 rfl (by decide) w.heap.size 0 (2 * power) (2 * power + 1) (c64 (List.replicate (2 * power) 0)) rfl ?c1 ?c2 ⟨w1.heap.size, 0, none⟩ 1 1 [.int .i64 p] rfl rfl ?c3 ?c4 ?c5 ?c6 ?c7 (fun _ => ?_) (fun h => absurd h (by omega)))
  case c1 => simp [c64]
  case c2 =>
    intro j u hj
    have hl : j < 2 * power := by have := (List.getElem?_eq_some_iff.mp hj).1; simpa [c64] using this
    have h := unhide HC1 j (by omega)
    rw [Nat.zero_add, h]
    simp only [c64, List.getElem?_map, List.getElem?_replicate, if_pos hl, Option.map_some, Option.some.injEq] at hj
    rw [← hj]
    simp [List.getD_eq_getElem?_getD, List.getElem?_replicate]
    split <;> rfl
  case c3 =>
    intro j u hj
    match j, hj with
    | 0, hj =>
      have e : u = .int .i64 p := by simpa using hj.symm
      subst e
      exact cell_of_row _ _ _ _ _ _ (heap_alloc_new w1 _)
  case c4 => intro u hu; simp at hu; subst hu; rfl
  case c5 =>
    intro _ j hj
    have e : j = 0 := by simpa using hj
    subst e
    have h := unhide HC1 (2 * power) (by omega)
    have h' := unhide HF1 (2 * power)
    simp only [Nat.zero_add, Nat.mul_one, Nat.add_zero]
    rw [h, h']
    exact ⟨rfl, rfl⟩
  case c6 => simp only [maxLen]; omega
  case c7 => omega
  go_loopw [6, 7] (fun vr vb wr => ∃ (m : Nat) (r : Int), m ≤ 37 ∧ 0 ≤ r ∧ r + 2 ^ m ≤ 137438953472 ∧ vr = .int .i64 r ∧ vb = .int .i64 (2 ^ m / 2) ∧ rootL p power m r = rootL p power 37 0 ∧ Row wr w.heap.size (goalF p power) ∧ Below w.heap.size w wr) (fun _ vb _ => (intOf vb).toNat)
  case atStart => exact ⟨37, 0, by omega, by omega, by decide, rfl, by rfl, rfl, unhide HR3, hb3⟩
  case round =>
    obtain ⟨m, r, hm, hr0, hr1, rfl, rfl, hroot, hG, hbel⟩ := hrel
    rename World => wr
    cases m with
    | zero =>
      have e : (2 : Int) ^ 0 / 2 = 0 := by decide
      rw [e]
      have hr2 : r ≤ 137438953472 := by
        have : (2 : Int) ^ 0 = 1 := by decide
        omega
      have HROOT := hide hroot
      clear hroot hr1
      go_wp2
      go_ret
      refine ⟨ret_int ?_, hbel⟩
      rw [rootF, ← unhide HROOT]; rfl
    | succ n =>
      rw [pow_half] 
      have hB0 := pow_pos' n
      have hB1 := pow_le36 n (by omega)
      have hr2 : r + 2 ^ n + 2 ^ n ≤ 137438953472 := by rw [Int.pow_succ] at hr1; omega
      have hst : rootL p power n (stepF p power (2 ^ n) r) = rootL p power 37 0 := hroot
      have hgb : w.heap.size < wr.heap.size := hG.lt
      have HST := hide hst
      clear hst hroot hr1
      obtain ⟨B, hB⟩ : ∃ B, B = (2 : Int) ^ n := ⟨_, rfl⟩
      rw [← hB] at hB0 hB1 hr2 ⊢
      have HB := hide hB
      clear hB
      obtain ⟨x, hx⟩ : ∃ x, x = r + B := ⟨_, rfl⟩
      have hx0 : 0 ≤ x := by omega
      have hx1 : x ≤ 281474976710655 := by omega
      have hdr := dig_row wr x
      have HD := hide hdr
      have HGD := hide (hG.below ((Below.refl _ _).alloc (Nat.le_refl _) (.cells #[.int .i64 (x % 65536), .int .i64 (x / 65536 % 65536), .int .i64 (x / 65536 / 65536)] 3)) hgb)
      have HBD := hide (hbel.alloc (Nat.le_of_lt hgb) (.cells #[.int .i64 (x % 65536), .int .i64 (x / 65536 % 65536), .int .i64 (x / 65536 / 65536)] 3))
      clear hdr
      have hx' : x ≤ 137438953472 := by omega
      subst hx
      go_wp2
      go_loopw [10, 11] (fun vn vk wq => ∃ (k g L : Nat), 1 ≤ k ∧ k ≤ power ∧ L = 3 * k ∧ vk = .int .i64 k ∧ vn = .slice (some ⟨g, 0, none⟩) L L ∧ Row wq g (powF (digF (r + B)) (k - 1)) ∧ Row wq wr.heap.size (digF (r + B)) ∧ Row wq w.heap.size (goalF p power) ∧ Below w.heap.size w wq) (fun _ vk _ => power - (intOf vk).toNat)
      case atStart => exact ⟨1, wr.heap.size, 3, by omega, by omega, rfl, rfl, rfl, unhide HD, unhide HD, unhide HGD, unhide HBD⟩
      case round =>
        clear hG hbel HD HGD HBD
        obtain ⟨k, g, L, hk0, hk1, hL, rfl, rfl, hN, hD, hG, hbel⟩ := hrel
        rename World => wq
        have hlg := hN.lt
        have hld := hD.lt
        have hlG := hG.lt
        have hL2 := powF_len (r + B) (k - 1)
        have hL3 : L = 3 * (k - 1 + 1) := by omega
        by_cases hkp : k < power
        · have HT := times_at g wr.heap.size L 3 L 3 (powF (digF (r + B)) (k - 1)) (digF (r + B)) wq hN hD (by rw [hL3]; exact hL2) rfl (by omega) (by omega) (powF_in _ hx0 hx1 _ (by omega)) ((digF_in _ hx0 hx1).mono (by omega))
          have epow : timesF (powF (digF (r + B)) (k - 1)) (digF (r + B)) = powF (digF (r + B)) (k + 1 - 1) := by
            obtain ⟨j, rfl⟩ : ∃ j, k = j + 1 := ⟨k - 1, by omega⟩
            rfl
          rw [epow] at HT
          have HT' := hide HT
          have hLa : L ≤ 3 * k := by omega
          have hLb : 3 * k ≤ L := by omega
          clear HT epow hL2 hL hL3
          go_wp2_with (go_at_call 28; refine (unhide HT').mono ?_; rintro e w' ⟨rfl, hN', hb'⟩)
          rename World => w5
          rename_i hb5
          refine ⟨⟨k + 1, wq.heap.size, L + 3, by omega, by omega, by omega, by go_num, rfl, by assumption, ?_, ?_, ?_⟩, by simp [intOf]; omega⟩
          · exact hD.below (by assumption) hld
          · exact hG.below (by assumption) hlG
          · exact hbel.trans ((by assumption : Below wq.heap.size wq _).mono (by omega))
        · have e : k = power := by omega
          subst e
          have HT := above_at g w.heap.size L (2 * k + 1) L (2 * k + 1) (powF (digF (r + B)) (k - 1)) (goalF p k) wq hN hG (by rw [hL3]; exact hL2) (goal_len p k) (by omega) (by omega)
          obtain ⟨t, ht⟩ : ∃ t, t = aboveF (powF (digF (r + B)) (k - 1)) (goalF p k) := ⟨_, rfl⟩
          rw [← ht] at HT
          have HT' := hide HT
          have hstep : stepF p k B r = if t then r else r + B := by rw [ht]; rfl
          have HSTEP := hide hstep
          clear ht hstep HT hL2 hL hL3
          cases t
          · go_wp2_with (go_at_call 29; refine (unhide HT').mono ?_; rintro e w' ⟨rfl, rfl⟩)
            have hB := unhide HB
            have hs := unhide HST
            rw [← hB, unhide HSTEP] at hs
            refine ⟨⟨n, r + B, by omega, by omega, by rw [← hB]; omega, rfl, by rw [← hB], hs, hG, hbel⟩, by simp only [intOf]; omega⟩
          · go_wp2_with (go_at_call 29; refine (unhide HT').mono ?_; rintro e w' ⟨rfl, rfl⟩)
            have hB := unhide HB
            have hs := unhide HST
            rw [← hB, unhide HSTEP] at hs
            refine ⟨⟨n, r, by omega, by omega, by rw [← hB]; omega, rfl, by rw [← hB], hs, hG, hbel⟩, by simp only [intOf]; omega⟩
end Go.Proofs.YtbhbbeebncmaiaaGreatDoor.Ht

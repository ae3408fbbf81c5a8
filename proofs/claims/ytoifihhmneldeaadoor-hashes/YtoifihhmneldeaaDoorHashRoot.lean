import Derived.Test.YtoifihhmneldeaaDoorHashAbove
namespace Go.Proofs.YtoifihhmneldeaaDoor.Ht
open Go.ChangeShapes Go.WideShapes Go.ChangeAt Go.RowKit Hb
set_option linter.unusedVariables false

/-- a number's three digits -/
def digF (x : Int) : List Int := [x % 65536, x / 65536 % 65536, x / 65536 / 65536]
/-- the power of a number's digits, less one -/
def powF (d : List Int) : Nat → List Int
  | 0 => d
  | k + 1 => timesF (powF d k) d
def goalF (p : Int) (power : Nat) : List Int := List.replicate (2 * power) 0 ++ [p]
def stepF (p : Int) (power : Nat) (bit r : Int) : Int := if aboveF (powF (digF (r + bit)) (power - 1)) (goalF p power) then r else r + bit
def rootL (p : Int) (power : Nat) : Nat → Int → Int
  | 0, r => r
  | m + 1, r => rootL p power m (stepF p power (2 ^ m) r)
def rootF (p : Int) (power : Nat) : Int := rootL p power 37 0 % 4294967296

theorem inF_in' (i : Nat) (x : Int) (b O : List Int) (M : Int) (hx0 : 0 ≤ x) (hx1 : x ≤ 65535) (hb : In 65535 b) (hO : In M O) (hM0 : 65535 ≤ M) (hM1 : M ≤ 16777216) (j : Nat) :
    In M (inF i x b O j).1 ∧ 0 ≤ (inF i x b O j).2 ∧ (inF i x b O j).2 ≤ 70000 := by
  induction j with
  | zero => exact ⟨hO, by simp [inF], by simp [inF]⟩
  | succ j ih =>
    obtain ⟨h1, h2, h3⟩ := ih
    have p0 : 0 ≤ x * b.getD j 0 := Int.mul_nonneg hx0 (hb j).1
    have p1 : x * b.getD j 0 ≤ 65535 * b.getD j 0 := Int.mul_le_mul_of_nonneg_right hx1 (hb j).1
    have p2 := (hb j).2
    have q := h1 (i + j)
    simp only [inF]
    refine ⟨h1.set _ _ ?_ ?_, ?_, ?_⟩ <;> omega
theorem outF_in' (a b : List Int) (ha : In 65535 a) (hb : In 65535 b) (i : Nat) (hi : i ≤ 16) : In (65535 + 70000 * i) (outF a b i) := by
  induction i with
  | zero =>
    intro j
    have : (outF a b 0).getD j 0 = 0 := by
      simp only [outF, List.getD_eq_getElem?_getD, List.getElem?_replicate]
      split <;> rfl
    rw [this]; omega
  | succ i ih =>
    have h := inF_in' i (a.getD i 0) b (outF a b i) (65535 + 70000 * i) (ha i).1 (ha i).2 hb (ih (by omega)) (by omega) (by omega) b.length
    have q := h.1 (i + b.length)
    simp only [outF]
    refine In.set (h.1.mono (by omega)) _ _ ?_ ?_ <;> omega
theorem timesF_in (a b : List Int) (ha : In 65535 a) (hb : In 65535 b) (hl : a.length ≤ 16) : In 16777216 (timesF a b) :=
  (outF_in' a b ha hb a.length hl).mono (by omega)
theorem timesF_len (a b : List Int) : (timesF a b).length = a.length + b.length := outF_len a b _
theorem digF_in (x : Int) (h0 : 0 ≤ x) (h1 : x ≤ 281474976710655) : In 65535 (digF x) := by
  intro j
  match j with
  | 0 => simp [digF]; omega
  | 1 => simp [digF]; omega
  | 2 => simp [digF]; omega
  | j + 3 => simp [digF]
theorem digF_len (x : Int) : (digF x).length = 3 := rfl

theorem make_goal (w : World) (n : Nat) (h : n ≤ 100) : ∃ w1, (Instr.makeSlice 50 (.int .i64 (n : Int)) (.int .i64 ((n : Int) + 1))).run Tryd.prog w = .ok (.slice (some ⟨w.heap.size, 0, none⟩) n (n + 1)) w1 ∧
    Row w1 w.heap.size (List.replicate (n + 1) 0) ∧ Below w.heap.size w w1 := by
  obtain ⟨i0, hi, hz0, hz1, hz2⟩ := info_parts info64
  have h := run_make (P := Tryd.prog) w 50 3 i0 (.int .i64 0) Tryd.underlying50 hi hz0 .i64 .i64 (n : Int) ((n : Int) + 1) (by omega) (by omega) (by rw [hz2]; omega) (by omega)
  have e : ((n : Int) + 1).toNat = n + 1 := by omega
  have e' : ((n : Int)).toNat = n := by omega
  rw [e, e', hz1, Nat.mul_one] at h
  exact ⟨_, h, Row.of (made_row w (n + 1)), (Below.refl _ _).alloc (Nat.le_refl _) _⟩

theorem goal_set (p : Int) (power : Nat) : (List.replicate (2 * power + 1) (0 : Int)).set (2 * power) p = goalF p power := by
  apply List.ext_getElem
  · simp [goalF]
  · intro k h1 h2
    simp only [goalF, List.getElem_set, List.getElem_append, List.getElem_replicate, List.length_replicate]
    by_cases h : 2 * power = k
    · subst h; simp
    · rw [if_neg h, dif_pos (by simp at h1; omega)]
theorem goal_len (p : Int) (power : Nat) : (goalF p power).length = 2 * power + 1 := by simp [goalF]

theorem step_goal (w w1 : World) (p : Int) (power : Nat) (hR : Row w1 w.heap.size (List.replicate (2 * power + 1) 0)) (hb : Below w.heap.size w w1) :
    Row ((w1.alloc (.cells #[.int .i64 p] 3)).setCells w.heap.size (2 * power) [.int .i64 p]) w.heap.size (goalF p power) ∧
    Below w.heap.size w ((w1.alloc (.cells #[.int .i64 p] 3)).setCells w.heap.size (2 * power) [.int .i64 p]) := by
  have hlt := hR.lt
  have hR2 : Row (w1.alloc (.cells #[.int .i64 p] 3)) w.heap.size (List.replicate (2 * power + 1) 0) := hR.below ((Below.refl _ _).alloc (Nat.le_refl _) _) hlt
  have h := hR2.set (2 * power) p (by simp)
  rw [goal_set] at h
  have e : (w1.alloc (.cells #[.int .i64 p] 3)).setCells w.heap.size (2 * power) [.int .i64 p] = (w1.alloc (.cells #[.int .i64 p] 3)).setCell ⟨w.heap.size, 2 * power, none⟩ (.int .i64 p) := by
    simp [World.setCells]
  rw [e]
  exact ⟨h, ((hb.alloc (Nat.le_of_lt hlt) _)).setCell (Nat.le_refl _) _⟩

theorem powF_len (x : Int) (j : Nat) : (powF (digF x) j).length = 3 * (j + 1) := by
  induction j with
  | zero => rfl
  | succ j ih => rw [powF, timesF_len, ih, digF_len]; omega
theorem powF_in (x : Int) (h0 : 0 ≤ x) (h1 : x ≤ 281474976710655) (j : Nat) (hj : j ≤ 1) : In 16777216 (powF (digF x) j) := by
  have hd := digF_in x h0 h1
  match j, hj with
  | 0, _ => exact hd.mono (by omega)
  | 1, _ => exact timesF_in (digF x) (digF x) hd hd (by rw [digF_len]; omega)
theorem times_at (ga gb ca cb la lb : Nat) (a b : List Int) (w : World) (hA : Row w ga a) (hB : Row w gb b) (ea : a.length = la) (eb : b.length = lb) (hla : la ≤ 16) (hlb : lb ≤ 16) (ha : In 16777216 a) (hb : In 16777216 b) :
    Calls Tryd.prog 27 #[.slice (some ⟨ga, 0, none⟩) la ca, .slice (some ⟨gb, 0, none⟩) lb cb] w fun e w' =>
      e = .returned (.slice (some ⟨w.heap.size, 0, none⟩) (la + lb) (la + lb)) ∧ Row w' w.heap.size (timesF a b) ∧ Below w.heap.size w w' := by
  subst ea eb
  exact times_any ga gb ca cb a b w hA hB hla hlb ha hb
theorem above_at (ga gb ca cb la lb : Nat) (a b : List Int) (w : World) (hA : Row w ga a) (hB : Row w gb b) (ea : a.length = la) (eb : b.length = lb) (hla : la ≤ 64) (hlb : lb ≤ 64) :
    Calls Tryd.prog 28 #[.slice (some ⟨ga, 0, none⟩) la ca, .slice (some ⟨gb, 0, none⟩) lb cb] w fun e w' =>
      e = .returned (.bool (aboveF a b)) ∧ w' = w := by
  subst ea eb
  exact above_any ga gb ca cb a b w hA hB hla hlb
theorem pow_half (n : Nat) : (2 : Int) ^ (n + 1) / 2 = 2 ^ n := by rw [Int.pow_succ]; omega
theorem pow_le36 (n : Nat) (h : n ≤ 36) : (2 : Int) ^ n ≤ 68719476736 := by
  have h1 : (2 : Nat) ^ n ≤ 2 ^ 36 := Nat.pow_le_pow_right (by omega) h
  have h2 : (((2 : Nat) ^ n : Nat) : Int) ≤ ((2 ^ 36 : Nat) : Int) := Int.ofNat_le.mpr h1
  rw [Int.natCast_pow] at h2
  simpa using h2
theorem pow_pos' (n : Nat) : (0 : Int) < 2 ^ n := Int.pow_pos (by omega)
/-- the digits' row, fresh -/
theorem dig_row (w : World) (x : Int) : Row (w.alloc (.cells #[.int .i64 (x % 65536), .int .i64 (x / 65536 % 65536), .int .i64 (x / 65536 / 65536)] 3)) w.heap.size (digF x) :=
  Row.of (heap_alloc_new w _)

set_option maxHeartbeats 2000000 in
theorem root_any (p : Int) (power : Nat) (w : World) (hp0 : 0 ≤ p) (hp1 : p ≤ 65535) (hpw0 : 2 ≤ power) (hpw1 : power ≤ 3) :
    Calls Tryd.prog 17 #[.int .i64 p, .int .i64 power] w fun e w' =>
      e = .returned (.int .i64 (rootF p power)) ∧ Below w.heap.size w w' := by
  obtain ⟨i0, hi, hz0, hz1, hz2⟩ := info_parts info64
  obtain ⟨w1, hmk, hR1, hb1⟩ := make_goal w (2 * power) (by omega)
  obtain ⟨hR3, hb3⟩ := step_goal w w1 p power hR1 hb1
  have hc1 := fun j (hj : j < 2 * power + 1) => (hR1.below ((Below.refl _ _).alloc (Nat.le_refl _) (.cells #[.int .i64 p] 3)) hR1.lt).cell j (by simpa using hj)
  have hf1 := fun j => (hR1.below ((Below.refl _ _).alloc (Nat.le_refl _) (.cells #[.int .i64 p] 3)) hR1.lt).free j
  have HC1 := hide hc1
  have HF1 := hide hf1
  clear hc1 hf1
  have hcast : ((2 * power : Nat) : Int) = 2 * (power : Int) := by omega
  rw [hcast] at hmk
  have HR3 := hide hR3
  clear hR1 hb1 hR3
  go_enter Tryd.func17, Tryd.ntmps17
  go_wp2_with (at_builtin; refine wpList_append_arg _ rfl (.tmp 18) (.tmp 20) 50 rfl 3 i0 (.int .i64 0) 1 8 Tryd.underlying50 hi hz0 hz1 hz2 rfl (by decide) w.heap.size 0 (2 * power) (2 * power + 1) (c64 (List.replicate (2 * power) 0)) rfl ?c1 ?c2 ⟨w1.heap.size, 0, none⟩ 1 1 [.int .i64 p] rfl rfl ?c3 ?c4 ?c5 ?c6 ?c7 (fun _ => ?_) (fun h => absurd h (by omega)))
  case c1 => simp [c64]
  case c2 =>
    intro j u hj
    have hl : j < 2 * power := by have := (List.getElem?_eq_some_iff.mp hj).1; simpa [c64] using this
    have h := unhide HC1 j (by omega)
    rw [Nat.zero_add, h]
    simp only [c64, List.getElem?_map, List.getElem?_replicate, if_pos hl, Option.map_some, Option.some.injEq] at hj
    rw [← hj]
    simp [List.getD_eq_getElem?_getD, List.getElem?_replicate]
    split <;> rfl
  case c3 =>
    intro j u hj
    match j, hj with
    | 0, hj =>
      have e : u = .int .i64 p := by simpa using hj.symm
      subst e
      exact cell_of_row _ _ _ _ _ _ (heap_alloc_new w1 _)
  case c4 => intro u hu; simp at hu; subst hu; rfl
  case c5 =>
    intro _ j hj
    have e : j = 0 := by simpa using hj
    subst e
    have h := unhide HC1 (2 * power) (by omega)
    have h' := unhide HF1 (2 * power)
    simp only [Nat.zero_add, Nat.mul_one, Nat.add_zero]
    rw [h, h']
    exact ⟨rfl, rfl⟩
  case c6 => simp only [maxLen]; omega
  case c7 => omega
  go_loopw [6, 7] (fun vr vb wr => ∃ (m : Nat) (r : Int), m ≤ 37 ∧ 0 ≤ r ∧ r + 2 ^ m ≤ 137438953472 ∧ vr = .int .i64 r ∧ vb = .int .i64 (2 ^ m / 2) ∧ rootL p power m r = rootL p power 37 0 ∧ Row wr w.heap.size (goalF p power) ∧ Below w.heap.size w wr) (fun _ vb _ => (intOf vb).toNat)
  case atStart => exact ⟨37, 0, by omega, by omega, by decide, rfl, by rfl, rfl, unhide HR3, hb3⟩
  case round =>
    obtain ⟨m, r, hm, hr0, hr1, rfl, rfl, hroot, hG, hbel⟩ := hrel
    rename World => wr
    cases m with
    | zero =>
      have e : (2 : Int) ^ 0 / 2 = 0 := by decide
      rw [e]
      have hr2 : r ≤ 137438953472 := by have : (2 : Int) ^ 0 = 1 := by decide
                                        omega
      have HROOT := hide hroot
      clear hroot hr1
      go_wp2
      go_ret
      refine ⟨ret_int ?_, hbel⟩
      rw [rootF, ← unhide HROOT]; rfl
    | succ n =>
      rw [pow_half] 
      have hB0 := pow_pos' n
      have hB1 := pow_le36 n (by omega)
      have hr2 : r + 2 ^ n + 2 ^ n ≤ 137438953472 := by rw [Int.pow_succ] at hr1; omega
      have hst : rootL p power n (stepF p power (2 ^ n) r) = rootL p power 37 0 := hroot
      have hgb : w.heap.size < wr.heap.size := hG.lt
      have HST := hide hst
      clear hst hroot hr1
      obtain ⟨B, hB⟩ : ∃ B, B = (2 : Int) ^ n := ⟨_, rfl⟩
      rw [← hB] at hB0 hB1 hr2 ⊢
      have HB := hide hB
      clear hB
      obtain ⟨x, hx⟩ : ∃ x, x = r + B := ⟨_, rfl⟩
      have hx0 : 0 ≤ x := by omega
      have hx1 : x ≤ 281474976710655 := by omega
      have hdr := dig_row wr x
      have HD := hide hdr
      have HGD := hide (hG.below ((Below.refl _ _).alloc (Nat.le_refl _) (.cells #[.int .i64 (x % 65536), .int .i64 (x / 65536 % 65536), .int .i64 (x / 65536 / 65536)] 3)) hgb)
      have HBD := hide (hbel.alloc (Nat.le_of_lt hgb) (.cells #[.int .i64 (x % 65536), .int .i64 (x / 65536 % 65536), .int .i64 (x / 65536 / 65536)] 3))
      clear hdr
      have hx' : x ≤ 137438953472 := by omega
      subst hx
      go_wp2
      go_loopw [10, 11] (fun vn vk wq => ∃ (k g L : Nat), 1 ≤ k ∧ k ≤ power ∧ L = 3 * k ∧ vk = .int .i64 k ∧ vn = .slice (some ⟨g, 0, none⟩) L L ∧ Row wq g (powF (digF (r + B)) (k - 1)) ∧ Row wq wr.heap.size (digF (r + B)) ∧ Row wq w.heap.size (goalF p power) ∧ Below w.heap.size w wq) (fun _ vk _ => power - (intOf vk).toNat)
      case atStart => exact ⟨1, wr.heap.size, 3, by omega, by omega, rfl, rfl, rfl, unhide HD, unhide HD, unhide HGD, unhide HBD⟩
      case round =>
        clear hG hbel HD HGD HBD
        obtain ⟨k, g, L, hk0, hk1, hL, rfl, rfl, hN, hD, hG, hbel⟩ := hrel
        rename World => wq
        have hlg := hN.lt
        have hld := hD.lt
        have hlG := hG.lt
        have hL2 := powF_len (r + B) (k - 1)
        have hL3 : L = 3 * (k - 1 + 1) := by omega
        by_cases hkp : k < power
        · have HT := times_at g wr.heap.size L 3 L 3 (powF (digF (r + B)) (k - 1)) (digF (r + B)) wq hN hD (by rw [hL3]; exact hL2) rfl (by omega) (by omega) (powF_in _ hx0 hx1 _ (by omega)) ((digF_in _ hx0 hx1).mono (by omega))
          have epow : timesF (powF (digF (r + B)) (k - 1)) (digF (r + B)) = powF (digF (r + B)) (k + 1 - 1) := by
            obtain ⟨j, rfl⟩ : ∃ j, k = j + 1 := ⟨k - 1, by omega⟩
            rfl
          rw [epow] at HT
          have HT' := hide HT
          have hLa : L ≤ 3 * k := by omega
          have hLb : 3 * k ≤ L := by omega
          clear HT epow hL2 hL hL3
          go_wp2_with (go_at_call 27; refine (unhide HT').mono ?_; rintro e w' ⟨rfl, hN', hb'⟩)
          rename World => w5
          rename_i hb5
          refine ⟨⟨k + 1, wq.heap.size, L + 3, by omega, by omega, by omega, by go_num, rfl, by assumption, ?_, ?_, ?_⟩, by simp [intOf]; omega⟩
          · exact hD.below (by assumption) hld
          · exact hG.below (by assumption) hlG
          · exact hbel.trans ((by assumption : Below wq.heap.size wq _).mono (by omega))
        · have e : k = power := by omega
          subst e
          have HT := above_at g w.heap.size L (2 * k + 1) L (2 * k + 1) (powF (digF (r + B)) (k - 1)) (goalF p k) wq hN hG (by rw [hL3]; exact hL2) (goal_len p k) (by omega) (by omega)
          obtain ⟨t, ht⟩ : ∃ t, t = aboveF (powF (digF (r + B)) (k - 1)) (goalF p k) := ⟨_, rfl⟩
          rw [← ht] at HT
          have HT' := hide HT
          have hstep : stepF p k B r = if t then r else r + B := by rw [ht]; rfl
          have HSTEP := hide hstep
          clear ht hstep HT hL2 hL hL3
          cases t
          · go_wp2_with (go_at_call 28; refine (unhide HT').mono ?_; rintro e w' ⟨rfl, rfl⟩)
            have hB := unhide HB
            have hs := unhide HST
            rw [← hB, unhide HSTEP] at hs
            refine ⟨⟨n, r + B, by omega, by omega, by rw [← hB]; omega, rfl, by rw [← hB], hs, hG, hbel⟩, by simp only [intOf]; omega⟩
          · go_wp2_with (go_at_call 28; refine (unhide HT').mono ?_; rintro e w' ⟨rfl, rfl⟩)
            have hB := unhide HB
            have hs := unhide HST
            rw [← hB, unhide HSTEP] at hs
            refine ⟨⟨n, r, by omega, by omega, by rw [← hB]; omega, rfl, by rw [← hB], hs, hG, hbel⟩, by simp only [intOf]; omega⟩
end Go.Proofs.YtoifihhmneldeaaDoor.Ht

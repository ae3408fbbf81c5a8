import Derived.Test.YtbhbbeebncmaiaaGreatDoorRows
import Derived.WalkKit
import Derived.ProofKit
import Derived.Laws.BitsAllLaws
import Derived.WalkSpells
import Derived.WalkLawsBesides
import Derived.Outline
import Derived.Deep.QuietTactic
import Derived.BigQuiet
import Derived.Lib.SlicesCompact
import Derived.Lib.Bytealg
namespace Go.Proofs.YtbhbbeebncmaiaaGreatDoor.Chk
open Go.ChangeShapes Go.WideShapes Go.ChangeAt Go.RowKit
set_option linter.unusedVariables false
def fold (n : Int) : Int := if n = 0 then 0 else 1 + (n - 1) % 65535
def wsum : List UInt8 → Int
  | [] => 0
  | [a] => 256 * (a.toNat : Int)
  | a :: b :: r => 256 * (a.toNat : Int) + (b.toNat : Int) + wsum r

theorem fold_small (n : Int) (h0 : 0 ≤ n) (h1 : n ≤ 65535) : fold n = n := by
  unfold fold; split <;> omega
theorem fold_bd (n : Int) (h0 : 0 ≤ n) : 0 ≤ fold n ∧ fold n ≤ 65535 := by
  unfold fold; split <;> omega
theorem fold_wrap (c x r : Int) (h0 : 0 ≤ c) (h2 : 0 ≤ x) (h4 : 65536 ≤ c + x) (hr : 0 ≤ r) :
    fold (c + x - 65535 + r) = fold (c + (x + r)) := by
  unfold fold; rw [if_neg (by omega), if_neg (by omega)]; omega
theorem fold_turn (n : Int) (h : 65535 < n) : fold (n / 65536 + n % 65536) = fold n := by
  unfold fold; rw [if_neg (by omega), if_neg (by omega)]; omega
theorem wsum_nonneg : ∀ l : List UInt8, 0 ≤ wsum l
  | [] => by simp [wsum]
  | [a] => by simp [wsum]; omega
  | a :: b :: r => by have := wsum_nonneg r; simp only [wsum]; omega
theorem drop_two (l : List UInt8) (k : Nat) (h : k + 1 < l.length) : l.drop k = l[k] :: l[k + 1] :: l.drop (k + 2) := by
  rw [List.drop_eq_getElem_cons (by omega), List.drop_eq_getElem_cons (by omega : k + 1 < l.length)]
theorem drop_one (l : List UInt8) (k : Nat) (h : k + 1 = l.length) : l.drop k = [l[k]] := by
  rw [List.drop_eq_getElem_cons (by omega), List.drop_eq_nil_of_le (by omega)]
theorem wsum_two (l : List UInt8) (k : Nat) (h : k + 1 < l.length) :
    wsum (l.drop k) = 256 * (l[k].toNat : Int) + (l[k + 1].toNat : Int) + wsum (l.drop (k + 2)) := by
  rw [drop_two l k h, wsum]
theorem wsum_one (l : List UInt8) (k : Nat) (h : k + 1 = l.length) :
    wsum (l.drop k) = 256 * (l[k].toNat : Int) := by
  rw [drop_one l k h, wsum]
theorem wsum_zero (l : List UInt8) (k : Nat) (h : l.length ≤ k) : wsum (l.drop k) = 0 := by
  rw [List.drop_eq_nil_of_le h, wsum]
theorem wsum_pad : ∀ l : List UInt8, l.length % 2 = 1 → wsum (l ++ [0]) = wsum l
  | [], h => by simp at h
  | [a], _ => by simp [wsum]
  | a :: b :: r, h => by
    have := wsum_pad r (by simp at h; omega)
    simp only [List.cons_append, wsum]; omega
theorem hide {p : Prop} (h : p) : Hid p := h
theorem unhide {p : Prop} (h : Hid p) : p := h
theorem ret_int {k : IntKind} {a b : Int} (h : a = b) : Ending.returned (.int k a) = .returned (.int k b) := by rw [h]
theorem u16_word (a b : Nat) (ha : a < 256) (hb : b < 256) :
    bits .or .u16 ((a : Int) * 256) (b : Int) = 256 * (a : Int) + (b : Int) := by
  have e1 : (a : Int) * 256 = ((256 * a : Nat) : Int) := by omega
  rw [e1, u16_or_nat _ _ (by omega) (by omega), nat_join 8 _ _ (by omega) (by omega)]
  omega
theorem nat_not16 (a : Nat) (h : a < 65536) : 65535 ^^^ a = 65535 - a := by
  have e := congrArg BitVec.toNat (BitVec.xor_allOnes (x := BitVec.ofNat 16 a))
  rw [BitVec.toNat_xor, BitVec.toNat_not, BitVec.toNat_ofNat, BitVec.toNat_allOnes] at e
  rw [Nat.mod_eq_of_lt (by omega : a < 2 ^ 16)] at e
  rw [Nat.xor_comm]
  simpa using e
theorem u16_not (c : Int) (h0 : 0 ≤ c) (h1 : c ≤ 65535) : bits .xor .u16 IntKind.u16.max c = 65535 - c := by
  have e : IntKind.u16.max = 65535 := by decide
  rw [e, u16_xor 65535 c (by omega) (by omega) h0 (by omega)]
  rw [show (65535 : Int).toNat = 65535 from rfl, nat_not16 c.toNat (by omega)]
  omega
theorem step_lt (c x : Int) (h0 : 0 ≤ c) (h1 : c ≤ 65535) (h2 : 0 ≤ x) (h3 : x ≤ 65535) (h : IntKind.u16.wrap (c + x) < x) :
    65536 ≤ c + x ∧ IntKind.u16.wrap (IntKind.u16.wrap (c + x) + 1) = c + x - 65535 := by
  simp only [IntKind.wrap_u16] at *; omega
theorem step_ge (c x : Int) (h0 : 0 ≤ c) (h1 : c ≤ 65535) (h2 : 0 ≤ x) (h3 : x ≤ 65535) (h : x ≤ IntKind.u16.wrap (c + x)) :
    c + x ≤ 65535 ∧ IntKind.u16.wrap (c + x) = c + x := by
  simp only [IntKind.wrap_u16] at *; omega
end Go.Proofs.YtbhbbeebncmaiaaGreatDoor.Chk
namespace Go.Proofs.YtbhbbeebncmaiaaGreatDoor.Chk
set_option linter.unusedVariables false
open Go.ChangeShapes Go.WideShapes Go.ChangeAt Go.RowKit
theorem end_lt (c x r t : Int) (h0 : 0 ≤ c) (h1 : c ≤ 65535) (h2 : 0 ≤ x) (h3 : x ≤ 65535) (hr : 0 ≤ r) (h : IntKind.u16.wrap (c + x) < x) (hf : fold (c + (x + r)) = t) :
    0 ≤ IntKind.u16.wrap (IntKind.u16.wrap (c + x) + 1) ∧ IntKind.u16.wrap (IntKind.u16.wrap (c + x) + 1) ≤ 65535 ∧ fold (IntKind.u16.wrap (IntKind.u16.wrap (c + x) + 1) + r) = t := by
  obtain ⟨a, b⟩ := step_lt c x h0 h1 h2 h3 h
  rw [b]
  exact ⟨by omega, by omega, by rw [fold_wrap c x r h0 h2 a hr]; exact hf⟩
theorem end_ge (c x r t : Int) (h0 : 0 ≤ c) (h1 : c ≤ 65535) (h2 : 0 ≤ x) (h3 : x ≤ 65535) (h : x ≤ IntKind.u16.wrap (c + x)) (hf : fold (c + (x + r)) = t) :
    0 ≤ IntKind.u16.wrap (c + x) ∧ IntKind.u16.wrap (c + x) ≤ 65535 ∧ fold (IntKind.u16.wrap (c + x) + r) = t := by
  obtain ⟨a, b⟩ := step_ge c x h0 h1 h2 h3 h
  rw [b]
  exact ⟨by omega, by omega, by rw [Int.add_assoc]; exact hf⟩

set_option maxHeartbeats 400000 in
theorem wire_check (s : ByteArray) (w : World) (hs : s.size ≤ 1099511627776) :
    Calls Tryz.prog 240 #[.string s] w fun e w' => e = .returned (.int .u16 (65535 - fold (wsum s.data.toList))) ∧ w' = w := by
  have hlen : Hid (s.data.toList.length = s.size) := hide (by rw [Array.length_toList]; rfl)
  go_enter Tryz.func240, Tryz.ntmps240
  go_wp2
  go_loop [3, 4] (fun n i => ∃ (k : Nat) (c : Int), k ≤ s.size + 1 ∧ 0 ≤ c ∧ c ≤ 65535 ∧ i = .int .i64 k ∧ n = .int .u16 c ∧ Hid (fold (c + wsum (s.data.toList.drop k)) = fold (wsum s.data.toList))) (fun _ i => s.size + 1 - (intOf i).toNat)
  case atStart => exact ⟨0, 0, Nat.zero_le _, by omega, by omega, rfl, rfl, hide (by simp)⟩
  case round =>
    obtain ⟨k, c, hk, hc0, hc1, rfl, rfl, HF⟩ := hrel
    by_cases hlt : k < s.size
    · by_cases hlt1 : k + 1 < s.size
      · have ha : s[k].toNat < 256 := s[k].toNat_lt
        have hb : s[k + 1].toNat < 256 := s[k + 1].toNat_lt
        have HW := hide (u16_word s[k].toNat s[k + 1].toNat ha hb)
        have hr := wsum_nonneg (s.data.toList.drop (k + 2))
        have HT : Hid (fold (c + (256 * (s[k].toNat : Int) + (s[k + 1].toNat : Int) + wsum (s.data.toList.drop (k + 2)))) = fold (wsum s.data.toList)) := by
          have e := wsum_two s.data.toList k (by rw [unhide hlen]; exact hlt1)
          rw [← unhide HF, e]; rfl
        go_wp2
        · rename_i hcmp
          rw [unhide HW] at hcmp
          obtain ⟨e1, e2, e3⟩ := end_lt c _ _ _ hc0 hc1 (by omega) (by omega) hr hcmp (unhide HT)
          go_round
          case rel => rw [unhide HW]; exact ⟨k + 2, _, by omega, e1, e2, by go_num, rfl, hide e3⟩
          case measure => simp [intOf]; omega
        · rename_i hcmp
          rw [unhide HW] at hcmp
          obtain ⟨e1, e2, e3⟩ := end_ge c _ _ _ hc0 hc1 (by omega) (by omega) hcmp (unhide HT)
          go_round
          case rel => rw [unhide HW]; exact ⟨k + 2, _, by omega, e1, e2, by go_num, rfl, hide e3⟩
          case measure => simp [intOf]; omega
      · have ha : s[k].toNat < 256 := s[k].toNat_lt
        have HT : Hid (fold (c + ((s[k].toNat : Int) * 256 + 0)) = fold (wsum s.data.toList)) := by
          have e := wsum_one s.data.toList k (by rw [unhide hlen]; omega)
          rw [← unhide HF, e]; show fold _ = fold _; congr 1; show _ = c + 256 * (s[k].toNat : Int); omega
        have HZ := hide (wsum_zero s.data.toList (k + 2) (by rw [unhide hlen]; omega))
        go_wp2
        · rename_i hcmp
          obtain ⟨e1, e2, e3⟩ := end_lt c _ _ _ hc0 hc1 (by omega) (by omega) (by omega) hcmp (unhide HT)
          go_round
          case rel => exact ⟨k + 2, _, by omega, e1, e2, by go_num, rfl, hide (by rw [unhide HZ]; exact e3)⟩
          case measure => simp [intOf]; omega
        · rename_i hcmp
          obtain ⟨e1, e2, e3⟩ := end_ge c _ _ _ hc0 hc1 (by omega) (by omega) hcmp (unhide HT)
          go_round
          case rel => exact ⟨k + 2, _, by omega, e1, e2, by go_num, rfl, hide (by rw [unhide HZ]; exact e3)⟩
          case measure => simp [intOf]; omega
    · go_wp2
      go_ret
      refine ⟨ret_int ?_, rfl⟩
      rw [u16_not c hc0 hc1, ← unhide HF, wsum_zero _ _ (by rw [unhide hlen]; omega), fold_small _ (by omega) (by omega)]
      omega
end Go.Proofs.YtbhbbeebncmaiaaGreatDoor.Chk
namespace Go.Proofs.YtbhbbeebncmaiaaGreatDoor.Dh
set_option linter.unusedVariables false
def opt8 (c : UInt8) (d : List UInt8) : List UInt8 :=
  if 255 < d.length then c :: 255 :: (d.take 255 ++ opt8 c (d.drop 255)) else c :: UInt8.ofNat d.length :: d
termination_by d.length
decreasing_by simp; omega
theorem opt8_long (c : UInt8) (d : List UInt8) (h : 255 < d.length) : opt8 c d = c :: 255 :: (d.take 255 ++ opt8 c (d.drop 255)) := by
  rw [opt8, if_pos h]
theorem opt8_short (c : UInt8) (d : List UInt8) (h : ¬ 255 < d.length) : opt8 c d = c :: UInt8.ofNat d.length :: d := by
  rw [opt8, if_neg h]
theorem opt8_length (c : UInt8) (d : List UInt8) : (opt8 c d).length ≤ 2 * d.length + 2 := by
  by_cases h : 255 < d.length
  · have ih := opt8_length c (d.drop 255)
    rw [opt8_long c d h]
    simp only [List.length_cons, List.length_append, List.length_take, List.length_drop] at ih ⊢
    omega
  · rw [opt8_short c d h]
    simp only [List.length_cons]; omega
termination_by d.length
decreasing_by simp; omega
abbrev Pc := UInt8 × List UInt8
abbrev Opts := List Pc
def opts8 (os : Opts) : List UInt8 := os.flatMap fun o => opt8 o.1 o.2
theorem opts8_take (os : Opts) (k : Nat) (h : k < os.length) : opts8 (os.take (k + 1)) = opts8 (os.take k) ++ opt8 os[k].1 os[k].2 := by
  rw [opts8, List.take_succ_eq_append_getElem h, List.flatMap_append]
  simp [opts8]
theorem opts8_le (os : Opts) (k : Nat) : (opts8 (os.take k)).length ≤ (opts8 os).length := by
  have e : opts8 os = opts8 (os.take k) ++ opts8 (os.drop k) := by
    rw [opts8, opts8, opts8, ← List.flatMap_append, List.take_append_drop]
  rw [e, List.length_append]; omega
def heavy (os : Opts) : Nat := os.length + (os.map fun o => o.2.length).sum
theorem opts8_heavy (os : Opts) : (opts8 os).length ≤ 2 * heavy os := by
  induction os with
  | nil => simp [opts8, heavy]
  | cons o r ih =>
    have h := opt8_length o.1 o.2
    simp only [opts8, heavy, List.flatMap_cons, List.length_append, List.length_cons, List.map_cons, List.sum_cons] at ih ⊢
    omega
theorem heavy_take (os : Opts) (k : Nat) (h : k < os.length) : heavy (os.take (k + 1)) = heavy (os.take k) + 1 + os[k].2.length := by
  simp only [heavy, List.take_succ_eq_append_getElem h, List.map_append, List.sum_append, List.length_append, List.length_cons, List.length_nil, List.map_cons, List.map_nil, List.sum_cons, List.sum_nil]
  omega
theorem heavy_le (os : Opts) (k : Nat) : heavy (os.take k) ≤ heavy os := by
  have e : heavy os = heavy (os.take k) + heavy (os.drop k) := by
    have q : heavy (os.take k ++ os.drop k) = heavy (os.take k) + heavy (os.drop k) := by
      simp only [heavy, List.map_append, List.sum_append, List.length_append]; omega
    rwa [List.take_append_drop] at q
  omega
theorem heavy_one (os : Opts) (k : Nat) (h : k < os.length) : os[k].2.length ≤ heavy os := by
  have := heavy_take os k h
  have := heavy_le os (k + 1)
  omega
def badC (c : UInt8) : Bool := c.toNat == 0 || c.toNat == 52 || c.toNat == 255
def bad (os : Opts) : Bool := os.any fun o => badC o.1
theorem bad_at {os : Opts} {k : Nat} (h : k < os.length) (hb : badC os[k].1 = true) : bad os = true := by
  simp only [bad, List.any_eq_true]
  exact ⟨os[k], List.getElem_mem h, hb⟩
theorem bad_take {os : Opts} {k : Nat} (h : k < os.length) (h0 : bad (os.take k) = false) (hb : badC os[k].1 = false) : bad (os.take (k + 1)) = false := by
  rw [List.take_succ_eq_append_getElem h]
  simp only [bad, List.any_append, List.any_cons, List.any_nil, Bool.or_false] at h0 ⊢
  rw [h0, hb]; rfl
end Go.Proofs.YtbhbbeebncmaiaaGreatDoor.Dh
namespace Go.Proofs.YtbhbbeebncmaiaaGreatDoor.Dh
set_option linter.unusedVariables false
def data (l : List Pc) (c : UInt8) : List UInt8 := (l.filter fun p => p.1 == c).flatMap fun p => p.2
end Go.Proofs.YtbhbbeebncmaiaaGreatDoor.Dh
namespace Go.Proofs.YtbhbbeebncmaiaaGreatDoor.Tf
set_option linter.unusedVariables false
def okC (c : UInt8) : Bool := decide (33 ≤ c.toNat ∧ c.toNat ≤ 126)
def nameB (l : List UInt8) : Bool := !l.isEmpty && l.all okC
end Go.Proofs.YtbhbbeebncmaiaaGreatDoor.Tf

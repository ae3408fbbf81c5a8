import Derived.Test.YtbhbbeebncmaiaaGreatDoorMgZ48
import Derived.Test.YtbhbbeebncmaiaaGreatDoorMgZ32
namespace Go.Proofs.YtbhbbeebncmaiaaGreatDoor.Ref
open Go.ChangeShapes Go.WideShapes Go.ChangeAt Go.RowKit Bs Mac
open Tf (nameB okC idx_get all_bad all_take)
set_option linter.unusedVariables false
set_option linter.unusedSimpArgs false
theorem within_any (n a b : Int) (w : World) : Calls Tryz.prog 31 #[.int .i64 n, .int .i64 a, .int .i64 b] w fun e w' => e = .returned (.bool (decide (a ≤ n) && decide (n ≤ b))) ∧ w' = w := by
  by_cases h1 : a ≤ n
  · have e : (decide (a ≤ n) && decide (n ≤ b)) = decide (n ≤ b) := by simp [h1]
    rw [e]
    clear e
    go_enter Tryz.func31, Tryz.ntmps31
    go_wp2
    go_ret
    exact ⟨rfl, rfl⟩
  · have e : (decide (a ≤ n) && decide (n ≤ b)) = false := by simp [h1]
    rw [e]
    clear e
    go_enter Tryz.func31, Tryz.ntmps31
    go_wp2
    go_ret
    exact ⟨rfl, rfl⟩
theorem within_yes (n a b : Int) (w : World) (h : a ≤ n ∧ n ≤ b) : Calls Tryz.prog 31 #[.int .i64 n, .int .i64 a, .int .i64 b] w fun e w' => e = .returned (.bool true) ∧ w' = w := by
  have q := within_any n a b w
  have e : (decide (a ≤ n) && decide (n ≤ b)) = true := by simp [h.1, h.2]
  rw [e] at q
  exact q
theorem within_no (n a b : Int) (w : World) (h : ¬ (a ≤ n ∧ n ≤ b)) : Calls Tryz.prog 31 #[.int .i64 n, .int .i64 a, .int .i64 b] w fun e w' => e = .returned (.bool false) ∧ w' = w := by
  have q := within_any n a b w
  have e : (decide (a ≤ n) && decide (n ≤ b)) = false := by
    rw [← Bool.not_eq_true, Bool.and_eq_true, decide_eq_true_eq, decide_eq_true_eq]; exact h
  rw [e] at q
  exact q
set_option maxHeartbeats 1000000 in
theorem word_is (s : ByteArray) (l : List UInt8) (w : World) (hsl : s.data.toList = l) (hl : l.length ≤ 9223372036854775806) :
    Calls Tryz.prog 32 #[.string s] w fun e w' => e = .returned (.bool (nameB l)) ∧ w = w' := by
  have hz : s.size = l.length := by rw [← hsl, Array.length_toList]; rfl
  have HIX := hide (fun k hk u => idx_get s l hsl k hk u)
  clear hsl
  go_enter Tryz.func32, Tryz.ntmps32
  go_wp2
  go_loop [3] (fun i => ∃ k : Nat, k ≤ l.length ∧ i = .int .i64 k ∧ Hid ((l.take k).all okC = true)) (fun i => l.length - (intOf i).toNat)
  case atStart => exact ⟨0, Nat.zero_le _, rfl, hide rfl⟩
  case round =>
    obtain ⟨k, hk, rfl, HA⟩ := hrel
    by_cases hlt : k < l.length
    · have x0 := unhide HIX k hlt
      have hlt' : (k : Int) < (l.length : Int) := by omega
      have l0 := (l.getD k 0).toNat_lt
      have hcd : okC (l.getD k 0) = decide (33 ≤ (l.getD k 0).toNat ∧ (l.getD k 0).toNat ≤ 126) := rfl
      have HBAD := hide (fun h => all_bad (l := l) hlt h)
      have HOK := hide (fun h => all_take (l := l) hlt (unhide HA) h)
      obtain ⟨c, hc⟩ : ∃ c, c = l.getD k 0 := ⟨_, rfl⟩
      rw [← hc] at x0 l0 hcd HBAD HOK
      obtain ⟨y, hy⟩ : ∃ y : Nat, y = c.toNat := ⟨_, rfl⟩
      rw [← hy] at x0 l0 hcd
      have HC := hide hcd
      clear hc hcd
      by_cases h33 : y < 33
      · have g0 : (y : Int) < 33 := by omega
        have HN : Hid (nameB l = false) := hide (unhide HBAD (by rw [unhide HC, decide_eq_false_iff_not]; omega))
        clear HBAD HOK hy
        go_wp2
        go_ret
        exact ⟨by rw [unhide HN]; rfl, rfl⟩
      · have g0 : ¬ (y : Int) < 33 := by omega
        by_cases h126 : 126 < y
        · have g1 : (126 : Int) < (y : Int) := by omega
          have HN : Hid (nameB l = false) := hide (unhide HBAD (by rw [unhide HC, decide_eq_false_iff_not]; omega))
          clear HBAD HOK hy
          go_wp2
          go_ret
          exact ⟨by rw [unhide HN]; rfl, rfl⟩
        · have g1 : ¬ (126 : Int) < (y : Int) := by omega
          have HN : Hid ((l.take (k + 1)).all okC = true) := hide (unhide HOK (by rw [unhide HC, decide_eq_true_eq]; omega))
          clear HBAD HOK hy
          go_wp2
          go_round
          case rel => exact ⟨k + 1, by omega, by go_num, HN⟩
          case measure => simp [intOf]; omega
    · have hlt' : ¬ (k : Int) < (l.length : Int) := by omega
      have HN : Hid (nameB l = decide (0 < l.length)) := hide (by
        have q := unhide HA
        rw [List.take_of_length_le (by omega)] at q
        unfold nameB; rw [q, Bool.and_true]
        cases l with
        | nil => rfl
        | cons a r => simp)
      go_wp2
      go_ret
      exact ⟨by rw [unhide HN]; rfl, rfl⟩

theorem word_val (s : ByteArray) (b : Bool) (w : World) (hb : Tf.nameB s.data.toList = b) (hl : s.size ≤ 9223372036854775806) : Calls Tryz.prog 32 #[.string s] w fun e w' => e = .returned (.bool b) ∧ w' = w := by
  have q := word_is s _ w rfl (by rw [Array.length_toList]; exact hl)
  rw [hb] at q
  refine q.mono ?_
  rintro e u ⟨h1, h2⟩
  exact ⟨h1, h2.symm⟩


def rf0 (tv : Value) (k0 k1 k2 k3 k4 k5 : UInt8) (name : ByteArray) (cap : Int) (dig : ByteArray) (blk win : Int) (rx tx : Nat) : Rf := ⟨tv, k0, k1, k2, k3, k4, k5, name, cap, dig, blk, win, rx, tx, .slice none 0 0, .slice none 0 0, 0, 0, 0, 0, 0, .slice none 0 0, 0, 0, 0, 0, 0, 0, 0, 0, 0, 0, 0, 0, 0, 0, 0, 0, 0, 0, 0, 0, 0, 0, ⟨#[]⟩, .slice none 0 0, [], []⟩

set_option maxHeartbeats 2000000 in
set_option maxRecDepth 10000 in
theorem new_0 (tb : Nat) (k0 k1 k2 k3 k4 k5 : UInt8) (name : ByteArray) (cap : Int) (dig : ByteArray) (blk win rx tx : Int) (g0 : ¬ (1 ≤ (name.size : Int) ∧ (name.size : Int) ≤ 20)) (w : World) : Calls Tryz.prog 16 #[.pointer (some ⟨tb, 0, none⟩), .agg #[.int .u8 k0.toNat, .int .u8 k1.toNat, .int .u8 k2.toNat, .int .u8 k3.toNat, .int .u8 k4.toNat, .int .u8 k5.toNat, .string name, .int .i64 cap, .string dig, .int .i64 blk, .int .i64 win, .int .i64 rx, .int .i64 tx]] w fun e w' => e = .returned (.tuple #[.pointer none, .bool false]) ∧ Below w.heap.size w w' := by
  have H0 := fun u => hide (within_no (name.size : Int) 1 20 u g0)
  clear g0
  go_enter Tryz.func16, Tryz.ntmps16
  go_wp2_with fail
  refine (unhide (H0 _)).mono ?_
  rintro ee u ⟨rfl, rfl⟩
  go_wp2
  go_ret2
  exact ⟨rfl, (Below.refl w.heap.size w).alloc (Nat.le_refl _) _⟩

set_option maxHeartbeats 2000000 in
set_option maxRecDepth 10000 in
theorem new_1 (tb : Nat) (k0 k1 k2 k3 k4 k5 : UInt8) (name : ByteArray) (cap : Int) (dig : ByteArray) (blk win rx tx : Int) (g0 : 1 ≤ (name.size : Int) ∧ (name.size : Int) ≤ 20) (g1 : Tf.nameB name.data.toList = false) (w : World) : Calls Tryz.prog 16 #[.pointer (some ⟨tb, 0, none⟩), .agg #[.int .u8 k0.toNat, .int .u8 k1.toNat, .int .u8 k2.toNat, .int .u8 k3.toNat, .int .u8 k4.toNat, .int .u8 k5.toNat, .string name, .int .i64 cap, .string dig, .int .i64 blk, .int .i64 win, .int .i64 rx, .int .i64 tx]] w fun e w' => e = .returned (.tuple #[.pointer none, .bool false]) ∧ Below w.heap.size w w' := by
  have H0 := fun u => hide (within_yes (name.size : Int) 1 20 u g0)
  have H1 := fun u => hide (word_val name false u g1 (by have := g0.2; omega))
  clear g0 g1
  go_enter Tryz.func16, Tryz.ntmps16
  go_wp2_with fail
  refine (unhide (H0 _)).mono ?_
  rintro ee u ⟨rfl, rfl⟩
  go_wp2_with fail
  refine (unhide (H1 _)).mono ?_
  rintro ee u ⟨rfl, rfl⟩
  go_wp2
  go_ret2
  exact ⟨rfl, (Below.refl w.heap.size w).alloc (Nat.le_refl _) _⟩

set_option maxHeartbeats 2000000 in
set_option maxRecDepth 10000 in
theorem new_2 (tb : Nat) (k0 k1 k2 k3 k4 k5 : UInt8) (name : ByteArray) (cap : Int) (dig : ByteArray) (blk win rx tx : Int) (g0 : 1 ≤ (name.size : Int) ∧ (name.size : Int) ≤ 20) (g1 : Tf.nameB name.data.toList = true) (g2 : ¬ dig.size = 32) (w : World) : Calls Tryz.prog 16 #[.pointer (some ⟨tb, 0, none⟩), .agg #[.int .u8 k0.toNat, .int .u8 k1.toNat, .int .u8 k2.toNat, .int .u8 k3.toNat, .int .u8 k4.toNat, .int .u8 k5.toNat, .string name, .int .i64 cap, .string dig, .int .i64 blk, .int .i64 win, .int .i64 rx, .int .i64 tx]] w fun e w' => e = .returned (.tuple #[.pointer none, .bool false]) ∧ Below w.heap.size w w' := by
  have H0 := fun u => hide (within_yes (name.size : Int) 1 20 u g0)
  have H1 := fun u => hide (word_val name true u g1 (by have := g0.2; omega))
  have hd : ((dig.size : Int) == 32) = false := by (rw [beq_eq_false_iff_ne]; intro e; exact g2 (by omega))
  clear g0 g1 g2
  go_enter Tryz.func16, Tryz.ntmps16
  go_wp2_with fail
  refine (unhide (H0 _)).mono ?_
  rintro ee u ⟨rfl, rfl⟩
  go_wp2_with fail
  refine (unhide (H1 _)).mono ?_
  rintro ee u ⟨rfl, rfl⟩
  go_wp2
  go_ret2
  exact ⟨rfl, (Below.refl w.heap.size w).alloc (Nat.le_refl _) _⟩

set_option maxHeartbeats 2000000 in
set_option maxRecDepth 10000 in
theorem new_3 (tb : Nat) (k0 k1 k2 k3 k4 k5 : UInt8) (name : ByteArray) (cap : Int) (dig : ByteArray) (blk win rx tx : Int) (g0 : 1 ≤ (name.size : Int) ∧ (name.size : Int) ≤ 20) (g1 : Tf.nameB name.data.toList = true) (g2 : dig.size = 32) (g3 : ¬ (1 ≤ cap ∧ cap ≤ 600000)) (w : World) : Calls Tryz.prog 16 #[.pointer (some ⟨tb, 0, none⟩), .agg #[.int .u8 k0.toNat, .int .u8 k1.toNat, .int .u8 k2.toNat, .int .u8 k3.toNat, .int .u8 k4.toNat, .int .u8 k5.toNat, .string name, .int .i64 cap, .string dig, .int .i64 blk, .int .i64 win, .int .i64 rx, .int .i64 tx]] w fun e w' => e = .returned (.tuple #[.pointer none, .bool false]) ∧ Below w.heap.size w w' := by
  have H0 := fun u => hide (within_yes (name.size : Int) 1 20 u g0)
  have H1 := fun u => hide (word_val name true u g1 (by have := g0.2; omega))
  have hd : ((dig.size : Int) == 32) = true := by simp [g2]
  have H3 := fun u => hide (within_no cap 1 600000 u g3)
  clear g0 g1 g2 g3
  go_enter Tryz.func16, Tryz.ntmps16
  go_wp2_with fail
  refine (unhide (H0 _)).mono ?_
  rintro ee u ⟨rfl, rfl⟩
  go_wp2_with fail
  refine (unhide (H1 _)).mono ?_
  rintro ee u ⟨rfl, rfl⟩
  go_wp2_with fail
  refine (unhide (H3 _)).mono ?_
  rintro ee u ⟨rfl, rfl⟩
  go_wp2
  go_ret2
  exact ⟨rfl, (Below.refl w.heap.size w).alloc (Nat.le_refl _) _⟩

set_option maxHeartbeats 2000000 in
set_option maxRecDepth 10000 in
theorem new_4 (tb : Nat) (k0 k1 k2 k3 k4 k5 : UInt8) (name : ByteArray) (cap : Int) (dig : ByteArray) (blk win rx tx : Int) (g0 : 1 ≤ (name.size : Int) ∧ (name.size : Int) ≤ 20) (g1 : Tf.nameB name.data.toList = true) (g2 : dig.size = 32) (g3 : 1 ≤ cap ∧ cap ≤ 600000) (g4 : ¬ (8 ≤ blk ∧ blk ≤ 1024)) (w : World) : Calls Tryz.prog 16 #[.pointer (some ⟨tb, 0, none⟩), .agg #[.int .u8 k0.toNat, .int .u8 k1.toNat, .int .u8 k2.toNat, .int .u8 k3.toNat, .int .u8 k4.toNat, .int .u8 k5.toNat, .string name, .int .i64 cap, .string dig, .int .i64 blk, .int .i64 win, .int .i64 rx, .int .i64 tx]] w fun e w' => e = .returned (.tuple #[.pointer none, .bool false]) ∧ Below w.heap.size w w' := by
  have H0 := fun u => hide (within_yes (name.size : Int) 1 20 u g0)
  have H1 := fun u => hide (word_val name true u g1 (by have := g0.2; omega))
  have hd : ((dig.size : Int) == 32) = true := by simp [g2]
  have H3 := fun u => hide (within_yes cap 1 600000 u g3)
  have H4 := fun u => hide (within_no blk 8 1024 u g4)
  clear g0 g1 g2 g3 g4
  go_enter Tryz.func16, Tryz.ntmps16
  go_wp2_with fail
  refine (unhide (H0 _)).mono ?_
  rintro ee u ⟨rfl, rfl⟩
  go_wp2_with fail
  refine (unhide (H1 _)).mono ?_
  rintro ee u ⟨rfl, rfl⟩
  go_wp2_with fail
  refine (unhide (H3 _)).mono ?_
  rintro ee u ⟨rfl, rfl⟩
  go_wp2_with fail
  refine (unhide (H4 _)).mono ?_
  rintro ee u ⟨rfl, rfl⟩
  go_wp2
  go_ret2
  exact ⟨rfl, (Below.refl w.heap.size w).alloc (Nat.le_refl _) _⟩

set_option maxHeartbeats 2000000 in
set_option maxRecDepth 10000 in
theorem new_5 (tb : Nat) (k0 k1 k2 k3 k4 k5 : UInt8) (name : ByteArray) (cap : Int) (dig : ByteArray) (blk win rx tx : Int) (g0 : 1 ≤ (name.size : Int) ∧ (name.size : Int) ≤ 20) (g1 : Tf.nameB name.data.toList = true) (g2 : dig.size = 32) (g3 : 1 ≤ cap ∧ cap ≤ 600000) (g4 : 8 ≤ blk ∧ blk ≤ 1024) (g5 : ¬ (1 ≤ win ∧ win ≤ 8)) (w : World) : Calls Tryz.prog 16 #[.pointer (some ⟨tb, 0, none⟩), .agg #[.int .u8 k0.toNat, .int .u8 k1.toNat, .int .u8 k2.toNat, .int .u8 k3.toNat, .int .u8 k4.toNat, .int .u8 k5.toNat, .string name, .int .i64 cap, .string dig, .int .i64 blk, .int .i64 win, .int .i64 rx, .int .i64 tx]] w fun e w' => e = .returned (.tuple #[.pointer none, .bool false]) ∧ Below w.heap.size w w' := by
  have H0 := fun u => hide (within_yes (name.size : Int) 1 20 u g0)
  have H1 := fun u => hide (word_val name true u g1 (by have := g0.2; omega))
  have hd : ((dig.size : Int) == 32) = true := by simp [g2]
  have H3 := fun u => hide (within_yes cap 1 600000 u g3)
  have H4 := fun u => hide (within_yes blk 8 1024 u g4)
  have H5 := fun u => hide (within_no win 1 8 u g5)
  clear g0 g1 g2 g3 g4 g5
  go_enter Tryz.func16, Tryz.ntmps16
  go_wp2_with fail
  refine (unhide (H0 _)).mono ?_
  rintro ee u ⟨rfl, rfl⟩
  go_wp2_with fail
  refine (unhide (H1 _)).mono ?_
  rintro ee u ⟨rfl, rfl⟩
  go_wp2_with fail
  refine (unhide (H3 _)).mono ?_
  rintro ee u ⟨rfl, rfl⟩
  go_wp2_with fail
  refine (unhide (H4 _)).mono ?_
  rintro ee u ⟨rfl, rfl⟩
  go_wp2_with fail
  refine (unhide (H5 _)).mono ?_
  rintro ee u ⟨rfl, rfl⟩
  go_wp2
  go_ret2
  exact ⟨rfl, (Below.refl w.heap.size w).alloc (Nat.le_refl _) _⟩

set_option maxHeartbeats 2000000 in
set_option maxRecDepth 10000 in
theorem new_6 (tb : Nat) (k0 k1 k2 k3 k4 k5 : UInt8) (name : ByteArray) (cap : Int) (dig : ByteArray) (blk win rx tx : Int) (g0 : 1 ≤ (name.size : Int) ∧ (name.size : Int) ≤ 20) (g1 : Tf.nameB name.data.toList = true) (g2 : dig.size = 32) (g3 : 1 ≤ cap ∧ cap ≤ 600000) (g4 : 8 ≤ blk ∧ blk ≤ 1024) (g5 : 1 ≤ win ∧ win ≤ 8) (g6 : ¬ (1 ≤ rx ∧ rx ≤ 16)) (w : World) : Calls Tryz.prog 16 #[.pointer (some ⟨tb, 0, none⟩), .agg #[.int .u8 k0.toNat, .int .u8 k1.toNat, .int .u8 k2.toNat, .int .u8 k3.toNat, .int .u8 k4.toNat, .int .u8 k5.toNat, .string name, .int .i64 cap, .string dig, .int .i64 blk, .int .i64 win, .int .i64 rx, .int .i64 tx]] w fun e w' => e = .returned (.tuple #[.pointer none, .bool false]) ∧ Below w.heap.size w w' := by
  have H0 := fun u => hide (within_yes (name.size : Int) 1 20 u g0)
  have H1 := fun u => hide (word_val name true u g1 (by have := g0.2; omega))
  have hd : ((dig.size : Int) == 32) = true := by simp [g2]
  have H3 := fun u => hide (within_yes cap 1 600000 u g3)
  have H4 := fun u => hide (within_yes blk 8 1024 u g4)
  have H5 := fun u => hide (within_yes win 1 8 u g5)
  have H6 := fun u => hide (within_no rx 1 16 u g6)
  clear g0 g1 g2 g3 g4 g5 g6
  go_enter Tryz.func16, Tryz.ntmps16
  go_wp2_with fail
  refine (unhide (H0 _)).mono ?_
  rintro ee u ⟨rfl, rfl⟩
  go_wp2_with fail
  refine (unhide (H1 _)).mono ?_
  rintro ee u ⟨rfl, rfl⟩
  go_wp2_with fail
  refine (unhide (H3 _)).mono ?_
  rintro ee u ⟨rfl, rfl⟩
  go_wp2_with fail
  refine (unhide (H4 _)).mono ?_
  rintro ee u ⟨rfl, rfl⟩
  go_wp2_with fail
  refine (unhide (H5 _)).mono ?_
  rintro ee u ⟨rfl, rfl⟩
  go_wp2_with fail
  refine (unhide (H6 _)).mono ?_
  rintro ee u ⟨rfl, rfl⟩
  go_wp2
  go_ret2
  exact ⟨rfl, (Below.refl w.heap.size w).alloc (Nat.le_refl _) _⟩

set_option maxHeartbeats 2000000 in
set_option maxRecDepth 10000 in
theorem new_7 (tb : Nat) (k0 k1 k2 k3 k4 k5 : UInt8) (name : ByteArray) (cap : Int) (dig : ByteArray) (blk win rx tx : Int) (g0 : 1 ≤ (name.size : Int) ∧ (name.size : Int) ≤ 20) (g1 : Tf.nameB name.data.toList = true) (g2 : dig.size = 32) (g3 : 1 ≤ cap ∧ cap ≤ 600000) (g4 : 8 ≤ blk ∧ blk ≤ 1024) (g5 : 1 ≤ win ∧ win ≤ 8) (g6 : 1 ≤ rx ∧ rx ≤ 16) (g7 : ¬ (1 ≤ tx ∧ tx ≤ 16)) (w : World) : Calls Tryz.prog 16 #[.pointer (some ⟨tb, 0, none⟩), .agg #[.int .u8 k0.toNat, .int .u8 k1.toNat, .int .u8 k2.toNat, .int .u8 k3.toNat, .int .u8 k4.toNat, .int .u8 k5.toNat, .string name, .int .i64 cap, .string dig, .int .i64 blk, .int .i64 win, .int .i64 rx, .int .i64 tx]] w fun e w' => e = .returned (.tuple #[.pointer none, .bool false]) ∧ Below w.heap.size w w' := by
  have H0 := fun u => hide (within_yes (name.size : Int) 1 20 u g0)
  have H1 := fun u => hide (word_val name true u g1 (by have := g0.2; omega))
  have hd : ((dig.size : Int) == 32) = true := by simp [g2]
  have H3 := fun u => hide (within_yes cap 1 600000 u g3)
  have H4 := fun u => hide (within_yes blk 8 1024 u g4)
  have H5 := fun u => hide (within_yes win 1 8 u g5)
  have H6 := fun u => hide (within_yes rx 1 16 u g6)
  have H7 := fun u => hide (within_no tx 1 16 u g7)
  clear g0 g1 g2 g3 g4 g5 g6 g7
  go_enter Tryz.func16, Tryz.ntmps16
  go_wp2_with fail
  refine (unhide (H0 _)).mono ?_
  rintro ee u ⟨rfl, rfl⟩
  go_wp2_with fail
  refine (unhide (H1 _)).mono ?_
  rintro ee u ⟨rfl, rfl⟩
  go_wp2_with fail
  refine (unhide (H3 _)).mono ?_
  rintro ee u ⟨rfl, rfl⟩
  go_wp2_with fail
  refine (unhide (H4 _)).mono ?_
  rintro ee u ⟨rfl, rfl⟩
  go_wp2_with fail
  refine (unhide (H5 _)).mono ?_
  rintro ee u ⟨rfl, rfl⟩
  go_wp2_with fail
  refine (unhide (H6 _)).mono ?_
  rintro ee u ⟨rfl, rfl⟩
  go_wp2_with fail
  refine (unhide (H7 _)).mono ?_
  rintro ee u ⟨rfl, rfl⟩
  go_wp2
  go_ret2
  exact ⟨rfl, (Below.refl w.heap.size w).alloc (Nat.le_refl _) _⟩

set_option maxHeartbeats 2000000 in
set_option maxRecDepth 10000 in
theorem new_8 (tb : Nat) (k0 k1 k2 k3 k4 k5 : UInt8) (name : ByteArray) (cap : Int) (dig : ByteArray) (blk win rx tx : Int) (g0 : 1 ≤ (name.size : Int) ∧ (name.size : Int) ≤ 20) (g1 : Tf.nameB name.data.toList = true) (g2 : dig.size = 32) (g3 : 1 ≤ cap ∧ cap ≤ 600000) (g4 : 8 ≤ blk ∧ blk ≤ 1024) (g5 : 1 ≤ win ∧ win ≤ 8) (g6 : 1 ≤ rx ∧ rx ≤ 16) (g7 : 1 ≤ tx ∧ tx ≤ 16) (g8 : (k0.toNat == 0 && k1.toNat == 0 && k2.toNat == 0 && k3.toNat == 0 && k4.toNat == 0 && k5.toNat == 0) = true) (w : World) : Calls Tryz.prog 16 #[.pointer (some ⟨tb, 0, none⟩), .agg #[.int .u8 k0.toNat, .int .u8 k1.toNat, .int .u8 k2.toNat, .int .u8 k3.toNat, .int .u8 k4.toNat, .int .u8 k5.toNat, .string name, .int .i64 cap, .string dig, .int .i64 blk, .int .i64 win, .int .i64 rx, .int .i64 tx]] w fun e w' => e = .returned (.tuple #[.pointer none, .bool false]) ∧ Below w.heap.size w w' := by
  have H0 := fun u => hide (within_yes (name.size : Int) 1 20 u g0)
  have H1 := fun u => hide (word_val name true u g1 (by have := g0.2; omega))
  have hd : ((dig.size : Int) == 32) = true := by simp [g2]
  have H3 := fun u => hide (within_yes cap 1 600000 u g3)
  have H4 := fun u => hide (within_yes blk 8 1024 u g4)
  have H5 := fun u => hide (within_yes win 1 8 u g5)
  have H6 := fun u => hide (within_yes rx 1 16 u g6)
  have H7 := fun u => hide (within_yes tx 1 16 u g7)
  have hq := fun u => mac_eq k0.toNat k1.toNat k2.toNat k3.toNat k4.toNat k5.toNat 0 0 0 0 0 0 u
  simp only [eq_nat0] at hq
  rw [g8] at hq
  clear g0 g1 g2 g3 g4 g5 g6 g7 g8
  go_enter Tryz.func16, Tryz.ntmps16
  go_wp2_with fail
  refine (unhide (H0 _)).mono ?_
  rintro ee u ⟨rfl, rfl⟩
  go_wp2_with fail
  refine (unhide (H1 _)).mono ?_
  rintro ee u ⟨rfl, rfl⟩
  go_wp2_with fail
  refine (unhide (H3 _)).mono ?_
  rintro ee u ⟨rfl, rfl⟩
  go_wp2_with fail
  refine (unhide (H4 _)).mono ?_
  rintro ee u ⟨rfl, rfl⟩
  go_wp2_with fail
  refine (unhide (H5 _)).mono ?_
  rintro ee u ⟨rfl, rfl⟩
  go_wp2_with fail
  refine (unhide (H6 _)).mono ?_
  rintro ee u ⟨rfl, rfl⟩
  go_wp2_with fail
  refine (unhide (H7 _)).mono ?_
  rintro ee u ⟨rfl, rfl⟩
  go_wp2
  go_ret2
  exact ⟨rfl, (Below.refl w.heap.size w).alloc (Nat.le_refl _) _⟩
end Go.Proofs.YtbhbbeebncmaiaaGreatDoor.Ref

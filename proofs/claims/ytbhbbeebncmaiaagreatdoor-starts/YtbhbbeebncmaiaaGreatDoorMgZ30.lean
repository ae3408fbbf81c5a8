import Derived.Test.YtbhbbeebncmaiaaGreatDoorMgZ32
namespace Go.Proofs.YtbhbbeebncmaiaaGreatDoor.Mac
open Go.ChangeShapes Go.WideShapes Go.ChangeAt Go.RowKit Bs
set_option linter.unusedVariables false
set_option linter.unusedSimpArgs false
theorem isIn_no (n a b : Int) (w : World) (h : ¬ (a ≤ n ∧ n ≤ b)) : Calls Tryz.prog 77 #[.int .i64 n, .int .i64 a, .int .i64 b] w fun e w' => e = .returned (.bool false) ∧ w' = w := by
  have q := isIn_any n a b w
  have e : (decide (a ≤ n) && decide (n ≤ b)) = false := by
    rw [Bool.and_eq_false_iff]
    by_cases h1 : a ≤ n
    · exact Or.inr (decide_eq_false (fun h2 => h ⟨h1, h2⟩))
    · exact Or.inl (decide_eq_false h1)
  rw [e] at q
  exact q
set_option maxHeartbeats 1000000 in
theorem mayBe_0 (k0 k1 k2 k3 k4 k5 : UInt8) (name : ByteArray) (cap : Int) (dig : ByteArray) (blk win rx tx : Int) (g0 : cardB k0 k1 k2 k3 k4 k5 = false) (w : World) : Calls Tryz.prog 48 #[.agg #[.int .u8 k0.toNat, .int .u8 k1.toNat, .int .u8 k2.toNat, .int .u8 k3.toNat, .int .u8 k4.toNat, .int .u8 k5.toNat, .string name, .int .i64 cap, .string dig, .int .i64 blk, .int .i64 win, .int .i64 rx, .int .i64 tx]] w fun e w' => e = .returned (.bool false) ∧ Below w.heap.size w w' := by
  have HC := fun u => hide (isCard_any k0 k1 k2 k3 k4 k5 u)
  rw [g0] at HC
  clear g0
  go_enter Tryz.func48, Tryz.ntmps48
  go_wp2_with fail
  refine (unhide (HC _)).mono ?_
  rintro ee u ⟨rfl, hb⟩
  have hc := Arp.below_cells hb
  have HB := hide hb
  clear hb HC
  go_wp2
  go_ret
  exact ⟨rfl, ((Below.refl w.heap.size w).alloc (Nat.le_refl _) _).trans ((unhide HB).mono (by simp))⟩
set_option maxHeartbeats 1000000 in
theorem mayBe_1 (k0 k1 k2 k3 k4 k5 : UInt8) (name : ByteArray) (cap : Int) (dig : ByteArray) (blk win rx tx : Int) (g0 : cardB k0 k1 k2 k3 k4 k5 = true) (g1 : ¬ name.size ≤ 20) (w : World) : Calls Tryz.prog 48 #[.agg #[.int .u8 k0.toNat, .int .u8 k1.toNat, .int .u8 k2.toNat, .int .u8 k3.toNat, .int .u8 k4.toNat, .int .u8 k5.toNat, .string name, .int .i64 cap, .string dig, .int .i64 blk, .int .i64 win, .int .i64 rx, .int .i64 tx]] w fun e w' => e = .returned (.bool false) ∧ Below w.heap.size w w' := by
  have HC := fun u => hide (isCard_any k0 k1 k2 k3 k4 k5 u)
  rw [g0] at HC
  have hlen : ¬ (name.size : Int) ≤ 20 := by omega
  clear g1
  clear g0
  go_enter Tryz.func48, Tryz.ntmps48
  go_wp2_with fail
  refine (unhide (HC _)).mono ?_
  rintro ee u ⟨rfl, hb⟩
  have hc := Arp.below_cells hb
  have HB := hide hb
  clear hb HC
  go_wp2
  go_ret
  exact ⟨rfl, ((Below.refl w.heap.size w).alloc (Nat.le_refl _) _).trans ((unhide HB).mono (by simp))⟩
set_option maxHeartbeats 1000000 in
theorem mayBe_2 (k0 k1 k2 k3 k4 k5 : UInt8) (name : ByteArray) (cap : Int) (dig : ByteArray) (blk win rx tx : Int) (g0 : cardB k0 k1 k2 k3 k4 k5 = true) (g1 : name.size ≤ 20) (g2 : Tf.nameB name.data.toList = false) (w : World) : Calls Tryz.prog 48 #[.agg #[.int .u8 k0.toNat, .int .u8 k1.toNat, .int .u8 k2.toNat, .int .u8 k3.toNat, .int .u8 k4.toNat, .int .u8 k5.toNat, .string name, .int .i64 cap, .string dig, .int .i64 blk, .int .i64 win, .int .i64 rx, .int .i64 tx]] w fun e w' => e = .returned (.bool false) ∧ Below w.heap.size w w' := by
  have HC := fun u => hide (isCard_any k0 k1 k2 k3 k4 k5 u)
  rw [g0] at HC
  have HN := fun u => hide (Tf.isName_any name _ u rfl (by rw [len_str]; omega))
  rw [g2] at HN
  have hlen : (name.size : Int) ≤ 20 := by omega
  clear g1 g2
  clear g0
  go_enter Tryz.func48, Tryz.ntmps48
  go_wp2_with fail
  refine (unhide (HC _)).mono ?_
  rintro ee u ⟨rfl, hb⟩
  have hc := Arp.below_cells hb
  have HB := hide hb
  clear hb HC
  go_wp2_with fail
  refine (unhide (HN _)).mono ?_
  rintro ee u2 ⟨rfl, rfl⟩
  go_wp2
  go_ret
  exact ⟨rfl, ((Below.refl w.heap.size w).alloc (Nat.le_refl _) _).trans ((unhide HB).mono (by simp))⟩
set_option maxHeartbeats 1000000 in
theorem mayBe_3 (k0 k1 k2 k3 k4 k5 : UInt8) (name : ByteArray) (cap : Int) (dig : ByteArray) (blk win rx tx : Int) (g0 : cardB k0 k1 k2 k3 k4 k5 = true) (g1 : name.size ≤ 20) (g2 : Tf.nameB name.data.toList = true) (g3 : ¬ dig.size = 32) (w : World) : Calls Tryz.prog 48 #[.agg #[.int .u8 k0.toNat, .int .u8 k1.toNat, .int .u8 k2.toNat, .int .u8 k3.toNat, .int .u8 k4.toNat, .int .u8 k5.toNat, .string name, .int .i64 cap, .string dig, .int .i64 blk, .int .i64 win, .int .i64 rx, .int .i64 tx]] w fun e w' => e = .returned (.bool false) ∧ Below w.heap.size w w' := by
  have HC := fun u => hide (isCard_any k0 k1 k2 k3 k4 k5 u)
  rw [g0] at HC
  have HN := fun u => hide (Tf.isName_any name _ u rfl (by rw [len_str]; omega))
  rw [g2] at HN
  have hlen : (name.size : Int) ≤ 20 := by omega
  clear g1 g2
  have hdig : ((dig.size : Int) == 32) = false := by simp; omega
  clear g3
  clear g0
  go_enter Tryz.func48, Tryz.ntmps48
  go_wp2_with fail
  refine (unhide (HC _)).mono ?_
  rintro ee u ⟨rfl, hb⟩
  have hc := Arp.below_cells hb
  have HB := hide hb
  clear hb HC
  go_wp2_with fail
  refine (unhide (HN _)).mono ?_
  rintro ee u2 ⟨rfl, rfl⟩
  go_wp2
  go_ret
  exact ⟨rfl, ((Below.refl w.heap.size w).alloc (Nat.le_refl _) _).trans ((unhide HB).mono (by simp))⟩
set_option maxHeartbeats 1000000 in
theorem mayBe_4 (k0 k1 k2 k3 k4 k5 : UInt8) (name : ByteArray) (cap : Int) (dig : ByteArray) (blk win rx tx : Int) (g0 : cardB k0 k1 k2 k3 k4 k5 = true) (g1 : name.size ≤ 20) (g2 : Tf.nameB name.data.toList = true) (g3 : dig.size = 32) (g4 : ¬ (1 ≤ cap ∧ cap ≤ 600000)) (w : World) : Calls Tryz.prog 48 #[.agg #[.int .u8 k0.toNat, .int .u8 k1.toNat, .int .u8 k2.toNat, .int .u8 k3.toNat, .int .u8 k4.toNat, .int .u8 k5.toNat, .string name, .int .i64 cap, .string dig, .int .i64 blk, .int .i64 win, .int .i64 rx, .int .i64 tx]] w fun e w' => e = .returned (.bool false) ∧ Below w.heap.size w w' := by
  have HC := fun u => hide (isCard_any k0 k1 k2 k3 k4 k5 u)
  rw [g0] at HC
  have HN := fun u => hide (Tf.isName_any name _ u rfl (by rw [len_str]; omega))
  rw [g2] at HN
  have hlen : (name.size : Int) ≤ 20 := by omega
  clear g1 g2
  have hdig : ((dig.size : Int) == 32) = true := by rw [g3]; rfl
  clear g3
  clear g0
  go_enter Tryz.func48, Tryz.ntmps48
  go_wp2_with fail
  refine (unhide (HC _)).mono ?_
  rintro ee u ⟨rfl, hb⟩
  have hc := Arp.below_cells hb
  have HB := hide hb
  clear hb HC
  go_wp2_with fail
  refine (unhide (HN _)).mono ?_
  rintro ee u2 ⟨rfl, rfl⟩
  go_wp2_with fail
  refine (isIn_no _ _ _ _ g4).mono ?_
  rintro ee u3 ⟨rfl, rfl⟩
  go_wp2
  go_ret
  exact ⟨rfl, ((Below.refl w.heap.size w).alloc (Nat.le_refl _) _).trans ((unhide HB).mono (by simp))⟩
set_option maxHeartbeats 1000000 in
theorem mayBe_5 (k0 k1 k2 k3 k4 k5 : UInt8) (name : ByteArray) (cap : Int) (dig : ByteArray) (blk win rx tx : Int) (g0 : cardB k0 k1 k2 k3 k4 k5 = true) (g1 : name.size ≤ 20) (g2 : Tf.nameB name.data.toList = true) (g3 : dig.size = 32) (g4 : (1 ≤ cap ∧ cap ≤ 600000)) (g5 : ¬ (8 ≤ blk ∧ blk ≤ 1024)) (w : World) : Calls Tryz.prog 48 #[.agg #[.int .u8 k0.toNat, .int .u8 k1.toNat, .int .u8 k2.toNat, .int .u8 k3.toNat, .int .u8 k4.toNat, .int .u8 k5.toNat, .string name, .int .i64 cap, .string dig, .int .i64 blk, .int .i64 win, .int .i64 rx, .int .i64 tx]] w fun e w' => e = .returned (.bool false) ∧ Below w.heap.size w w' := by
  have HC := fun u => hide (isCard_any k0 k1 k2 k3 k4 k5 u)
  rw [g0] at HC
  have HN := fun u => hide (Tf.isName_any name _ u rfl (by rw [len_str]; omega))
  rw [g2] at HN
  have hlen : (name.size : Int) ≤ 20 := by omega
  clear g1 g2
  have hdig : ((dig.size : Int) == 32) = true := by rw [g3]; rfl
  clear g3
  clear g0
  go_enter Tryz.func48, Tryz.ntmps48
  go_wp2_with fail
  refine (unhide (HC _)).mono ?_
  rintro ee u ⟨rfl, hb⟩
  have hc := Arp.below_cells hb
  have HB := hide hb
  clear hb HC
  go_wp2_with fail
  refine (unhide (HN _)).mono ?_
  rintro ee u2 ⟨rfl, rfl⟩
  go_wp2_with fail
  refine (isIn_yes _ _ _ _ g4.1 g4.2).mono ?_
  rintro ee u3 ⟨rfl, rfl⟩
  go_wp2_with fail
  refine (isIn_no _ _ _ _ g5).mono ?_
  rintro ee u4 ⟨rfl, rfl⟩
  go_wp2
  go_ret
  exact ⟨rfl, ((Below.refl w.heap.size w).alloc (Nat.le_refl _) _).trans ((unhide HB).mono (by simp))⟩
set_option maxHeartbeats 1000000 in
theorem mayBe_6 (k0 k1 k2 k3 k4 k5 : UInt8) (name : ByteArray) (cap : Int) (dig : ByteArray) (blk win rx tx : Int) (g0 : cardB k0 k1 k2 k3 k4 k5 = true) (g1 : name.size ≤ 20) (g2 : Tf.nameB name.data.toList = true) (g3 : dig.size = 32) (g4 : (1 ≤ cap ∧ cap ≤ 600000)) (g5 : (8 ≤ blk ∧ blk ≤ 1024)) (g6 : ¬ (1 ≤ win ∧ win ≤ 8)) (w : World) : Calls Tryz.prog 48 #[.agg #[.int .u8 k0.toNat, .int .u8 k1.toNat, .int .u8 k2.toNat, .int .u8 k3.toNat, .int .u8 k4.toNat, .int .u8 k5.toNat, .string name, .int .i64 cap, .string dig, .int .i64 blk, .int .i64 win, .int .i64 rx, .int .i64 tx]] w fun e w' => e = .returned (.bool false) ∧ Below w.heap.size w w' := by
  have HC := fun u => hide (isCard_any k0 k1 k2 k3 k4 k5 u)
  rw [g0] at HC
  have HN := fun u => hide (Tf.isName_any name _ u rfl (by rw [len_str]; omega))
  rw [g2] at HN
  have hlen : (name.size : Int) ≤ 20 := by omega
  clear g1 g2
  have hdig : ((dig.size : Int) == 32) = true := by rw [g3]; rfl
  clear g3
  clear g0
  go_enter Tryz.func48, Tryz.ntmps48
  go_wp2_with fail
  refine (unhide (HC _)).mono ?_
  rintro ee u ⟨rfl, hb⟩
  have hc := Arp.below_cells hb
  have HB := hide hb
  clear hb HC
  go_wp2_with fail
  refine (unhide (HN _)).mono ?_
  rintro ee u2 ⟨rfl, rfl⟩
  go_wp2_with fail
  refine (isIn_yes _ _ _ _ g4.1 g4.2).mono ?_
  rintro ee u3 ⟨rfl, rfl⟩
  go_wp2_with fail
  refine (isIn_yes _ _ _ _ g5.1 g5.2).mono ?_
  rintro ee u4 ⟨rfl, rfl⟩
  go_wp2_with fail
  refine (isIn_no _ _ _ _ g6).mono ?_
  rintro ee u5 ⟨rfl, rfl⟩
  go_wp2
  go_ret
  exact ⟨rfl, ((Below.refl w.heap.size w).alloc (Nat.le_refl _) _).trans ((unhide HB).mono (by simp))⟩
set_option maxHeartbeats 1000000 in
theorem mayBe_7 (k0 k1 k2 k3 k4 k5 : UInt8) (name : ByteArray) (cap : Int) (dig : ByteArray) (blk win rx tx : Int) (g0 : cardB k0 k1 k2 k3 k4 k5 = true) (g1 : name.size ≤ 20) (g2 : Tf.nameB name.data.toList = true) (g3 : dig.size = 32) (g4 : (1 ≤ cap ∧ cap ≤ 600000)) (g5 : (8 ≤ blk ∧ blk ≤ 1024)) (g6 : (1 ≤ win ∧ win ≤ 8)) (g7 : ¬ (1 ≤ rx ∧ rx ≤ 16)) (w : World) : Calls Tryz.prog 48 #[.agg #[.int .u8 k0.toNat, .int .u8 k1.toNat, .int .u8 k2.toNat, .int .u8 k3.toNat, .int .u8 k4.toNat, .int .u8 k5.toNat, .string name, .int .i64 cap, .string dig, .int .i64 blk, .int .i64 win, .int .i64 rx, .int .i64 tx]] w fun e w' => e = .returned (.bool false) ∧ Below w.heap.size w w' := by
  have HC := fun u => hide (isCard_any k0 k1 k2 k3 k4 k5 u)
  rw [g0] at HC
  have HN := fun u => hide (Tf.isName_any name _ u rfl (by rw [len_str]; omega))
  rw [g2] at HN
  have hlen : (name.size : Int) ≤ 20 := by omega
  clear g1 g2
  have hdig : ((dig.size : Int) == 32) = true := by rw [g3]; rfl
  clear g3
  clear g0
  go_enter Tryz.func48, Tryz.ntmps48
  go_wp2_with fail
  refine (unhide (HC _)).mono ?_
  rintro ee u ⟨rfl, hb⟩
  have hc := Arp.below_cells hb
  have HB := hide hb
  clear hb HC
  go_wp2_with fail
  refine (unhide (HN _)).mono ?_
  rintro ee u2 ⟨rfl, rfl⟩
  go_wp2_with fail
  refine (isIn_yes _ _ _ _ g4.1 g4.2).mono ?_
  rintro ee u3 ⟨rfl, rfl⟩
  go_wp2_with fail
  refine (isIn_yes _ _ _ _ g5.1 g5.2).mono ?_
  rintro ee u4 ⟨rfl, rfl⟩
  go_wp2_with fail
  refine (isIn_yes _ _ _ _ g6.1 g6.2).mono ?_
  rintro ee u5 ⟨rfl, rfl⟩
  go_wp2_with fail
  refine (isIn_no _ _ _ _ g7).mono ?_
  rintro ee u6 ⟨rfl, rfl⟩
  go_wp2
  go_ret
  exact ⟨rfl, ((Below.refl w.heap.size w).alloc (Nat.le_refl _) _).trans ((unhide HB).mono (by simp))⟩
set_option maxHeartbeats 1000000 in
theorem mayBe_8 (k0 k1 k2 k3 k4 k5 : UInt8) (name : ByteArray) (cap : Int) (dig : ByteArray) (blk win rx tx : Int) (g0 : cardB k0 k1 k2 k3 k4 k5 = true) (g1 : name.size ≤ 20) (g2 : Tf.nameB name.data.toList = true) (g3 : dig.size = 32) (g4 : (1 ≤ cap ∧ cap ≤ 600000)) (g5 : (8 ≤ blk ∧ blk ≤ 1024)) (g6 : (1 ≤ win ∧ win ≤ 8)) (g7 : (1 ≤ rx ∧ rx ≤ 16)) (g8 : ¬ (1 ≤ tx ∧ tx ≤ 16)) (w : World) : Calls Tryz.prog 48 #[.agg #[.int .u8 k0.toNat, .int .u8 k1.toNat, .int .u8 k2.toNat, .int .u8 k3.toNat, .int .u8 k4.toNat, .int .u8 k5.toNat, .string name, .int .i64 cap, .string dig, .int .i64 blk, .int .i64 win, .int .i64 rx, .int .i64 tx]] w fun e w' => e = .returned (.bool false) ∧ Below w.heap.size w w' := by
  have HC := fun u => hide (isCard_any k0 k1 k2 k3 k4 k5 u)
  rw [g0] at HC
  have HN := fun u => hide (Tf.isName_any name _ u rfl (by rw [len_str]; omega))
  rw [g2] at HN
  have hlen : (name.size : Int) ≤ 20 := by omega
  clear g1 g2
  have hdig : ((dig.size : Int) == 32) = true := by rw [g3]; rfl
  clear g3
  clear g0
  go_enter Tryz.func48, Tryz.ntmps48
  go_wp2_with fail
  refine (unhide (HC _)).mono ?_
  rintro ee u ⟨rfl, hb⟩
  have hc := Arp.below_cells hb
  have HB := hide hb
  clear hb HC
  go_wp2_with fail
  refine (unhide (HN _)).mono ?_
  rintro ee u2 ⟨rfl, rfl⟩
  go_wp2_with fail
  refine (isIn_yes _ _ _ _ g4.1 g4.2).mono ?_
  rintro ee u3 ⟨rfl, rfl⟩
  go_wp2_with fail
  refine (isIn_yes _ _ _ _ g5.1 g5.2).mono ?_
  rintro ee u4 ⟨rfl, rfl⟩
  go_wp2_with fail
  refine (isIn_yes _ _ _ _ g6.1 g6.2).mono ?_
  rintro ee u5 ⟨rfl, rfl⟩
  go_wp2_with fail
  refine (isIn_yes _ _ _ _ g7.1 g7.2).mono ?_
  rintro ee u6 ⟨rfl, rfl⟩
  go_wp2_with fail
  refine (isIn_no _ _ _ _ g8).mono ?_
  rintro ee u7 ⟨rfl, rfl⟩
  go_wp2
  go_ret
  exact ⟨rfl, ((Below.refl w.heap.size w).alloc (Nat.le_refl _) _).trans ((unhide HB).mono (by simp))⟩
theorem mayBe_no (k0 k1 k2 k3 k4 k5 : UInt8) (name : ByteArray) (cap : Int) (dig : ByteArray) (blk win rx tx : Int) (hg : ¬ (Cfg.mk k0 k1 k2 k3 k4 k5 name cap dig blk win rx tx).Good) (w : World) : Calls Tryz.prog 48 #[.agg #[.int .u8 k0.toNat, .int .u8 k1.toNat, .int .u8 k2.toNat, .int .u8 k3.toNat, .int .u8 k4.toNat, .int .u8 k5.toNat, .string name, .int .i64 cap, .string dig, .int .i64 blk, .int .i64 win, .int .i64 rx, .int .i64 tx]] w fun e w' => e = .returned (.bool false) ∧ Below w.heap.size w w' := by
  cases g0 : cardB k0 k1 k2 k3 k4 k5 with
  | false => exact mayBe_0 k0 k1 k2 k3 k4 k5 name cap dig blk win rx tx g0 w
  | true =>
    by_cases g1 : name.size ≤ 20
    · cases g2 : Tf.nameB name.data.toList with
      | false => exact mayBe_2 k0 k1 k2 k3 k4 k5 name cap dig blk win rx tx g0 g1 g2 w
      | true =>
        by_cases g3 : dig.size = 32
        · by_cases g4 : 1 ≤ cap ∧ cap ≤ 600000
          · by_cases g5 : 8 ≤ blk ∧ blk ≤ 1024
            · by_cases g6 : 1 ≤ win ∧ win ≤ 8
              · by_cases g7 : 1 ≤ rx ∧ rx ≤ 16
                · by_cases g8 : 1 ≤ tx ∧ tx ≤ 16
                  · exact absurd ⟨g0, g2, g1, g3, g4, g5, g6, g7, g8⟩ hg
                  · exact mayBe_8 k0 k1 k2 k3 k4 k5 name cap dig blk win rx tx g0 g1 g2 g3 g4 g5 g6 g7 g8 w
                · exact mayBe_7 k0 k1 k2 k3 k4 k5 name cap dig blk win rx tx g0 g1 g2 g3 g4 g5 g6 g7 w
              · exact mayBe_6 k0 k1 k2 k3 k4 k5 name cap dig blk win rx tx g0 g1 g2 g3 g4 g5 g6 w
            · exact mayBe_5 k0 k1 k2 k3 k4 k5 name cap dig blk win rx tx g0 g1 g2 g3 g4 g5 w
          · exact mayBe_4 k0 k1 k2 k3 k4 k5 name cap dig blk win rx tx g0 g1 g2 g3 g4 w
        · exact mayBe_3 k0 k1 k2 k3 k4 k5 name cap dig blk win rx tx g0 g1 g2 g3 w
    · exact mayBe_1 k0 k1 k2 k3 k4 k5 name cap dig blk win rx tx g0 g1 w
set_option maxHeartbeats 1000000 in
theorem new_no (k0 k1 k2 k3 k4 k5 : UInt8) (name : ByteArray) (cap : Int) (dig : ByteArray) (blk win rx tx : Int) (hg : ¬ (Cfg.mk k0 k1 k2 k3 k4 k5 name cap dig blk win rx tx).Good) (w : World) : Calls Tryz.prog 30 #[.agg #[.int .u8 k0.toNat, .int .u8 k1.toNat, .int .u8 k2.toNat, .int .u8 k3.toNat, .int .u8 k4.toNat, .int .u8 k5.toNat, .string name, .int .i64 cap, .string dig, .int .i64 blk, .int .i64 win, .int .i64 rx, .int .i64 tx]] w fun e w' => e = .returned (.tuple #[.pointer none, .int .i64 8]) ∧ Below w.heap.size w w' := by
  have HM := fun u => hide (mayBe_no k0 k1 k2 k3 k4 k5 name cap dig blk win rx tx hg u)
  clear hg
  go_enter Tryz.func30, Tryz.ntmps30
  go_wp2_with fail
  refine (unhide (HM _)).mono ?_
  rintro ee u ⟨rfl, hb⟩
  have HB := hide hb
  clear hb HM
  go_wp2
  go_ret2
  exact ⟨rfl, ((Below.refl w.heap.size w).alloc (Nat.le_refl _) _).trans ((unhide HB).mono (by simp))⟩
set_option maxHeartbeats 1000000 in
theorem bootNew_no (k0 k1 k2 k3 k4 k5 : UInt8) (name : ByteArray) (cap : Int) (dig : ByteArray) (blk win rx tx : Int) (hg : ¬ (Cfg.mk k0 k1 k2 k3 k4 k5 name cap dig blk win rx tx).Good) (w : World) : Calls Tryz.prog 15 #[.agg #[.int .u8 k0.toNat, .int .u8 k1.toNat, .int .u8 k2.toNat, .int .u8 k3.toNat, .int .u8 k4.toNat, .int .u8 k5.toNat, .string name, .int .i64 cap, .string dig, .int .i64 blk, .int .i64 win, .int .i64 rx, .int .i64 tx]] w fun e w' => e = .returned (.tuple #[.pointer none, .int .i64 8]) ∧ Below w.heap.size w w' := by
  have HM := fun u => hide (new_no k0 k1 k2 k3 k4 k5 name cap dig blk win rx tx hg u)
  clear hg
  go_enter Tryz.func15, Tryz.ntmps15
  go_wp2_with fail
  refine (unhide (HM _)).mono ?_
  rintro ee u ⟨rfl, hb⟩
  have HB := hide hb
  clear hb HM
  go_wp2
  go_ret2
  exact ⟨rfl, ((Below.refl w.heap.size w).alloc (Nat.le_refl _) _).trans ((unhide HB).mono (by simp))⟩
end Go.Proofs.YtbhbbeebncmaiaaGreatDoor.Mac

import Derived.Test.YtbhbbeebncmaiaaGreatDoorMgZ21
namespace Go.Proofs.YtbhbbeebncmaiaaGreatDoor.Ref
open Go.ChangeShapes Go.WideShapes Go.ChangeAt Go.RowKit Bs Mac
set_option linter.unusedVariables false
set_option linter.unusedSimpArgs false
theorem oper_build {P : Program} {w : World} {o : Oper} {a : Act} {K : Act → World → Prop} {Q : Exit → Act → World → Prop} (t : TypeId) (i j : Nat) (x y : Operand)
    (ho : o.op = .build t #[(i, x), (j, y)]) (xv yv v : Value) (hx : a.eval x = xv) (hy : a.eval y = yv) (hrun : (Instr.build t #[(i, xv), (j, yv)]).run P w = .ok v w)
    (h : K (a.put o.dst v) w) : o.wp P a w K Q := by
  unfold Oper.wp
  simp [execOp, ho, hx, hy, hrun, Result.andThen]
  exact h

set_option maxHeartbeats 2000000 in
set_option maxRecDepth 10000 in
theorem new_9 (tb : Nat) (k0 k1 k2 k3 k4 k5 : UInt8) (name : ByteArray) (cap : Int) (dig : ByteArray) (blk win rx tx : Int) (g0 : 1 ≤ (name.size : Int) ∧ (name.size : Int) ≤ 20) (g1 : Tf.nameB name.data.toList = true) (g2 : dig.size = 32) (g3 : 1 ≤ cap ∧ cap ≤ 600000) (g4 : 8 ≤ blk ∧ blk ≤ 1024) (g5 : 1 ≤ win ∧ win ≤ 8) (g6 : 1 ≤ rx ∧ rx ≤ 16) (g7 : 1 ≤ tx ∧ tx ≤ 16) (g8 : (k0.toNat == 0 && k1.toNat == 0 && k2.toNat == 0 && k3.toNat == 0 && k4.toNat == 0 && k5.toNat == 0) = false) (g9 : k0.toNat % 2 = 1) (w : World) : Calls Tryz.prog 16 #[.pointer (some ⟨tb, 0, none⟩), .agg #[.int .u8 k0.toNat, .int .u8 k1.toNat, .int .u8 k2.toNat, .int .u8 k3.toNat, .int .u8 k4.toNat, .int .u8 k5.toNat, .string name, .int .i64 cap, .string dig, .int .i64 blk, .int .i64 win, .int .i64 rx, .int .i64 tx]] w fun e w' => e = .returned (.tuple #[.pointer none, .bool false]) ∧ Below w.heap.size w w' := by
  have H0 := fun u => hide (within_yes (name.size : Int) 1 20 u g0)
  have H1 := fun u => hide (word_val name true u g1 (by have := g0.2; omega))
  have hd : ((dig.size : Int) == 32) = true := by simp [g2]
  have H3 := fun u => hide (within_yes cap 1 600000 u g3)
  have H4 := fun u => hide (within_yes blk 8 1024 u g4)
  have H5 := fun u => hide (within_yes win 1 8 u g5)
  have H6 := fun u => hide (within_yes rx 1 16 u g6)
  have H7 := fun u => hide (within_yes tx 1 16 u g7)
  have hq := fun u => mac_eq k0.toNat k1.toNat k2.toNat k3.toNat k4.toNat k5.toNat 0 0 0 0 0 0 u
  simp only [eq_nat0] at hq
  rw [g8] at hq
  have ho : ((k0.toNat : Int).tmod 2 == 1) = true := by rw [Int.tmod_eq_emod_of_nonneg (by omega)]; rw [beq_iff_eq]; omega
  have ho2 : ((k0.toNat : Int) % 2 == 1) = true := by rw [beq_iff_eq]; omega
  have ho3 : (((k0.toNat % 2 : Nat) : Int) == 1) = true := by rw [beq_iff_eq]; omega
  have ho4 : ((k0.toNat : Int) % 2 = 1) := by omega
  have hwp : IntKind.u8.wrap ((k0.toNat : Int).tmod 2) = (k0.toNat : Int).tmod 2 := by
    rw [Int.tmod_eq_emod_of_nonneg (by omega)]
    rw [IntKind.wrap_u8]; omega
  clear g0 g1 g2 g3 g4 g5 g6 g7 g8
  go_enter Tryz.func16, Tryz.ntmps16
  go_wp2_with fail
  refine (unhide (H0 _)).mono ?_
  rintro ee u ⟨rfl, rfl⟩
  go_wp2_with fail
  refine (unhide (H1 _)).mono ?_
  rintro ee u ⟨rfl, rfl⟩
  go_wp2_with fail
  refine (unhide (H3 _)).mono ?_
  rintro ee u ⟨rfl, rfl⟩
  go_wp2_with fail
  refine (unhide (H4 _)).mono ?_
  rintro ee u ⟨rfl, rfl⟩
  go_wp2_with fail
  refine (unhide (H5 _)).mono ?_
  rintro ee u ⟨rfl, rfl⟩
  go_wp2_with fail
  refine (unhide (H6 _)).mono ?_
  rintro ee u ⟨rfl, rfl⟩
  go_wp2_with fail
  refine (unhide (H7 _)).mono ?_
  rintro ee u ⟨rfl, rfl⟩
  go_wp2
  go_ret2
  exact ⟨rfl, (Below.refl w.heap.size w).alloc (Nat.le_refl _) _⟩

set_option maxHeartbeats 2000000 in
set_option maxRecDepth 10000 in
theorem new_good (tb : Nat) (k0 k1 k2 k3 k4 k5 : UInt8) (name : ByteArray) (cap : Int) (dig : ByteArray) (blk win rx tx : Int) (g0 : 1 ≤ (name.size : Int) ∧ (name.size : Int) ≤ 20) (g1 : Tf.nameB name.data.toList = true) (g2 : dig.size = 32) (g3 : 1 ≤ cap ∧ cap ≤ 600000) (g4 : 8 ≤ blk ∧ blk ≤ 1024) (g5 : 1 ≤ win ∧ win ≤ 8) (g6 : 1 ≤ rx ∧ rx ≤ 16) (g7 : 1 ≤ tx ∧ tx ≤ 16) (g8 : (k0.toNat == 0 && k1.toNat == 0 && k2.toNat == 0 && k3.toNat == 0 && k4.toNat == 0 && k5.toNat == 0) = false) (g9 : k0.toNat % 2 = 0) (w : World) (hng : 9 ≤ w.heap.size) (hgl : Gr w) : Calls Tryz.prog 16 #[.pointer (some ⟨tb, 0, none⟩), .agg #[.int .u8 k0.toNat, .int .u8 k1.toNat, .int .u8 k2.toNat, .int .u8 k3.toNat, .int .u8 k4.toNat, .int .u8 k5.toNat, .string name, .int .i64 cap, .string dig, .int .i64 blk, .int .i64 win, .int .i64 rx, .int .i64 tx]] w fun e w' => ∃ G, e = .returned (.tuple #[.pointer (some ⟨G, 0, none⟩), .bool true]) ∧ Rm w (fun _ => False) w' G (rf0 (.pointer (some ⟨tb, 0, none⟩)) k0 k1 k2 k3 k4 k5 name cap dig blk win rx.toNat tx.toNat) := by
  have H0 := fun u => hide (within_yes (name.size : Int) 1 20 u g0)
  have H1 := fun u => hide (word_val name true u g1 (by have := g0.2; omega))
  have hd : ((dig.size : Int) == 32) = true := by simp [g2]
  have H3 := fun u => hide (within_yes cap 1 600000 u g3)
  have H4 := fun u => hide (within_yes blk 8 1024 u g4)
  have H5 := fun u => hide (within_yes win 1 8 u g5)
  have H6 := fun u => hide (within_yes rx 1 16 u g6)
  have H7 := fun u => hide (within_yes tx 1 16 u g7)
  have hq := fun u => mac_eq k0.toNat k1.toNat k2.toNat k3.toNat k4.toNat k5.toNat 0 0 0 0 0 0 u
  simp only [eq_nat0] at hq
  rw [g8] at hq
  have ho : ((k0.toNat : Int).tmod 2 == 1) = false := by rw [Int.tmod_eq_emod_of_nonneg (by omega)]; rw [beq_eq_false_iff_ne]; omega
  have ho2 : ((k0.toNat : Int) % 2 == 1) = false := by rw [beq_eq_false_iff_ne]; omega
  have ho3 : (((k0.toNat % 2 : Nat) : Int) == 1) = false := by rw [beq_eq_false_iff_ne]; omega
  have ho4 : ¬ ((k0.toNat : Int) % 2 = 1) := by omega
  have hwp : IntKind.u8.wrap ((k0.toNat : Int).tmod 2) = (k0.toNat : Int).tmod 2 := by
    rw [Int.tmod_eq_emod_of_nonneg (by omega)]
    rw [IntKind.wrap_u8]; omega
  have hbuild : ∀ u, (Instr.build 57 #[(0, .pointer (some ⟨tb, 0, none⟩)), (1, .agg #[.int .u8 k0.toNat, .int .u8 k1.toNat, .int .u8 k2.toNat, .int .u8 k3.toNat, .int .u8 k4.toNat, .int .u8 k5.toNat, .string name, .int .i64 cap, .string dig, .int .i64 blk, .int .i64 win, .int .i64 rx, .int .i64 tx])]).run Tryz.prog u = .ok (.agg #[.pointer (some ⟨tb, 0, none⟩), .int .u8 k0.toNat, .int .u8 k1.toNat, .int .u8 k2.toNat, .int .u8 k3.toNat, .int .u8 k4.toNat, .int .u8 k5.toNat, .string name, .int .i64 cap, .string dig, .int .i64 blk, .int .i64 win, .int .i64 rx, .int .i64 tx, .slice none 0 0, .slice none 0 0, .int .i64 0, .int .u32 0, .int .i64 0, .int .i64 0, .int .i64 0, .slice none 0 0, .int .i64 0, .int .u32 0, .int .u32 0, .int .u32 0, .int .u32 0, .int .u32 0, .int .u32 0, .int .i64 0, .int .i64 0, .int .i64 0, .int .i64 0, .int .i64 0, .int .i64 0, .int .i64 0, .int .i64 0, .int .i64 0, .int .i64 0, .int .i64 0, .int .i64 0, .int .i64 0, .int .i64 0, .int .i64 0, .string ⟨#[]⟩, .slice none 0 0]) u := fun u => run_build u _ _ _ (by kernel_rfl)
  have hrx : ((rx.toNat : Nat) : Int) = rx := by omega
  have htx : ((tx.toNat : Nat) : Int) = tx := by omega
  have HRX := hide hrx
  have HTX := hide htx
  have HNG := hide hng
  have HGL := hide hgl
  clear hrx htx hng hgl
  clear g0 g1 g2 g3 g4 g5 g6 g7 g8
  go_enter Tryz.func16, Tryz.ntmps16
  go_wp2_with fail
  refine (unhide (H0 _)).mono ?_
  rintro ee u ⟨rfl, rfl⟩
  go_wp2_with fail
  refine (unhide (H1 _)).mono ?_
  rintro ee u ⟨rfl, rfl⟩
  go_wp2_with fail
  refine (unhide (H3 _)).mono ?_
  rintro ee u ⟨rfl, rfl⟩
  go_wp2_with fail
  refine (unhide (H4 _)).mono ?_
  rintro ee u ⟨rfl, rfl⟩
  go_wp2_with fail
  refine (unhide (H5 _)).mono ?_
  rintro ee u ⟨rfl, rfl⟩
  go_wp2_with fail
  refine (unhide (H6 _)).mono ?_
  rintro ee u ⟨rfl, rfl⟩
  go_wp2_with fail
  refine (unhide (H7 _)).mono ?_
  rintro ee u ⟨rfl, rfl⟩
  have HBUILD := hide hbuild
  clear hbuild
  go_wp2
  refine oper_build 57 0 1 (.tmp 64) (.tmp 65) rfl _ _ _ rfl rfl (unhide HBUILD _) ?_
  apply_assumption
  go_wp2
  go_ret2
  refine ⟨_, rfl, rm_new ((Below.refl w.heap.size w).alloc (Nat.le_refl _) _) (by simp) ?_ rfl rfl rfl rfl (unhide HNG) (unhide HGL)⟩
  simp only [Rf.cells, rf0]
  rw [unhide HRX, unhide HTX]

theorem new_no (tb : Nat) (k0 k1 k2 k3 k4 k5 : UInt8) (name : ByteArray) (cap : Int) (dig : ByteArray) (blk win rx tx : Int) (hg : ¬ (Cfg.mk k0 k1 k2 k3 k4 k5 name cap dig blk win rx tx).Good) (w : World) : Calls Tryz.prog 16 #[.pointer (some ⟨tb, 0, none⟩), .agg #[.int .u8 k0.toNat, .int .u8 k1.toNat, .int .u8 k2.toNat, .int .u8 k3.toNat, .int .u8 k4.toNat, .int .u8 k5.toNat, .string name, .int .i64 cap, .string dig, .int .i64 blk, .int .i64 win, .int .i64 rx, .int .i64 tx]] w fun e w' => e = .returned (.tuple #[.pointer none, .bool false]) ∧ Below w.heap.size w w' := by
  by_cases g0 : 1 ≤ (name.size : Int) ∧ (name.size : Int) ≤ 20
  case neg => exact new_0 tb k0 k1 k2 k3 k4 k5 name cap dig blk win rx tx g0 w
  cases g1 : Tf.nameB name.data.toList with
  | false => exact new_1 tb k0 k1 k2 k3 k4 k5 name cap dig blk win rx tx g0 g1 w
  | true =>
    by_cases g2 : dig.size = 32
    case neg => exact new_2 tb k0 k1 k2 k3 k4 k5 name cap dig blk win rx tx g0 g1 g2 w
    by_cases g3 : 1 ≤ cap ∧ cap ≤ 600000
    case neg => exact new_3 tb k0 k1 k2 k3 k4 k5 name cap dig blk win rx tx g0 g1 g2 g3 w
    by_cases g4 : 8 ≤ blk ∧ blk ≤ 1024
    case neg => exact new_4 tb k0 k1 k2 k3 k4 k5 name cap dig blk win rx tx g0 g1 g2 g3 g4 w
    by_cases g5 : 1 ≤ win ∧ win ≤ 8
    case neg => exact new_5 tb k0 k1 k2 k3 k4 k5 name cap dig blk win rx tx g0 g1 g2 g3 g4 g5 w
    by_cases g6 : 1 ≤ rx ∧ rx ≤ 16
    case neg => exact new_6 tb k0 k1 k2 k3 k4 k5 name cap dig blk win rx tx g0 g1 g2 g3 g4 g5 g6 w
    by_cases g7 : 1 ≤ tx ∧ tx ≤ 16
    case neg => exact new_7 tb k0 k1 k2 k3 k4 k5 name cap dig blk win rx tx g0 g1 g2 g3 g4 g5 g6 g7 w
    cases g8 : (k0.toNat == 0 && k1.toNat == 0 && k2.toNat == 0 && k3.toNat == 0 && k4.toNat == 0 && k5.toNat == 0) with
    | true => exact new_8 tb k0 k1 k2 k3 k4 k5 name cap dig blk win rx tx g0 g1 g2 g3 g4 g5 g6 g7 g8 w
    | false =>
      by_cases g9 : k0.toNat % 2 = 1
      · exact new_9 tb k0 k1 k2 k3 k4 k5 name cap dig blk win rx tx g0 g1 g2 g3 g4 g5 g6 g7 g8 g9 w
      · exact absurd (show (Cfg.mk k0 k1 k2 k3 k4 k5 name cap dig blk win rx tx).Good from ⟨by
          show cardB k0 k1 k2 k3 k4 k5 = true
          unfold cardB
          rw [g8]
          have : k0.toNat % 2 = 0 := by omega
          simp [this], g1, by show name.size ≤ 20; omega, g2, g3, g4, g5, g6, g7⟩) hg
theorem name_some {l : List UInt8} (h : Tf.nameB l = true) : 1 ≤ l.length := by
  cases l with
  | nil => simp [Tf.nameB] at h
  | cons a r => simp
theorem new_yes (tb : Nat) (k0 k1 k2 k3 k4 k5 : UInt8) (name : ByteArray) (cap : Int) (dig : ByteArray) (blk win rx tx : Int) (hg : (Cfg.mk k0 k1 k2 k3 k4 k5 name cap dig blk win rx tx).Good) (w : World) (hng : 9 ≤ w.heap.size) (hgl : Gr w) : Calls Tryz.prog 16 #[.pointer (some ⟨tb, 0, none⟩), .agg #[.int .u8 k0.toNat, .int .u8 k1.toNat, .int .u8 k2.toNat, .int .u8 k3.toNat, .int .u8 k4.toNat, .int .u8 k5.toNat, .string name, .int .i64 cap, .string dig, .int .i64 blk, .int .i64 win, .int .i64 rx, .int .i64 tx]] w fun e w' => ∃ G, e = .returned (.tuple #[.pointer (some ⟨G, 0, none⟩), .bool true]) ∧ Rm w (fun _ => False) w' G (rf0 (.pointer (some ⟨tb, 0, none⟩)) k0 k1 k2 k3 k4 k5 name cap dig blk win rx.toNat tx.toNat) := by
  have hc : cardB k0 k1 k2 k3 k4 k5 = true := hg.card
  unfold cardB at hc
  rw [Bool.and_eq_true, Bool.not_eq_true', beq_iff_eq] at hc
  have h1 := name_some hg.name
  have h2 : name.size ≤ 20 := hg.long
  have h3 : name.data.toList.length = name.size := by rw [Array.length_toList]; rfl
  exact new_good tb k0 k1 k2 k3 k4 k5 name cap dig blk win rx tx (by dsimp only at h1; omega) hg.name hg.dig hg.cap hg.blk hg.win hg.rx hg.tx hc.1 hc.2 w hng hgl
end Go.Proofs.YtbhbbeebncmaiaaGreatDoor.Ref

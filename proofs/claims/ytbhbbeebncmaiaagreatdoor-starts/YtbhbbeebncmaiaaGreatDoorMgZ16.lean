import Derived.Test.YtbhbbeebncmaiaaGreatDoorMgZ15
namespace Go.Proofs.YtbhbbeebncmaiaaGreatDoor.Mac
open Go.ChangeShapes Go.WideShapes Go.ChangeAt Go.RowKit Bs
set_option linter.unusedVariables false
set_option linter.unusedSimpArgs false
variable {w0 : World} {P : Nat → Prop} {w w' : World} {B : Nat} {m m' : Mc}
set_option maxHeartbeats 1000000 in
theorem tickCache_none (h : Mx w0 P w B m) (hcd : m.cd = .map []) : Calls Tryz.prog 54 #[.pointer (some ⟨B, 0, none⟩)] w fun ee w' => ee = .returned (.tuple #[]) ∧ Mx w0 P w' B m := by
  have HM := hide h
  have c0 := h.c0
  have c14 := h.c14
  have hmp := h.map
  rw [hcd] at hmp
  obtain ⟨clk, hb⟩ := map_none hmp
  have HB := hide hb
  clear h hcd hmp hb
  go_enter Tryz.func54, Tryz.ntmps54
  go_wp2
  go_region_held3 (fun u => u.cell? ⟨B, 0, none⟩ = some (.map (some m.bm)) ∧ u.cell? ⟨B, 14, none⟩ = some (.int .i64 m.now)) (go_keep)
    (first | (go_at_call 79; refine (forget_none m.bm clk m.now _ (by exact unhide HB)).mono ?_; rintro ee u ⟨rfl, hb1⟩; have h1 := ((unhide HM).drew).below hb1; have d0 := h1.c0; have d14 := h1.c14))
  have H1 := hide h1
  have HB1 : Hid (u.heap[m.bm]? = some (.map #[] clk)) := hide ((hb1.block _ (lt_of_block (unhide HB))).trans (unhide HB))
  clear h1 hb1 HB HM c0 c14
  go_wp2
  go_region_held3 (fun u => u.cell? ⟨B, 0, none⟩ = some (.map (some m.bm)) ∧ u.cell? ⟨B, 14, none⟩ = some (.int .i64 m.now)) (go_keep)
    (first | (go_at_call 80; refine (due_none m.bm clk m.now _ (by exact unhide HB1)).mono ?_; rintro ee u2 ⟨rfl, hb2⟩; have h2 := ((unhide H1).drew).below hb2; have e0 := h2.c0; have e14 := h2.c14))
  have H2 := hide h2
  clear h2 hb2 HB1 H1
  go_wp2
  refine wp_loop_rounds 1 ?_
  rw [rounds_succ]
  go_wp2
  go_end0
  exact ⟨rfl, unhide H2⟩
def Mc.fetching (m : Mc) : Bool := m.phase == 1 || m.phase == 2
set_option maxHeartbeats 1000000 in
theorem isFetching_any (h : Mx w0 P w B m) : Calls Tryz.prog 87 #[.pointer (some ⟨B, 0, none⟩)] w fun e w' => e = .returned (.bool m.fetching) ∧ w' = w := by
  have c40 := h.c40
  unfold Mc.fetching
  go_enter Tryz.func87, Tryz.ntmps87
  go_wp2
  all_goals
    go_ret
    simp_all
set_option maxHeartbeats 1000000 in
theorem tickImage_none (h : Mx w0 P w B m) (hf : m.fetching = false) : Calls Tryz.prog 56 #[.pointer (some ⟨B, 0, none⟩)] w fun ee w' => ee = .returned (.tuple #[]) ∧ Mx w0 P w' B m := by
  have HI := isFetching_any h
  rw [hf] at HI
  have HII := hide HI
  have HM := hide h
  clear h HI
  go_enter Tryz.func56, Tryz.ntmps56
  go_wp2_with fail
  refine (unhide HII).mono ?_
  rintro ee u ⟨rfl, rfl⟩
  go_wp2
  go_end0
  exact ⟨rfl, unhide HM⟩
def Mc.enter1 (m : Mc) : Mc := { m with st := 1, ws := 0, wu := 0 }
theorem Mc.Ok.enter1 {m : Mc} (h : m.Ok) : m.enter1.Ok := by
  obtain ⟨a1, a2, a3, a4, a5, a6, a7, a8, a9, a10, a11, a12, a13, a14, a15, a16⟩ := h
  exact ⟨a1, a2, a3, a4, a5, by show (0 : Int) ≤ 0 ∧ (0 : Int) ≤ 4; omega, a7, a8, a9, a10, a11, a12, a13, a14, a15, a16⟩
set_option maxHeartbeats 1000000 in
theorem enter_one (h : Mx w0 P w B m) (ho : m.Ok) : Calls Tryz.prog 82 #[.pointer (some ⟨B, 0, none⟩), .int .i64 1] w fun ee w' => ee = .returned (.tuple #[]) ∧ Mx w0 P w' B (m.enter1.wait1.say 1 []) := by
  have c25 := h.c25
  have f25 := h.free 25
  have c29 := h.c29
  have f29 := h.free 29
  have c30 := h.c30
  have f30 := h.free 30
  have HM := hide (((h.s25 1).s29 0).s30 0)
  clear h
  go_enter Tryz.func82, Tryz.ntmps82
  go_wp2_with fail
  refine (press_one (m := m.enter1) (unhide HM) ho.enter1 rfl (by show (0 : Int) ≤ 3; omega)).mono ?_
  rintro ee u ⟨rfl, hu⟩
  have HU := hide hu
  clear hu HM
  go_wp2
  go_end0
  exact ⟨rfl, unhide HU⟩
set_option maxHeartbeats 1000000 in
theorem tickLease_off (h : Mx w0 P w B m) (ho : m.Ok) (hst : m.st = 0) : Calls Tryz.prog 55 #[.pointer (some ⟨B, 0, none⟩)] w fun ee w' => ee = .returned (.tuple #[]) ∧ Mx w0 P w' B (({ m with xid := m.draw } : Mc).enter1.wait1.say 1 []) := by
  have c25 := h.c25
  rw [hst] at c25
  have c15 := h.c15
  have c26 := h.c26
  have f26 := h.free 26
  have HM := hide (h.s26 m.draw)
  have HO : Hid (Mc.Ok { m with xid := m.draw }) := hide (by
    obtain ⟨a1, a2, a3, a4, a5, a6, a7, a8, a9, a10, a11, a12, a13, a14, a15, a16⟩ := ho
    exact ⟨a1, a2, a1, a4, a5, a6, a7, a8, a9, a10, a11, a12, a13, a14, a15, a16⟩)
  clear h
  go_enter Tryz.func55, Tryz.ntmps55
  go_wp2_with fail
  refine (enter_one (unhide HM) (unhide HO)).mono ?_
  rintro ee u ⟨rfl, hu⟩
  have HU := hide hu
  clear hu HM
  go_wp2
  go_end0
  exact ⟨rfl, unhide HU⟩
theorem at_self (m : Mc) : m.at m.bm = m := rfl
def Mc.sel (m : Mc) : Mc := if m.now < m.wu then m else if m.ws = 4 then m.fail else m.wait1.say 1 []
set_option maxHeartbeats 1000000 in
theorem tickWait_sel (h : Mx w0 P w B m) (ho : m.Ok) (hst : m.st = 1) : Calls Tryz.prog 83 #[.pointer (some ⟨B, 0, none⟩), .agg #[.int .i64 m.ws, .int .i64 m.wu], .func (.func 84) #[] #[]] w fun ee w' => ee = .returned (.tuple #[]) ∧ ∃ b, Mx w0 P w' B (m.sel.at b) := by
  have HM := hide (h.alloc (.cells #[.int .i64 m.ws, .int .i64 m.wu] 92))
  have c14 := h.c14
  have hlt := h.lt
  clear h
  by_cases h1 : m.now < m.wu
  · have HE : Hid (m.sel = m) := hide (by unfold Mc.sel; rw [if_pos h1])
    go_enter Tryz.func83, Tryz.ntmps83
    go_wp2
    go_quiet (fail)
    go_wp2
    go_end0
    refine ⟨rfl, m.bm, ?_⟩
    rw [unhide HE, at_self]
    exact (unhide HM).like ⟨rfl, rfl, rfl, rfl⟩
  · by_cases h2 : m.ws = 4
    · have HE : Hid (m.sel = m.fail) := hide (by unfold Mc.sel; rw [if_neg h1, if_pos h2])
      have HF := fun (k : Nat) => hide (fail_any (w := (w.alloc (.cells #[.int .i64 m.ws, .int .i64 m.wu] 92)).drewN k) ((unhide HM).like ⟨rfl, rfl, rfl, rfl⟩))
      clear HM
      have h2b : (m.ws == 4) = true := by simpa using h2
      rw [h2] at HF ⊢
      clear h2 h2b
      go_enter Tryz.func83, Tryz.ntmps83
      go_wp2
      go_quiet (fail)
      go_wp2_with fail
      refine (unhide (HF _)).mono ?_
      rintro ee u ⟨rfl, b, hu⟩
      have HU := hide hu
      clear hu HF
      go_wp2
      go_end0
      refine ⟨rfl, b, ?_⟩
      rw [unhide HE]
      exact unhide HU
    · have HE : Hid (m.sel = m.wait1.say 1 []) := hide (by unfold Mc.sel; rw [if_neg h1, if_neg h2])
      have HF := fun (k : Nat) => hide (press_one (w := (w.alloc (.cells #[.int .i64 m.ws, .int .i64 m.wu] 92)).drewN k) ((unhide HM).like ⟨rfl, rfl, rfl, rfl⟩) ho hst (by have := ho.ws; omega))
      clear HM
      have h2b : (m.ws == 4) = false := by simpa using h2
      clear h2
      go_enter Tryz.func83, Tryz.ntmps83
      go_wp2
      go_quiet (fail)
      go_wp2_with fail
      refine (unhide (HF _)).mono ?_
      rintro ee u ⟨rfl, hu⟩
      have HU := hide hu
      clear hu HF
      go_wp2
      go_end0
      refine ⟨rfl, (m.wait1.say 1 []).bm, ?_⟩
      rw [unhide HE, at_self]
      exact unhide HU
set_option maxHeartbeats 1000000 in
theorem tickLease_one (h : Mx w0 P w B m) (ho : m.Ok) (hst : m.st = 1) : Calls Tryz.prog 55 #[.pointer (some ⟨B, 0, none⟩)] w fun ee w' => ee = .returned (.tuple #[]) ∧ ∃ b, Mx w0 P w' B (m.sel.at b) := by
  have c25 := h.c25
  rw [hst] at c25
  have c29 := h.c29
  have c30 := h.c30
  have HT := hide (tickWait_sel h ho hst)
  clear h
  go_enter Tryz.func55, Tryz.ntmps55
  go_wp2_with fail
  refine (unhide HT).mono ?_
  rintro ee u ⟨rfl, b, hu⟩
  have HU := hide hu
  clear hu HT
  go_wp2
  go_end0
  exact ⟨rfl, b, unhide HU⟩
def Mc.clock (m : Mc) (d : Int) : Mc := { m with now := wrap64 (m.now + 1), draw := d }
def Mc.off (m : Mc) : Mc := ({ m with xid := m.draw } : Mc).enter1.wait1.say 1 []
def Mc.tickE (m : Mc) (d : Int) : Mc := if (m.clock d).ended then m.clock d else if m.st = 0 then (m.clock d).off else (m.clock d).sel
structure Mc.Early (m : Mc) : Prop where
  ok : m.Ok
  st : m.st = 0 ∨ m.st = 1
  cd : m.cd = .map []
  phase : m.phase = 0 ∨ m.phase = 4
theorem sent_same (m : Mc) (s : ByteArray) : (m.sent s).st = m.st ∧ (m.sent s).cd = m.cd ∧ (m.sent s).phase = m.phase ∧ (m.sent s).boots = m.boots ∧ (m.sent s).now = m.now ∧ (m.sent s).wu = m.wu ∧ (m.sent s).ws = m.ws ∧ (m.sent s).draw = m.draw ∧ (m.sent s).tx = m.tx ∧ (m.sent s).bm = m.bm := by
  unfold Mc.sent; split <;> exact ⟨rfl, rfl, rfl, rfl, rfl, rfl, rfl, rfl, rfl, rfl⟩
theorem Mc.Ok.sent {m : Mc} (h : m.Ok) (s : ByteArray) : (m.sent s).Ok := by
  unfold Mc.sent
  split <;> exact ⟨h.1, h.2, h.3, h.4, h.5, h.6, h.7, h.8, h.9, h.10, h.11, h.12, h.13, h.14, h.15, h.16⟩
theorem u16_bd (x : Int) : 0 ≤ IntKind.u16.wrap x ∧ IntKind.u16.wrap x ≤ 65535 := by rw [IntKind.wrap_u16]; omega
theorem Mc.Ok.id1 {m : Mc} (h : m.Ok) : m.id1.Ok := ⟨h.1, u16_bd _, h.3, h.4, h.5, h.6, h.7, h.8, h.9, h.10, h.11, h.12, h.13, h.14, h.15, h.16⟩
theorem Mc.Ok.say {m : Mc} (h : m.Ok) (kb : UInt8) (os : Dh.Opts) : (m.say kb os).Ok := h.id1.sent _
theorem say_same (m : Mc) (kb : UInt8) (os : Dh.Opts) : (m.say kb os).st = m.st ∧ (m.say kb os).cd = m.cd ∧ (m.say kb os).phase = m.phase ∧ (m.say kb os).boots = m.boots ∧ (m.say kb os).now = m.now ∧ (m.say kb os).wu = m.wu ∧ (m.say kb os).ws = m.ws ∧ (m.say kb os).draw = m.draw ∧ (m.say kb os).tx = m.tx ∧ (m.say kb os).bm = m.bm :=
  sent_same m.id1 _
theorem Mc.Ok.clock {m : Mc} (h : m.Ok) (d : Int) (hd : 0 ≤ d ∧ d ≤ 4294967295) : (m.clock d).Ok := ⟨hd, h.2, h.3, h.4, h.5, h.6, h.7, h.8, h.9, h.10, h.11, h.12, h.13, h.14, h.15, h.16⟩
theorem zero32 : (0 : Int) ≤ 0 ∧ (0 : Int) ≤ 4294967295 := by decide
theorem zero16 : (0 : Int) ≤ 0 ∧ (0 : Int) ≤ 65535 := by decide
theorem zero4 : (0 : Int) ≤ 0 ∧ (0 : Int) ≤ 4 := by decide
theorem Mc.Ok.drop {m : Mc} (h : m.Ok) : m.drop.Ok :=
  ⟨h.1, h.2, zero32, zero32, zero32, zero4, zero32, zero32, zero32, zero32, zero32, zero32, zero4, zero16, zero16, by show (⟨#[]⟩ : ByteArray).size ≤ 262144; decide⟩
theorem Mc.Ok.at {m : Mc} (h : m.Ok) (b : Nat) : (m.at b).Ok := ⟨h.1, h.2, h.3, h.4, h.5, h.6, h.7, h.8, h.9, h.10, h.11, h.12, h.13, h.14, h.15, h.16⟩
theorem Mc.Ok.fail {m : Mc} (h : m.Ok) : m.fail.Ok := by
  have d := h.drop
  unfold Mc.fail
  split <;> exact ⟨d.1, d.2, d.3, d.4, d.5, d.6, d.7, d.8, d.9, d.10, d.11, d.12, d.13, d.14, d.15, d.16⟩
theorem Mc.Ok.xidd {m : Mc} (h : m.Ok) : Mc.Ok { m with xid := m.draw } := ⟨h.1, h.2, h.1, h.4, h.5, h.6, h.7, h.8, h.9, h.10, h.11, h.12, h.13, h.14, h.15, h.16⟩
theorem Mc.Ok.off {m : Mc} (h : m.Ok) : m.off.Ok := (h.xidd.enter1.wait1 (by show (0 : Int) ≤ 3; omega)).say _ _
theorem Mc.Ok.sel {m : Mc} (h : m.Ok) : m.sel.Ok := by
  unfold Mc.sel
  split
  · exact h
  · split
    · exact h.fail
    · exact (h.wait1 (by have := h.ws; omega)).say _ _
theorem sel_early {m : Mc} (h : m.Early) : m.sel.Early := by
  refine ⟨h.ok.sel, ?_, ?_, ?_⟩
  all_goals
    unfold Mc.sel
    split
    · first | exact h.st | exact h.cd | exact h.phase
    · split
      · unfold Mc.fail
        split <;> first | exact Or.inl rfl | exact Or.inr rfl | rfl
      · first | (rw [(say_same _ _ _).1]; exact h.st) | (rw [(say_same _ _ _).2.1]; exact h.cd) | (rw [(say_same _ _ _).2.2.1]; exact h.phase)
theorem off_early {m : Mc} (h : m.Early) : m.off.Early :=
  ⟨h.ok.off, by unfold Mc.off; rw [(say_same _ _ _).1]; exact Or.inr rfl, by unfold Mc.off; rw [(say_same _ _ _).2.1]; exact h.cd, by unfold Mc.off; rw [(say_same _ _ _).2.2.1]; exact h.phase⟩
theorem clock_early {m : Mc} (h : m.Early) (d : Int) (hd : 0 ≤ d ∧ d ≤ 4294967295) : (m.clock d).Early := ⟨h.ok.clock d hd, h.st, h.cd, h.phase⟩
theorem tickE_early {m : Mc} (h : m.Early) (d : Int) (hd : 0 ≤ d ∧ d ≤ 4294967295) : (m.tickE d).Early := by
  have hc := clock_early h d hd
  unfold Mc.tickE
  split
  · exact hc
  · split
    · exact off_early hc
    · exact sel_early hc
theorem at_early {m : Mc} (h : m.Early) (b : Nat) : (m.at b).Early := ⟨h.ok.at b, h.st, h.cd, h.phase⟩
theorem early_fetch {m : Mc} (h : m.Early) : m.fetching = false := by
  unfold Mc.fetching
  rcases h.phase with e | e <;> rw [e] <;> rfl
set_option maxHeartbeats 1000000 in
theorem tick_early (h : Mx w0 P w B m) (he : m.Early) (d : Int) (hd : 0 ≤ d ∧ d ≤ 4294967295) : Calls Tryz.prog 36 #[.pointer (some ⟨B, 0, none⟩), .int .u32 d] w fun ee w' => ee = .returned (.tuple #[]) ∧ ∃ b, Mx w0 P w' B ((m.tickE d).at b) := by
  have c14 := h.c14
  have f14 := h.free 14
  have c15 := h.c15
  have f15 := h.free 15
  have HM : Hid (Mx w0 P ((w.setCell ⟨B, 14, none⟩ (.int .i64 (wrap64 (m.now + 1)))).setCell ⟨B, 15, none⟩ (.int .u32 d)) B (m.clock d)) := hide ((h.s14 _).s15 _)
  have he1 := clock_early he d hd
  have hst : (m.clock d).st = m.st := rfl
  have HS := hide hst
  have HE0 : Hid (m.tickE d = if (m.clock d).ended then m.clock d else if (m.clock d).st = 0 then (m.clock d).off else (m.clock d).sel) := hide rfl
  generalize m.clock d = m1 at *
  clear h hst
  have HE := hide (ended_any (unhide HM))
  have HI1 := hide he1
  clear he1
  cases hend : m1.ended with
  | true =>
    rw [hend] at HE
    have HX : Hid (m.tickE d = m1) := hide (by rw [unhide HE0, hend]; rfl)
    clear hend HE0
    go_enter Tryz.func36, Tryz.ntmps36
    go_wp2_with fail
    refine (unhide HE).mono ?_
    rintro ee u ⟨rfl, rfl⟩
    go_wp2
    go_end0
    refine ⟨rfl, m1.bm, ?_⟩
    rw [unhide HX, at_self]
    exact unhide HM
  | false =>
    rw [hend] at HE
    have HX : Hid (m.tickE d = if m1.st = 0 then m1.off else m1.sel) := hide (by rw [unhide HE0, hend]; rfl)
    clear hend HE0
    go_enter Tryz.func36, Tryz.ntmps36
    go_wp2_with fail
    refine (unhide HE).mono ?_
    rintro ee u ⟨rfl, rfl⟩
    go_wp2_with fail
    refine (tickCache_none (unhide HM) (unhide HI1).cd).mono ?_
    rintro ee u1 ⟨rfl, h1⟩
    have H1 := hide h1
    clear h1 HM HE c14 c15 f14 f15
    go_wp2_with fail
    have HL : Calls Tryz.prog 55 #[.pointer (some ⟨B, 0, none⟩)] u1 fun ee w' => ee = .returned (.tuple #[]) ∧ ∃ b, Hid (Mx w0 P w' B ((m.tickE d).at b)) ∧ Hid ((m.tickE d).at b).Early := by
      rw [unhide HX]
      rcases (unhide HI1).st with e | e
      · rw [if_pos e]
        refine (tickLease_off (unhide H1) (unhide HI1).ok e).mono ?_
        rintro ee u2 ⟨rfl, h2⟩
        exact ⟨rfl, _, hide (by rw [at_self]; exact h2), hide (at_early (off_early (unhide HI1)) _)⟩
      · rw [if_neg (by omega)]
        refine (tickLease_one (unhide H1) (unhide HI1).ok e).mono ?_
        rintro ee u2 ⟨rfl, b, h2⟩
        exact ⟨rfl, b, hide h2, hide (at_early (sel_early (unhide HI1)) b)⟩
    refine HL.mono ?_
    rintro ee u2 ⟨rfl, b, H2, HI2⟩
    clear HL H1
    go_wp2_with fail
    refine (tickImage_none (unhide H2) (early_fetch (unhide HI2))).mono ?_
    rintro ee u3 ⟨rfl, h3⟩
    have H3 := hide h3
    clear h3 H2
    go_wp2
    go_end0
    exact ⟨rfl, b, unhide H3⟩
end Go.Proofs.YtbhbbeebncmaiaaGreatDoor.Mac

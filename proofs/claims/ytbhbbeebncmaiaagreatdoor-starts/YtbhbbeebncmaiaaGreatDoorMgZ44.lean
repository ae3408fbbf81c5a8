import Derived.Test.YtbhbbeebncmaiaaGreatDoorMgZ40
import Derived.Test.YtbhbbeebncmaiaaGreatDoorMgZ39
import Derived.Test.YtbhbbeebncmaiaaGreatDoorMgZ41
import Derived.Test.YtbhbbeebncmaiaaGreatDoorMgZ42
import Derived.Test.YtbhbbeebncmaiaaGreatDoorMgZ43
import Derived.Test.YtbhbbeebncmaiaaGreatDoorMgZ17
import Derived.Test.YtbhbbeebncmaiaaGreatDoorMgZ33
import Derived.Test.YtbhbbeebncmaiaaGreatDoorMgZ31
namespace Go.Proofs.YtbhbbeebncmaiaaGreatDoor.Ref
open Go.ChangeShapes Go.WideShapes Go.ChangeAt Go.RowKit Bs Mac
set_option linter.unusedVariables false
set_option linter.unusedSimpArgs false
variable {w0 : World} {P : Nat → Prop} {w w' : World} {G : Nat} {r r' : Rf}
structure Rf.Fit (r : Rf) : Prop where
  draw : 0 ≤ r.draw ∧ r.draw ≤ 4294967295
  xid : 0 ≤ r.xid ∧ r.xid ≤ 4294967295
  tx : r.tx ≤ 16
  tl : r.tl.length ≤ r.tx
set_option maxHeartbeats 2000000 in
theorem asks_one (h : Rm w0 P w G r) (hf : r.Fit) (hl : r.lease = 1) : Calls Tryz.prog 59 #[.pointer (some ⟨G, 0, none⟩)] w fun ee w' => ee = .returned (.tuple #[]) ∧ ∃ v, Rm w0 P w' G (r.sayV 1 v) := by
  have HS := hide (say_any h (by omega) 1 (by decide) hf.xid hf.tx hf.tl)
  have c22 := h.c22
  rw [hl] at c22
  clear h hf
  go_enter Tryz.func59, Tryz.ntmps59
  go_wp2_with fail
  refine (unhide HS).mono ?_
  rintro ee u ⟨rfl, v, hu⟩
  have HU := hide hu
  clear hu HS
  go_wp2
  go_end0
  exact ⟨rfl, v, unhide HU⟩
def Rf.goes1 (r : Rf) : Rf := { r with lease := 1, sends := 1, again := wrap64 (r.now + waitR 0 r.draw) }
set_option maxHeartbeats 2000000 in
set_option maxRecDepth 10000 in
theorem goes_one (h : Rm w0 P w G r) (hf : r.Fit) : Calls Tryz.prog 58 #[.pointer (some ⟨G, 0, none⟩), .int .i64 1] w fun ee w' => ee = .returned (.tuple #[]) ∧ ∃ v, Rm w0 P w' G (r.goes1.sayV 1 v) := by
  obtain ⟨N, hN⟩ : ∃ N, N = wrap64 (r.now + waitR 0 r.draw) := ⟨_, rfl⟩
  have hw : IntKind.i64.wrap (r.now + waitR 0 r.draw) = N := by rw [hN, wrapI]
  have HN := hide hN
  have HF1 : Hid (r.goes1.Fit) := hide ⟨hf.draw, hf.xid, hf.tx, hf.tl⟩
  have h1 : Rm w0 P (w.setCell ⟨G, 22, none⟩ (.int .i64 1)) G { r with lease := 1 } := h.s22 1
  have h2 : Rm w0 P ((w.setCell ⟨G, 22, none⟩ (.int .i64 1)).setCell ⟨G, 33, none⟩ (.int .i64 1)) G { r with lease := 1, sends := 1 } := h1.s33 1
  have c22 := h.c22
  have f22 := h.free 22
  have c33 := h1.c33
  have f33 := h1.free 33
  have HW1 : Hid (Calls Tryz.prog 41 #[.pointer (some ⟨G, 0, none⟩), .int .i64 0] (((w.setCell ⟨G, 22, none⟩ (.int .i64 1)).setCell ⟨G, 33, none⟩ (.int .i64 1)).drew) fun ee w' => ee = .returned (.int .i64 (waitR 0 r.draw)) ∧ w' = ((w.setCell ⟨G, 22, none⟩ (.int .i64 1)).setCell ⟨G, 33, none⟩ (.int .i64 1)).drew) := hide (wait_any (k := 0) h2.drew (by decide) hf.draw)
  have H2 := hide h2
  have c16 := h2.c16
  have c32 := h2.c32
  have f32 := h2.free 32
  obtain ⟨v, hv⟩ : ∃ v, v = (w.setCell ⟨G, 22, none⟩ (.int .i64 1)).setCell ⟨G, 33, none⟩ (.int .i64 1) := ⟨_, rfl⟩
  rw [← hv] at c16 c32 f32 HW1 H2
  have HV := hide hv
  clear h h1 h2 hf hv hN
  go_enter Tryz.func58, Tryz.ntmps58
  go_wp2
  rw [← unhide HV]
  clear c22 f22 c33 f33 HV
  have H3 : Hid (Rm w0 P ((v.setCell ⟨G, 32, none⟩ (.int .i64 N)).drew) G r.goes1) := hide (by rw [unhide HN]; exact ((unhide H2).s32 _).drew)
  go_region_held3 (fun u => u.cell? ⟨G, 16, none⟩ = some (.int .i64 r.now)) (first | (go_keep; done) | exact (unhide H3).c16)
    (first | (go_at_call 41; refine (unhide HW1).mono ?_; rintro ee u ⟨rfl, rfl⟩))
  have HS := hide (asks_one (unhide H3) (unhide HF1) rfl)
  clear H3 H2 HF1 c16 c32 f32 HW1 hw HN
  go_wp2_with fail
  refine (unhide HS).mono ?_
  rintro ee u ⟨rfl, v9, hu⟩
  have HU := hide hu
  clear hu HS
  go_wp2
  go_end0
  exact ⟨rfl, v9, unhide HU⟩
set_option maxHeartbeats 2000000 in
set_option maxRecDepth 10000 in
theorem leases_off (h : Rm w0 P w G r) (hf : r.Fit) (hl : r.lease = 0) : Calls Tryz.prog 39 #[.pointer (some ⟨G, 0, none⟩)] w fun ee w' => ee = .returned (.tuple #[]) ∧ ∃ v, Rm w0 P w' G (({ r with xid := r.draw } : Rf).goes1.sayV 1 v) := by
  have h1 : Rm w0 P (w.setCell ⟨G, 23, none⟩ (.int .u32 r.draw)) G { r with xid := r.draw } := h.s23 _
  have HG := hide (goes_one h1 ⟨hf.draw, hf.draw, hf.tx, hf.tl⟩)
  have c22 := h.c22
  rw [hl] at c22
  have c17 := h.c17
  have c23 := h.c23
  have f23 := h.free 23
  clear h h1 hf
  go_enter Tryz.func39, Tryz.ntmps39
  go_wp2_with fail
  refine (unhide HG).mono ?_
  rintro ee u ⟨rfl, v, hu⟩
  have HU := hide hu
  clear hu HG
  go_wp2
  go_returns
  exact ⟨rfl, v, unhide HU⟩
def Rf.more (r : Rf) (k : Nat) : Rf := { r with again := wrap64 (r.now + waitR k r.draw), sends := (k : Int) + 1 }
set_option maxHeartbeats 4000000 in
set_option maxRecDepth 10000 in
theorem leases_more (h : Rm w0 P w G r) (hf : r.Fit) (hl : r.lease = 1) (k : Nat) (hk : k ≤ 3) (hs : r.sends = k) (hn : ¬ r.now < r.again) : Calls Tryz.prog 39 #[.pointer (some ⟨G, 0, none⟩)] w fun ee w' => ee = .returned (.tuple #[]) ∧ ∃ v, Rm w0 P w' G ((r.more k).sayV 1 v) := by
  obtain ⟨N, hN⟩ : ∃ N, N = wrap64 (r.now + waitR k r.draw) := ⟨_, rfl⟩
  have hw : IntKind.i64.wrap (r.now + waitR k r.draw) = N := by rw [hN, wrapI]
  have HN := hide hN
  have hw1 : IntKind.i64.wrap ((k : Int) + 1) = (k : Int) + 1 := wrap_i64 _ (by omega) (by omega)
  have HF1 : Hid ((r.more k).Fit) := hide ⟨hf.draw, hf.xid, hf.tx, hf.tl⟩
  have HL1 : Hid ((r.more k).lease = 1) := hide hl
  have HM := hide h
  have HD := hide hf.draw
  have HK := hide hk
  have c16 := h.c16
  have c32 := h.c32
  have c22 := h.c22
  have c33 := h.c33
  rw [hl] at c22
  rw [hs] at c33
  have HSS := hide hs
  have hge : r.again ≤ r.now := by omega
  have hgd : decide (r.again ≤ r.now) = true := by simpa using hge
  have hq4 : ((k : Int) == 4) = false := by rw [beq_eq_false_iff_ne]; omega
  clear h hf hn hN hs hk
  go_enter Tryz.func39, Tryz.ntmps39
  go_wp2
  go_quiet (fail)
  obtain ⟨u, hu⟩ : ∃ u, u = w.drewN nq := ⟨_, rfl⟩
  have HMu : Hid (Rm w0 P u G r) := hide (by rw [hu]; exact (unhide HM).like ⟨rfl, rfl, rfl, rfl⟩)
  rw [← hu]
  clear hu HM c16 c32 c22 c33
  have c16 := (unhide HMu).c16
  have c32 := (unhide HMu).c32
  go_wp2
  go_quiet (fail)
  obtain ⟨v, hv⟩ : ∃ v, v = u.drewN nq := ⟨_, rfl⟩
  have HMv : Hid (Rm w0 P v G r) := hide (by rw [hv]; exact (unhide HMu).like ⟨rfl, rfl, rfl, rfl⟩)
  rw [← hv]
  clear hv HMu c16 c32
  have c16 := (unhide HMv).c16
  have c32 := (unhide HMv).c32
  have f32 := (unhide HMv).free 32
  have c33 := (unhide HMv).c33
  rw [unhide HSS] at c33
  have HW1 : Hid (Calls Tryz.prog 41 #[.pointer (some ⟨G, 0, none⟩), .int .i64 k] v.drew fun ee w' => ee = .returned (.int .i64 (waitR k r.draw)) ∧ w' = v.drew) := hide (wait_any (unhide HMv).drew k (by have := unhide HK; omega) (unhide HD))
  go_wp2
  have H3 : Hid (Rm w0 P ((v.setCell ⟨G, 32, none⟩ (.int .i64 N)).drew) G { r with again := N }) := hide (((unhide HMv).s32 _).drew)
  have g33 := (unhide H3).c33
  rw [show ({ r with again := N } : Rf).sends = (k : Int) from unhide HSS] at g33
  have HG33 := hide g33
  clear g33
  go_region_held3 (fun u => u.cell? ⟨G, 16, none⟩ = some (.int .i64 r.now) ∧ u.cell? ⟨G, 33, none⟩ = some (.int .i64 k)) (first | (go_keep; done) | exact ⟨(unhide H3).c16, unhide HG33⟩)
    (first | (go_at_call 41; refine (unhide HW1).mono ?_; rintro ee u ⟨rfl, rfl⟩))
  have H4 : Hid (Rm w0 P (((v.setCell ⟨G, 32, none⟩ (.int .i64 N)).drew).setCell ⟨G, 33, none⟩ (.int .i64 ((k : Int) + 1))) G (r.more k)) := hide (by
    have q := (unhide H3).s33 ((k : Int) + 1)
    rw [show r.more k = { r with again := N, sends := (k : Int) + 1 } from by rw [unhide HN]; rfl]
    exact q)
  have HS := hide (asks_one (unhide H4) (unhide HF1) (unhide HL1))
  have g33 := unhide HG33
  have k33 := (unhide H3).free 33
  obtain ⟨x, hx⟩ : ∃ x, x = (v.setCell ⟨G, 32, none⟩ (.int .i64 N)).drew := ⟨_, rfl⟩
  rw [← hx] at HS g33 k33 ⊢
  clear hx H3 HG33 H4 HF1 HMv c16 c32 f32 c33 HW1
  go_wp2_with fail
  refine (unhide HS).mono ?_
  rintro ee u ⟨rfl, v9, hu⟩
  have HU := hide hu
  clear hu HS
  go_wp2
  go_returns
  exact ⟨rfl, v9, unhide HU⟩
def Rf.failR (r : Rf) : Rf := if wrap64 (r.boots + 1) = 3 then { r.dropR with boots := 3, phase := 4 } else { r.dropR with boots := wrap64 (r.boots + 1) }
set_option maxHeartbeats 2000000 in
set_option maxRecDepth 10000 in
theorem fail_any (h : Rm w0 P w G r) (tp : Option Addr) (ht : r.t = .pointer tp) : Calls Tryz.prog 40 #[.pointer (some ⟨G, 0, none⟩)] w fun ee w' => ee = .returned (.tuple #[]) ∧ Rm w0 P w' G r.failR := by
  have HDR := hide (drop_any h tp ht)
  obtain ⟨N, hN⟩ : ∃ N, N = wrap64 (r.boots + 1) := ⟨_, rfl⟩
  have hw : IntKind.i64.wrap (r.boots + 1) = N := by rw [hN, wrapI]
  have HN := hide hN
  clear h hN
  by_cases h3 : N = 3
  · subst h3
    have HE : Hid (r.failR = { r.dropR with boots := 3, phase := 4 }) := hide (by unfold Rf.failR; rw [if_pos (unhide HN).symm])
    go_enter Tryz.func40, Tryz.ntmps40
    go_wp2_with fail
    refine (unhide HDR).mono ?_
    rintro ee u ⟨rfl, hu⟩
    have c18 := hu.c18
    have f18 := hu.free 18
    have h1 := hu.s18 3
    have d18 := h1.c18
    have c34 := h1.c34
    have f34 := h1.free 34
    have H2 := hide (h1.s34 4)
    clear hu h1 HDR
    rw [show r.dropR.boots = r.boots from rfl] at c18
    go_wp2
    go_end0
    rw [unhide HE]
    exact ⟨rfl, unhide H2⟩
  · have HE : Hid (r.failR = { r.dropR with boots := N }) := hide (by unfold Rf.failR; rw [if_neg (by rw [← unhide HN]; exact h3), ← unhide HN])
    have hq3 : (N == 3) = false := by simpa using h3
    clear h3
    go_enter Tryz.func40, Tryz.ntmps40
    go_wp2_with fail
    refine (unhide HDR).mono ?_
    rintro ee u ⟨rfl, hu⟩
    have c18 := hu.c18
    have f18 := hu.free 18
    have h1 := hu.s18 N
    have d18 := h1.c18
    have H2 := hide h1
    clear hu h1 HDR
    rw [show r.dropR.boots = r.boots from rfl] at c18
    go_wp2
    go_end0
    rw [unhide HE]
    exact ⟨rfl, unhide H2⟩
set_option maxHeartbeats 2000000 in
set_option maxRecDepth 10000 in
theorem leases_fail (h : Rm w0 P w G r) (tp : Option Addr) (ht : r.t = .pointer tp) (hl : r.lease = 1) (hs : r.sends = 4) (hn : ¬ r.now < r.again) : Calls Tryz.prog 39 #[.pointer (some ⟨G, 0, none⟩)] w fun ee w' => ee = .returned (.tuple #[]) ∧ Rm w0 P w' G r.failR := by
  have HM := hide h
  have HT := hide ht
  have c16 := h.c16
  have c32 := h.c32
  have c22 := h.c22
  have c33 := h.c33
  rw [hl] at c22
  rw [hs] at c33
  have hge : r.again ≤ r.now := by omega
  have hgd : decide (r.again ≤ r.now) = true := by simpa using hge
  clear h hn ht hs
  go_enter Tryz.func39, Tryz.ntmps39
  go_wp2
  go_quiet (fail)
  obtain ⟨u, hu⟩ : ∃ u, u = w.drewN nq := ⟨_, rfl⟩
  have HMu : Hid (Rm w0 P u G r) := hide (by rw [hu]; exact (unhide HM).like ⟨rfl, rfl, rfl, rfl⟩)
  rw [← hu]
  have HFF := hide (fail_any (unhide HMu) tp (unhide HT))
  clear hu HM c16 c32 c22 c33 HMu
  go_wp2_with fail
  refine (unhide HFF).mono ?_
  rintro ee u ⟨rfl, hu⟩
  have HU := hide hu
  clear hu HFF
  go_wp2
  go_returns
  exact ⟨rfl, unhide HU⟩
end Go.Proofs.YtbhbbeebncmaiaaGreatDoor.Ref
namespace Go.Proofs.YtbhbbeebncmaiaaGreatDoor.Ref
open Go.ChangeShapes Go.WideShapes Go.ChangeAt Go.RowKit Bs Mac
set_option linter.unusedVariables false
set_option linter.unusedSimpArgs false
variable {w0 : World} {P : Nat → Prop} {w w' : World} {G : Nat} {r r' : Rf}
def Rf.clk (r : Rf) (d : Int) : Rf := { r with now := wrap64 (r.now + 1), draw := d }
def Rf.tickV (r : Rf) (d : Int) (v : Value) : Rf :=
  if r.phase = 4 then r.clk d else if r.lease = 0 then ({ r.clk d with xid := (r.clk d).draw } : Rf).goes1.sayV 1 v
  else if (r.clk d).now < (r.clk d).again then r.clk d else if r.sends = 4 then (r.clk d).failR else ((r.clk d).more r.sends.toNat).sayV 1 v
theorem sentV_phase (r : Rf) (F : ByteArray) (v : Value) : (r.sentV F v).phase = r.phase := by unfold Rf.sentV; split <;> rfl
theorem sayV_phase (r : Rf) (kb : UInt8) (v : Value) : (r.sayV kb v).phase = r.phase := sentV_phase _ _ _
theorem failR_phase (r : Rf) : r.failR.phase = 0 ∨ r.failR.phase = 4 := by unfold Rf.failR; split <;> simp [Rf.dropR]
theorem tick_any (h : Rm w0 P w G r) (d : Int) (hd : 0 ≤ d ∧ d ≤ 4294967295) (hp : r.phase = 0 ∨ r.phase = 4) (hl : r.lease = 0 ∨ r.lease = 1) (hc : r.cv = .slice none 0 0) (hs : 0 ≤ r.sends ∧ r.sends ≤ 4) (hx : 0 ≤ r.xid ∧ r.xid ≤ 4294967295) (htx : r.tx ≤ 16) (htl : r.tl.length ≤ r.tx) (tp : Option Addr) (ht : r.t = .pointer tp) :
    Calls Tryz.prog 22 #[.pointer (some ⟨G, 0, none⟩), .int .u32 d] w fun ee w' => ee = .returned (.tuple #[]) ∧ ∃ v, Rm w0 P w' G (r.tickV d v) := by
  rcases hp with hp | hp
  · have h4 : ¬ r.phase = 4 := by omega
    have hfit : (r.clk d).Fit := ⟨hd, hx, htx, htl⟩
    rcases hl with hl | hl
    · have e : ∀ v, r.tickV d v = ({ r.clk d with xid := (r.clk d).draw } : Rf).goes1.sayV 1 v := fun v => by unfold Rf.tickV; rw [if_neg h4, if_pos hl]
      refine (tick_viaV h hp hc d (fun v => ({ r.clk d with xid := (r.clk d).draw } : Rf).goes1.sayV 1 v) (fun v => ?_) (fun w0 P u hu => leases_off (r := r.clk d) hu hfit hl)).mono ?_
      · rw [sayV_phase]; show r.phase ≠ 1 ∧ r.phase ≠ 2; omega
      · rintro ee u ⟨rfl, v, hu⟩
        exact ⟨rfl, v, by rw [e]; exact hu⟩
    · have h0 : ¬ r.lease = 0 := by omega
      by_cases hn : (r.clk d).now < (r.clk d).again
      · have e : ∀ v, r.tickV d v = r.clk d := fun v => by unfold Rf.tickV; rw [if_neg h4, if_neg h0, if_pos hn]
        refine (tick_via (r' := r.clk d) h hp hc d (by show r.phase ≠ 1 ∧ r.phase ≠ 2; omega) (fun w0 P u hu => leases_wait (r := r.clk d) hu (Or.inl hl) hn)).mono ?_
        rintro ee u ⟨rfl, hu⟩
        exact ⟨rfl, .slice none 0 0, by rw [e]; exact hu⟩
      · by_cases h5 : r.sends = 4
        · have e : ∀ v, r.tickV d v = (r.clk d).failR := fun v => by unfold Rf.tickV; rw [if_neg h4, if_neg h0, if_neg hn, if_pos h5]
          refine (tick_via (r' := (r.clk d).failR) h hp hc d (by have := failR_phase (r.clk d); omega) (fun w0 P u hu => leases_fail (r := r.clk d) hu tp ht hl h5 hn)).mono ?_
          rintro ee u ⟨rfl, hu⟩
          exact ⟨rfl, .slice none 0 0, by rw [e]; exact hu⟩
        · have e : ∀ v, r.tickV d v = ((r.clk d).more r.sends.toNat).sayV 1 v := fun v => by unfold Rf.tickV; rw [if_neg h4, if_neg h0, if_neg hn, if_neg h5]
          refine (tick_viaV h hp hc d (fun v => ((r.clk d).more r.sends.toNat).sayV 1 v) (fun v => ?_) (fun w0 P u hu => leases_more (r := r.clk d) hu hfit hl r.sends.toNat (by omega) (by show r.sends = _; omega) hn)).mono ?_
          · rw [sayV_phase]; show r.phase ≠ 1 ∧ r.phase ≠ 2; omega
          · rintro ee u ⟨rfl, v, hu⟩
            exact ⟨rfl, v, by rw [e]; exact hu⟩
  · have e : ∀ v, r.tickV d v = r.clk d := fun v => by unfold Rf.tickV; rw [if_pos hp]
    refine (tick_over h hp d).mono ?_
    rintro ee u ⟨rfl, hu⟩
    exact ⟨rfl, .slice none 0 0, by rw [e]; exact hu⟩
theorem take_any (h : Rm w0 P w G r) (hl : r.tl.length ≤ 16) : Calls Tryz.prog 20 #[.pointer (some ⟨G, 0, none⟩)] w fun ee w' => ee = .returned (.tuple #[.string (headS r.tl), .bool (!r.tl.isEmpty)]) ∧ ∃ v, Rm w0 P w' G { r with tv := v, tl := r.tl.tail } := by
  cases ht : r.tl with
  | nil =>
    refine (take_none h ht).mono ?_
    rintro ee u ⟨rfl, hu⟩
    refine ⟨rfl, r.tv, ?_⟩
    have e : ({ r with tv := r.tv, tl := [] } : Rf) = r := by rw [← ht]
    show Rm w0 P u G { r with tv := r.tv, tl := [] }
    rw [e, hu]; exact h
  | cons s q =>
    refine (take_some h s q ht (by rw [ht] at hl; simp at hl; omega)).mono ?_
    rintro ee u ⟨rfl, v, hu⟩
    exact ⟨rfl, v, hu⟩
end Go.Proofs.YtbhbbeebncmaiaaGreatDoor.Ref
namespace Go.Proofs.YtbhbbeebncmaiaaGreatDoor.Law
open Go.ChangeShapes Go.WideShapes Go.ChangeAt Go.RowKit Bs Mac Ref
set_option linter.unusedVariables false
set_option linter.unusedSimpArgs false
variable {m : Mc} {r : Rf} {d : Int}
structure StE (m : Mc) (r : Rf) : Prop where
  k0 : r.k0 = m.k0
  k1 : r.k1 = m.k1
  k2 : r.k2 = m.k2
  k3 : r.k3 = m.k3
  k4 : r.k4 = m.k4
  k5 : r.k5 = m.k5
  tx : r.tx = m.tx
  tl : r.tl = m.gq
  lost : r.lost = m.lost
  id : m.id = r.id % 65536
  now : r.now = m.now
  draw : r.draw = m.draw
  xid : r.xid = m.xid
  lease : r.lease = m.st
  sends : r.sends = m.ws
  again : r.again = m.wu
  phase : r.phase = m.phase
  boots : r.boots = m.boots
  cv : r.cv = .slice none 0 0
  iv : r.iv = .slice none 0 0
  img : m.imgL = []
  t : ∃ tp, r.t = .pointer tp
structure StartR (m : Mc) (r : Rf) : Prop where
  early : m.Early
  e : StE m r
theorem StE.clk (h : StE m r) (d : Int) : StE (m.clock d) (r.clk d) :=
  ⟨h.k0, h.k1, h.k2, h.k3, h.k4, h.k5, h.tx, h.tl, h.lost, h.id, by show wrap64 (r.now + 1) = wrap64 (m.now + 1); rw [h.now], rfl, h.xid, h.lease, h.sends, h.again, h.phase, h.boots, h.cv, h.iv, h.img, h.t⟩
theorem StE.at (h : StE m r) (b : Nat) : StE (m.at b) r :=
  ⟨h.k0, h.k1, h.k2, h.k3, h.k4, h.k5, h.tx, h.tl, h.lost, h.id, h.now, h.draw, h.xid, h.lease, h.sends, h.again, h.phase, h.boots, h.cv, h.iv, h.img, h.t⟩
theorem StE.sent (h : StE m r) (F : ByteArray) (v : Value) : StE (m.sent F) (r.sentV F v) := by
  unfold Mc.sent Rf.sentV
  have e : (r.tl.length = r.tx) = (m.gq.length = m.tx) := by rw [h.tl, h.tx]
  by_cases hq : m.gq.length = m.tx
  · rw [if_pos hq, if_pos (by rw [e]; exact hq)]
    exact ⟨h.k0, h.k1, h.k2, h.k3, h.k4, h.k5, h.tx, h.tl, by show wrap64 (r.lost + 1) = wrap64 (m.lost + 1); rw [h.lost], h.id, h.now, h.draw, h.xid, h.lease, h.sends, h.again, h.phase, h.boots, h.cv, h.iv, h.img, h.t⟩
  · rw [if_neg hq, if_neg (by rw [e]; exact hq)]
    exact ⟨h.k0, h.k1, h.k2, h.k3, h.k4, h.k5, h.tx, by show r.tl ++ [F] = m.gq ++ [F]; rw [h.tl], h.lost, h.id, h.now, h.draw, h.xid, h.lease, h.sends, h.again, h.phase, h.boots, h.cv, h.iv, h.img, h.t⟩
theorem StE.say (h : StE m r) (ha : m.addr = 0) (v : Value) : StE (m.say 1 []) (r.sayV 1 v) := by
  have hF : Eth.ethS ([255, 255, 255, 255, 255, 255] ++ m.id1.card) 2048 (m.packB 4294967295 68 67 (m.sayB 1 [])) = r.sayF 1 := by
    unfold Rf.sayF Rf.packB Rf.sayB Mc.packB Mc.sayB
    rw [ha, h.k0, h.k1, h.k2, h.k3, h.k4, h.k5, h.xid, h.id]
    rfl
  have h1 : StE m.id1 { r with id := wrap64 (r.id + 1) } :=
    ⟨h.k0, h.k1, h.k2, h.k3, h.k4, h.k5, h.tx, h.tl, h.lost, by
      show IntKind.u16.wrap (m.id + 1) = wrap64 (r.id + 1) % 65536
      have := h.id
      rw [IntKind.wrap_u16]
      unfold wrap64
      omega, h.now, h.draw, h.xid, h.lease, h.sends, h.again, h.phase, h.boots, h.cv, h.iv, h.img, h.t⟩
  have h2 := h1.sent (r.sayF 1) v
  rw [← hF] at h2
  unfold Rf.sayV
  rw [← hF]
  exact h2
theorem StE.off (h : StE m r) : StE (({ m with xid := m.draw } : Mc).enter1.wait1) (({ r with xid := r.draw } : Rf).goes1) :=
  ⟨h.k0, h.k1, h.k2, h.k3, h.k4, h.k5, h.tx, h.tl, h.lost, h.id, h.now, h.draw, h.draw, rfl, rfl, by
    show wrap64 (r.now + waitR 0 r.draw) = wrap64 (m.now + (2 * 2 ^ (0 : Int).toNat + m.draw % 3 - 1))
    rw [h.now, h.draw]
    rfl, h.phase, h.boots, h.cv, h.iv, h.img, h.t⟩
theorem StE.more (h : StE m r) (hw : 0 ≤ m.ws) : StE m.wait1 (r.more r.sends.toNat) :=
  ⟨h.k0, h.k1, h.k2, h.k3, h.k4, h.k5, h.tx, h.tl, h.lost, h.id, h.now, h.draw, h.xid, h.lease, by
    show ((r.sends.toNat : Nat) : Int) + 1 = m.ws + 1
    rw [h.sends]; omega, by
    show wrap64 (r.now + waitR r.sends.toNat r.draw) = wrap64 (m.now + (2 * 2 ^ m.ws.toNat + m.draw % 3 - 1))
    rw [h.now, h.draw, h.sends]
    rfl, h.phase, h.boots, h.cv, h.iv, h.img, h.t⟩
theorem StE.fail (h : StE m r) : StE m.fail r.failR := by
  unfold Mc.fail Rf.failR
  rw [h.boots]
  split
  · exact ⟨h.k0, h.k1, h.k2, h.k3, h.k4, h.k5, h.tx, h.tl, h.lost, h.id, h.now, h.draw, rfl, rfl, rfl, rfl, rfl, rfl, rfl, rfl, rfl, h.t⟩
  · exact ⟨h.k0, h.k1, h.k2, h.k3, h.k4, h.k5, h.tx, h.tl, h.lost, h.id, h.now, h.draw, rfl, rfl, rfl, rfl, rfl, rfl, rfl, rfl, rfl, h.t⟩
theorem addr_early (h : m.Early) : m.addr = 0 := by
  unfold Mc.addr
  rw [if_pos (by rcases h.st with e | e <;> omega)]
theorem addr_st (hs : m.st < 4) : m.addr = 0 := by
  unfold Mc.addr
  rw [if_pos hs]
theorem StE.tick (h : StE m r) (he : m.Early) (d : Int) (v : Value) : StE (m.tickE d) (r.tickV d v) := by
  have hc := h.clk d
  unfold Mc.tickE Rf.tickV
  rcases he.phase with hp | hp
  · have e1 : (m.clock d).ended = false := by
      show (m.phase == 3 || m.phase == 4) = false
      rw [hp]; rfl
    have e2 : ¬ r.phase = 4 := by rw [h.phase, hp]; decide
    rw [e1, if_neg (by decide), if_neg e2]
    by_cases hs : m.st = 0
    · rw [if_pos hs, if_pos (show r.lease = 0 from by rw [h.lease]; exact hs)]
      exact hc.off.say (addr_st (by show (1 : Int) < 4; decide)) v
    · rw [if_neg hs, if_neg (show ¬ r.lease = 0 from by rw [h.lease]; exact hs)]
      unfold Mc.sel
      have hst : m.st = 1 := by rcases he.st with e | e; exact absurd e hs; exact e
      by_cases hn : (m.clock d).now < (m.clock d).wu
      · rw [if_pos hn, if_pos (show (r.clk d).now < (r.clk d).again from by rw [hc.now, hc.again]; exact hn)]
        exact hc
      · rw [if_neg hn, if_neg (show ¬ (r.clk d).now < (r.clk d).again from by rw [hc.now, hc.again]; exact hn)]
        by_cases h4 : m.ws = 4
        · rw [if_pos (show (m.clock d).ws = 4 from h4), if_pos (show r.sends = 4 from by rw [h.sends]; exact h4)]
          exact hc.fail
        · rw [if_neg (show ¬ (m.clock d).ws = 4 from h4), if_neg (show ¬ r.sends = 4 from by rw [h.sends]; exact h4)]
          exact (hc.more he.ok.ws.1).say (addr_st (by show m.st < 4; omega)) v
  · have e1 : (m.clock d).ended = true := by
      show (m.phase == 3 || m.phase == 4) = true
      rw [hp]; rfl
    rw [e1, if_pos rfl, if_pos (by rw [h.phase, hp])]
    exact hc
theorem StartR.tick (h : StartR m r) (d : Int) (hd : 0 ≤ d ∧ d ≤ 4294967295) (v : Value) (b : Nat) : StartR ((m.tickE d).at b) (r.tickV d v) :=
  ⟨at_early (tickE_early h.early d hd) b, (h.e.tick h.early d v).at b⟩
theorem StartR.take (h : StartR m r) (v : Value) : StartR m.goes1 { r with tv := v, tl := r.tl.tail } := by
  obtain ⟨he, h⟩ := h
  unfold Mc.goes1
  have ht := h.tl
  cases hq : m.gq with
  | nil =>
    rw [hq] at ht
    refine ⟨he, ⟨h.k0, h.k1, h.k2, h.k3, h.k4, h.k5, h.tx, ?_, h.lost, h.id, h.now, h.draw, h.xid, h.lease, h.sends, h.again, h.phase, h.boots, h.cv, h.iv, h.img, h.t⟩⟩
    show r.tl.tail = m.gq
    rw [ht, hq]; rfl
  | cons s q =>
    rw [hq] at ht
    refine ⟨⟨⟨he.ok.1, he.ok.2, he.ok.3, he.ok.4, he.ok.5, he.ok.6, he.ok.7, he.ok.8, he.ok.9, he.ok.10, he.ok.11, he.ok.12, he.ok.13, he.ok.14, he.ok.15, he.ok.16⟩, he.st, he.cd, he.phase⟩, ⟨h.k0, h.k1, h.k2, h.k3, h.k4, h.k5, h.tx, ?_, h.lost, h.id, h.now, h.draw, h.xid, h.lease, h.sends, h.again, h.phase, h.boots, h.cv, h.iv, h.img, h.t⟩⟩
    show r.tl.tail = q
    rw [ht]; rfl
end Go.Proofs.YtbhbbeebncmaiaaGreatDoor.Law

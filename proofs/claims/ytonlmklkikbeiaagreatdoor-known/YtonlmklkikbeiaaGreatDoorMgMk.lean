import Derived.Test.YtonlmklkikbeiaaGreatDoorMgBase
import Derived.Test.YtonlmklkikbeiaaGreatDoorMgMg
namespace Go.Proofs.YtonlmklkikbeiaaGreatDoor.Sp
open Go.ChangeShapes Go.WideShapes Go.ChangeAt Go.RowKit Bs
set_option linter.unusedVariables false

def pickF (c n : Int) : Int := (if c < 0 then -(c + 1) else c) % n
theorem pickF_bd (c n : Int) (hn : 0 < n) : 0 ≤ pickF c n ∧ pickF c n < n := ⟨Int.emod_nonneg _ (by omega), Int.emod_lt_of_pos _ hn⟩
theorem pick_any (c n : Int) (w : World) (h0 : -9223372036854775808 ≤ c) (h1 : c ≤ 9223372036854775807) (hn : 0 < n) (hn1 : n ≤ 9223372036854775807) :
    Calls Tryz.prog 7 #[.int .i64 c, .int .i64 n] w fun e w' => e = .returned (.int .i64 (pickF c n)) ∧ w' = w := by
  have hn0 : (n == 0) = false := by simp; omega
  by_cases hc : c < 0
  · obtain ⟨d, hd⟩ : ∃ d : Int, d = -(c + 1) := ⟨_, rfl⟩
    have hq1 : IntKind.i64.wrap (c + 1) = c + 1 := by simp [IntKind.wrap, IntKind.bits, IntKind.signed]; omega
    have hq2 : IntKind.i64.wrap (-(c + 1)) = d := by rw [hd]; simp [IntKind.wrap, IntKind.bits, IntKind.signed]; omega
    have hd0 : 0 ≤ d := by omega
    have e : pickF c n = d % n := by unfold pickF; rw [if_pos hc, hd]
    have hb := pickF_bd c n hn
    rw [e] at hb ⊢
    have hq3 : IntKind.i64.wrap (d % n) = d % n := wrap_i64 _ hb.1 (by omega)
    have ht : d.tmod n = d % n := Int.tmod_eq_emod_of_nonneg hd0
    clear e hd
    go_enter Tryz.func7, Tryz.ntmps7
    go_wp2
    go_ret
    exact ⟨rfl, rfl⟩
  · have e : pickF c n = c % n := by unfold pickF; rw [if_neg hc]
    have hb := pickF_bd c n hn
    rw [e] at hb ⊢
    have hq3 : IntKind.i64.wrap (c % n) = c % n := wrap_i64 _ hb.1 (by omega)
    have hc0 : 0 ≤ c := by omega
    have ht : c.tmod n = c % n := Int.tmod_eq_emod_of_nonneg hc0
    clear e
    go_enter Tryz.func7, Tryz.ntmps7
    go_wp2
    go_ret
    exact ⟨rfl, rfl⟩

end Go.Proofs.YtonlmklkikbeiaaGreatDoor.Sp

namespace Go.Proofs.YtonlmklkikbeiaaGreatDoor.Mac
open Go.ChangeShapes Go.WideShapes Go.ChangeAt Go.RowKit Bs
set_option linter.unusedVariables false
set_option linter.unusedSimpArgs false

theorem w64 (n : Int) (h0 : 0 ≤ n) (h1 : n ≤ 9223372036854775807) : wrap64 n = n := by unfold wrap64; omega
theorem opts_len : (Dh.opts8 (sayO 1 [])).length = 11 := by
  simp [sayO, Dh.opts8, Dh.opt8_short, wantL]
theorem say_size (m : Mc) : (m.sayB 1 []).size = 300 := by
  unfold Mc.sayB Dh.dhS
  have hb : Dh.bad (sayO 1 []) = false := by decide
  have hl : (Dh.allL false m.xid m.addr 0 0 m.card (sayO 1 [])).length = 252 := by
    unfold Dh.allL
    rw [List.length_append, List.length_append, opts_len, Dh.headL_length _ _ _ _ _ _ _ rfl]
    rfl
  rw [if_neg (by rw [hb]; decide), if_neg (by rw [hl]; decide)]
  show (Dh.fullL _).toArray.size = 300
  rw [List.size_toArray, Dh.fullL, List.length_append, hl, List.length_replicate]
theorem udp_len (f t fr ta : Int) (load : ByteArray) (h : load.size ≤ 1472) : (Ud.udpS f t fr ta load).size = 8 + load.size := by
  unfold Ud.udpS
  rw [if_pos h]
  show (Ud.udpL f t fr ta load).toArray.size = _
  rw [List.size_toArray, Ud.udpL, Wt.put16_length]
  simp [Ud.udp0, word8, len_str]; omega
theorem pack_len (m : Mc) (ta f t : Int) (load : ByteArray) (h : load.size ≤ 1472) : (m.packB ta f t load).size = 28 + load.size := by
  have hu := udp_len f t m.addr ta load h
  unfold Mc.packB Ip.ipS
  rw [if_neg (by decide), if_pos (by omega)]
  show (Ip.ipL _ _ _ _ _ _).toArray.size = _
  rw [List.size_toArray, Ip.ipL, List.length_append, Ip.headL_length, len_str, hu]
  omega
theorem frame_len (c : List UInt8) (hc : c.length = 12) (ty : Int) (hty : 1536 ≤ ty) (load : ByteArray) (h0 : 46 ≤ load.size) (h1 : load.size ≤ 1500) : (Eth.ethS c ty load).size = 14 + load.size := by
  have k1 : Eth.okTy ty = true := by unfold Eth.okTy; simpa using hty
  have k2 : Eth.okLoad load = true := by unfold Eth.okLoad; simpa using h1
  unfold Eth.ethS
  rw [k1, k2]
  simp only [Bool.and_self, if_true]
  show (Eth.ethL c ty load).toArray.size = _
  rw [List.size_toArray, Eth.ethL]
  simp only [List.length_append, List.length_replicate, hc, word8, List.length_cons, List.length_nil, len_str]
  omega
/-- what is said of it in Silent -/
structure Vw (m : Mc) (st ph bo ws wu now : Int) : Prop where
  early : m.Early
  st : m.st = st
  ph : m.phase = ph
  bo : m.boots = bo
  ws : m.ws = ws
  wu : m.wu = wu
  now : m.now = now
  gq : m.gq = []
  tx : m.tx = 16
theorem taken_early {m : Mc} (h : m.Early) : m.taken.Early := ⟨⟨h.ok.1, h.ok.2, h.ok.3, h.ok.4, h.ok.5, h.ok.6, h.ok.7, h.ok.8, h.ok.9, h.ok.10, h.ok.11, h.ok.12, h.ok.13, h.ok.14, h.ok.15, h.ok.16⟩, h.st, h.cd, h.phase⟩
theorem taken_gq (m : Mc) : m.taken.gq = [] := by show m.gq.drop m.gq.length = []; simp
theorem say_gq (m : Mc) (h : m.gq = []) (ht : m.tx = 16) : ∃ F, F.size = 342 ∧ (m.say 1 []).gq = [F] := by
  refine ⟨Eth.ethS ([255, 255, 255, 255, 255, 255] ++ m.id1.card) 2048 (m.packB 4294967295 68 67 (m.sayB 1 [])), ?_, ?_⟩
  · have hp := pack_len m 4294967295 68 67 (m.sayB 1 []) (by rw [say_size]; decide)
    rw [say_size] at hp
    rw [frame_len _ rfl _ (by decide) _ (by omega) (by omega), hp]
  · show ((m.id1.sent _).gq) = _
    unfold Mc.sent
    have e : m.id1.gq = [] := h
    have e2 : m.id1.tx = 16 := ht
    rw [if_neg (by rw [e, e2]; decide)]
    show m.id1.gq ++ [_] = _
    rw [e]; rfl
variable {m : Mc} {bo ws wu now d : Int}
theorem ended_of {m : Mc} (h : m.phase = 0) : m.ended = false := by unfold Mc.ended; rw [h]; rfl
theorem tick_off (h : Vw m 0 0 bo ws wu now) (hd : 0 ≤ d ∧ d ≤ 4294967295) (hn : 0 ≤ now ∧ now ≤ 1099511627776) (b : Nat) :
    ∃ F, F.size = 342 ∧ ((m.tickE d).at b).gq = [F] ∧ Vw ((m.tickE d).at b).taken 1 0 bo 1 (now + 2 + d % 3) (now + 1) := by
  have hE := tickE_early h.early d hd
  have e : m.tickE d = (m.clock d).off := by
    unfold Mc.tickE
    rw [ended_of (show (m.clock d).phase = 0 from h.ph), if_neg (by decide), if_pos h.st]
  rw [e] at hE ⊢
  obtain ⟨m1, hm1⟩ : ∃ m1, m1 = ({ m.clock d with xid := (m.clock d).draw } : Mc).enter1.wait1 := ⟨_, rfl⟩
  have e2 : (m.clock d).off = m1.say 1 [] := by rw [hm1]; rfl
  obtain ⟨F, hF, hq⟩ := say_gq m1 (by rw [hm1]; exact h.gq) (by rw [hm1]; exact h.tx)
  obtain ⟨s1, s2, s3, s4, s5, s6, s7, s8, s9, s10⟩ := say_same m1 1 []
  rw [e2] at hE ⊢
  refine ⟨F, hF, hq, taken_early (at_early hE b), ?_, ?_, ?_, ?_, ?_, ?_, taken_gq _, ?_⟩
  · show (m1.say 1 []).st = 1
    rw [s1, hm1]; rfl
  · show (m1.say 1 []).phase = 0
    rw [s3, hm1]; exact h.ph
  · show (m1.say 1 []).boots = bo
    rw [s4, hm1]; exact h.bo
  · show (m1.say 1 []).ws = 1
    rw [s7, hm1]; rfl
  · show (m1.say 1 []).wu = _
    rw [s6, hm1]
    show wrap64 (wrap64 (m.now + 1) + (2 * 2 ^ (0 : Int).toNat + d % 3 - 1)) = _
    have e0 : (2 : Int) * 2 ^ (0 : Int).toNat = 2 := by decide
    rw [h.now, e0, w64 (now + 1) (by omega) (by omega), w64 _ (by omega) (by omega)]
    omega
  · show (m1.say 1 []).now = _
    rw [s5, hm1]
    show wrap64 (m.now + 1) = _
    rw [h.now, w64 _ (by omega) (by omega)]
  · show (m1.say 1 []).tx = 16
    rw [s9, hm1]; exact h.tx
theorem tick_wait (h : Vw m 1 0 bo ws wu now) (hd : 0 ≤ d ∧ d ≤ 4294967295) (hn : 0 ≤ now ∧ now ≤ 1099511627776) (hlt : now + 1 < wu) (b : Nat) :
    ((m.tickE d).at b).gq = [] ∧ Vw ((m.tickE d).at b).taken 1 0 bo ws wu (now + 1) := by
  have hE := tickE_early h.early d hd
  have hw : wrap64 (m.now + 1) = now + 1 := by rw [h.now, w64 _ (by omega) (by omega)]
  have e : m.tickE d = m.clock d := by
    unfold Mc.tickE
    rw [ended_of (show (m.clock d).phase = 0 from h.ph), if_neg (by decide), if_neg (by rw [h.st]; decide)]
    unfold Mc.sel
    rw [if_pos (by show wrap64 (m.now + 1) < m.wu; rw [hw, h.wu]; exact hlt)]
  rw [e] at hE ⊢
  exact ⟨h.gq, taken_early (at_early hE b), h.st, h.ph, h.bo, h.ws, h.wu, hw, taken_gq _, h.tx⟩
theorem tick_press (h : Vw m 1 0 bo ws wu now) (hd : 0 ≤ d ∧ d ≤ 4294967295) (hn : 0 ≤ now ∧ now ≤ 1099511627776) (hge : ¬ now + 1 < wu) (hws : 0 ≤ ws ∧ ws ≤ 3) (b : Nat) :
    ∃ F, F.size = 342 ∧ ((m.tickE d).at b).gq = [F] ∧ Vw ((m.tickE d).at b).taken 1 0 bo (ws + 1) (now + 2 * 2 ^ ws.toNat + d % 3) (now + 1) := by
  have hE := tickE_early h.early d hd
  have hw : wrap64 (m.now + 1) = now + 1 := by rw [h.now, w64 _ (by omega) (by omega)]
  have e : m.tickE d = (m.clock d).wait1.say 1 [] := by
    unfold Mc.tickE
    rw [ended_of (show (m.clock d).phase = 0 from h.ph), if_neg (by decide), if_neg (by rw [h.st]; decide)]
    unfold Mc.sel
    rw [if_neg (by show ¬ wrap64 (m.now + 1) < m.wu; rw [hw, h.wu]; exact hge), if_neg (by show ¬ m.ws = 4; rw [h.ws]; omega)]
  obtain ⟨m1, hm1⟩ : ∃ m1, m1 = (m.clock d).wait1 := ⟨_, rfl⟩
  rw [e, ← hm1] at hE ⊢
  obtain ⟨F, hF, hq⟩ := say_gq m1 (by rw [hm1]; exact h.gq) (by rw [hm1]; exact h.tx)
  obtain ⟨s1, s2, s3, s4, s5, s6, s7, s8, s9, s10⟩ := say_same m1 1 []
  refine ⟨F, hF, hq, taken_early (at_early hE b), ?_, ?_, ?_, ?_, ?_, ?_, taken_gq _, ?_⟩
  · show (m1.say 1 []).st = 1
    rw [s1, hm1]; exact h.st
  · show (m1.say 1 []).phase = 0
    rw [s3, hm1]; exact h.ph
  · show (m1.say 1 []).boots = bo
    rw [s4, hm1]; exact h.bo
  · show (m1.say 1 []).ws = ws + 1
    rw [s7, hm1]
    show m.ws + 1 = ws + 1
    rw [h.ws]
  · show (m1.say 1 []).wu = _
    rw [s6, hm1]
    show wrap64 (wrap64 (m.now + 1) + (2 * 2 ^ m.ws.toNat + d % 3 - 1)) = _
    rw [hw, h.ws]
    have hp : (2 : Int) ^ ws.toNat ≤ 8 ∧ 0 < (2 : Int) ^ ws.toNat := by
      have : ws = 0 ∨ ws = 1 ∨ ws = 2 ∨ ws = 3 := by omega
      rcases this with rfl | rfl | rfl | rfl <;> decide
    rw [w64 _ (by omega) (by omega)]
    omega
  · show (m1.say 1 []).now = _
    rw [s5, hm1]; exact hw
  · show (m1.say 1 []).tx = 16
    rw [s9, hm1]; exact h.tx
theorem tick_fail (h : Vw m 1 0 bo 4 wu now) (hd : 0 ≤ d ∧ d ≤ 4294967295) (hn : 0 ≤ now ∧ now ≤ 1099511627776) (hge : ¬ now + 1 < wu) (hbo : 0 ≤ bo ∧ bo ≤ 2) (b : Nat) :
    ((m.tickE d).at b).gq = [] ∧ Vw ((m.tickE d).at b).taken 0 (if bo = 2 then 4 else 0) (bo + 1) 0 0 (now + 1) := by
  have hE := tickE_early h.early d hd
  have hw : wrap64 (m.now + 1) = now + 1 := by rw [h.now, w64 _ (by omega) (by omega)]
  have hb1 : wrap64 (m.boots + 1) = bo + 1 := by rw [h.bo, w64 _ (by omega) (by omega)]
  have e : m.tickE d = (m.clock d).fail := by
    unfold Mc.tickE
    rw [ended_of (show (m.clock d).phase = 0 from h.ph), if_neg (by decide), if_neg (by rw [h.st]; decide)]
    unfold Mc.sel
    rw [if_neg (by show ¬ wrap64 (m.now + 1) < m.wu; rw [hw, h.wu]; exact hge), if_pos (show (m.clock d).ws = 4 from h.ws)]
  rw [e] at hE ⊢
  have hc : wrap64 ((m.clock d).boots + 1) = bo + 1 := hb1
  unfold Mc.fail at hE ⊢
  rw [hc] at hE ⊢
  by_cases h2 : bo = 2
  · rw [if_pos (by omega)] at hE ⊢
    rw [if_pos h2]
    exact ⟨h.gq, taken_early (at_early hE b), rfl, rfl, by show (3 : Int) = bo + 1; omega, rfl, rfl, hw, taken_gq _, h.tx⟩
  · rw [if_neg (by omega)] at hE ⊢
    rw [if_neg h2]
    exact ⟨h.gq, taken_early (at_early hE b), rfl, rfl, rfl, rfl, rfl, hw, taken_gq _, h.tx⟩
theorem tick_end {st : Int} (h : Vw m st 4 bo ws wu now) (hd : 0 ≤ d ∧ d ≤ 4294967295) (hn : 0 ≤ now ∧ now ≤ 1099511627776) (b : Nat) :
    Vw ((m.tickE d).at b) st 4 bo ws wu (now + 1) := by
  have hE := tickE_early h.early d hd
  have hw : wrap64 (m.now + 1) = now + 1 := by rw [h.now, w64 _ (by omega) (by omega)]
  have e : m.tickE d = m.clock d := by
    unfold Mc.tickE
    have : (m.clock d).ended = true := by unfold Mc.ended; rw [show (m.clock d).phase = 4 from h.ph]; rfl
    rw [this, if_pos rfl]
  rw [e] at hE ⊢
  exact ⟨at_early hE b, h.st, h.ph, h.bo, h.ws, h.wu, hw, h.gq, h.tx⟩
end Go.Proofs.YtonlmklkikbeiaaGreatDoor.Mac

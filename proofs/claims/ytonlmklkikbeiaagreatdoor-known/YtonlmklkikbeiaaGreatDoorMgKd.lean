import Derived.Test.YtonlmklkikbeiaaGreatDoorMgKa
import Derived.Test.YtonlmklkikbeiaaGreatDoorMgKc
import Derived.Test.YtonlmklkikbeiaaGreatDoorMgMk
import Derived.Deep.DeepCutAuto
import Derived.Deep.CutRange
namespace Go.Proofs.YtonlmklkikbeiaaGreatDoor.Mac
open Go.ChangeShapes Go.WideShapes Go.ChangeAt Go.RowKit Bs
set_option linter.unusedVariables false
set_option linter.unusedSimpArgs false
variable {w0 : World} {P : Nat → Prop} {w w' : World} {B Q : Nat} {m m' : Mc}

theorem Bx.kBelow (h : Bx w0 (fun _ => False) w Q B m) : Below w0.heap.size w0 w := ⟨h.mx.os, h.mx.tape, h.mx.output, h.mx.size, fun k hk => h.mx.kept k hk (fun f => f)⟩
theorem kCell {w : World} {a : Addr} {v : Value} (h : w.cell? a = some v) : a.block < w.heap.size := World.block_lt_of_cell? w a h
/-- Known's machine while frames come -/
structure Kv (m : Mc) (cq : List ByteArray) : Prop where
  early : m.Early
  st : m.st = 0
  ph : m.phase = 0
  bo : m.boots = 0
  now : m.now = 0
  gq : m.gq = []
  tx : m.tx = 1
  rx : m.rx = 2
  cq : m.cq = cq
  lost : m.lost = 0
  id : m.id = 0
  card : m.card = [2, 0, 0, 0, 0, 42]
  img : m.imgL = []
theorem Kv.put {m : Mc} {q : List ByteArray} (h : Kv m q) (s : ByteArray) : Kv (m.put s) (if q.length < 2 then q ++ [s] else q) := by
  unfold Mc.put
  by_cases c : q.length < 2
  · rw [if_pos c, if_pos (by rw [h.cq, h.rx]; exact c)]
    exact ⟨⟨⟨h.early.ok.1, h.early.ok.2, h.early.ok.3, h.early.ok.4, h.early.ok.5, h.early.ok.6, h.early.ok.7, h.early.ok.8, h.early.ok.9, h.early.ok.10, h.early.ok.11, h.early.ok.12, h.early.ok.13, h.early.ok.14, h.early.ok.15, h.early.ok.16⟩, h.early.st, h.early.cd, h.early.phase⟩, h.st, h.ph, h.bo, h.now, h.gq, h.tx, h.rx, by show m.cq ++ [s] = _; rw [h.cq], h.lost, h.id, h.card, h.img⟩
  · rw [if_neg c, if_neg (by rw [h.cq, h.rx]; exact c)]
    exact h
theorem Kv.cameN {m : Mc} {q : List ByteArray} (h : Kv m q) (k : Nat) : Kv (m.cameN k) (q.drop k) :=
  ⟨⟨⟨h.early.ok.1, h.early.ok.2, h.early.ok.3, h.early.ok.4, h.early.ok.5, h.early.ok.6, h.early.ok.7, h.early.ok.8, h.early.ok.9, h.early.ok.10, h.early.ok.11, h.early.ok.12, h.early.ok.13, h.early.ok.14, h.early.ok.15, h.early.ok.16⟩, h.early.st, h.early.cd, h.early.phase⟩, h.st, h.ph, h.bo, h.now, h.gq, h.tx, h.rx, by show m.cq.drop k = _; rw [h.cq], h.lost, h.id, h.card, h.img⟩
theorem kPut (h : Bx w0 P w Q B m) {q : List ByteArray} (hk : Kv m q) (s : ByteArray) (hs : s.size < 6) : Calls Tryz.prog 13 #[.pointer (some ⟨Q, 0, none⟩), .string s] w fun ee w' => ee = .returned (.bool (decide (q.length < 2))) ∧ ∃ m1, Hid (Bx w0 P w' Q B m1) ∧ Hid (Kv m1 (if q.length < 2 then q ++ [s] else q)) := by
  refine (bootPut_any h s (by omega)).mono ?_
  rintro ee u ⟨rfl, hu⟩
  refine ⟨by rw [hk.cq, hk.rx], _, hide hu, hide (hk.put s)⟩
theorem kPoll (h : Bx w0 P w Q B m) {q : List ByteArray} (hk : Kv m q) (hs : ∀ s ∈ q, s.size < 6) (n : Int) : Calls Tryz.prog 14 #[.pointer (some ⟨Q, 0, none⟩), .int .i64 n] w fun ee w' => ee = .returned (.int .i64 (polls n q.length)) ∧ ∃ m1, Hid (Bx w0 P w' Q B m1) ∧ Hid (Kv m1 (q.drop (polls n q.length))) := by
  refine (bootPoll_dull h n (dull_short B m (by rw [hk.cq]; exact hs))).mono ?_
  rintro ee u ⟨rfl, hu⟩
  rw [hk.cq] at hu
  exact ⟨by rw [hk.cq], _, hide hu, hide (hk.cameN _)⟩
/-- what is sent first -/
def dhF : ByteArray := Dh.dhS false 16909060 0 0 0 [2, 0, 0, 0, 0, 42] (sayO 1 [])
def udF : ByteArray := Ud.udpS 68 67 0 4294967295 dhF
def ipF : ByteArray := Ip.ipS 0 64 17 0 4294967295 udF
def etF : ByteArray := Eth.ethS Kn.toM 2048 ipF
/-- Known's machine behind a tick -/
structure Kw (m : Mc) (now lost : Int) : Prop where
  early : m.Early
  st : m.st = 1
  ph : m.phase = 0
  bo : m.boots = 0
  now : m.now = now
  ws : m.ws = 1 ∨ lost = 1
  wu : m.wu = 3 ∨ lost = 1
  gq : m.gq = [etF]
  tx : m.tx = 1
  lost : m.lost = lost
  img : m.imgL = []
theorem card_eq {m : Mc} (h : m.card = [2, 0, 0, 0, 0, 42]) (a : List UInt8) : a ++ m.card = a ++ [2, 0, 0, 0, 0, 42] := by rw [h]
theorem kt1 {m : Mc} (h : Kv m []) (b : Nat) : Kw ((m.tickE 16909060).at b) 1 0 := by
  have hE := tickE_early h.early 16909060 (by decide)
  have e : m.tickE 16909060 = (m.clock 16909060).off := by
    unfold Mc.tickE
    rw [ended_of (show (m.clock 16909060).phase = 0 from h.ph), if_neg (by decide), if_pos h.st]
  rw [e] at hE ⊢
  obtain ⟨m1, hm1⟩ : ∃ m1, m1 = ({ m.clock 16909060 with xid := (m.clock 16909060).draw } : Mc).enter1.wait1 := ⟨_, rfl⟩
  have e2 : (m.clock 16909060).off = m1.say 1 [] := by rw [hm1]; rfl
  rw [e2] at hE ⊢
  have hw1 : m1.now = 1 := by
    rw [hm1]; show wrap64 (m.now + 1) = 1
    rw [h.now]; exact w64 _ (by omega) (by omega)
  have hwu : m1.wu = 3 := by
    rw [hm1]
    show wrap64 (wrap64 (m.now + 1) + (2 * 2 ^ (0 : Int).toNat + 16909060 % 3 - 1)) = 3
    have e1 : wrap64 (m.now + 1) = 1 := by rw [h.now]; exact w64 _ (by omega) (by omega)
    rw [e1]
    have e2 : (2 * 2 ^ (0 : Int).toNat + 16909060 % 3 - 1 : Int) = 2 := by decide
    rw [e2]
    exact w64 _ (by omega) (by omega)
  have ha : m1.addr = 0 := by rw [hm1]; rfl
  have hid : m1.id = 0 := by rw [hm1]; exact h.id
  have hx : m1.xid = 16909060 := by rw [hm1]; rfl
  have hcd : m1.card = [2, 0, 0, 0, 0, 42] := by rw [hm1]; exact h.card
  have hcd2 : m1.id1.card = [2, 0, 0, 0, 0, 42] := hcd
  have hgq : m1.id1.gq = [] := by rw [hm1]; exact h.gq
  have htx : m1.id1.tx = 1 := by rw [hm1]; exact h.tx
  have hF : Eth.ethS ([255, 255, 255, 255, 255, 255] ++ m1.id1.card) 2048 (m1.packB 4294967295 68 67 (m1.sayB 1 [])) = etF := by
    unfold Mc.packB Mc.sayB
    rw [hcd2, hcd, ha, hid, hx]
    rfl
  have hq : (m1.say 1 []).gq = [etF] := by
    show ((m1.id1.sent (Eth.ethS ([255, 255, 255, 255, 255, 255] ++ m1.id1.card) 2048 (m1.packB 4294967295 68 67 (m1.sayB 1 [])))).gq) = _
    rw [hF]
    unfold Mc.sent
    rw [if_neg (by rw [hgq, htx]; decide)]
    show m1.id1.gq ++ [_] = _
    rw [hgq]; rfl
  have hls : (m1.say 1 []).lost = 0 := by
    show (m1.id1.sent _).lost = 0
    unfold Mc.sent
    rw [if_neg (by rw [hgq, htx]; decide)]
    show m1.lost = 0
    rw [hm1]; exact h.lost
  have him : (m1.say 1 []).imgL = [] := by
    show (m1.id1.sent _).imgL = []
    unfold Mc.sent
    rw [if_neg (by rw [hgq, htx]; decide)]
    show m1.imgL = []
    rw [hm1]; exact h.img
  obtain ⟨s1, s2, s3, s4, s5, s6, s7, s8, s9, s10⟩ := say_same m1 1 []
  refine ⟨at_early hE b, ?_, ?_, ?_, ?_, Or.inl ?_, Or.inl ?_, hq, ?_, hls, him⟩
  · show (m1.say 1 []).st = 1
    rw [s1, hm1]; rfl
  · show (m1.say 1 []).phase = 0
    rw [s3, hm1]; exact h.ph
  · show (m1.say 1 []).boots = 0
    rw [s4, hm1]; exact h.bo
  · show (m1.say 1 []).now = 1
    rw [s5]; exact hw1
  · show (m1.say 1 []).ws = 1
    rw [s7, hm1]; rfl
  · show (m1.say 1 []).wu = 3
    rw [s6]; exact hwu
  · show (m1.say 1 []).tx = 1
    rw [s9, hm1]; exact h.tx
theorem kt2 {m : Mc} (h : Kw m 1 0) (b : Nat) : Kw ((m.tickE 4).at b) 2 0 := by
  have hE := tickE_early h.early 4 (by decide)
  have hw : wrap64 (m.now + 1) = 2 := by rw [h.now]; exact w64 _ (by omega) (by omega)
  have hwu : m.wu = 3 := by rcases h.wu with q | q; exact q; cases q
  have e : m.tickE 4 = m.clock 4 := by
    unfold Mc.tickE
    rw [ended_of (show (m.clock 4).phase = 0 from h.ph), if_neg (by decide), if_neg (by rw [h.st]; decide)]
    unfold Mc.sel
    rw [if_pos (by show wrap64 (m.now + 1) < m.wu; rw [hw, hwu]; decide)]
  rw [e] at hE ⊢
  exact ⟨at_early hE b, h.st, h.ph, h.bo, hw, h.ws, h.wu, h.gq, h.tx, h.lost, h.img⟩
theorem kt3 {m : Mc} (h : Kw m 2 0) (b : Nat) : Kw ((m.tickE 4).at b) 3 1 := by
  have hE := tickE_early h.early 4 (by decide)
  have hw : wrap64 (m.now + 1) = 3 := by rw [h.now]; exact w64 _ (by omega) (by omega)
  have hwu : m.wu = 3 := by rcases h.wu with q | q; exact q; cases q
  have hws : m.ws = 1 := by rcases h.ws with q | q; exact q; cases q
  have e : m.tickE 4 = (m.clock 4).wait1.say 1 [] := by
    unfold Mc.tickE
    rw [ended_of (show (m.clock 4).phase = 0 from h.ph), if_neg (by decide), if_neg (by rw [h.st]; decide)]
    unfold Mc.sel
    rw [if_neg (by show ¬ wrap64 (m.now + 1) < m.wu; rw [hw, hwu]; decide), if_neg (by show ¬ m.ws = 4; rw [hws]; decide)]
  obtain ⟨m1, hm1⟩ : ∃ m1, m1 = (m.clock 4).wait1 := ⟨_, rfl⟩
  rw [e, ← hm1] at hE ⊢
  have hgq : m1.id1.gq = [etF] := by rw [hm1]; exact h.gq
  have htx : m1.id1.tx = 1 := by rw [hm1]; exact h.tx
  have hf : m1.id1.gq.length = m1.id1.tx := by rw [hgq, htx]; rfl
  have hsay : ∀ s, m1.id1.sent s = { m1.id1 with lost := wrap64 (m1.id1.lost + 1) } := fun s => by unfold Mc.sent; rw [if_pos hf]
  have e3 : m1.say 1 [] = { m1.id1 with lost := wrap64 (m1.id1.lost + 1) } := hsay _
  rw [e3] at hE ⊢
  have hl : wrap64 (m1.id1.lost + 1) = 1 := by
    have : m1.id1.lost = 0 := by rw [hm1]; exact h.lost
    rw [this]; exact w64 _ (by omega) (by omega)
  refine ⟨at_early hE b, ?_, ?_, ?_, ?_, Or.inr rfl, Or.inr rfl, hgq, htx, hl, ?_⟩
  · show m1.st = 1
    rw [hm1]; exact h.st
  · show m1.phase = 0
    rw [hm1]; exact h.ph
  · show m1.boots = 0
    rw [hm1]; exact h.bo
  · show m1.now = 3
    rw [hm1]; exact hw
  · show m1.imgL = []
    rw [hm1]; exact h.img
theorem kTick {a b : Int} (h : Bx w0 P w Q B m) (he : m.Early) (x : Int) (hx : 0 ≤ x ∧ x ≤ 4294967295) (hk : ∀ n, Kw ((m.tickE x).at n) a b) : Calls Tryz.prog 8 #[.pointer (some ⟨Q, 0, none⟩), .int .u32 x] w fun ee w' => ee = .returned (.tuple #[]) ∧ ∃ m1, Hid (Bx w0 P w' Q B m1) ∧ Hid (Kw m1 a b) := by
  refine (bootTick_early h he x hx).mono ?_
  rintro ee u ⟨rfl, n, hu⟩
  exact ⟨rfl, _, hide hu, hide (hk n)⟩
theorem dh_size : dhF.size = 300 := by
  have h := Kn.full300 false 16909060 0 0 0
  unfold dhF Dh.dhS
  have hb : Dh.bad (sayO 1 []) = false := by decide
  have hl : (Dh.allL false 16909060 0 0 0 [2, 0, 0, 0, 0, 42] (sayO 1 [])).length = 252 := by
    unfold Dh.allL
    rw [List.length_append, List.length_append, opts_len, Dh.headL_length _ _ _ _ _ _ _ rfl]
    rfl
  rw [if_neg (by rw [hb]; decide), if_neg (by rw [hl]; decide)]
  show (Dh.fullL _).toArray.size = 300
  rw [List.size_toArray]; exact h
theorem dh_is : dhF = ⟨(Dh.fullL (Dh.allL false 16909060 0 0 0 Kn.mD (sayO 1 []))).toArray⟩ := by
  unfold dhF Dh.dhS
  have hb : Dh.bad (sayO 1 []) = false := by decide
  have hl : (Dh.allL false 16909060 0 0 0 [2, 0, 0, 0, 0, 42] (sayO 1 [])).length = 252 := by
    unfold Dh.allL
    rw [List.length_append, List.length_append, opts_len, Dh.headL_length _ _ _ _ _ _ _ rfl]
    rfl
  rw [if_neg (by rw [hb]; decide), if_neg (by rw [hl]; decide)]
  rfl
theorem ud_is : udF = ⟨(Ud.udpL 68 67 0 4294967295 dhF).toArray⟩ := by unfold udF Ud.udpS; rw [if_pos (by rw [dh_size]; decide)]
theorem ud_size : udF.size = 308 := by unfold udF; rw [udp_len _ _ _ _ _ (by rw [dh_size]; decide), dh_size]
theorem ip_is : ipF = ⟨(Ip.ipL 0 64 17 0 4294967295 udF).toArray⟩ := by unfold ipF Ip.ipS; rw [if_neg (by decide), if_pos (by rw [ud_size]; decide)]
theorem ip_size : ipF.size = 328 := by
  rw [ip_is]
  show (Ip.ipL _ _ _ _ _ _).toArray.size = _
  rw [List.size_toArray, Ip.ipL, List.length_append, Ip.headL_length, len_str, ud_size]
end Go.Proofs.YtonlmklkikbeiaaGreatDoor.Mac

namespace Go.Proofs.YtonlmklkikbeiaaGreatDoor.Mac
open Go.ChangeShapes Go.WideShapes Go.ChangeAt Go.RowKit Bs
set_option linter.unusedVariables false
set_option linter.unusedSimpArgs false
variable {w0 : World} {P : Nat → Prop} {w w' : World} {B Q : Nat} {m m' : Mc}

theorem good_known (K : Nat → Nat) : (Cfg.mk 2 0 0 0 0 42 ⟨#[107, 101, 114, 110, 101, 108]⟩ 600000 ⟨(Hs.shaL K []).toArray⟩ 8 1 ((2 : Nat) : Int) ((1 : Nat) : Int)).Good := by
  refine ⟨?_, ?_, ?_, ?_, ⟨?_, ?_⟩, ⟨?_, ?_⟩, ⟨?_, ?_⟩, ⟨?_, ?_⟩, ⟨?_, ?_⟩⟩
  rotate_left
  · show Tf.nameB [107, 101, 114, 110, 101, 108] = true
    decide
  · show (⟨#[107, 101, 114, 110, 101, 108]⟩ : ByteArray).size ≤ 20
    decide
  · show (Hs.shaL K []).toArray.size = 32
    rw [List.size_toArray, Hs.shaL_length]
  · show (1 : Int) ≤ 600000; decide
  · show (600000 : Int) ≤ 600000; decide
  · show (8 : Int) ≤ 8; decide
  · show (8 : Int) ≤ 1024; decide
  · show (1 : Int) ≤ 1; decide
  · show (1 : Int) ≤ 8; decide
  · show (1 : Int) ≤ ((2 : Nat) : Int); decide
  · show ((2 : Nat) : Int) ≤ 16; decide
  · show (1 : Int) ≤ ((1 : Nat) : Int); decide
  · show ((1 : Nat) : Int) ≤ 16; decide
  · show cardB 2 0 0 0 0 42 = true
    decide
theorem kv_new (dg : ByteArray) (bm cg gg : Nat) : Kv (mk0 (Cfg.mk 2 0 0 0 0 42 ⟨#[107, 101, 114, 110, 101, 108]⟩ 600000 dg 8 1 ((2 : Nat) : Int) ((1 : Nat) : Int)) bm cg gg) [] :=
  ⟨⟨⟨zero32, zero16, zero32, zero32, zero32, zero4, zero32, zero32, zero32, zero32, zero32, zero32, zero4, zero16, zero16, by show (⟨#[]⟩ : ByteArray).size ≤ 262144; decide⟩, Or.inl rfl, rfl, Or.inl rfl⟩, rfl, rfl, rfl, rfl, rfl, rfl, rfl, rfl, rfl, rfl, rfl, rfl⟩
theorem fieldL6 (a b c d e f g h : Int) (u : World) : (Instr.field 40 (.agg #[.int .i64 a, .int .i64 b, .int .i64 c, .int .u32 d, .int .i64 e, .int .i64 f, .int .i64 g, .int .i64 h]) 6).run Tryz.prog u = .ok (.int .i64 g) u := by kernel_rfl
theorem addr_low {m : Mc} (h : m.st < 4) : m.addr = 0 := by unfold Mc.addr; rw [if_pos h]
theorem cached_none {m : Mc} (h : m.cd = .map []) : (m.cached : Int) = 0 := by unfold Mc.cached; rw [h]; rfl
theorem kLook0 (h : Bx w0 P w Q B m) (hk : Kv m []) : Calls Tryz.prog 10 #[.pointer (some ⟨Q, 0, none⟩)] w fun ee w' => ee = .returned (.agg #[.int .i64 0, .int .i64 0, .int .i64 0, .int .u32 0, .int .i64 0, .int .i64 0, .int .i64 0, .int .i64 0]) ∧ Below w.heap.size w w' := by
  have q := bootLook_any h
  rw [hk.now, hk.st, hk.ph, addr_low (by rw [hk.st]; decide), hk.bo, hk.img, hk.lost, cached_none hk.early.cd] at q
  exact q
theorem kLook2 (h : Bx w0 P w Q B m) (hk : Kw m 2 0) : Calls Tryz.prog 10 #[.pointer (some ⟨Q, 0, none⟩)] w fun ee w' => ee = .returned (.agg #[.int .i64 2, .int .i64 1, .int .i64 0, .int .u32 0, .int .i64 0, .int .i64 0, .int .i64 0, .int .i64 0]) ∧ Below w.heap.size w w' := by
  have q := bootLook_any h
  rw [hk.now, hk.st, hk.ph, addr_low (by rw [hk.st]; decide), hk.bo, hk.img, hk.lost, cached_none hk.early.cd] at q
  exact q
theorem kLook3 (h : Bx w0 P w Q B m) (hk : m.lost = 1) : Calls Tryz.prog 10 #[.pointer (some ⟨Q, 0, none⟩)] w fun ee w' => ∃ a b c d e f g, ee = .returned (.agg #[.int .i64 a, .int .i64 b, .int .i64 c, .int .u32 d, .int .i64 e, .int .i64 f, .int .i64 1, .int .i64 g]) ∧ Hid (Bx w0 P w' Q B m) := by
  refine (bootLook_any h).mono ?_
  rintro ee u ⟨rfl, hb⟩
  exact ⟨_, _, _, _, _, _, _, by rw [hk], hide (h.below hb)⟩
theorem kPutC (h : Bx w0 P w Q B m) {q : List ByteArray} (hk : Kv m q) (s : ByteArray) (hs : s.size < 6) (b : Bool) (q2 : List ByteArray) (hb : decide (q.length < 2) = b) (h2 : (if q.length < 2 then q ++ [s] else q) = q2) : Calls Tryz.prog 13 #[.pointer (some ⟨Q, 0, none⟩), .string s] w fun ee w' => ee = .returned (.bool b) ∧ ∃ m1, Hid (Bx w0 P w' Q B m1) ∧ Hid (Kv m1 q2) := by
  have k := kPut h hk s hs
  rw [hb, h2] at k
  exact k
theorem kPollC (h : Bx w0 P w Q B m) {q : List ByteArray} (hk : Kv m q) (hs : ∀ s ∈ q, s.size < 6) (n x : Int) (q2 : List ByteArray) (hb : ((polls n q.length : Nat) : Int) = x) (h2 : q.drop (polls n q.length) = q2) : Calls Tryz.prog 14 #[.pointer (some ⟨Q, 0, none⟩), .int .i64 n] w fun ee w' => ee = .returned (.int .i64 x) ∧ ∃ m1, Hid (Bx w0 P w' Q B m1) ∧ Hid (Kv m1 q2) := by
  have k := kPoll h hk hs n
  rw [hb, h2] at k
  exact k
theorem goes_nil {m : Mc} (h : m.gq = []) : m.goes1 = m := by unfold Mc.goes1; rw [h]
theorem kTake0 (h : Bx w0 P w Q B m) (hk : m.gq = []) : Calls Tryz.prog 12 #[.pointer (some ⟨Q, 0, none⟩)] w fun ee w' => ee = .returned (.tuple #[.string ⟨#[]⟩, .bool false]) ∧ Hid (Bx w0 P w' Q B m) := by
  refine (bootTake_any h).mono ?_
  rintro ee u ⟨rfl, hb⟩
  rw [goes_nil hk] at hb
  rw [hk]
  exact ⟨rfl, hide hb⟩
theorem kTake1 (h : Bx w0 P w Q B m) (hk : Kw m 3 1) (F : ByteArray) (hF : F = etF) : Calls Tryz.prog 12 #[.pointer (some ⟨Q, 0, none⟩)] w fun ee w' => ee = .returned (.tuple #[.string F, .bool true]) ∧ ∃ m1, Hid (Bx w0 P w' Q B m1) ∧ Hid (m1.gq = [] ∧ m1.lost = 1) := by
  refine (bootTake_any h).mono ?_
  rintro ee u ⟨rfl, hb⟩
  have hq := hk.gq
  refine ⟨by rw [hq, ← hF]; rfl, m.goes1, hide hb, hide ⟨?_, ?_⟩⟩
  · unfold Mc.goes1; rw [hq]
  · unfold Mc.goes1; rw [hq]; exact hk.lost
theorem rowE {u : World} {g : Nat} {t : TypeId} {a0 a1 a2 a3 a4 a5 a6 a7 a8 a9 a10 a11 a12 a13 : Value} (h : u.heap[g]? = some (.cells #[a0, a1, a2, a3, a4, a5, a6, a7, a8, a9, a10, a11, a12, a13] t (0, 0))) :
    u.cell? ⟨g, 0, none⟩ = some a0 ∧ u.cell? ⟨g, 1, none⟩ = some a1 ∧ u.cell? ⟨g, 2, none⟩ = some a2 ∧ u.cell? ⟨g, 3, none⟩ = some a3 ∧ u.cell? ⟨g, 4, none⟩ = some a4 ∧ u.cell? ⟨g, 5, none⟩ = some a5 ∧ u.cell? ⟨g, 6, none⟩ = some a6 ∧ u.cell? ⟨g, 7, none⟩ = some a7 ∧ u.cell? ⟨g, 8, none⟩ = some a8 ∧ u.cell? ⟨g, 9, none⟩ = some a9 ∧ u.cell? ⟨g, 10, none⟩ = some a10 ∧ u.cell? ⟨g, 11, none⟩ = some a11 := by
  have q := fun j => cell_of_row u g j _ _ _ h
  exact ⟨q 0, q 1, q 2, q 3, q 4, q 5, q 6, q 7, q 8, q 9, q 10, q 11⟩
theorem rowI {u : World} {g : Nat} {t : TypeId} {a0 a1 a2 a3 a4 a5 : Value} (h : u.heap[g]? = some (.cells #[a0, a1, a2, a3, a4, a5] t (0, 0))) :
    u.cell? ⟨g, 0, none⟩ = some a0 ∧ u.cell? ⟨g, 1, none⟩ = some a1 ∧ u.cell? ⟨g, 3, none⟩ = some a3 ∧ u.cell? ⟨g, 4, none⟩ = some a4 := by
  have q := fun j => cell_of_row u g j _ _ _ h
  exact ⟨q 0, q 1, q 3, q 4⟩
theorem rowU {u : World} {g : Nat} {t : TypeId} {a0 a1 a2 : Value} (h : u.heap[g]? = some (.cells #[a0, a1, a2] t (0, 0))) :
    u.cell? ⟨g, 0, none⟩ = some a0 ∧ u.cell? ⟨g, 1, none⟩ = some a1 := by
  have q := fun j => cell_of_row u g j _ _ _ h
  exact ⟨q 0, q 1⟩
theorem rowD {u : World} {g : Nat} {t : TypeId} {a0 a1 a2 a3 a4 a5 a6 a7 a8 a9 a10 a11 : Value} (h : u.heap[g]? = some (.cells #[a0, a1, a2, a3, a4, a5, a6, a7, a8, a9, a10, a11] t (0, 0))) :
    u.cell? ⟨g, 0, none⟩ = some a0 ∧ u.cell? ⟨g, 1, none⟩ = some a1 ∧ u.cell? ⟨g, 5, none⟩ = some a5 ∧ u.cell? ⟨g, 6, none⟩ = some a6 ∧ u.cell? ⟨g, 7, none⟩ = some a7 ∧ u.cell? ⟨g, 8, none⟩ = some a8 ∧ u.cell? ⟨g, 9, none⟩ = some a9 ∧ u.cell? ⟨g, 10, none⟩ = some a10 ∧ u.cell? ⟨g, 11, none⟩ = some a11 := by
  have q := fun j => cell_of_row u g j _ _ _ h
  exact ⟨q 0, q 1, q 5, q 6, q 7, q 8, q 9, q 10, q 11⟩
theorem two_cells {u : World} {b : Nat} {sa : Option Addr} {sc : Nat} (h : u.ownsRow b 67 2 (.slice sa 2 sc) 2 (Dh.cellsO (sayO 1 []))) : ∃ g, sa = some ⟨g, 0, none⟩ ∧ u.cell? ⟨g, 0, none⟩ = some (.int .u8 53) ∧ u.cell? ⟨g, 1, none⟩ = some (.string ⟨#[1]⟩) ∧ u.cell? ⟨g, 2, none⟩ = some (.int .u8 55) ∧ u.cell? ⟨g, 3, none⟩ = some (.string ⟨#[1, 3, 51, 54, 58, 59]⟩) := by
  rcases h.2 with ⟨e, hn⟩ | ⟨g, cap, cur, e, h1, h2, h3, h4, h5, h6⟩
  · cases hn
  · have e2 : sa = some ⟨g, 0, none⟩ := by simp only [Value.slice.injEq] at e; exact e.1
    subst e2
    have q0 := h.cells (g := g) rfl 0 (.int .u8 53) rfl
    have q1 := h.cells (g := g) rfl 1 (.string ⟨#[1]⟩) rfl
    have q2 := h.cells (g := g) rfl 2 (.int .u8 55) rfl
    have q3 := h.cells (g := g) rfl 3 (.string ⟨#[1, 3, 51, 54, 58, 59]⟩) rfl
    exact ⟨g, rfl, q0, q1, q2, q3⟩
set_option maxHeartbeats 8000000 in
set_option maxRecDepth 20000 in
theorem known_any (K : Nat → Nat) (w : World) (hng : 3 ≤ w.heap.size) (hgl : Gl w) (hcd : Cd w) (hG : Hs.RG w 2 K) (hK : ∀ j, K j < 4294967296) :
    Calls Tryz.prog 4 #[] w fun ee w' => ee = .returned (.bool true) ∧ Below w.heap.size w w' := by
  obtain ⟨dg, hdg⟩ : ∃ dg : ByteArray, dg = ⟨(Hs.shaL K []).toArray⟩ := ⟨_, rfl⟩
  have HGOOD := hide (good_known K)
  have HC := hide (config_any ⟨#[]⟩ [] K 8 1 w rfl (by decide) hG hK hcd)
  have HCX : ∀ u, Below w.heap.size w u → Hid (Calls Tryz.prog 5 #[.string ⟨#[]⟩, .int .i64 8, .int .i64 1] (u.alloc (.cells #[.int .u8 0, .int .u8 0, .int .u8 0, .int .u8 0, .int .u8 0, .int .u8 0, .string ⟨#[]⟩, .int .i64 0, .string ⟨#[]⟩, .int .i64 0, .int .i64 0, .int .i64 0, .int .i64 0] 25)) fun e w' => e = .returned (.agg #[.int .u8 2, .int .u8 0, .int .u8 0, .int .u8 0, .int .u8 0, .int .u8 42, .string ⟨#[107, 101, 114, 110, 101, 108]⟩, .int .i64 600000, .string dg, .int .i64 8, .int .i64 1, .int .i64 16, .int .i64 16]) ∧ Below (u.alloc (.cells #[.int .u8 0, .int .u8 0, .int .u8 0, .int .u8 0, .int .u8 0, .int .u8 0, .string ⟨#[]⟩, .int .i64 0, .string ⟨#[]⟩, .int .i64 0, .int .i64 0, .int .i64 0, .int .i64 0] 25)).heap.size (u.alloc (.cells #[.int .u8 0, .int .u8 0, .int .u8 0, .int .u8 0, .int .u8 0, .int .u8 0, .string ⟨#[]⟩, .int .i64 0, .string ⟨#[]⟩, .int .i64 0, .int .i64 0, .int .i64 0, .int .i64 0] 25)) w') := fun u hu => by
    have hb := hu.alloc hu.size (.cells #[.int .u8 0, .int .u8 0, .int .u8 0, .int .u8 0, .int .u8 0, .int .u8 0, .string ⟨#[]⟩, .int .i64 0, .string ⟨#[]⟩, .int .i64 0, .int .i64 0, .int .i64 0, .int .i64 0] 25)
    have q := config_any ⟨#[]⟩ [] K 8 1 (u.alloc (.cells #[.int .u8 0, .int .u8 0, .int .u8 0, .int .u8 0, .int .u8 0, .int .u8 0, .string ⟨#[]⟩, .int .i64 0, .string ⟨#[]⟩, .int .i64 0, .int .i64 0, .int .i64 0, .int .i64 0] 25)) rfl (by decide) (hG.below hb (by obtain ⟨t, fz, h⟩ := hG; exact lt_of_block h)) hK (hcd.kept (hb.block _ hcd.lt))
    rw [← hdg] at q
    exact hide q
  rw [← hdg] at HC HGOOD
  have HNG := hide hng
  have HGL := hide hgl
  have HCD := hide hcd
  clear hG hK hdg hng hgl hcd
  go_enter Tryz.func4, Tryz.ntmps4
  go_wp2_with fail
  refine (unhide HC).mono ?_
  rintro ee u1 ⟨rfl, hb1⟩
  have HB1 := hide hb1
  clear hb1 HC
  go_wp2_with fail
  obtain ⟨b0, hb0⟩ : ∃ b0, b0 = u1.heap.size := ⟨_, rfl⟩
  obtain ⟨v1, hv1⟩ : ∃ v1, v1 = u1.alloc (.cells #[.int .u8 2, .int .u8 0, .int .u8 0, .int .u8 0, .int .u8 0, .int .u8 42, .string ⟨#[107, 101, 114, 110, 101, 108]⟩, .int .i64 600000, .string dg, .int .i64 8, .int .i64 1, .int .i64 16, .int .i64 16] 25) := ⟨_, rfl⟩
  have HV1 : Hid (Below w.heap.size w v1) := hide (by rw [hv1]; exact (unhide HB1).alloc (unhide HB1).size _)
  have HR1 : Hid (v1.heap[b0]? = some (.cells #[.int .u8 2, .int .u8 0, .int .u8 0, .int .u8 0, .int .u8 0, .int .u8 42, .string ⟨#[107, 101, 114, 110, 101, 108]⟩, .int .i64 600000, .string dg, .int .i64 8, .int .i64 1, .int .i64 16, .int .i64 16] 25 (0, 0))) := hide (by rw [hv1, hb0]; exact heap_alloc_new u1 _)
  rw [← hb0, ← hv1]
  have hb0w : w.heap.size ≤ b0 := by rw [hb0]; exact (unhide HB1).size
  clear hb0 hv1 HB1
  go_wp2
  go_loopw [21] (fun i wr => ∃ k : Nat, k ≤ 16 ∧ i = .int .i64 k ∧ Hid (Below v1.heap.size v1 wr)) (fun i _ => 16 - (intOf i).toNat)
  case atStart => exact ⟨0, by omega, rfl, hide (Below.refl _ _)⟩
  case round =>
    obtain ⟨k, hk, rfl, HBR⟩ := hrel
    rename World => wr
    have HWR : Hid (Below w.heap.size w wr) := hide ((unhide HV1).trans ((unhide HBR).mono (unhide HV1).size))
    by_cases hlt : k < 16
    · have hlti : (k : Int) < 16 := by omega
      have HCH := hide (changed_any k hlt dg wr (HCX wr (unhide HWR)))
      clear HCX HGOOD
      go_wp2_with fail
      refine (unhide HCH).mono ?_
      rintro ee u2 ⟨k0, k1, k2, k3, k4, k5, name, cap, dig, blk, win, rx, tx, rfl, hbad, hb2⟩
      have HN := hide (bootNew_no k0 k1 k2 k3 k4 k5 name cap dig blk win rx tx hbad u2)
      have HB2 := hide ((unhide HBR).trans (hb2.mono (unhide HBR).size))
      clear HCH hbad hb2 HBR HWR
      go_wp2_with fail
      refine (unhide HN).mono ?_
      rintro ee u3 ⟨rfl, hb3⟩
      have HB3 := hide ((unhide HB2).trans (hb3.mono (unhide HB2).size))
      clear hb3 HB2 HN
      go_wp2
      go_roundw
      case rel => exact ⟨k + 1, by omega, by go_num, HB3⟩
      case measure => simp [intOf]; omega
    · have hk16 : k = 16 := by omega
      subst hk16
      clear hlt hk
      have HRR := hide (((unhide HBR).block b0 (lt_of_block (unhide HR1))).trans (unhide HR1))
      obtain ⟨x0, x1, x2, x3, x4, x5, x6, x7, x8, x9, x10, x11, x12⟩ := row13 (unhide HRR)
      have h11 := row_cells (unhide HRR) 11
      have h12 := row_cells (unhide HRR) 12
      obtain ⟨U, hU⟩ : ∃ U, U = setMany wr b0 [(11, .int .i64 2), (12, .int .i64 1)] := ⟨_, rfl⟩
      have hcs : setCs #[.int .u8 2, .int .u8 0, .int .u8 0, .int .u8 0, .int .u8 0, .int .u8 42, .string ⟨#[107, 101, 114, 110, 101, 108]⟩, .int .i64 600000, .string dg, .int .i64 8, .int .i64 1, .int .i64 16, .int .i64 16] [(11, .int .i64 2), (12, .int .i64 1)] = #[.int .u8 2, .int .u8 0, .int .u8 0, .int .u8 0, .int .u8 0, .int .u8 42, .string ⟨#[107, 101, 114, 110, 101, 108]⟩, .int .i64 600000, .string dg, .int .i64 8, .int .i64 1, .int .i64 2, .int .i64 1] := by kernel_rfl
      have hr2 : U.heap[b0]? = some (.cells #[.int .u8 2, .int .u8 0, .int .u8 0, .int .u8 0, .int .u8 0, .int .u8 42, .string ⟨#[107, 101, 114, 110, 101, 108]⟩, .int .i64 600000, .string dg, .int .i64 8, .int .i64 1, .int .i64 2, .int .i64 1] 25 (0, 0)) := by
        have q := many_row b0 [(11, .int .i64 2), (12, .int .i64 1)] wr _ (unhide HRR)
        rw [hcs] at q
        rw [hU, q]
      have HW : Hid (Below w.heap.size w U) := hide (by
        have q := unhide HWR
        obtain ⟨o4, o5, o6⟩ := many_os b0 [(11, .int .i64 2), (12, .int .i64 1)] wr
        rw [hU]
        exact ⟨o4.trans q.os, o5.trans q.tape, o6.trans q.output, by rw [many_size]; exact q.size, fun k hk => (many_other _ k (by omega) [(11, .int .i64 2), (12, .int .i64 1)] _).trans (q.block k hk)⟩)
      simp only [setMany] at hU
      have HU := hide hU
      have HNEW := hide (bootNew_good 2 0 0 0 0 42 _ 600000 dg 8 1 2 1 (unhide HGOOD) U (Nat.le_trans (unhide HNG) (unhide HW).size) ((unhide HGL).below (unhide HW) (unhide HNG)))
      clear hU hcs HBR HWR HR1 HV1 HCX HGOOD
      go_wp2_with fail
      rw [← unhide HU]
      refine (unhide HNEW).mono ?_
      rintro ee u2 ⟨Q, B, bm, cg, gg, rfl, hu2⟩
      have HB : Hid (Bx w (fun _ => False) u2 Q B (mk0 (Cfg.mk 2 0 0 0 0 42 ⟨#[107, 101, 114, 110, 101, 108]⟩ 600000 dg 8 1 ((2 : Nat) : Int) ((1 : Nat) : Int)) bm cg gg)) := hide ⟨hu2.mx.under (unhide HW) (unhide HNG) (unhide HGL), hu2.row⟩
      have HK := hide (kv_new dg bm cg gg)
      generalize mk0 (Cfg.mk 2 0 0 0 0 42 ⟨#[107, 101, 114, 110, 101, 108]⟩ 600000 dg 8 1 ((2 : Nat) : Int) ((1 : Nat) : Int)) bm cg gg = m0 at *
      clear hu2 HW HNEW HU x0 x1 x2 x3 x4 x5 x6 x7 x8 x9 x10 x11 x12 h11 h12 hr2 HRR HNG HGL hb0w
      have hf6 := fieldL6
      have hsl := Kn.same_look
      have HL : Hid (Calls Tryz.prog 10 #[.pointer (some ⟨Q, 0, none⟩)] u2 fun ee w' => ee = .returned (.agg #[.int .i64 0, .int .i64 0, .int .i64 0, .int .u32 0, .int .i64 0, .int .i64 0, .int .i64 0, .int .i64 0]) ∧ Below u2.heap.size u2 w') := hide (kLook0 (unhide HB) (unhide HK))
      go_wp2_with fail
      refine (unhide HL).mono ?_
      rintro ee u3 ⟨rfl, hb3⟩
      have HB3 := hide ((unhide HB).below hb3)
      clear hb3 HL HB
      have HB := HB3
      clear HB3
      have HT := hide (kTake0 (unhide HB) (unhide HK).gq)
      clear HB
      go_wp2_with fail
      refine (unhide HT).mono ?_
      rintro ee u4 ⟨rfl, HB⟩
      clear HT
      have HP1 := hide (kPutC (unhide HB) (unhide HK) ⟨#[120]⟩ (by decide) true [⟨#[120]⟩] (by decide) (by rfl))
      clear HB HK
      go_wp2_with fail
      refine (unhide HP1).mono ?_
      rintro ee up1 ⟨rfl, m1, HB, HK⟩
      clear HP1
      have HP2 := hide (kPutC (unhide HB) (unhide HK) ⟨#[]⟩ (by decide) true [⟨#[120]⟩, ⟨#[]⟩] (by decide) (by rfl))
      clear HB HK
      go_wp2_with fail
      refine (unhide HP2).mono ?_
      rintro ee up2 ⟨rfl, m2, HB, HK⟩
      clear HP2
      have HP3 := hide (kPutC (unhide HB) (unhide HK) ⟨#[121]⟩ (by decide) false [⟨#[120]⟩, ⟨#[]⟩] (by decide) (by rfl))
      clear HB HK
      go_wp2_with fail
      refine (unhide HP3).mono ?_
      rintro ee up3 ⟨rfl, m3, HB, HK⟩
      clear HP3
      have HP4 := hide (kPollC (unhide HB) (unhide HK) (by decide) 1 1 [⟨#[]⟩] (by decide) (by rfl))
      clear HB HK
      go_wp2_with fail
      refine (unhide HP4).mono ?_
      rintro ee up4 ⟨rfl, m4, HB, HK⟩
      clear HP4
      have HP5 := hide (kPutC (unhide HB) (unhide HK) ⟨#[122]⟩ (by decide) true [⟨#[]⟩, ⟨#[122]⟩] (by decide) (by rfl))
      clear HB HK
      go_wp2_with fail
      refine (unhide HP5).mono ?_
      rintro ee up5 ⟨rfl, m5, HB, HK⟩
      clear HP5
      have HP6 := hide (kPutC (unhide HB) (unhide HK) ⟨#[]⟩ (by decide) false [⟨#[]⟩, ⟨#[122]⟩] (by decide) (by rfl))
      clear HB HK
      go_wp2_with fail
      refine (unhide HP6).mono ?_
      rintro ee up6 ⟨rfl, m6, HB, HK⟩
      clear HP6
      have HP7 := hide (kPollC (unhide HB) (unhide HK) (by decide) 9 2 [] (by decide) (by rfl))
      clear HB HK
      go_wp2_with fail
      refine (unhide HP7).mono ?_
      rintro ee up7 ⟨rfl, m7, HB, HK⟩
      clear HP7
      have HP8 := hide (kPollC (unhide HB) (unhide HK) (by decide) 9 0 [] (by decide) (by rfl))
      clear HB HK
      go_wp2_with fail
      refine (unhide HP8).mono ?_
      rintro ee up8 ⟨rfl, m8, HB, HK⟩
      clear HP8
      have HP9 := hide (kPollC (unhide HB) (unhide HK) (by decide) (-1) 0 [] (by decide) (by rfl))
      clear HB HK
      go_wp2_with fail
      refine (unhide HP9).mono ?_
      rintro ee up9 ⟨rfl, m9, HB, HK⟩
      clear HP9
      have HP10 := hide (kTick (a := 1) (b := 0) (unhide HB) (unhide HK).early 16909060 (by decide) (fun n => kt1 (unhide HK) n))
      clear HB HK
      go_wp2_with fail
      refine (unhide HP10).mono ?_
      rintro ee up10 ⟨rfl, m10, HB, HK⟩
      clear HP10
      have HP11 := hide (kTick (a := 2) (b := 0) (unhide HB) (unhide HK).early 4 (by decide) (fun n => kt2 (unhide HK) n))
      clear HB HK
      go_wp2_with fail
      refine (unhide HP11).mono ?_
      rintro ee up11 ⟨rfl, m11, HB, HK⟩
      clear HP11
      have HL2 := hide (kLook2 (unhide HB) (unhide HK))
      go_wp2_with fail
      refine (unhide HL2).mono ?_
      rintro ee u5 ⟨rfl, hb5⟩
      have HB5 := hide ((unhide HB).below hb5)
      clear hb5 HL2 HB
      have HB := HB5
      clear HB5
      have HP12 := hide (kTick (a := 3) (b := 1) (unhide HB) (unhide HK).early 4 (by decide) (fun n => kt3 (unhide HK) n))
      clear HB HK
      go_wp2_with fail
      refine (unhide HP12).mono ?_
      rintro ee up12 ⟨rfl, m12, HB, HK⟩
      clear HP12
      obtain ⟨F, hF⟩ : ∃ F, F = etF := ⟨_, rfl⟩
      have HF := hide hF
      have HT1 := hide (kTake1 (unhide HB) (unhide HK) F hF)
      clear HB HK hF
      go_wp2_with fail
      refine (unhide HT1).mono ?_
      rintro ee u6 ⟨rfl, m13, HB, HQL⟩
      clear HT1
      have HT2 := hide (kTake0 (unhide HB) (unhide HQL).1)
      clear HB
      go_wp2_with fail
      refine (unhide HT2).mono ?_
      rintro ee u7 ⟨rfl, HB⟩
      clear HT2
      have HL3 := hide (kLook3 (unhide HB) (unhide HQL).2)
      clear HB HQL
      go_wp2_with fail
      refine (unhide HL3).mono ?_
      rintro ee u8 ⟨la, lb, lc, ld, le, lf, lg, rfl, HB⟩
      have HBL := hide (unhide HB).kBelow
      clear HL3 HB
      obtain ⟨L1, hL1⟩ : ∃ L, L = ipF := ⟨_, rfl⟩
      obtain ⟨L2, hL2⟩ : ∃ L, L = udF := ⟨_, rfl⟩
      obtain ⟨L3, hL3⟩ : ∃ L, L = dhF := ⟨_, rfl⟩
      have HE1 : Hid (L1.size = 328 ∧ F = Eth.ethS Kn.toM 2048 L1) := hide ⟨by rw [hL1, ip_size], by rw [unhide HF, hL1]; rfl⟩
      have HE2 : Hid (L2.size = 308 ∧ L1 = ⟨(Ip.ipL 0 64 17 0 4294967295 L2).toArray⟩) := hide ⟨by rw [hL2, ud_size], by rw [hL1, hL2, ip_is]⟩
      have HE3 : Hid (L3.size = 300 ∧ L2 = ⟨(Ud.udpL 68 67 0 4294967295 L3).toArray⟩) := hide ⟨by rw [hL3, dh_size], by rw [hL2, hL3, ud_is]⟩
      have HE4 : Hid (L3 = ⟨(Dh.fullL (Dh.allL false 16909060 0 0 0 Kn.mD (sayO 1 []))).toArray⟩) := hide (by rw [hL3, dh_is])
      clear hL1 hL2 hL3 HF
      have HCE := hide (Kn.kEther L1 F (by rw [(unhide HE1).1]; decide) (by rw [(unhide HE1).1]; decide) (unhide HE1).2 u8)
      go_wp2_with fail
      refine (unhide HCE).mono ?_
      rintro ee e1 ⟨rfl, hb⟩
      have HWE := hide ((unhide HBL).trans (hb.mono (unhide HBL).size))
      clear hb HCE HBL
      go_wp2_with fail
      obtain ⟨bE, hbE⟩ : ∃ b, b = e1.heap.size := ⟨_, rfl⟩
      obtain ⟨vE, hvE⟩ : ∃ v, v = e1.alloc (.cells #[.int .u8 255, .int .u8 255, .int .u8 255, .int .u8 255, .int .u8 255, .int .u8 255, .int .u8 2, .int .u8 0, .int .u8 0, .int .u8 0, .int .u8 0, .int .u8 42, .int .u16 2048, .string L1] 50) := ⟨_, rfl⟩
      have HRE : Hid (vE.heap[bE]? = some (.cells #[.int .u8 255, .int .u8 255, .int .u8 255, .int .u8 255, .int .u8 255, .int .u8 255, .int .u8 2, .int .u8 0, .int .u8 0, .int .u8 0, .int .u8 0, .int .u8 42, .int .u16 2048, .string L1] 50 (0, 0))) := hide (by rw [hvE, hbE]; exact heap_alloc_new e1 _)
      have HBL : Hid (Below w.heap.size w vE) := hide (by rw [hvE]; exact (unhide HWE).alloc (unhide HWE).size _)
      rw [← hbE, ← hvE]
      have HQE := hide hbE
      clear hbE hvE
      clear HWE
      have HCI := hide (Kn.kIP 0 64 17 0 4294967295 L2 L1 (by decide) (by decide) (by decide) (by decide) (by decide) (by rw [(unhide HE2).1]; decide) (unhide HE2).2 vE)
      refine (unhide HCI).mono ?_
      rintro ee i1 ⟨rfl, hb⟩
      have HWI := hide ((unhide HBL).trans (hb.mono (unhide HBL).size))
      have HNE := hide ((hb.block bE (lt_of_block (unhide HRE))).trans (unhide HRE))
      clear hb HCI HBL HRE
      go_wp2_with fail
      obtain ⟨bI, hbI⟩ : ∃ b, b = i1.heap.size := ⟨_, rfl⟩
      obtain ⟨vI, hvI⟩ : ∃ v, v = i1.alloc (.cells #[.int .u16 0, .int .u8 64, .int .u8 17, .int .u32 0, .int .u32 4294967295, .string L2] 54) := ⟨_, rfl⟩
      have HRI : Hid (vI.heap[bI]? = some (.cells #[.int .u16 0, .int .u8 64, .int .u8 17, .int .u32 0, .int .u32 4294967295, .string L2] 54 (0, 0))) := hide (by rw [hvI, hbI]; exact heap_alloc_new i1 _)
      have HBL : Hid (Below w.heap.size w vI) := hide (by rw [hvI]; exact (unhide HWI).alloc (unhide HWI).size _)
      have HRE : Hid (vI.heap[bE]? = some (.cells #[.int .u8 255, .int .u8 255, .int .u8 255, .int .u8 255, .int .u8 255, .int .u8 255, .int .u8 2, .int .u8 0, .int .u8 0, .int .u8 0, .int .u8 0, .int .u8 42, .int .u16 2048, .string L1] 50 (0, 0))) := hide (by rw [hvI]; exact (Below.heap_alloc _ _ _ (lt_of_block (unhide HNE))).trans (unhide HNE))
      rw [← hbI, ← hvI]
      have HQI := hide hbI
      clear hbI hvI
      clear HWI HNE
      have HCU := hide (Kn.kUDP 68 67 0 4294967295 L3 L2 (by decide) (by decide) (by decide) (by decide) (by rw [(unhide HE3).1]; decide) (unhide HE3).2 vI)
      refine (unhide HCU).mono ?_
      rintro ee d0 ⟨rfl, hb⟩
      have HWU := hide ((unhide HBL).trans (hb.mono (unhide HBL).size))
      have HNE := hide ((hb.block bE (lt_of_block (unhide HRE))).trans (unhide HRE))
      have HNI := hide ((hb.block bI (lt_of_block (unhide HRI))).trans (unhide HRI))
      clear hb HCU HBL HRE HRI
      go_wp2_with fail
      obtain ⟨bU, hbU⟩ : ∃ b, b = d0.heap.size := ⟨_, rfl⟩
      obtain ⟨vU, hvU⟩ : ∃ v, v = d0.alloc (.cells #[.int .u16 68, .int .u16 67, .string L3] 58) := ⟨_, rfl⟩
      have HRU : Hid (vU.heap[bU]? = some (.cells #[.int .u16 68, .int .u16 67, .string L3] 58 (0, 0))) := hide (by rw [hvU, hbU]; exact heap_alloc_new d0 _)
      have HBL : Hid (Below w.heap.size w vU) := hide (by rw [hvU]; exact (unhide HWU).alloc (unhide HWU).size _)
      have HRE : Hid (vU.heap[bE]? = some (.cells #[.int .u8 255, .int .u8 255, .int .u8 255, .int .u8 255, .int .u8 255, .int .u8 255, .int .u8 2, .int .u8 0, .int .u8 0, .int .u8 0, .int .u8 0, .int .u8 42, .int .u16 2048, .string L1] 50 (0, 0))) := hide (by rw [hvU]; exact (Below.heap_alloc _ _ _ (lt_of_block (unhide HNE))).trans (unhide HNE))
      have HRI : Hid (vU.heap[bI]? = some (.cells #[.int .u16 0, .int .u8 64, .int .u8 17, .int .u32 0, .int .u32 4294967295, .string L2] 54 (0, 0))) := hide (by rw [hvU]; exact (Below.heap_alloc _ _ _ (lt_of_block (unhide HNI))).trans (unhide HNI))
      rw [← hbU, ← hvU]
      have HQU := hide hbU
      clear hbU hvU
      clear HWU HNE HNI
      have HCD := hide (Kn.kDHCP false 16909060 0 0 0 L3 (by decide) (by decide) (by decide) (by decide) (unhide HE4) vU)
      refine (unhide HCD).mono ?_
      rintro ee d1 ⟨sa, sc, rfl, hown, hb⟩
      have HWD := hide ((unhide HBL).trans (hb.mono (unhide HBL).size))
      have HNE := hide ((hb.block bE (lt_of_block (unhide HRE))).trans (unhide HRE))
      have HNI := hide ((hb.block bI (lt_of_block (unhide HRI))).trans (unhide HRI))
      have HNU := hide ((hb.block bU (lt_of_block (unhide HRU))).trans (unhide HRU))
      clear hb HCD HBL HRE HRI HRU
      obtain ⟨g, hg, hg0, hg1, hg2, hg3⟩ : ∃ g, sa = some ⟨g, 0, none⟩ ∧ d1.cell? ⟨g, 0, none⟩ = some (.int .u8 53) ∧ d1.cell? ⟨g, 1, none⟩ = some (.string ⟨#[1]⟩) ∧ d1.cell? ⟨g, 2, none⟩ = some (.int .u8 55) ∧ d1.cell? ⟨g, 3, none⟩ = some (.string ⟨#[1, 3, 51, 54, 58, 59]⟩) := two_cells hown
      subst hg
      have HG := hide (And.intro hg0 (And.intro hg1 (And.intro hg2 hg3)))
      clear hg0 hg1 hg2 hg3 hown
      have hgl : g < d1.heap.size := kCell (unhide HG).1
      obtain rfl := unhide HQE
      obtain rfl := unhide HQI
      obtain rfl := unhide HQU
      have q0 := (World.cell?_of_block (Below.heap_alloc d1 (.cells #[.bool false, .int .u32 16909060, .int .u32 0, .int .u32 0, .int .u32 0, .int .u8 2, .int .u8 0, .int .u8 0, .int .u8 0, .int .u8 0, .int .u8 42, .slice (some ⟨g, 0, none⟩) 2 sc] 63) g hgl)).trans (unhide HG).1
      have q1 := (World.cell?_of_block (Below.heap_alloc d1 (.cells #[.bool false, .int .u32 16909060, .int .u32 0, .int .u32 0, .int .u32 0, .int .u8 2, .int .u8 0, .int .u8 0, .int .u8 0, .int .u8 0, .int .u8 42, .slice (some ⟨g, 0, none⟩) 2 sc] 63) g hgl)).trans (unhide HG).2.1
      have q2 := (World.cell?_of_block (Below.heap_alloc d1 (.cells #[.bool false, .int .u32 16909060, .int .u32 0, .int .u32 0, .int .u32 0, .int .u8 2, .int .u8 0, .int .u8 0, .int .u8 0, .int .u8 0, .int .u8 42, .slice (some ⟨g, 0, none⟩) 2 sc] 63) g hgl)).trans (unhide HG).2.2.1
      have q3 := (World.cell?_of_block (Below.heap_alloc d1 (.cells #[.bool false, .int .u32 16909060, .int .u32 0, .int .u32 0, .int .u32 0, .int .u8 2, .int .u8 0, .int .u8 0, .int .u8 0, .int .u8 0, .int .u8 42, .slice (some ⟨g, 0, none⟩) 2 sc] 63) g hgl)).trans (unhide HG).2.2.2
      have HBL : Hid (Below w.heap.size w (d1.alloc (.cells #[.bool false, .int .u32 16909060, .int .u32 0, .int .u32 0, .int .u32 0, .int .u8 2, .int .u8 0, .int .u8 0, .int .u8 0, .int .u8 0, .int .u8 42, .slice (some ⟨g, 0, none⟩) 2 sc] 63))) := hide ((unhide HWD).alloc (unhide HWD).size _)
      clear HG hgl HQE HQI HQU
      have hm1 : ∀ u, (Op.equalIn 10000 23 (.agg #[.int .u8 255, .int .u8 255, .int .u8 255, .int .u8 255, .int .u8 255, .int .u8 255]) (.agg #[.int .u8 255, .int .u8 255, .int .u8 255, .int .u8 255, .int .u8 255, .int .u8 255])).run Tryz.prog u = .ok true u := fun u => by rw [mac_eq]; rfl
      have hm2 : ∀ u, (Op.equalIn 10000 23 (.agg #[.int .u8 2, .int .u8 0, .int .u8 0, .int .u8 0, .int .u8 0, .int .u8 42]) (.agg #[.int .u8 2, .int .u8 0, .int .u8 0, .int .u8 0, .int .u8 0, .int .u8 42])).run Tryz.prog u = .ok true u := fun u => by rw [mac_eq]; rfl
      have hso := Kn.same_option
      obtain ⟨y0, y1, y2, y3, y4, y5⟩ := (unhide HCD).kept ((unhide HBL).block _ (unhide HCD).lt)
      obtain ⟨xe0, xe1, xe2, xe3, xe4, xe5, xe6, xe7, xe8, xe9, xe10, xe11⟩ := rowE ((Below.heap_alloc d1 (.cells #[.bool false, .int .u32 16909060, .int .u32 0, .int .u32 0, .int .u32 0, .int .u8 2, .int .u8 0, .int .u8 0, .int .u8 0, .int .u8 0, .int .u8 42, .slice (some ⟨g, 0, none⟩) 2 sc] 63) _ (lt_of_block (unhide HNE))).trans (unhide HNE))
      obtain ⟨xi0, xi1, xi3, xi4⟩ := rowI ((Below.heap_alloc d1 (.cells #[.bool false, .int .u32 16909060, .int .u32 0, .int .u32 0, .int .u32 0, .int .u8 2, .int .u8 0, .int .u8 0, .int .u8 0, .int .u8 0, .int .u8 42, .slice (some ⟨g, 0, none⟩) 2 sc] 63) _ (lt_of_block (unhide HNI))).trans (unhide HNI))
      obtain ⟨xu0, xu1⟩ := rowU ((Below.heap_alloc d1 (.cells #[.bool false, .int .u32 16909060, .int .u32 0, .int .u32 0, .int .u32 0, .int .u8 2, .int .u8 0, .int .u8 0, .int .u8 0, .int .u8 0, .int .u8 42, .slice (some ⟨g, 0, none⟩) 2 sc] 63) _ (lt_of_block (unhide HNU))).trans (unhide HNU))
      obtain ⟨xd0, xd1, xd5, xd6, xd7, xd8, xd9, xd10, xd11⟩ := rowD (heap_alloc_new d1 (.cells #[.bool false, .int .u32 16909060, .int .u32 0, .int .u32 0, .int .u32 0, .int .u8 2, .int .u8 0, .int .u8 0, .int .u8 0, .int .u8 0, .int .u8 42, .slice (some ⟨g, 0, none⟩) 2 sc] 63))
      clear HNE HNI HNU HCD HWD
      go_wp2
      go_ret
      exact ⟨rfl, unhide HBL⟩
end Go.Proofs.YtonlmklkikbeiaaGreatDoor.Mac

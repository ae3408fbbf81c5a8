import Derived.Test.YtonlmklkikbeiaaGreatDoorMgMa
import Derived.Test.YtonlmklkikbeiaaGreatDoorMgEtherW
import Derived.Test.YtonlmklkikbeiaaGreatDoorMgIPWriteW
import Derived.Test.YtonlmklkikbeiaaGreatDoorMgUDPWriteW
import Derived.Test.YtonlmklkikbeiaaGreatDoorMgWb
namespace Go.Proofs.YtonlmklkikbeiaaGreatDoor.Mac
open Go.ChangeShapes Go.WideShapes Go.ChangeAt Go.RowKit Bs
set_option linter.unusedVariables false
set_option linter.unusedSimpArgs false
variable {w0 : World} {P : Nat → Prop} {w w' : World} {B : Nat} {m m' : Mc}

theorem made_any (s : ByteArray) (k : Int) (w : World) : Calls Tryz.prog 130 #[.string s, .int .i64 k] w fun e w' => e = .returned (.string s) ∧ w' = w := by
  go_enter Tryz.func130, Tryz.ntmps130
  go_wp2
  go_ret
  exact ⟨rfl, rfl⟩
/-- the address that it may use -/
def Mc.addr (m : Mc) : Int := if m.st < 4 then 0 else m.adr
theorem address_any (h : Mx w0 P w B m) : Calls Tryz.prog 39 #[.pointer (some ⟨B, 0, none⟩)] w fun e w' => e = .returned (.int .u32 m.addr) ∧ w' = w := by
  have c25 := h.c25
  have c27 := h.c27
  by_cases hs : m.st < 4
  · have e : m.addr = 0 := by unfold Mc.addr; rw [if_pos hs]
    rw [e]
    go_enter Tryz.func39, Tryz.ntmps39
    go_wp2
    go_ret
    exact ⟨rfl, rfl⟩
  · have e : m.addr = m.adr := by unfold Mc.addr; rw [if_neg hs]
    rw [e]
    clear e
    go_enter Tryz.func39, Tryz.ntmps39
    go_wp2
    go_ret
    exact ⟨rfl, rfl⟩
/-- nothing is done any more -/
def Mc.ended (m : Mc) : Bool := m.phase == 3 || m.phase == 4
theorem ended_any (h : Mx w0 P w B m) : Calls Tryz.prog 35 #[.pointer (some ⟨B, 0, none⟩)] w fun e w' => e = .returned (.bool m.ended) ∧ w' = w := by
  have c40 := h.c40
  unfold Mc.ended
  go_enter Tryz.func35, Tryz.ntmps35
  go_wp2
  all_goals
    go_ret
    simp_all
def Mc.card (m : Mc) : List UInt8 := [m.k0, m.k1, m.k2, m.k3, m.k4, m.k5]
/-- a frame is sent, or lost -/
def Mc.send (m : Mc) (t : List UInt8) (ty : Int) (load : ByteArray) : Mc := m.sent (Eth.ethS (t ++ m.card) ty load)
set_option maxHeartbeats 1000000 in
theorem send_any (h : Mx w0 P w B m) (a b c d e f : UInt8) (ty : Int) (load : ByteArray) (h1 : 0 ≤ ty) (h2 : ty ≤ 65535) (h3 : load.size ≤ 262144) :
    Calls Tryz.prog 129 #[.pointer (some ⟨B, 0, none⟩), .agg #[.int .u8 a.toNat, .int .u8 b.toNat, .int .u8 c.toNat, .int .u8 d.toNat, .int .u8 e.toNat, .int .u8 f.toNat], .int .u16 ty, .string load] w fun ee w' =>
      ee = .returned (.tuple #[]) ∧ Mx w0 P w' B (m.send [a, b, c, d, e, f] ty load) := by
  obtain ⟨W, hW⟩ : ∃ W, W = w.alloc (.cells #[.int .u8 a.toNat, .int .u8 b.toNat, .int .u8 c.toNat, .int .u8 d.toNat, .int .u8 e.toNat, .int .u8 f.toNat] 23) := ⟨_, rfl⟩
  have HM := hide (h.alloc (.cells #[.int .u8 a.toNat, .int .u8 b.toNat, .int .u8 c.toNat, .int .u8 d.toNat, .int .u8 e.toNat, .int .u8 f.toNat] 23))
  have c1 := h.c1
  have c2 := h.c2
  have c3 := h.c3
  have c4 := h.c4
  have c5 := h.c5
  have c6 := h.c6
  have hlt := h.lt
  have HW := fun u => hide (Eth.wire_any a b c d e f m.k0 m.k1 m.k2 m.k3 m.k4 m.k5 ty load u h1 h2 h3)
  have HS : Hid (m.send [a, b, c, d, e, f] ty load = m.sent (Eth.ethS [a, b, c, d, e, f, m.k0, m.k1, m.k2, m.k3, m.k4, m.k5] ty load)) := hide rfl
  clear h
  go_enter Tryz.func129, Tryz.ntmps129
  go_wp2
  go_region_held3 (fun u => u.cell? ⟨w.heap.size, 0, none⟩ = some (.int .u8 a.toNat) ∧ u.cell? ⟨w.heap.size, 1, none⟩ = some (.int .u8 b.toNat) ∧ u.cell? ⟨w.heap.size, 2, none⟩ = some (.int .u8 c.toNat) ∧ u.cell? ⟨w.heap.size, 3, none⟩ = some (.int .u8 d.toNat) ∧ u.cell? ⟨w.heap.size, 4, none⟩ = some (.int .u8 e.toNat) ∧ u.cell? ⟨w.heap.size, 5, none⟩ = some (.int .u8 f.toNat) ∧ u.cell? ⟨B, 1, none⟩ = some (.int .u8 m.k0.toNat) ∧ u.cell? ⟨B, 2, none⟩ = some (.int .u8 m.k1.toNat) ∧ u.cell? ⟨B, 3, none⟩ = some (.int .u8 m.k2.toNat) ∧ u.cell? ⟨B, 4, none⟩ = some (.int .u8 m.k3.toNat) ∧ u.cell? ⟨B, 5, none⟩ = some (.int .u8 m.k4.toNat) ∧ u.cell? ⟨B, 6, none⟩ = some (.int .u8 m.k5.toNat)) (go_keep)
    (first | (go_at_call 160; refine (unhide (HW _)).mono ?_; rintro ee u ⟨rfl, hb⟩; have hc := Arp.below_cells hb; have HU := hide (((unhide HM).drew).below hb); have d1 := (unhide HU).c1; have d2 := (unhide HU).c2; have d3 := (unhide HU).c3; have d4 := (unhide HU).c4; have d5 := (unhide HU).c5; have d6 := (unhide HU).c6) | (go_at_call 130; refine (made_any _ _ _).mono ?_; rintro ee u2 ⟨rfl, rfl⟩))
  clear HM hb hc d1 d2 d3 d4 d5 d6
  go_wp2_with fail
  refine (goAdd_any (unhide HU) _).mono ?_
  rintro ee w3 ⟨rfl, h4⟩
  by_cases hr : m.gq.length < m.tx
  · rw [if_pos hr] at h4
    have H4 := hide h4
    have e1 : decide (m.gq.length < m.tx) = true := by simp [hr]
    rw [e1]
    have HR := hide hr
    clear h4 e1 hr
    go_wp2
    go_end0
    refine ⟨rfl, ?_⟩
    rw [unhide HS]
    unfold Mc.sent
    rw [if_neg (Nat.ne_of_lt (unhide HR))]
    exact unhide H4
  · rw [if_neg hr] at h4
    have H4 := hide h4
    have c22 := h4.c22
    have f22 := h4.free 22
    have e1 : decide (m.gq.length < m.tx) = false := by simp [hr]
    rw [e1]
    have HR := hide (show m.gq.length = m.tx from by have := h4.goes.2.2.2.1; omega)
    clear h4 e1 hr
    go_wp2
    go_end0
    refine ⟨rfl, ?_⟩
    rw [unhide HS]
    unfold Mc.sent
    rw [if_pos (unhide HR)]
    exact (unhide H4).s22 _
theorem second_new (w : World) (o1 o2 : Obj) : ((w.alloc o1).alloc o2).heap[w.heap.size + 1]? = some o2 := by
  have := heap_alloc_new (w.alloc o1) o2
  simpa using this
theorem second_free (w : World) (o1 : Obj) (c : Array Value) (t : TypeId) (j : Nat) : ((w.alloc o1).alloc (.cells c t)).frozen? ⟨w.heap.size + 1, j, none⟩ = false := by
  unfold World.frozen?
  show (match ((w.alloc o1).alloc (.cells c t)).heap[w.heap.size + 1]? with | some (.cells _ _ (lo, hi)) => decide (lo ≤ j) && decide (j < hi) | _ => false) = false
  rw [second_new]
  simp
/-- its numbers are of their kinds -/
structure Mc.Ok (m : Mc) : Prop where
  draw : 0 ≤ m.draw ∧ m.draw ≤ 4294967295
  id : 0 ≤ m.id ∧ m.id ≤ 65535
  xid : 0 ≤ m.xid ∧ m.xid ≤ 4294967295
  adr : 0 ≤ m.adr ∧ m.adr ≤ 4294967295
  srv : 0 ≤ m.srv ∧ m.srv ≤ 4294967295
  ws : 0 ≤ m.ws ∧ m.ws ≤ 4
  mask : 0 ≤ m.mask ∧ m.mask ≤ 4294967295
  rou : 0 ≤ m.rou ∧ m.rou ≤ 4294967295
  ims : 0 ≤ m.ims ∧ m.ims ≤ 4294967295
  old : 0 ≤ m.old ∧ m.old ≤ 4294967295
  vold : 0 ≤ m.vold ∧ m.vold ≤ 4294967295
  over : 0 ≤ m.over ∧ m.over ≤ 4294967295
  fs : 0 ≤ m.fs ∧ m.fs ≤ 4
  sF : 0 ≤ m.sF ∧ m.sF ≤ 65535
  sT : 0 ≤ m.sT ∧ m.sT ≤ 65535
  sL : m.sL.size ≤ 262144
theorem Mc.Ok.addr {m : Mc} (h : m.Ok) : 0 ≤ m.addr ∧ m.addr ≤ 4294967295 := by
  unfold Mc.addr
  have := h.adr
  split <;> omega
/-- a packet with a datagram; its number is gone -/
def Mc.packB (m : Mc) (ta f t : Int) (load : ByteArray) : ByteArray := Ip.ipS m.id 64 17 m.addr ta (Ud.udpS f t m.addr ta load)
def Mc.id1 (m : Mc) : Mc := { m with id := IntKind.u16.wrap (m.id + 1) }
theorem udpS_size (f t fr ta : Int) (load : ByteArray) : (Ud.udpS f t fr ta load).size ≤ 1480 := by
  unfold Ud.udpS
  split
  · have : (Ud.udpL f t fr ta load).length = 8 + load.size := by unfold Ud.udpL; rw [Wt.put16_length]; simp [Ud.udp0, word8, len_str]; omega
    show (Ud.udpL f t fr ta load).toArray.size ≤ _
    simp; omega
  · show (#[] : Array UInt8).size ≤ _; simp
set_option maxHeartbeats 1000000 in
theorem packet_any (h : Mx w0 P w B m) (ho : m.Ok) (ta f t : Int) (load : ByteArray) (hta : 0 ≤ ta ∧ ta ≤ 4294967295) (hF : 0 ≤ f ∧ f ≤ 65535) (hT : 0 ≤ t ∧ t ≤ 65535) (hl : load.size ≤ 262144) :
    Calls Tryz.prog 137 #[.pointer (some ⟨B, 0, none⟩), .int .u32 ta, .agg #[.int .u16 f, .int .u16 t, .string load]] w fun ee w' =>
      ee = .returned (.string (m.packB ta f t load)) ∧ Mx w0 P w' B m.id1 := by
  have HA := hide (address_any (h.alloc (.cells #[.int .u16 f, .int .u16 t, .string load] 58)))
  have c23 := h.c23
  have hlt := h.lt
  have HM := hide h
  have HU := fun u => hide (Ud.wire_any f t m.addr ta load u hF hT ho.addr hta hl)
  obtain ⟨L, hL⟩ : ∃ L, L = Ud.udpS f t m.addr ta load := ⟨_, rfl⟩
  have hLz : L.size ≤ 1480 := by rw [hL]; exact udpS_size _ _ _ _ _
  rw [← hL] at HU
  have HP : Hid (m.packB ta f t load = Ip.ipS m.id 64 17 m.addr ta L) := hide (by unfold Mc.packB; rw [hL])
  have HI := fun u => hide (Ip.wire_any m.id 64 17 m.addr ta L u ho.id (by omega) (by omega) ho.addr hta (by omega))
  clear h hL
  go_enter Tryz.func137, Tryz.ntmps137
  go_wp2_with fail
  refine (unhide HA).mono ?_
  rintro ee u0 ⟨rfl, rfl⟩
  go_wp2_with fail
  refine (unhide (HU _)).mono ?_
  rintro ee u1 ⟨rfl, hb⟩
  have h1 := (((unhide HM).alloc (.cells #[.int .u16 f, .int .u16 t, .string load] 58)).alloc _).below hb
  have H1 := hide h1
  have hc := Arp.below_cells hb
  have d23 := h1.c23
  have f23 := h1.free 23
  have f5 : u1.frozen? ⟨w.heap.size + 1, 5, none⟩ = false := by rw [hb.frozen (by simp)]; exact second_free _ _ _ _ _
  have hsz := hb.size
  simp at hsz
  have HF : Hid (¬ Foot B m (w.heap.size + 1)) := hide (fun hf => by have := (unhide HM).foot_lt hf; omega)
  have HZ := hide (unhide HM).size
  have hBn : B ≠ w.heap.size + 1 := by omega
  clear h1 hb HU HA HM
  go_wp2_with fail
  refine (made_any _ _ _).mono ?_
  rintro ee u2 ⟨rfl, rfl⟩
  go_wp2_with fail
  refine (unhide (HI _)).mono ?_
  rintro ee u3 ⟨rfl, hb3⟩
  have H3 := hide ((((unhide H1).aside ⟨w.heap.size + 1, 5, none⟩ (.string L) (unhide HF) (Nat.le_trans (unhide HZ) (Nat.le_succ _))).s23 _).below hb3)
  clear hb3 HI H1 hc
  go_wp2_with fail
  refine (made_any _ _ _).mono ?_
  rintro ee u2 ⟨rfl, rfl⟩
  go_wp2
  go_ret
  rw [unhide HP]
  exact ⟨rfl, unhide H3⟩
end Go.Proofs.YtonlmklkikbeiaaGreatDoor.Mac

namespace Go.Proofs.YtonlmklkikbeiaaGreatDoor.Mac
open Go.ChangeShapes Go.WideShapes Go.ChangeAt Go.RowKit Bs
set_option linter.unusedVariables false
set_option linter.unusedSimpArgs false
variable {w0 : World} {P : Nat → Prop} {w w' : World} {B : Nat} {m m' : Mc}

theorem Mx.all6 (h : Mx w0 P w B m) : w.cell? ⟨1, 0, none⟩ = some (.int .u8 255) ∧ w.cell? ⟨1, 1, none⟩ = some (.int .u8 255) ∧ w.cell? ⟨1, 2, none⟩ = some (.int .u8 255)
    ∧ w.cell? ⟨1, 3, none⟩ = some (.int .u8 255) ∧ w.cell? ⟨1, 4, none⟩ = some (.int .u8 255) ∧ w.cell? ⟨1, 5, none⟩ = some (.int .u8 255) :=
  ⟨h.all 0 (by decide), h.all 1 (by decide), h.all 2 (by decide), h.all 3 (by decide), h.all 4 (by decide), h.all 5 (by decide)⟩
theorem Mx.old (h : Mx w0 P w B m) (k : Nat) (hk : k < w0.heap.size) (hP : ¬ P k) (j : Nat) : w.cell? ⟨k, j, none⟩ = w0.cell? ⟨k, j, none⟩ := World.cell?_of_block (h.kept k hk hP)
theorem Mx.oldF (h : Mx w0 P w B m) (k : Nat) (hk : k < w0.heap.size) (hP : ¬ P k) (j : Nat) : w.frozen? ⟨k, j, none⟩ = w0.frozen? ⟨k, j, none⟩ := World.frozen?_of_block (h.kept k hk hP)
theorem new_cell (w : World) (c : Array Value) (t : TypeId) (j : Nat) : (w.alloc (.cells c t)).cell? ⟨w.heap.size, j, none⟩ = c[j]? := cell_of_row _ _ j _ _ _ (heap_alloc_new w _)
def Mc.toAll (m : Mc) (f t : Int) (load : ByteArray) : Mc := m.id1.send [255, 255, 255, 255, 255, 255] 2048 (m.packB 4294967295 f t load)
theorem packB_size (m : Mc) (ta f t : Int) (load : ByteArray) : (m.packB ta f t load).size ≤ 1500 := by
  have h := udpS_size f t m.addr ta load
  unfold Mc.packB Ip.ipS
  generalize Ud.udpS f t m.addr ta load = L at h ⊢
  rw [if_neg (by decide), if_pos h]
  show (Ip.ipL _ _ _ _ _ _).toArray.size ≤ _
  rw [List.size_toArray, Ip.ipL, List.length_append, Ip.headL_length, len_str]
  omega
set_option maxHeartbeats 1000000 in
theorem toAll_any (h : Mx w0 P w B m) (ho : m.Ok) (f t : Int) (load : ByteArray) (hF : 0 ≤ f ∧ f ≤ 65535) (hT : 0 ≤ t ∧ t ≤ 65535) (hl : load.size ≤ 262144) :
    Calls Tryz.prog 132 #[.pointer (some ⟨B, 0, none⟩), .agg #[.int .u16 f, .int .u16 t, .string load]] w fun ee w' =>
      ee = .returned (.tuple #[]) ∧ Mx w0 P w' B (m.toAll f t load) := by
  have HJ := hide (h.alloc (.cells #[.int .u16 f, .int .u16 t, .string load] 58))
  have HB := hide (unhide HJ).base
  have HF : Hid (¬ Foot B m w.heap.size) := hide (fun hf => by have := h.foot_lt hf; omega)
  obtain ⟨x0, x1, x2, x3, x4, x5⟩ := h.all6
  have hNG : 1 < w.heap.size := Nat.lt_of_lt_of_le (show 1 < 3 by decide) (Nat.le_trans h.low.1 h.size)
  clear h
  have HK : ∀ (u : World) (m2 : Mc), Mx (w.alloc (.cells #[.int .u16 f, .int .u16 t, .string load] 58)) (Foot B m) u B m2 → Hid (u.cell? ⟨w.heap.size, 0, none⟩ = some (.int .u16 f) ∧ u.cell? ⟨w.heap.size, 1, none⟩ = some (.int .u16 t) ∧ u.cell? ⟨w.heap.size, 2, none⟩ = some (.string load)) := fun u m2 hu => hide ⟨by rw [hu.old _ (by simp) (unhide HF), new_cell]; rfl, by rw [hu.old _ (by simp) (unhide HF), new_cell]; rfl, by rw [hu.old _ (by simp) (unhide HF), new_cell]; rfl⟩
  have HE : Hid (m.toAll f t load = m.id1.send [255, 255, 255, 255, 255, 255] 2048 (m.packB 4294967295 f t load)) := hide rfl
  have hpz := packB_size m 4294967295 f t load
  go_enter Tryz.func132, Tryz.ntmps132
  go_wp2
  go_region_held3 (fun u => u.cell? ⟨w.heap.size, 0, none⟩ = some (.int .u16 f) ∧ u.cell? ⟨w.heap.size, 1, none⟩ = some (.int .u16 t) ∧ u.cell? ⟨w.heap.size, 2, none⟩ = some (.string load) ∧ u.cell? ⟨1, 0, none⟩ = some (.int .u8 255) ∧ u.cell? ⟨1, 1, none⟩ = some (.int .u8 255) ∧ u.cell? ⟨1, 2, none⟩ = some (.int .u8 255)
    ∧ u.cell? ⟨1, 3, none⟩ = some (.int .u8 255) ∧ u.cell? ⟨1, 4, none⟩ = some (.int .u8 255) ∧ u.cell? ⟨1, 5, none⟩ = some (.int .u8 255)) (go_keep)
    (first | (go_at_call 137; refine (packet_any (unhide HB).drew ho 4294967295 f t load (by omega) hF hT hl).mono ?_; rintro ee u ⟨rfl, hu⟩; obtain ⟨a0, a1, a2, a3, a4, a5⟩ := hu.all6; obtain ⟨b0, b1, b2⟩ := unhide (HK _ _ hu); have HU := hide hu; clear hu) | (go_at_call 129; refine (send_any (unhide HU) 255 255 255 255 255 255 2048 _ (by omega) (by omega) (by omega)).mono ?_; rintro ee u2 ⟨rfl, hu2⟩; obtain ⟨a6, a7, a8, a9, a10, a11⟩ := hu2.all6; obtain ⟨b6, b7, b8⟩ := unhide (HK _ _ hu2); have HU2 := hide hu2; clear hu2))
  go_wp2
  go_end0
  refine ⟨rfl, ?_⟩
  rw [unhide HE]
  exact (unhide HJ).join (unhide HU2)
end Go.Proofs.YtonlmklkikbeiaaGreatDoor.Mac

import Derived.Test.YtbhbbeebncmaiaaGreatDoorMgZ44
import Derived.Test.YtbhbbeebncmaiaaGreatDoorMgZ48
namespace Go.Proofs.YtbhbbeebncmaiaaGreatDoor.Law
open Go.ChangeShapes Go.WideShapes Go.ChangeAt Go.RowKit Bs Mac Ref
set_option linter.unusedVariables false
set_option linter.unusedSimpArgs false
variable {R : Mc → Rf → Prop} {w0 w w' : World} {Wb : Nat} {tv bv : Value} {L : List Pr}
set_option maxHeartbeats 4000000 in
set_option maxRecDepth 10000 in
theorem sstep_Look (h : Ws StartR w0 w Wb tv bv L) (hL : 0 < L.length) (hL2 : L.length ≤ 65536) (a n : Int) (k0 k1 k2 k3 k4 k5 : UInt8) (name : ByteArray) (cap : Int) (dig : ByteArray) (blk win rx tx : Int) (s : ByteArray) (ha : -9223372036854775808 ≤ a ∧ a ≤ 9223372036854775807) :
    Calls Tryz.prog 11 #[.pointer (some ⟨Wb, 0, none⟩), .agg #[.int .i64 6, .int .i64 a, .int .i64 n, .int .u8 k0.toNat, .int .u8 k1.toNat, .int .u8 k2.toNat, .int .u8 k3.toNat, .int .u8 k4.toNat, .int .u8 k5.toNat, .string name, .int .i64 cap, .string dig, .int .i64 blk, .int .i64 win, .int .i64 rx, .int .i64 tx, .string s]] w fun ee w' => ee = .returned (.bool true) ∧ ∃ L', L'.length = L.length ∧ Ws StartR w0 w' Wb tv bv L' := by
  obtain ⟨i, hi, hP⟩ := pick_any a L.length hL hL2 ha w
  have HP := hide hP
  obtain ⟨g, cp, hbv, hnc, hcm, hcells⟩ := own_some h.own hL
  obtain ⟨q0, q1⟩ := cellsP_at L i hi
  have y0 := hcells _ _ q0
  have y1 := hcells _ _ q1
  obtain ⟨p, hp⟩ : ∃ p, L[i] = p := ⟨_, rfl⟩
  rw [hp] at y0 y1
  have HPI := hide hp
  obtain ⟨Qi, hQi⟩ : ∃ Qi, Qi = p.Q := ⟨_, rfl⟩
  obtain ⟨Gi, hGi⟩ : ∃ Gi, Gi = p.G := ⟨_, rfl⟩
  rw [← hQi] at y0
  rw [← hGi] at y1
  have hlo : g < w.heap.size := World.block_lt_of_cell? w _ y0
  have HW1 := hide (h.alloc (.cells #[.int .i64 6, .int .i64 a, .int .i64 n, .int .u8 k0.toNat, .int .u8 k1.toNat, .int .u8 k2.toNat, .int .u8 k3.toNat, .int .u8 k4.toNat, .int .u8 k5.toNat, .string name, .int .i64 cap, .string dig, .int .i64 blk, .int .i64 win, .int .i64 rx, .int .i64 tx, .string s] 30))
  have HOP : Hid ((w.alloc (.cells #[.int .i64 6, .int .i64 a, .int .i64 n, .int .u8 k0.toNat, .int .u8 k1.toNat, .int .u8 k2.toNat, .int .u8 k3.toNat, .int .u8 k4.toNat, .int .u8 k5.toNat, .string name, .int .i64 cap, .string dig, .int .i64 blk, .int .i64 win, .int .i64 rx, .int .i64 tx, .string s] 30)).heap[w.heap.size]? = some (.cells #[.int .i64 6, .int .i64 a, .int .i64 n, .int .u8 k0.toNat, .int .u8 k1.toNat, .int .u8 k2.toNat, .int .u8 k3.toNat, .int .u8 k4.toNat, .int .u8 k5.toNat, .string name, .int .i64 cap, .string dig, .int .i64 blk, .int .i64 win, .int .i64 rx, .int .i64 tx, .string s] 30 (0, 0))) := hide (heap_alloc_new w _)
  have HKG : Hid ((w.alloc (.cells #[.int .i64 6, .int .i64 a, .int .i64 n, .int .u8 k0.toNat, .int .u8 k1.toNat, .int .u8 k2.toNat, .int .u8 k3.toNat, .int .u8 k4.toNat, .int .u8 k5.toNat, .string name, .int .i64 cap, .string dig, .int .i64 blk, .int .i64 win, .int .i64 rx, .int .i64 tx, .string s] 30)).heap[g]? = w.heap[g]?) := hide (Below.heap_alloc w _ g hlo)
  have HY0 := hide ((World.cell?_of_block (a := ⟨g, i * 2, none⟩) (unhide HKG)).trans y0)
  have HY1 := hide ((World.cell?_of_block (a := ⟨g, i * 2 + 1, none⟩) (unhide HKG)).trans y1)
  have HBV := hide hbv
  have hlen0 : ((L.length : Int) == 0) = false := by rw [beq_eq_false_iff_ne]; omega
  have hiI : (i : Int) < (L.length : Int) := by omega
  have HQ := hide hQi
  have HG := hide hGi
  have HI := hide hi
  obtain ⟨len, hlen⟩ : ∃ len, len = L.length := ⟨_, rfl⟩
  have HLEN := hide hlen
  obtain ⟨v, hv⟩ : ∃ v, v = w.alloc (.cells #[.int .i64 6, .int .i64 a, .int .i64 n, .int .u8 k0.toNat, .int .u8 k1.toNat, .int .u8 k2.toNat, .int .u8 k3.toNat, .int .u8 k4.toNat, .int .u8 k5.toNat, .string name, .int .i64 cap, .string dig, .int .i64 blk, .int .i64 win, .int .i64 rx, .int .i64 tx, .string s] 30) := ⟨_, rfl⟩
  rw [← hv] at HW1 HOP HY0 HY1
  have HV := hide hv
  have HWw : Hid (OkP StartR w p) := hide (by rw [← hp]; exact h.ok i hi)
  have hltW := lt_of_block h.row
  have hneW : Wb ≠ w.heap.size := Nat.ne_of_lt hltW
  have xW : w.cell? ⟨Wb, 1, none⟩ = some (.slice (some ⟨g, 0, none⟩) len cp) := by rw [cell_of_row w Wb 1 _ _ _ h.row, hbv, hlen]; rfl
  clear h hP hp hcells q0 q1 y0 y1 hQi hGi hbv hnc hcm HKG hlo hv ha
  rw [← hlen] at hlen0 hiI HP
  clear hlen hL hL2
  go_enter Tryz.func11, Tryz.ntmps11
  go_wp2
  rw [← unhide HV]
  clear xW hneW hltW
  have x1 : v.cell? ⟨Wb, 1, none⟩ = some (.slice (some ⟨g, 0, none⟩) len cp) := by rw [cell_of_row v Wb 1 _ _ _ (unhide HW1).row, unhide HBV, ← unhide HLEN]; rfl
  have z0 : v.cell? ⟨w.heap.size, 0, none⟩ = some (.int .i64 6) := cell_of_row v _ 0 _ _ _ (unhide HOP)
  have z1 : v.cell? ⟨w.heap.size, 1, none⟩ = some (.int .i64 a) := cell_of_row v _ 1 _ _ _ (unhide HOP)
  have z2 : v.cell? ⟨w.heap.size, 2, none⟩ = some (.int .i64 n) := cell_of_row v _ 2 _ _ _ (unhide HOP)
  have z16 : v.cell? ⟨w.heap.size, 16, none⟩ = some (.string s) := cell_of_row v _ 16 _ _ _ (unhide HOP)
  have y0 := unhide HY0
  have y1 := unhide HY1
  go_cut [9] (fun s9 wc => s9 = .pointer (some ⟨v.heap.size, 0, none⟩) ∧ Hid (Lk (v.alloc (.cells #[.pointer (some ⟨Qi, 0, none⟩), .pointer (some ⟨Gi, 0, none⟩)] 48)) wc))
  case first =>
    go_region_held3 (fun u => u.cell? ⟨Wb, 1, none⟩ = some (.slice (some ⟨g, 0, none⟩) len cp) ∧ u.cell? ⟨w.heap.size, 1, none⟩ = some (.int .i64 a) ∧ u.cell? ⟨g, i * 2, none⟩ = some (.pointer (some ⟨Qi, 0, none⟩)) ∧ u.cell? ⟨g, i * 2 + 1, none⟩ = some (.pointer (some ⟨Gi, 0, none⟩))) (go_keep)
      (first | (go_at_call 14; refine (unhide HP _).mono ?_; rintro ee u1 ⟨rfl, rfl⟩))
    all_goals go_wp2
    all_goals go_meet
    all_goals exact ⟨rfl, hide ⟨rfl, rfl, rfl, rfl⟩⟩
  case rest =>
    obtain ⟨rfl, HLK⟩ := hcut
    rename World => x
    have HWx := hide (((unhide HW1).alloc (.cells #[.pointer (some ⟨Qi, 0, none⟩), .pointer (some ⟨Gi, 0, none⟩)] 48)).like (unhide HLK))
    have hsz : v.heap.size = w.heap.size + 1 := by rw [unhide HV]; simp
    have HPx : Hid (x.heap[v.heap.size]? = some (.cells #[.pointer (some ⟨Qi, 0, none⟩), .pointer (some ⟨Gi, 0, none⟩)] 48 (0, 0))) := hide (by rw [(unhide HLK).heap]; exact heap_alloc_new v _)
    have HOx : Hid (x.heap[w.heap.size]? = v.heap[w.heap.size]?) := hide (by rw [(unhide HLK).heap]; exact Below.heap_alloc v _ _ (by omega))
    have HOy := hide ((unhide HOx).trans (unhide HOP))
    have hfoot : ∀ k, FootP p k → k < w.heap.size := fun k hk => (unhide HWw).lt hk
    have HF1 := hide hfoot
    have hzx : v.heap.size < x.heap.size := lt_of_block' (unhide HPx)
    clear x1 z0 z1 z2 z16 y0 y1 HOx HLK HW1 hfoot
    have p0 : x.cell? ⟨v.heap.size, 0, none⟩ = some (.pointer (some ⟨Qi, 0, none⟩)) := cell_of_row x _ 0 _ _ _ (unhide HPx)
    have p1 : x.cell? ⟨v.heap.size, 1, none⟩ = some (.pointer (some ⟨Gi, 0, none⟩)) := cell_of_row x _ 1 _ _ _ (unhide HPx)
    have z0 : x.cell? ⟨w.heap.size, 0, none⟩ = some (.int .i64 6) := cell_of_row x _ 0 _ _ _ (unhide HOy)
    have z2 : x.cell? ⟨w.heap.size, 2, none⟩ = some (.int .i64 n) := cell_of_row x _ 2 _ _ _ (unhide HOy)
    have z16 : x.cell? ⟨w.heap.size, 16, none⟩ = some (.string s) := cell_of_row x _ 16 _ _ _ (unhide HOy)
    have HB : Hid (OkP StartR x p) := hide (by rw [← unhide HPI]; exact (unhide HWx).ok i (unhide HI))
    have hq : Qi = p.Q := unhide HQ
    have hg : Gi = p.G := unhide HG
    have HKP : Hid (∀ (u : World) (m' : Mc), Bx x (Foot p.B p.m) u p.Q p.B m' → ∀ k, w.heap.size ≤ k → k < x.heap.size → u.heap[k]? = x.heap[k]?) := hide (fun u m' hu k h1 h2 => hu.mx.kept k h2 (fun hf => by have := unhide HF1 k (Or.inr (Or.inl hf)); omega))
    have HRel := hide (unhide HB).rel
    have hgo := (unhide HB).bx.mx.goes
    have htx : p.r.tx ≤ 16 := by rw [(unhide HRel).e.tx]; exact hgo.2.1
    have htl : p.r.tl.length ≤ p.r.tx := by rw [(unhide HRel).e.tl, (unhide HRel).e.tx]; exact hgo.2.2.2.1
    have HTX := hide htx
    have HTL := hide htl
    clear hgo htx htl
    obtain ⟨a0, h0⟩ : ∃ a0, a0 = p.m.now := ⟨_, rfl⟩
    obtain ⟨a1, h1⟩ : ∃ a1, a1 = p.m.st := ⟨_, rfl⟩
    obtain ⟨a2, h2⟩ : ∃ a2, a2 = p.m.phase := ⟨_, rfl⟩
    obtain ⟨a4, h4⟩ : ∃ a4, a4 = p.m.boots := ⟨_, rfl⟩
    obtain ⟨a6, h6⟩ : ∃ a6, a6 = p.m.lost := ⟨_, rfl⟩
    have HE := hide (⟨h0, h1, h2, h4, h6⟩ : a0 = p.m.now ∧ a1 = p.m.st ∧ a2 = p.m.phase ∧ a4 = p.m.boots ∧ a6 = p.m.lost)
    have heql := fun u => Sql.eql_look a0 a1 a2 0 a4 0 a6 0 u
    have HKB : Hid (∀ u, Below x.heap.size x u → ∀ k, k < x.heap.size → u.heap[k]? = x.heap[k]?) := hide (fun u hu k hk => hu.block k hk)
    have HCC : Hid (Calls Tryz.prog 25 #[.pointer (some ⟨Qi, 0, none⟩)] x.drew fun ee u => ee = .returned (.agg #[.int .i64 a0, .int .i64 a1, .int .i64 a2, .int .u32 0, .int .i64 a4, .int .i64 0, .int .i64 a6, .int .i64 0]) ∧ Hid (Below x.heap.size x u) ∧ (u.cell? ⟨v.heap.size, 1, none⟩ = some (.pointer (some ⟨Gi, 0, none⟩))) ∧ u.cell? ⟨v.heap.size, 0, none⟩ = some (.pointer (some ⟨Qi, 0, none⟩))) := hide (by
      rw [hq]
      have hd : Bx x (Foot p.B p.m) x.drew p.Q p.B p.m := ⟨(unhide HB).bx.mx.drew, (unhide HB).bx.row⟩
      refine (bootLook_any hd).mono ?_
      rintro ee u ⟨rfl, hu⟩
      have hb : Below x.heap.size x u := ((Below.refl x.heap.size x).drew).trans hu
      obtain ⟨g0, g1, g2, g4, g6⟩ := unhide HE
      have hca : p.m.cached = 0 := by unfold Mc.cached; rw [(unhide HRel).early.cd]; rfl
      refine ⟨?_, hide hb, ?_, ?_⟩
      · rw [g0, g1, g2, g4, g6, addr_early (unhide HRel).early, (unhide HRel).e.img, hca]; rfl
      · exact (World.cell?_of_block (a := ⟨v.heap.size, 1, none⟩) (unhide HKB u hb v.heap.size hzx)).trans p1
      · rw [← hq]; exact (World.cell?_of_block (a := ⟨v.heap.size, 0, none⟩) (unhide HKB u hb v.heap.size hzx)).trans p0)
    have HCR : Hid (∀ u, Hid (Below x.heap.size x u) → Calls Tryz.prog 26 #[.pointer (some ⟨Gi, 0, none⟩)] u fun ee u2 => ee = .returned (.agg #[.int .i64 a0, .int .i64 a1, .int .i64 a2, .int .u32 0, .int .i64 a4, .int .i64 0, .int .i64 a6, .int .i64 0]) ∧ Hid (Below x.heap.size x u2) ∧ (u2.cell? ⟨v.heap.size, 1, none⟩ = some (.pointer (some ⟨Gi, 0, none⟩))) ∧ u2.cell? ⟨v.heap.size, 0, none⟩ = some (.pointer (some ⟨Qi, 0, none⟩))) := hide (fun u hu => by
      rw [hg]
      have hrm := (unhide HB).rm.below (unhide hu)
      have hE := (unhide HRel).e
      refine (Ref.look_any hrm (by rw [hE.lease]; rcases (unhide HRel).early.st with e | e <;> omega) hE.cv hE.iv).mono ?_
      rintro ee u2 ⟨rfl, hb2⟩
      have hb : Below x.heap.size x u2 := (unhide hu).trans (hb2.mono (unhide hu).size)
      obtain ⟨g0, g1, g2, g4, g6⟩ := unhide HE
      refine ⟨?_, hide hb, ?_, ?_⟩
      · rw [g0, g1, g2, g4, g6, hE.now, hE.lease, hE.phase, hE.boots, hE.lost]
      · exact (World.cell?_of_block (a := ⟨v.heap.size, 1, none⟩) (unhide HKB u2 hb v.heap.size hzx)).trans (by rw [← hg]; exact p1)
      · exact (World.cell?_of_block (a := ⟨v.heap.size, 0, none⟩) (unhide HKB u2 hb v.heap.size hzx)).trans p0)
    clear hq hg hsz h0 h1 h2 h4 h6
    go_wp2
    go_region_held3 (fun u => u.cell? ⟨v.heap.size, 1, none⟩ = some (.pointer (some ⟨Gi, 0, none⟩)) ∧ u.cell? ⟨v.heap.size, 0, none⟩ = some (.pointer (some ⟨Qi, 0, none⟩))) (go_keep)
      (first | (go_at_call 25; refine (unhide HCC).mono ?_; rintro ee u1 ⟨rfl, HU1, e1, e0⟩) | (go_at_call 26; refine (unhide HCR _ HU1).mono ?_; rintro ee u2 ⟨rfl, HU2, f1, f0⟩))
    go_wp2
    go_ret
    exact ⟨rfl, L, rfl, (unhide HWx).under (unhide HU2)⟩
end Go.Proofs.YtbhbbeebncmaiaaGreatDoor.Law

import Derived.Test.YtbhbbeebncmaiaaGreatDoorMgZ37
import Derived.Test.YtbhbbeebncmaiaaGreatDoorMgZ28
import Derived.Test.YtbhbbeebncmaiaaGreatDoorMgZ14
import Derived.Test.YtbhbbeebncmaiaaGreatDoorMgZ08
import Derived.Test.YtbhbbeebncmaiaaGreatDoorMgZ27
import Derived.Test.YtbhbbeebncmaiaaGreatDoorMgZ38
namespace Go.Proofs.YtbhbbeebncmaiaaGreatDoor.Ref
open Go.ChangeShapes Go.WideShapes Go.ChangeAt Go.RowKit Bs Mac
set_option linter.unusedVariables false
set_option linter.unusedSimpArgs false
variable {w0 : World} {P : Nat → Prop} {w w' : World} {G : Nat} {r r' : Rf}
theorem Rm.s21 (h : Rm w0 P w G r) (hc : r.cv = .slice none 0 0) : Rm w0 P (w.setCell ⟨G, 21, none⟩ (.slice none 0 0)) G r :=
  h.set 21 _ (by unfold Rf.cells; rw [hc]; rfl) rfl rfl rfl rfl
set_option maxHeartbeats 2000000 in
set_option maxRecDepth 10000 in
theorem neighbours_nil (h : Rm w0 P w G r) (hc : r.cv = .slice none 0 0) : Calls Tryz.prog 38 #[.pointer (some ⟨G, 0, none⟩)] w fun ee w' => ee = .returned (.tuple #[]) ∧ Rm w0 P w' G r := by
  have HM := hide (h.s21 hc)
  have c21 := h.c21
  have f21 := h.free 21
  rw [hc] at c21
  clear h hc
  go_enter Tryz.func38, Tryz.ntmps38
  go_wp2
  refine wp_loop_rounds 1 ?_
  rw [rounds_succ]
  go_wp2
  refine wp_loop_rounds 1 ?_
  rw [rounds_succ]
  go_wp2
  go_end0
  exact ⟨rfl, unhide HM⟩
set_option maxHeartbeats 2000000 in
set_option maxRecDepth 10000 in
theorem leases_wait (h : Rm w0 P w G r) (hl : r.lease = 1 ∨ r.lease = 2) (hn : r.now < r.again) : Calls Tryz.prog 39 #[.pointer (some ⟨G, 0, none⟩)] w fun ee w' => ee = .returned (.tuple #[]) ∧ Rm w0 P w' G r := by
  have HM := hide h
  have c16 := h.c16
  have c32 := h.c32
  have c22 := h.c22
  have c33 := h.c33
  have hge : ¬ r.again ≤ r.now := by omega
  have hgd : decide (r.again ≤ r.now) = false := by simpa using hge
  clear h hn
  rcases hl with hl | hl
  · rw [hl] at c22
    go_enter Tryz.func39, Tryz.ntmps39
    go_wp2
    go_quiet (fail)
    go_wp2
    go_quiet (fail)
    go_wp2
    go_returns
    exact ⟨rfl, (unhide HM).like ⟨rfl, rfl, rfl, rfl⟩⟩
  · rw [hl] at c22
    go_enter Tryz.func39, Tryz.ntmps39
    go_wp2
    go_quiet (fail)
    go_wp2
    go_quiet (fail)
    go_wp2
    go_returns
    exact ⟨rfl, (unhide HM).like ⟨rfl, rfl, rfl, rfl⟩⟩
set_option maxHeartbeats 2000000 in
set_option maxRecDepth 10000 in
theorem tick_via (h : Rm w0 P w G r) (hp : r.phase = 0) (hc : r.cv = .slice none 0 0) (d : Int) (hp' : r'.phase ≠ 1 ∧ r'.phase ≠ 2)
    (hA : ActR 39 #[.pointer (some ⟨G, 0, none⟩)] G { r with now := wrap64 (r.now + 1), draw := d } r') :
    Calls Tryz.prog 22 #[.pointer (some ⟨G, 0, none⟩), .int .u32 d] w fun ee w' => ee = .returned (.tuple #[]) ∧ Rm w0 P w' G r' := by
  obtain ⟨N, hN⟩ : ∃ N, N = wrap64 (r.now + 1) := ⟨_, rfl⟩
  have hw : IntKind.i64.wrap (r.now + 1) = N := by rw [hN, wrapI]
  rw [← hN] at hA
  clear hN
  have h1 : Rm w0 P (w.setCell ⟨G, 16, none⟩ (.int .i64 N)) G { r with now := N } := h.s16 _
  have h2 : Rm w0 P ((w.setCell ⟨G, 16, none⟩ (.int .i64 N)).setCell ⟨G, 17, none⟩ (.int .u32 d)) G { r with now := N, draw := d } := h1.s17 _
  have HO := hide (over_any h2 hp)
  have HN := hide (neighbours_nil h2 hc)
  have HA := hide hA
  have c16 := h.c16
  have f16 := h.free 16
  have c17 := h1.c17
  have f17 := h1.free 17
  have e1 : (r'.phase != 1) = true := by simpa using hp'.1
  have e2 : (r'.phase != 2) = true := by simpa using hp'.2
  clear h h1 h2 hA hp'
  go_enter Tryz.func22, Tryz.ntmps22
  go_wp2_with fail
  refine (unhide HO).mono ?_
  rintro ee u ⟨rfl, rfl⟩
  go_wp2_with fail
  refine (unhide HN).mono ?_
  rintro ee u2 ⟨rfl, h3⟩
  have HL := hide (unhide HA _ _ _ h3)
  clear h3 HN HO
  go_wp2_with fail
  refine (unhide HL).mono ?_
  rintro ee u3 ⟨rfl, h4⟩
  have HM := hide h4
  have c34 := h4.c34
  clear h4 HL
  go_wp2
  go_quiet (fail)
  go_wp2
  go_returns
  exact ⟨rfl, (unhide HM).like ⟨rfl, rfl, rfl, rfl⟩⟩
set_option maxHeartbeats 2000000 in
set_option maxRecDepth 10000 in
theorem tick_viaV (h : Rm w0 P w G r) (hp : r.phase = 0) (hc : r.cv = .slice none 0 0) (d : Int) (R : Value → Rf) (hp' : ∀ v, (R v).phase ≠ 1 ∧ (R v).phase ≠ 2)
    (hA : ∀ (w0 : World) (P : Nat → Prop) (u : World), Rm w0 P u G { r with now := wrap64 (r.now + 1), draw := d } → Calls Tryz.prog 39 #[.pointer (some ⟨G, 0, none⟩)] u fun ee w' => ee = .returned (.tuple #[]) ∧ ∃ v, Rm w0 P w' G (R v)) :
    Calls Tryz.prog 22 #[.pointer (some ⟨G, 0, none⟩), .int .u32 d] w fun ee w' => ee = .returned (.tuple #[]) ∧ ∃ v, Rm w0 P w' G (R v) := by
  obtain ⟨N, hN⟩ : ∃ N, N = wrap64 (r.now + 1) := ⟨_, rfl⟩
  have hw : IntKind.i64.wrap (r.now + 1) = N := by rw [hN, wrapI]
  rw [← hN] at hA
  clear hN
  have h1 : Rm w0 P (w.setCell ⟨G, 16, none⟩ (.int .i64 N)) G { r with now := N } := h.s16 _
  have h2 : Rm w0 P ((w.setCell ⟨G, 16, none⟩ (.int .i64 N)).setCell ⟨G, 17, none⟩ (.int .u32 d)) G { r with now := N, draw := d } := h1.s17 _
  have HO := hide (over_any h2 hp)
  have HN := hide (neighbours_nil h2 hc)
  have HA := hide hA
  have c16 := h.c16
  have f16 := h.free 16
  have c17 := h1.c17
  have f17 := h1.free 17
  have HPH := hide hp'
  clear h h1 h2 hA hp'
  go_enter Tryz.func22, Tryz.ntmps22
  go_wp2_with fail
  refine (unhide HO).mono ?_
  rintro ee u ⟨rfl, rfl⟩
  go_wp2_with fail
  refine (unhide HN).mono ?_
  rintro ee u2 ⟨rfl, h3⟩
  have HL := hide (unhide HA _ _ _ h3)
  clear h3 HN HO
  go_wp2_with fail
  refine (unhide HL).mono ?_
  rintro ee u3 ⟨rfl, v, h4⟩
  have e1 : ((R v).phase != 1) = true := by simpa using (unhide HPH v).1
  have e2 : ((R v).phase != 2) = true := by simpa using (unhide HPH v).2
  have HM := hide h4
  have c34 := h4.c34
  clear h4 HL
  go_wp2
  go_quiet (fail)
  go_wp2
  go_returns
  exact ⟨rfl, v, (unhide HM).like ⟨rfl, rfl, rfl, rfl⟩⟩
end Go.Proofs.YtbhbbeebncmaiaaGreatDoor.Ref
namespace Go.Proofs.YtbhbbeebncmaiaaGreatDoor.Ref
open Go.ChangeShapes Go.WideShapes Go.ChangeAt Go.RowKit Bs Mac
set_option linter.unusedVariables false
set_option linter.unusedSimpArgs false
variable {w0 : World} {P : Nat → Prop} {w w' : World} {G : Nat} {r r' : Rf}
theorem conv1 (u : World) (g : Nat) (kb : UInt8) (h0 : u.cell? ⟨g, 0, none⟩ = some (.int .u8 kb.toNat)) :
    (convert 55 9 (.slice (some ⟨g, 0, none⟩) 1 1)).run Tryz.prog u = .ok (.string ⟨#[kb]⟩) u := by
  refine run_convert_bytes_back _ _ _ 5 ⟨g, 0, none⟩ 1 [kb] Tryz.underlying55 Tryz.underlying5 Tryz.underlying9 (fun j hj => ?_)
  rw [show (⟨g, 0, none⟩ : Addr).add j = ⟨g, j, none⟩ from by simp [Addr.add_lit]]
  match j, hj with
  | 0, _ => rw [h0]; rfl

def SayP (w0 : World) (P : Nat → Prop) (G : Nat) (r : Rf) (kb : UInt8) (wc : World) (b g : Nat) : Prop := Rm w0 P wc G r ∧ wc.heap[b]? = some (.cells #[.bool false, .int .u32 r.xid, .int .u32 0, .int .u32 0, .int .u32 0, .int .u8 r.k0.toNat, .int .u8 r.k1.toNat, .int .u8 r.k2.toNat, .int .u8 r.k3.toNat, .int .u8 r.k4.toNat, .int .u8 r.k5.toNat, .slice (some ⟨g, 0, none⟩) 1 1] 127 (0, 0)) ∧ wc.heap[g]? = some (.cells #[.int .u8 53, .string ⟨#[kb]⟩] 151 (0, 0)) ∧ ¬ FootR G r b ∧ ¬ FootR G r g ∧ w0.heap.size ≤ b ∧ w0.heap.size ≤ g ∧ b ≠ g ∧ b < wc.heap.size ∧ g < wc.heap.size
theorem sayABD (h : Rm w0 P w G r) (kb : UInt8) (g : Nat) (hg : g = w.heap.size + 1) : SayP w0 P G r kb (((w.alloc (.cells #[.int .u8 kb.toNat] 5)).alloc (.cells #[.int .u8 53, .string ⟨#[kb]⟩] 151)).alloc (.cells #[.bool false, .int .u32 r.xid, .int .u32 0, .int .u32 0, .int .u32 0, .int .u8 r.k0.toNat, .int .u8 r.k1.toNat, .int .u8 r.k2.toNat, .int .u8 r.k3.toNat, .int .u8 r.k4.toNat, .int .u8 r.k5.toNat, .slice (some ⟨g, 0, none⟩) 1 1] 127)).drew (w.heap.size + 1 + 1) g := by
  subst hg
  refine ⟨(((h.alloc _).alloc _).alloc _).drew, ?_, ?_, fun hf => ?_, fun hf => ?_, by have := h.size; omega, by have := h.size; omega, by omega, by first | (simp [World.drew]; done) | (simp [World.drew]; omega), by first | (simp [World.drew]; done) | (simp [World.drew]; omega)⟩
  · have q := heap_alloc_new ((w.alloc (.cells #[.int .u8 kb.toNat] 5)).alloc (.cells #[.int .u8 53, .string ⟨#[kb]⟩] 151)) (.cells #[.bool false, .int .u32 r.xid, .int .u32 0, .int .u32 0, .int .u32 0, .int .u8 r.k0.toNat, .int .u8 r.k1.toNat, .int .u8 r.k2.toNat, .int .u8 r.k3.toNat, .int .u8 r.k4.toNat, .int .u8 r.k5.toNat, .slice (some ⟨w.heap.size + 1, 0, none⟩) 1 1] 127)
    rw [show ((w.alloc (.cells #[.int .u8 kb.toNat] 5)).alloc (.cells #[.int .u8 53, .string ⟨#[kb]⟩] 151)).heap.size = w.heap.size + 1 + 1 from by simp] at q
    exact q
  · have q := heap_alloc_new (w.alloc (.cells #[.int .u8 kb.toNat] 5)) (.cells #[.int .u8 53, .string ⟨#[kb]⟩] 151)
    rw [show (w.alloc (.cells #[.int .u8 kb.toNat] 5)).heap.size = w.heap.size + 1 from by simp] at q
    have q2 := (Below.heap_alloc ((w.alloc (.cells #[.int .u8 kb.toNat] 5)).alloc (.cells #[.int .u8 53, .string ⟨#[kb]⟩] 151)) (.cells #[.bool false, .int .u32 r.xid, .int .u32 0, .int .u32 0, .int .u32 0, .int .u8 r.k0.toNat, .int .u8 r.k1.toNat, .int .u8 r.k2.toNat, .int .u8 r.k3.toNat, .int .u8 r.k4.toNat, .int .u8 r.k5.toNat, .slice (some ⟨w.heap.size + 1, 0, none⟩) 1 1] 127) (w.heap.size + 1) (by simp)).trans q
    exact q2
  · have := h.foot_lt hf; omega
  · have := h.foot_lt hf; omega
theorem sayADB (h : Rm w0 P w G r) (kb : UInt8) (g : Nat) (hg : g = w.heap.size + 1 + 1) : SayP w0 P G r kb (((w.alloc (.cells #[.int .u8 kb.toNat] 5)).alloc (.cells #[.bool false, .int .u32 r.xid, .int .u32 0, .int .u32 0, .int .u32 0, .int .u8 r.k0.toNat, .int .u8 r.k1.toNat, .int .u8 r.k2.toNat, .int .u8 r.k3.toNat, .int .u8 r.k4.toNat, .int .u8 r.k5.toNat, .slice (some ⟨g, 0, none⟩) 1 1] 127)).alloc (.cells #[.int .u8 53, .string ⟨#[kb]⟩] 151)).drew (w.heap.size + 1) g := by
  subst hg
  refine ⟨(((h.alloc _).alloc _).alloc _).drew, ?_, ?_, fun hf => ?_, fun hf => ?_, by have := h.size; omega, by have := h.size; omega, by omega, by first | (simp [World.drew]; done) | (simp [World.drew]; omega), by first | (simp [World.drew]; done) | (simp [World.drew]; omega)⟩
  · have q := heap_alloc_new (w.alloc (.cells #[.int .u8 kb.toNat] 5)) (.cells #[.bool false, .int .u32 r.xid, .int .u32 0, .int .u32 0, .int .u32 0, .int .u8 r.k0.toNat, .int .u8 r.k1.toNat, .int .u8 r.k2.toNat, .int .u8 r.k3.toNat, .int .u8 r.k4.toNat, .int .u8 r.k5.toNat, .slice (some ⟨w.heap.size + 1 + 1, 0, none⟩) 1 1] 127)
    rw [show (w.alloc (.cells #[.int .u8 kb.toNat] 5)).heap.size = w.heap.size + 1 from by simp] at q
    have q2 := (Below.heap_alloc ((w.alloc (.cells #[.int .u8 kb.toNat] 5)).alloc (.cells #[.bool false, .int .u32 r.xid, .int .u32 0, .int .u32 0, .int .u32 0, .int .u8 r.k0.toNat, .int .u8 r.k1.toNat, .int .u8 r.k2.toNat, .int .u8 r.k3.toNat, .int .u8 r.k4.toNat, .int .u8 r.k5.toNat, .slice (some ⟨w.heap.size + 1 + 1, 0, none⟩) 1 1] 127)) (.cells #[.int .u8 53, .string ⟨#[kb]⟩] 151) (w.heap.size + 1) (by simp)).trans q
    exact q2
  · have q := heap_alloc_new ((w.alloc (.cells #[.int .u8 kb.toNat] 5)).alloc (.cells #[.bool false, .int .u32 r.xid, .int .u32 0, .int .u32 0, .int .u32 0, .int .u8 r.k0.toNat, .int .u8 r.k1.toNat, .int .u8 r.k2.toNat, .int .u8 r.k3.toNat, .int .u8 r.k4.toNat, .int .u8 r.k5.toNat, .slice (some ⟨w.heap.size + 1 + 1, 0, none⟩) 1 1] 127)) (.cells #[.int .u8 53, .string ⟨#[kb]⟩] 151)
    rw [show ((w.alloc (.cells #[.int .u8 kb.toNat] 5)).alloc (.cells #[.bool false, .int .u32 r.xid, .int .u32 0, .int .u32 0, .int .u32 0, .int .u8 r.k0.toNat, .int .u8 r.k1.toNat, .int .u8 r.k2.toNat, .int .u8 r.k3.toNat, .int .u8 r.k4.toNat, .int .u8 r.k5.toNat, .slice (some ⟨w.heap.size + 1 + 1, 0, none⟩) 1 1] 127)).heap.size = w.heap.size + 1 + 1 from by simp] at q
    exact q
  · have := h.foot_lt hf; omega
  · have := h.foot_lt hf; omega
theorem sayDAB (h : Rm w0 P w G r) (kb : UInt8) (g : Nat) (hg : g = w.heap.size + 1 + 1) : SayP w0 P G r kb (((w.alloc (.cells #[.bool false, .int .u32 r.xid, .int .u32 0, .int .u32 0, .int .u32 0, .int .u8 r.k0.toNat, .int .u8 r.k1.toNat, .int .u8 r.k2.toNat, .int .u8 r.k3.toNat, .int .u8 r.k4.toNat, .int .u8 r.k5.toNat, .slice (some ⟨g, 0, none⟩) 1 1] 127)).alloc (.cells #[.int .u8 kb.toNat] 5)).alloc (.cells #[.int .u8 53, .string ⟨#[kb]⟩] 151)).drew w.heap.size g := by
  subst hg
  refine ⟨(((h.alloc _).alloc _).alloc _).drew, ?_, ?_, fun hf => ?_, fun hf => ?_, by have := h.size; omega, by have := h.size; omega, by omega, by first | (simp [World.drew]; done) | (simp [World.drew]; omega), by first | (simp [World.drew]; done) | (simp [World.drew]; omega)⟩
  · have q := heap_alloc_new w (.cells #[.bool false, .int .u32 r.xid, .int .u32 0, .int .u32 0, .int .u32 0, .int .u8 r.k0.toNat, .int .u8 r.k1.toNat, .int .u8 r.k2.toNat, .int .u8 r.k3.toNat, .int .u8 r.k4.toNat, .int .u8 r.k5.toNat, .slice (some ⟨w.heap.size + 1 + 1, 0, none⟩) 1 1] 127)
    have q1 := (Below.heap_alloc (w.alloc (.cells #[.bool false, .int .u32 r.xid, .int .u32 0, .int .u32 0, .int .u32 0, .int .u8 r.k0.toNat, .int .u8 r.k1.toNat, .int .u8 r.k2.toNat, .int .u8 r.k3.toNat, .int .u8 r.k4.toNat, .int .u8 r.k5.toNat, .slice (some ⟨w.heap.size + 1 + 1, 0, none⟩) 1 1] 127)) (.cells #[.int .u8 kb.toNat] 5) w.heap.size (by simp)).trans q
    have q2 := (Below.heap_alloc ((w.alloc (.cells #[.bool false, .int .u32 r.xid, .int .u32 0, .int .u32 0, .int .u32 0, .int .u8 r.k0.toNat, .int .u8 r.k1.toNat, .int .u8 r.k2.toNat, .int .u8 r.k3.toNat, .int .u8 r.k4.toNat, .int .u8 r.k5.toNat, .slice (some ⟨w.heap.size + 1 + 1, 0, none⟩) 1 1] 127)).alloc (.cells #[.int .u8 kb.toNat] 5)) (.cells #[.int .u8 53, .string ⟨#[kb]⟩] 151) w.heap.size (by simp <;> omega)).trans q1
    exact q2
  · have q := heap_alloc_new ((w.alloc (.cells #[.bool false, .int .u32 r.xid, .int .u32 0, .int .u32 0, .int .u32 0, .int .u8 r.k0.toNat, .int .u8 r.k1.toNat, .int .u8 r.k2.toNat, .int .u8 r.k3.toNat, .int .u8 r.k4.toNat, .int .u8 r.k5.toNat, .slice (some ⟨w.heap.size + 1 + 1, 0, none⟩) 1 1] 127)).alloc (.cells #[.int .u8 kb.toNat] 5)) (.cells #[.int .u8 53, .string ⟨#[kb]⟩] 151)
    rw [show ((w.alloc (.cells #[.bool false, .int .u32 r.xid, .int .u32 0, .int .u32 0, .int .u32 0, .int .u8 r.k0.toNat, .int .u8 r.k1.toNat, .int .u8 r.k2.toNat, .int .u8 r.k3.toNat, .int .u8 r.k4.toNat, .int .u8 r.k5.toNat, .slice (some ⟨w.heap.size + 1 + 1, 0, none⟩) 1 1] 127)).alloc (.cells #[.int .u8 kb.toNat] 5)).heap.size = w.heap.size + 1 + 1 from by simp] at q
    exact q
  · have := h.foot_lt hf; omega
  · have := h.foot_lt hf; omega
def Rf.sayB (r : Rf) (kb : UInt8) : ByteArray := Dh.dhS false r.xid 0 0 0 [r.k0, r.k1, r.k2, r.k3, r.k4, r.k5] (sayO kb [])
def Rf.packB (r : Rf) (load : ByteArray) : ByteArray := Ip.ipS (r.id % 65536) 64 17 0 4294967295 (Ud.udpS 68 67 0 4294967295 load)
def Rf.sayF (r : Rf) (kb : UInt8) : ByteArray := Eth.ethS [255, 255, 255, 255, 255, 255, r.k0, r.k1, r.k2, r.k3, r.k4, r.k5] 2048 (r.packB (r.sayB kb))
def Rf.sayV (r : Rf) (kb : UInt8) (v : Value) : Rf := ({ r with id := wrap64 (r.id + 1) } : Rf).sentV (r.sayF kb) v
theorem packB_size (r : Rf) (load : ByteArray) : (r.packB load).size ≤ 1500 := by
  have h := udpS_size 68 67 0 4294967295 load
  unfold Rf.packB Ip.ipS
  generalize Ud.udpS 68 67 0 4294967295 load = L at h ⊢
  rw [if_neg (by decide), if_pos h]
  show (Ip.ipL _ _ _ _ _ _).toArray.size ≤ _
  rw [List.size_toArray, Ip.ipL, List.length_append, Ip.headL_length, len_str]
  omega
theorem packet_say (h : Rm w0 P w G r) (hl : r.lease < 4) (load : ByteArray) (hs : load.size ≤ 1472) :
    Calls Tryz.prog 95 #[.pointer (some ⟨G, 0, none⟩), .int .u32 4294967295, .int .i64 68, .int .i64 67, .string load] w fun ee w' => ee = .returned (.string (r.packB load)) ∧ Rm w0 P w' G { r with id := wrap64 (r.id + 1) } :=
  packet_off h hl 4294967295 load _ _ _ _ (fun u => Ud.ref_any 68 67 0 4294967295 load u (by omega) (by omega) (by omega) (by omega) (by omega)) (fun u => Ip.ref_any (r.id % 65536) 64 17 0 4294967295 _ u (by omega) (by omega) (by omega) (by omega) (by omega) (by have := udpS_size 68 67 0 4294967295 load; omega))
theorem send_say (h : Rm w0 P w G r) (load : ByteArray) (hs : load.size ≤ 1500) (htx : r.tx ≤ 16) (htl : r.tl.length ≤ r.tx) :
    Calls Tryz.prog 90 #[.pointer (some ⟨G, 0, none⟩), .agg #[.int .u8 255, .int .u8 255, .int .u8 255, .int .u8 255, .int .u8 255, .int .u8 255], .int .u16 2048, .string load] w fun ee w' => ee = .returned (.tuple #[]) ∧ ∃ v, Rm w0 P w' G (r.sentV (Eth.ethS [255, 255, 255, 255, 255, 255, r.k0, r.k1, r.k2, r.k3, r.k4, r.k5] 2048 load) v) :=
  send_any h 255 255 255 255 255 255 2048 load _ _ htx htl (fun u => Eth.ref_any 255 255 255 255 255 255 r.k0 r.k1 r.k2 r.k3 r.k4 r.k5 2048 load u (by decide) (by decide) (by omega))
end Go.Proofs.YtbhbbeebncmaiaaGreatDoor.Ref

import Derived.Test.YtonlmklkikbeiaaGreatDoorMgMg
import Derived.Test.YtonlmklkikbeiaaGreatDoorMgRa
import Derived.Test.YtonlmklkikbeiaaGreatDoorMgEb
namespace Go.Proofs.YtonlmklkikbeiaaGreatDoor.Mac
open Go.ChangeShapes Go.WideShapes Go.ChangeAt Go.RowKit Bs
set_option linter.unusedVariables false
set_option linter.unusedSimpArgs false
variable {w0 : World} {P : Nat → Prop} {w w' : World} {B Q : Nat} {m m' : Mc}

/-- a frame comes to the card -/
def Mc.put (m : Mc) (s : ByteArray) : Mc := if m.cq.length < m.rx then { m with cq := m.cq ++ [s] } else m
set_option maxHeartbeats 1000000 in
theorem put_any (h : Mx w0 P w B m) (s : ByteArray) (hs : s.size ≤ 1099511627776) : Calls Tryz.prog 25 #[.pointer (some ⟨B, 0, none⟩), .string s] w fun ee w' => ee = .returned (.bool (decide (m.cq.length < m.rx))) ∧ Mx w0 P w' B (m.put s) := by
  have HM := hide h
  have HC := fun u => hide (Rd.clone_any s u hs)
  clear h hs
  go_enter Tryz.func25, Tryz.ntmps25
  go_wp2
  go_region_held3 (fun u => True) (trivial)
    (first | (go_at_call 33; refine (unhide (HC _)).mono ?_; rintro ee u ⟨rfl, hb⟩; have HU := hide ((unhide HM).drew.below hb)) | (go_at_call 41; refine (coAdd_any (unhide HU) _).mono ?_; rintro ee u2 ⟨rfl, hu2⟩; have HU2 := hide hu2))
  clear hu2 hb
  go_wp2
  go_ret
  exact ⟨rfl, unhide HU2⟩
set_option maxHeartbeats 1000000 in
theorem bootPut_any (h : Bx w0 P w Q B m) (s : ByteArray) (hs : s.size ≤ 1099511627776) : Calls Tryz.prog 13 #[.pointer (some ⟨Q, 0, none⟩), .string s] w fun ee w' => ee = .returned (.bool (decide (m.cq.length < m.rx))) ∧ Bx w0 P w' Q B (m.put s) := by
  have HM := hide (machine_any h)
  have HT := hide (put_any h.mx.base s hs)
  have HB := hide h
  clear h
  go_enter Tryz.func13, Tryz.ntmps13
  go_wp2_with fail
  refine (unhide HM).mono ?_
  rintro ee u ⟨rfl, rfl⟩
  go_wp2_with fail
  refine (unhide HT).mono ?_
  rintro ee u ⟨rfl, hu⟩
  have HU := hide ((unhide HB).next hu)
  clear hu HT HM HB
  go_wp2
  go_ret
  exact ⟨rfl, unhide HU⟩
/-- the first k frames are looked at -/
def Mc.cameN (m : Mc) (k : Nat) : Mc := { m with cf := (m.cf + k) % m.rx, cq := m.cq.drop k }
theorem cameN_zero (m : Mc) (h : m.cf < m.rx) : m.cameN 0 = m := by
  unfold Mc.cameN
  rw [Nat.add_zero, Nat.mod_eq_of_lt h, List.drop_zero]
theorem cameN_next (m : Mc) (k : Nat) (hk : k < m.cq.length) : (m.cameN k).came1 = m.cameN (k + 1) := by
  unfold Mc.came1 Mc.cameN
  simp only
  rw [List.drop_eq_getElem_cons hk]
  simp only
  rw [Nat.mod_add_mod]
  rfl
/-- frames of which nothing comes -/
def Dull (B : Nat) (m : Mc) : Prop := ∀ (w0 : World) (P : Nat → Prop) (w : World) (k : Nat) (s : ByteArray), s ∈ m.cq → Mx w0 P w B (m.cameN k) → Calls Tryz.prog 42 #[.pointer (some ⟨B, 0, none⟩), .string s] w fun ee w' => ee = .returned (.tuple #[]) ∧ Mx w0 P w' B (m.cameN k)
def polls (n : Int) (l : Nat) : Nat := min n.toNat l
set_option maxHeartbeats 2000000 in
set_option maxRecDepth 10000 in
theorem poll_dull (h : Mx w0 P w B m) (n : Int) (hd : Dull B m) : Calls Tryz.prog 26 #[.pointer (some ⟨B, 0, none⟩), .int .i64 n] w fun ee w' => ee = .returned (.int .i64 (polls n m.cq.length)) ∧ Mx w0 P w' B (m.cameN (polls n m.cq.length)) := by
  have hlen : m.cq.length ≤ 16 := Nat.le_trans h.came.2.2.2.1 h.came.2.1
  have HZ : Hid (Mx w0 P w B (m.cameN 0)) := hide (by rw [cameN_zero m h.came.2.2.1]; exact h)
  have HD := hide hd
  clear h hd
  go_enter Tryz.func26, Tryz.ntmps26
  go_wp2
  go_loopw [5] (fun i wr => ∃ k : Nat, k ≤ m.cq.length ∧ (k = 0 ∨ (k : Int) ≤ n) ∧ i = .int .i64 k ∧ Hid (Mx w0 P wr B (m.cameN k))) (fun i _ => 17 - (intOf i).toNat)
  case atStart => exact ⟨0, Nat.zero_le _, Or.inl rfl, rfl, HZ⟩
  case round =>
    obtain ⟨k, hk, hkn, rfl, HM⟩ := hrel
    rename World => wr
    by_cases hlt : (k : Int) < n
    · have HN := hide (coNext_any (unhide HM))
      by_cases hkl : k < m.cq.length
      · obtain ⟨s, hs⟩ : ∃ s, m.cq[k] = s := ⟨_, rfl⟩
        have hmem : s ∈ m.cq := by rw [← hs]; exact List.getElem_mem hkl
        have hhead : headS (m.cameN k).cq = s := by
          show headS (m.cq.drop k) = s
          rw [List.drop_eq_getElem_cons hkl, hs]; rfl
        have hne : (!(m.cameN k).cq.isEmpty) = true := by
          show (!(m.cq.drop k).isEmpty) = true
          rw [List.drop_eq_getElem_cons hkl]; rfl
        rw [hhead, hne, cameN_next m k hkl] at HN
        clear hhead hne hs HM
        go_wp2_with fail
        refine (unhide HN).mono ?_
        rintro ee u ⟨rfl, hu⟩
        have HU := hide hu
        clear hu HN
        have HE := hide (ended_any (unhide HU))
        cases hend : (m.cameN (k + 1)).ended with
        | true =>
          rw [hend] at HE
          clear hend
          go_wp2_with fail
          refine (unhide HE).mono ?_
          rintro ee u2 ⟨rfl, rfl⟩
          go_wp2
          go_roundw
          case rel => exact ⟨k + 1, by omega, Or.inr (by omega), by go_num, HU⟩
          case measure => simp [intOf]; omega
        | false =>
          rw [hend] at HE
          clear hend
          have HF := hide (unhide HD w0 P u (k + 1) s hmem (unhide HU))
          go_wp2_with fail
          refine (unhide HE).mono ?_
          rintro ee u2 ⟨rfl, rfl⟩
          go_wp2_with fail
          refine (unhide HF).mono ?_
          rintro ee u3 ⟨rfl, hu3⟩
          have HU3 := hide hu3
          clear hu3 HF HE
          go_wp2
          go_roundw
          case rel => exact ⟨k + 1, by omega, Or.inr (by omega), by go_num, HU3⟩
          case measure => simp [intOf]; omega
      · have e : k = m.cq.length := by omega
        have hhead : headS (m.cameN k).cq = ⟨#[]⟩ := by
          show headS (m.cq.drop k) = _
          rw [List.drop_eq_nil_of_le (by omega)]; rfl
        have hne : (!(m.cameN k).cq.isEmpty) = false := by
          show (!(m.cq.drop k).isEmpty) = false
          rw [List.drop_eq_nil_of_le (by omega)]; rfl
        have hg1 : (m.cameN k).came1 = m.cameN k := by
          unfold Mc.came1
          have : (m.cameN k).cq = [] := by show m.cq.drop k = []; exact List.drop_eq_nil_of_le (by omega)
          rw [this]
        rw [hhead, hne, hg1] at HN
        have HEQ : Hid (polls n m.cq.length = k) := hide (by unfold polls; omega)
        clear hhead hne hg1 e HM
        go_wp2_with fail
        refine (unhide HN).mono ?_
        rintro ee u ⟨rfl, hu⟩
        have HU := hide hu
        clear hu HN
        go_wp2
        go_ret
        rw [unhide HEQ]
        exact ⟨rfl, unhide HU⟩
    · have HEQ : Hid (polls n m.cq.length = k) := hide (by unfold polls; omega)
      go_wp2
      go_ret
      rw [unhide HEQ]
      exact ⟨rfl, unhide HM⟩
set_option maxHeartbeats 1000000 in
theorem bootPoll_dull (h : Bx w0 P w Q B m) (n : Int) (hd : Dull B m) : Calls Tryz.prog 14 #[.pointer (some ⟨Q, 0, none⟩), .int .i64 n] w fun ee w' => ee = .returned (.int .i64 (polls n m.cq.length)) ∧ Bx w0 P w' Q B (m.cameN (polls n m.cq.length)) := by
  have HM := hide (machine_any h)
  have HT := hide (poll_dull h.mx.base n hd)
  have HB := hide h
  clear h hd
  generalize polls n m.cq.length = r at *
  go_enter Tryz.func14, Tryz.ntmps14
  go_wp2_with fail
  refine (unhide HM).mono ?_
  rintro ee u ⟨rfl, rfl⟩
  go_wp2_with fail
  refine (unhide HT).mono ?_
  rintro ee u ⟨rfl, hu⟩
  have HU := hide ((unhide HB).next hu)
  clear hu HT HM HB
  go_wp2
  go_ret
  exact ⟨rfl, unhide HU⟩
end Go.Proofs.YtonlmklkikbeiaaGreatDoor.Mac

namespace Go.Proofs.YtonlmklkikbeiaaGreatDoor.Mac
open Go.ChangeShapes Go.WideShapes Go.ChangeAt Go.RowKit Bs
set_option linter.unusedVariables false
set_option linter.unusedSimpArgs false
variable {w0 : World} {P : Nat → Prop} {w w' : World} {B Q : Nat} {m m' : Mc}

theorem wire_short (s : ByteArray) (h : s.size < 6) (w : World) : Calls Tryz.prog 27 #[.string s] w fun ee w' => ee = .returned (.tuple #[.agg #[.int .u8 0, .int .u8 0, .int .u8 0, .int .u8 0, .int .u8 0, .int .u8 0, .int .u8 0, .int .u8 0, .int .u8 0, .int .u8 0, .int .u8 0, .int .u8 0, .int .u16 0, .string ⟨#[]⟩], .int .i64 1]) ∧ Below w.heap.size w w' :=
  EtR.wire_of s 0 0 0 0 0 0 0 0 0 0 0 0 0 ⟨#[]⟩ 1 w (fun u => EtR.read_no s 1 u (fun u B hr => EtR.ether_short1 B _ u hr (by rw [len_str]; exact h)))
set_option maxHeartbeats 1000000 in
theorem frame_short (h : Mx w0 P w B m) (s : ByteArray) (hs : s.size < 6) : Calls Tryz.prog 42 #[.pointer (some ⟨B, 0, none⟩), .string s] w fun ee w' => ee = .returned (.tuple #[]) ∧ Mx w0 P w' B m := by
  have HM := hide h
  have HR := hide (wire_short s hs w)
  clear h hs
  go_enter Tryz.func42, Tryz.ntmps42
  go_wp2_with fail
  refine (unhide HR).mono ?_
  rintro ee u ⟨rfl, hb⟩
  have HU := hide ((unhide HM).below hb)
  clear hb HR HM
  go_wp2
  go_quiet (fail)
  go_wp2
  go_returns
  exact ⟨rfl, ((unhide HU).alloc _).like ⟨rfl, rfl, rfl, rfl⟩⟩
theorem dull_short (B : Nat) (m : Mc) (h : ∀ s ∈ m.cq, s.size < 6) : Dull B m := fun w0 P w k s hs hm => frame_short hm s (h s hs)
end Go.Proofs.YtonlmklkikbeiaaGreatDoor.Mac

import Derived.Test.YtbhbbeebncmaiaaGreatDoorMgZ13
namespace Go.Proofs.YtbhbbeebncmaiaaGreatDoor.Mac
open Go.ChangeShapes Go.WideShapes Go.ChangeAt Go.RowKit Bs
open Dh (Opts cellsO cellsO_one cellsO_append own_slice infoOpt heavy)
set_option linter.unusedVariables false
set_option linter.unusedSimpArgs false
variable {w0 : World} {P : Nat → Prop} {w w' : World} {B : Nat} {m m' : Mc}
theorem dhS_size (rep : Bool) (xid cl yo ne : Int) (c : List UInt8) (os : Opts) : (Dh.dhS rep xid cl yo ne c os).size ≤ 1472 := by
  unfold Dh.dhS
  split
  · show (#[] : Array UInt8).size ≤ _; simp
  · split
    · show (#[] : Array UInt8).size ≤ _; simp
    · rename_i h
      show (Dh.fullL _).toArray.size ≤ _
      have := Dh.fullL_length (Dh.allL rep xid cl yo ne c os)
      simp only [List.size_toArray]
      by_cases h2 : 1472 < (Dh.fullL (Dh.allL rep xid cl yo ne c os)).length
      · rw [this] at h2; exact absurd h2 h
      · omega
def Mc.say (m : Mc) (kb : UInt8) (os : Opts) : Mc := m.toAll 68 67 (m.sayB kb os)
set_option maxHeartbeats 1000000 in
theorem say_nil (h : Mx w0 P w B m) (ho : m.Ok) (kb : UInt8) (hk4 : kb.toNat ≠ 4) :
    Calls Tryz.prog 124 #[.pointer (some ⟨B, 0, none⟩), .int .u8 kb.toNat, .slice none 0 0] w fun ee w' =>
      ee = .returned (.tuple #[]) ∧ Mx w0 P w' B (m.say kb []) := by
  have HS := hide (saying_nil h ho kb hk4)
  have hz := dhS_size false m.xid m.addr 0 0 m.card (sayO kb [])
  have HE : Hid (m.say kb [] = m.toAll 68 67 (m.sayB kb [])) := hide rfl
  obtain ⟨L, hL⟩ : ∃ L, L = m.sayB kb [] := ⟨_, rfl⟩
  have hLz : L.size ≤ 1472 := by rw [hL]; exact hz
  rw [← hL] at HS HE
  clear h hk4 hL hz
  go_enter Tryz.func124, Tryz.ntmps124
  go_wp2_with fail
  refine (unhide HS).mono ?_
  rintro ee u ⟨rfl, hu⟩
  have HU := hide hu
  clear hu HS
  go_wp2_with fail
  refine (toAll_any (unhide HU) ho 68 67 L (by omega) (by omega) (by omega)).mono ?_
  rintro ee u2 ⟨rfl, hu2⟩
  have HU2 := hide hu2
  clear hu2 HU
  go_wp2
  go_end0
  rw [unhide HE]
  exact ⟨rfl, unhide HU2⟩
def Mc.ticks (m : Mc) (s : Int) : Int := 2 * 2 ^ s.toNat + m.draw % 3 - 1
set_option maxHeartbeats 1000000 in
theorem waitMore_any (h : Mx w0 P w B m) (ho : m.Ok) (s u : Int) (hs : 0 ≤ s ∧ s ≤ 4) :
    Calls Tryz.prog 123 #[.pointer (some ⟨B, 0, none⟩), .agg #[.int .i64 s, .int .i64 u]] w fun ee w' =>
      ee = .returned (.agg #[.int .i64 (s + 1), .int .i64 (wrap64 (m.now + m.ticks s))]) ∧ Mx w0 P w' B m := by
  have HM := hide h
  have c14 := h.c14
  have c15 := h.c15
  have hd := ho.draw
  have hlt := h.lt
  have hm3 : (m.draw).tmod 3 = m.draw % 3 := Int.tmod_eq_emod_of_nonneg hd.1
  clear h
  unfold Mc.ticks
  obtain ⟨r, hr⟩ : ∃ r, r = m.draw % 3 := ⟨_, rfl⟩
  have hr3 : 0 ≤ r ∧ r ≤ 2 := by rw [hr]; omega
  rw [← hr] at hm3
  rw [← hr]
  clear hr
  have hcase : s = 0 ∨ s = 1 ∨ s = 2 ∨ s = 3 ∨ s = 4 := by omega
  rcases hcase with rfl | rfl | rfl | rfl | rfl
  · have hnf : ¬ Foot B m (w.heap.size + 1) := fun hf => by have := (unhide HM).foot_lt hf; omega
    have HNF := hide hnf
    clear hnf
    go_enter Tryz.func123, Tryz.ntmps123
    go_wp2
    go_quiet (fail)
    go_wp2
    go_region
    go_wp2
    have hrow : (((w.alloc (.cells #[.int .i64 0, .int .i64 u] 92)).alloc (.cells #[.int .i64 0, .int .i64 0] 92)).drewN (nq + 1)).heap[w.heap.size + 1]? = some (.cells #[.int .i64 0, .int .i64 0] 92 (0, 0)) := second_new w _ _
    obtain ⟨s0, s1, s2⟩ := two_set hrow (.int .i64 1) (.int .i64 (wrap64 (m.now + (2 + r - 1))))
    refine bodyPost_ret (v := .agg #[.int .i64 1, .int .i64 (wrap64 (m.now + (2 + r - 1)))]) (by simp [results, Tryz.results123, go_sem, s0, s1, s2]) rfl ?_
    refine ⟨rfl, ?_⟩
    have q : Mx w0 P (((w.alloc (.cells #[.int .i64 0, .int .i64 u] 92)).alloc (.cells #[.int .i64 0, .int .i64 0] 92)).drewN (nq + 1)) B m := (((unhide HM).alloc _).alloc _).like ⟨rfl, rfl, rfl, rfl⟩
    have hz : w0.heap.size ≤ w.heap.size + 1 := Nat.le_trans (unhide HM).size (Nat.le_succ _)
    exact (q.aside ⟨w.heap.size + 1, 0, none⟩ _ (unhide HNF) hz).aside ⟨w.heap.size + 1, 1, none⟩ _ (unhide HNF) hz
  · have hnf : ¬ Foot B m (w.heap.size + 1) := fun hf => by have := (unhide HM).foot_lt hf; omega
    have HNF := hide hnf
    clear hnf
    go_enter Tryz.func123, Tryz.ntmps123
    go_wp2
    go_quiet (fail)
    go_wp2
    go_region
    go_wp2
    have hrow : (((w.alloc (.cells #[.int .i64 1, .int .i64 u] 92)).alloc (.cells #[.int .i64 0, .int .i64 0] 92)).drewN (nq + 1)).heap[w.heap.size + 1]? = some (.cells #[.int .i64 0, .int .i64 0] 92 (0, 0)) := second_new w _ _
    obtain ⟨s0, s1, s2⟩ := two_set hrow (.int .i64 2) (.int .i64 (wrap64 (m.now + (4 + r - 1))))
    refine bodyPost_ret (v := .agg #[.int .i64 2, .int .i64 (wrap64 (m.now + (4 + r - 1)))]) (by simp [results, Tryz.results123, go_sem, s0, s1, s2]) rfl ?_
    refine ⟨rfl, ?_⟩
    have q : Mx w0 P (((w.alloc (.cells #[.int .i64 1, .int .i64 u] 92)).alloc (.cells #[.int .i64 0, .int .i64 0] 92)).drewN (nq + 1)) B m := (((unhide HM).alloc _).alloc _).like ⟨rfl, rfl, rfl, rfl⟩
    have hz : w0.heap.size ≤ w.heap.size + 1 := Nat.le_trans (unhide HM).size (Nat.le_succ _)
    exact (q.aside ⟨w.heap.size + 1, 0, none⟩ _ (unhide HNF) hz).aside ⟨w.heap.size + 1, 1, none⟩ _ (unhide HNF) hz
  · have hnf : ¬ Foot B m (w.heap.size + 1) := fun hf => by have := (unhide HM).foot_lt hf; omega
    have HNF := hide hnf
    clear hnf
    go_enter Tryz.func123, Tryz.ntmps123
    go_wp2
    go_quiet (fail)
    go_wp2
    go_region
    go_wp2
    have hrow : (((w.alloc (.cells #[.int .i64 2, .int .i64 u] 92)).alloc (.cells #[.int .i64 0, .int .i64 0] 92)).drewN (nq + 1)).heap[w.heap.size + 1]? = some (.cells #[.int .i64 0, .int .i64 0] 92 (0, 0)) := second_new w _ _
    obtain ⟨s0, s1, s2⟩ := two_set hrow (.int .i64 3) (.int .i64 (wrap64 (m.now + (8 + r - 1))))
    refine bodyPost_ret (v := .agg #[.int .i64 3, .int .i64 (wrap64 (m.now + (8 + r - 1)))]) (by simp [results, Tryz.results123, go_sem, s0, s1, s2]) rfl ?_
    refine ⟨rfl, ?_⟩
    have q : Mx w0 P (((w.alloc (.cells #[.int .i64 2, .int .i64 u] 92)).alloc (.cells #[.int .i64 0, .int .i64 0] 92)).drewN (nq + 1)) B m := (((unhide HM).alloc _).alloc _).like ⟨rfl, rfl, rfl, rfl⟩
    have hz : w0.heap.size ≤ w.heap.size + 1 := Nat.le_trans (unhide HM).size (Nat.le_succ _)
    exact (q.aside ⟨w.heap.size + 1, 0, none⟩ _ (unhide HNF) hz).aside ⟨w.heap.size + 1, 1, none⟩ _ (unhide HNF) hz
  · have hnf : ¬ Foot B m (w.heap.size + 1) := fun hf => by have := (unhide HM).foot_lt hf; omega
    have HNF := hide hnf
    clear hnf
    go_enter Tryz.func123, Tryz.ntmps123
    go_wp2
    go_quiet (fail)
    go_wp2
    go_region
    go_wp2
    have hrow : (((w.alloc (.cells #[.int .i64 3, .int .i64 u] 92)).alloc (.cells #[.int .i64 0, .int .i64 0] 92)).drewN (nq + 1)).heap[w.heap.size + 1]? = some (.cells #[.int .i64 0, .int .i64 0] 92 (0, 0)) := second_new w _ _
    obtain ⟨s0, s1, s2⟩ := two_set hrow (.int .i64 4) (.int .i64 (wrap64 (m.now + (16 + r - 1))))
    refine bodyPost_ret (v := .agg #[.int .i64 4, .int .i64 (wrap64 (m.now + (16 + r - 1)))]) (by simp [results, Tryz.results123, go_sem, s0, s1, s2]) rfl ?_
    refine ⟨rfl, ?_⟩
    have q : Mx w0 P (((w.alloc (.cells #[.int .i64 3, .int .i64 u] 92)).alloc (.cells #[.int .i64 0, .int .i64 0] 92)).drewN (nq + 1)) B m := (((unhide HM).alloc _).alloc _).like ⟨rfl, rfl, rfl, rfl⟩
    have hz : w0.heap.size ≤ w.heap.size + 1 := Nat.le_trans (unhide HM).size (Nat.le_succ _)
    exact (q.aside ⟨w.heap.size + 1, 0, none⟩ _ (unhide HNF) hz).aside ⟨w.heap.size + 1, 1, none⟩ _ (unhide HNF) hz
  · have hnf : ¬ Foot B m (w.heap.size + 1) := fun hf => by have := (unhide HM).foot_lt hf; omega
    have HNF := hide hnf
    clear hnf
    go_enter Tryz.func123, Tryz.ntmps123
    go_wp2
    go_quiet (fail)
    go_wp2
    go_region
    go_wp2
    have hrow : (((w.alloc (.cells #[.int .i64 4, .int .i64 u] 92)).alloc (.cells #[.int .i64 0, .int .i64 0] 92)).drewN (nq + 1)).heap[w.heap.size + 1]? = some (.cells #[.int .i64 0, .int .i64 0] 92 (0, 0)) := second_new w _ _
    obtain ⟨s0, s1, s2⟩ := two_set hrow (.int .i64 5) (.int .i64 (wrap64 (m.now + (32 + r - 1))))
    refine bodyPost_ret (v := .agg #[.int .i64 5, .int .i64 (wrap64 (m.now + (32 + r - 1)))]) (by simp [results, Tryz.results123, go_sem, s0, s1, s2]) rfl ?_
    refine ⟨rfl, ?_⟩
    have q : Mx w0 P (((w.alloc (.cells #[.int .i64 4, .int .i64 u] 92)).alloc (.cells #[.int .i64 0, .int .i64 0] 92)).drewN (nq + 1)) B m := (((unhide HM).alloc _).alloc _).like ⟨rfl, rfl, rfl, rfl⟩
    have hz : w0.heap.size ≤ w.heap.size + 1 := Nat.le_trans (unhide HM).size (Nat.le_succ _)
    exact (q.aside ⟨w.heap.size + 1, 0, none⟩ _ (unhide HNF) hz).aside ⟨w.heap.size + 1, 1, none⟩ _ (unhide HNF) hz
end Go.Proofs.YtbhbbeebncmaiaaGreatDoor.Mac

import Derived.Test.YtadkcdcdgphhpaaRefReadI
import Derived.Test.YtadkcdcdgphhpaaUDPWriteR
namespace Go.Proofs.Ytadkcdcdgphhpaa.Rr
open Go.ChangeShapes Go.WideShapes Go.ChangeAt Go.RowKit Bs Rd
open Ip (chk chk_bd)
open Ud (udpP)
set_option linter.unusedVariables false
set_option linter.unusedSimpArgs false

theorem rowB {w u : World} {cs : Array Value} {t : TypeId} (h : Below (w.heap.size + 1) (w.alloc (.cells cs t)) u) : u.heap[w.heap.size]? = some (.cells cs t (0, 0)) :=
  (h.block _ (by omega)).trans (heap_alloc_new w _)
set_option maxHeartbeats 1000000 in
theorem udp_short (s : ByteArray) (fr ta : Int) (w : World) (hs : s.size < 8) :
    Calls Try.prog 28 #[.string s, .int .u32 fr, .int .u32 ta] w fun ee w' => ee = .returned (.tuple #[.agg #[.int .u16 0, .int .u16 0, .string ⟨#[]⟩], .int .i64 1]) ∧ Below w.heap.size w w' := by
  go_enter Try.func28, Try.ntmps28
  go_wp2
  exact bodyPost_ret (v := .tuple #[.agg #[.int .u16 0, .int .u16 0, .string ⟨#[]⟩], .int .i64 1]) (by simp [results, Try.results28, go_sem]) rfl ⟨rfl, (Below.refl _ _).alloc (Nat.le_refl _) _⟩

set_option maxHeartbeats 4000000 in
set_option maxRecDepth 10000 in
theorem udp_lenf (a0 a1 a2 a3 a4 a5 a6 a7 : UInt8) (l : List UInt8) (fr ta : Int) (w : World) (hl : l.length + 8 ≤ 262144) (hn : (256 * (a4.toNat : Int) + (a5.toNat : Int)) < 8) :
    Calls Try.prog 28 #[.string ⟨(a0 :: a1 :: a2 :: a3 :: a4 :: a5 :: a6 :: a7 :: l).toArray⟩, .int .u32 fr, .int .u32 ta] w fun ee w' => ee = .returned (.tuple #[.agg #[.int .u16 0, .int .u16 0, .string ⟨#[]⟩], .int .i64 2]) ∧ Below w.heap.size w w' := by
  obtain ⟨s, hS⟩ : ∃ s : ByteArray, s = ⟨(a0 :: a1 :: a2 :: a3 :: a4 :: a5 :: a6 :: a7 :: l).toArray⟩ := ⟨_, rfl⟩
  have hz : s.size = l.length + 8 := by rw [hS, str_size]; simp
  have hmx : (s.size : Int) ≤ 9223372036854775807 := by omega
  have k8' : ¬ (s.size : Int) < 8 := by omega
  have k2 : (2 : Int) ≤ (s.size : Int) := by omega
  have k4 : (4 : Int) ≤ (s.size : Int) := by omega
  have k6 : (6 : Int) ≤ (s.size : Int) := by omega
  have k8 : (8 : Int) ≤ (s.size : Int) := by omega
  have O4 : Hid (∀ u : World, Calls Try.prog 45 #[.string (s.extract 4 6)] u fun ee w' => ee = .returned (.int .i64 (256 * (a4.toNat : Int) + (a5.toNat : Int))) ∧ w' = u) := hide (fun u => by
    have e1 : s.extract 4 6 = ⟨#[a4, a5]⟩ := by rw [hS]; apply ByteArray.ext; rw [ByteArray.data_extract]; apply Array.ext'; simp
    rw [e1]
    have q := of_any ⟨#[a4, a5]⟩ u (show 2 ≤ 4 by omega)
    rw [show ofL (⟨#[a4, a5]⟩ : ByteArray).data.toList = (256 * (a4.toNat : Int) + (a5.toNat : Int)) from by simp [ofL]] at q
    exact q)
  obtain ⟨x4, hx4⟩ : ∃ x, x = (256 * (a4.toNat : Int) + (a5.toNat : Int)) := ⟨_, rfl⟩
  rw [← hx4] at O4 hn
  have d0 : decide (x4 < 8) = true := by simp; omega
  rw [← hS]
  clear hS hz hl hx4
  go_enter Try.func28, Try.ntmps28
  go_wp2_with fail
  refine (unhide O4 _).mono ?_
  rintro ee wz ⟨rfl, hwz⟩
  rw [hwz]
  clear hwz wz
  go_wp2
  exact bodyPost_ret (v := .tuple #[.agg #[.int .u16 0, .int .u16 0, .string ⟨#[]⟩], .int .i64 2]) (by simp [results, Try.results28, go_sem]) rfl ⟨rfl, (Below.refl _ _).alloc (Nat.le_refl _) _⟩

set_option maxHeartbeats 4000000 in
set_option maxRecDepth 10000 in
theorem udp_lens (a0 a1 a2 a3 a4 a5 a6 a7 : UInt8) (l : List UInt8) (fr ta : Int) (w : World) (hl : l.length + 8 ≤ 262144) (hn : 8 ≤ (256 * (a4.toNat : Int) + (a5.toNat : Int))) (hn2 : ((l.length + 8 : Nat) : Int) < (256 * (a4.toNat : Int) + (a5.toNat : Int))) :
    Calls Try.prog 28 #[.string ⟨(a0 :: a1 :: a2 :: a3 :: a4 :: a5 :: a6 :: a7 :: l).toArray⟩, .int .u32 fr, .int .u32 ta] w fun ee w' => ee = .returned (.tuple #[.agg #[.int .u16 0, .int .u16 0, .string ⟨#[]⟩], .int .i64 1]) ∧ Below w.heap.size w w' := by
  obtain ⟨s, hS⟩ : ∃ s : ByteArray, s = ⟨(a0 :: a1 :: a2 :: a3 :: a4 :: a5 :: a6 :: a7 :: l).toArray⟩ := ⟨_, rfl⟩
  have hz : s.size = l.length + 8 := by rw [hS, str_size]; simp
  have hmx : (s.size : Int) ≤ 9223372036854775807 := by omega
  have k8' : ¬ (s.size : Int) < 8 := by omega
  have k2 : (2 : Int) ≤ (s.size : Int) := by omega
  have k4 : (4 : Int) ≤ (s.size : Int) := by omega
  have k6 : (6 : Int) ≤ (s.size : Int) := by omega
  have k8 : (8 : Int) ≤ (s.size : Int) := by omega
  have O4 : Hid (∀ u : World, Calls Try.prog 45 #[.string (s.extract 4 6)] u fun ee w' => ee = .returned (.int .i64 (256 * (a4.toNat : Int) + (a5.toNat : Int))) ∧ w' = u) := hide (fun u => by
    have e1 : s.extract 4 6 = ⟨#[a4, a5]⟩ := by rw [hS]; apply ByteArray.ext; rw [ByteArray.data_extract]; apply Array.ext'; simp
    rw [e1]
    have q := of_any ⟨#[a4, a5]⟩ u (show 2 ≤ 4 by omega)
    rw [show ofL (⟨#[a4, a5]⟩ : ByteArray).data.toList = (256 * (a4.toNat : Int) + (a5.toNat : Int)) from by simp [ofL]] at q
    exact q)
  obtain ⟨x4, hx4⟩ : ∃ x, x = (256 * (a4.toNat : Int) + (a5.toNat : Int)) := ⟨_, rfl⟩
  rw [← hx4] at O4 hn
  rw [← hx4] at hn2
  have d0 : decide (x4 < 8) = false := by simp; omega
  have d1 : decide ((s.size : Int) < x4) = true := by simp; omega
  rw [← hS]
  clear hS hz hl hx4 hn hn2
  go_enter Try.func28, Try.ntmps28
  go_wp2_with fail
  refine (unhide O4 _).mono ?_
  rintro ee wz ⟨rfl, hwz⟩
  rw [hwz]
  clear hwz wz
  go_wp2
  exact bodyPost_ret (v := .tuple #[.agg #[.int .u16 0, .int .u16 0, .string ⟨#[]⟩], .int .i64 1]) (by simp [results, Try.results28, go_sem]) rfl ⟨rfl, (Below.refl _ _).alloc (Nat.le_refl _) _⟩

set_option maxHeartbeats 4000000 in
set_option maxRecDepth 10000 in
theorem udp_ok0 (a0 a1 a2 a3 a4 a5 a6 a7 : UInt8) (l : List UInt8) (fr ta : Int) (w : World) (hl : l.length + 8 ≤ 262144) (m k : Nat) (hmk : m = 8 + k) (hn : (256 * (a4.toNat : Int) + (a5.toNat : Int)) = (m : Int)) (hk : k ≤ l.length) (hm : m ≤ 65535) (hq0 : (256 * (a6.toNat : Int) + (a7.toNat : Int)) = 0) :
    Calls Try.prog 28 #[.string ⟨(a0 :: a1 :: a2 :: a3 :: a4 :: a5 :: a6 :: a7 :: l).toArray⟩, .int .u32 fr, .int .u32 ta] w fun ee w' => ee = .returned (.tuple #[.agg #[.int .u16 (256 * (a0.toNat : Int) + (a1.toNat : Int)), .int .u16 (256 * (a2.toNat : Int) + (a3.toNat : Int)), .string ⟨(l.take k).toArray⟩], .int .i64 0]) ∧ Below w.heap.size w w' := by
  obtain ⟨s, hS⟩ : ∃ s : ByteArray, s = ⟨(a0 :: a1 :: a2 :: a3 :: a4 :: a5 :: a6 :: a7 :: l).toArray⟩ := ⟨_, rfl⟩
  have hz : s.size = l.length + 8 := by rw [hS, str_size]; simp
  have hmx : (s.size : Int) ≤ 9223372036854775807 := by omega
  have k8' : ¬ (s.size : Int) < 8 := by omega
  have k2 : (2 : Int) ≤ (s.size : Int) := by omega
  have k4 : (4 : Int) ≤ (s.size : Int) := by omega
  have k6 : (6 : Int) ≤ (s.size : Int) := by omega
  have k8 : (8 : Int) ≤ (s.size : Int) := by omega
  have O4 : Hid (∀ u : World, Calls Try.prog 45 #[.string (s.extract 4 6)] u fun ee w' => ee = .returned (.int .i64 (256 * (a4.toNat : Int) + (a5.toNat : Int))) ∧ w' = u) := hide (fun u => by
    have e1 : s.extract 4 6 = ⟨#[a4, a5]⟩ := by rw [hS]; apply ByteArray.ext; rw [ByteArray.data_extract]; apply Array.ext'; simp
    rw [e1]
    have q := of_any ⟨#[a4, a5]⟩ u (show 2 ≤ 4 by omega)
    rw [show ofL (⟨#[a4, a5]⟩ : ByteArray).data.toList = (256 * (a4.toNat : Int) + (a5.toNat : Int)) from by simp [ofL]] at q
    exact q)
  have O6 : Hid (∀ u : World, Calls Try.prog 45 #[.string (s.extract 6 8)] u fun ee w' => ee = .returned (.int .i64 (256 * (a6.toNat : Int) + (a7.toNat : Int))) ∧ w' = u) := hide (fun u => by
    have e1 : s.extract 6 8 = ⟨#[a6, a7]⟩ := by rw [hS]; apply ByteArray.ext; rw [ByteArray.data_extract]; apply Array.ext'; simp
    rw [e1]
    have q := of_any ⟨#[a6, a7]⟩ u (show 2 ≤ 4 by omega)
    rw [show ofL (⟨#[a6, a7]⟩ : ByteArray).data.toList = (256 * (a6.toNat : Int) + (a7.toNat : Int)) from by simp [ofL]] at q
    exact q)
  rw [hn] at O4
  have m0 : (8 : Int) ≤ (m : Int) := by omega
  have m1 : (m : Int) ≤ (s.size : Int) := by omega
  have d0 : decide ((m : Int) < 8) = false := by simp; omega
  have d1 : decide ((s.size : Int) < (m : Int)) = false := by simp; omega
  rw [hq0] at O6
  have O0 : Hid (∀ u : World, Calls Try.prog 45 #[.string (s.extract 0 2)] u fun ee w' => ee = .returned (.int .i64 (256 * (a0.toNat : Int) + (a1.toNat : Int))) ∧ w' = u) := hide (fun u => by
    have e1 : s.extract 0 2 = ⟨#[a0, a1]⟩ := by rw [hS]; apply ByteArray.ext; rw [ByteArray.data_extract]; apply Array.ext'; simp
    rw [e1]
    have q := of_any ⟨#[a0, a1]⟩ u (show 2 ≤ 4 by omega)
    rw [show ofL (⟨#[a0, a1]⟩ : ByteArray).data.toList = (256 * (a0.toNat : Int) + (a1.toNat : Int)) from by simp [ofL]] at q
    exact q)
  have O2 : Hid (∀ u : World, Calls Try.prog 45 #[.string (s.extract 2 4)] u fun ee w' => ee = .returned (.int .i64 (256 * (a2.toNat : Int) + (a3.toNat : Int))) ∧ w' = u) := hide (fun u => by
    have e1 : s.extract 2 4 = ⟨#[a2, a3]⟩ := by rw [hS]; apply ByteArray.ext; rw [ByteArray.data_extract]; apply Array.ext'; simp
    rw [e1]
    have q := of_any ⟨#[a2, a3]⟩ u (show 2 ≤ 4 by omega)
    rw [show ofL (⟨#[a2, a3]⟩ : ByteArray).data.toList = (256 * (a2.toNat : Int) + (a3.toNat : Int)) from by simp [ofL]] at q
    exact q)
  have eL : s.extract 8 m = ⟨(l.take k).toArray⟩ := by
    rw [hS, hmk]; apply ByteArray.ext; rw [ByteArray.data_extract]; apply Array.ext'; simp
  have p0 := a0.toNat_lt
  have p1 := a1.toNat_lt
  have p2 := a2.toNat_lt
  have p3 := a3.toNat_lt
  obtain ⟨x0, hx0⟩ : ∃ x, x = (256 * (a0.toNat : Int) + (a1.toNat : Int)) := ⟨_, rfl⟩
  obtain ⟨x2, hx2⟩ : ∃ x, x = (256 * (a2.toNat : Int) + (a3.toNat : Int)) := ⟨_, rfl⟩
  have w0 : IntKind.u16.wrap x0 = x0 := by rw [IntKind.wrap_u16]; omega
  have w2 : IntKind.u16.wrap x2 = x2 := by rw [IntKind.wrap_u16]; omega
  rw [← eL, ← hx0, ← hx2]
  rw [← hx0] at O0
  rw [← hx2] at O2
  rw [← hS]
  clear hS hz hl eL hx0 hx2 p0 p1 p2 p3 hmk hn hk hm
  go_enter Try.func28, Try.ntmps28
  go_wp2_with fail
  refine (unhide O4 _).mono ?_
  rintro ee wz ⟨rfl, hwz⟩
  rw [hwz]
  clear hwz wz
  go_wp2
  go_quiet (first | (go_at_call 45; exact Calls.quiet_of_same (unhide O6 _)))
  obtain ⟨wz, hwz⟩ : ∃ wz, wz = (w.alloc (.cells #[.int .u16 0, .int .u16 0, .string ⟨#[]⟩] 49)).drewN nq := ⟨_, rfl⟩
  rw [← hwz]
  have hr : wz.heap[w.heap.size]? = some (.cells #[.int .u16 0, .int .u16 0, .string ⟨#[]⟩] 49 (0, 0)) := by rw [hwz]; exact heap_alloc_new w _
  have HB : Hid (Below w.heap.size w wz) := hide (by rw [hwz]; exact below_drewN ((Below.refl _ _).alloc (Nat.le_refl _) _) _)
  have q0 : wz.cell? ⟨w.heap.size, 0, none⟩ = some (.int .u16 0) := EtR.row_cell hr rfl
  have q1 : wz.cell? ⟨w.heap.size, 1, none⟩ = some (.int .u16 0) := EtR.row_cell hr rfl
  have q2 : wz.cell? ⟨w.heap.size, 2, none⟩ = some (.string ⟨#[]⟩) := EtR.row_cell hr rfl
  have kd := EtR.row_free hr
  clear hwz hr
  go_wp2
  go_region_with (first | (go_at_call_of 45 (s.extract 0 2); refine (unhide O0 _).mono ?_; rintro ee u2 ⟨rfl, hu⟩; rw [hu]; clear hu u2) | (go_at_call_of 45 (s.extract 2 4); refine (unhide O2 _).mono ?_; rintro ee u2 ⟨rfl, hu⟩; rw [hu]; clear hu u2))
  go_wp2
  refine bodyPost_ret (v := .tuple #[.agg #[.int .u16 x0, .int .u16 x2, .string (s.extract 8 m)], .int .i64 0]) (by simp [results, Try.results28, go_sem, q0, q1, q2]) rfl ⟨rfl, ?_⟩
  refine Below.drew ?_
  iterate 3 refine EtR.below_at ?_
  exact unhide HB
end Go.Proofs.Ytadkcdcdgphhpaa.Rr

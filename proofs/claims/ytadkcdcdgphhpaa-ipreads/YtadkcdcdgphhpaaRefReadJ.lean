import Derived.Test.YtadkcdcdgphhpaaRefReadI
namespace Go.Proofs.Ytadkcdcdgphhpaa.Rr
open Go.ChangeShapes Go.WideShapes Go.ChangeAt Go.RowKit Bs Rd
open Ip (chk chk_bd)
set_option linter.unusedVariables false
set_option linter.unusedSimpArgs false

set_option maxHeartbeats 4000000 in
set_option maxRecDepth 10000 in
theorem ip_ver (a0 a1 a2 a3 a4 a5 a6 a7 a8 a9 a10 a11 a12 a13 a14 a15 a16 a17 a18 a19 : UInt8) (l : List UInt8) (w : World) (hl : l.length + 20 ≤ 9223372036854775807) (h1 : a0.toNat / 16 ≠ 4) :
    Calls Try.prog 24 #[.string ⟨(a0 :: a1 :: a2 :: a3 :: a4 :: a5 :: a6 :: a7 :: a8 :: a9 :: a10 :: a11 :: a12 :: a13 :: a14 :: a15 :: a16 :: a17 :: a18 :: a19 :: l).toArray⟩] w fun ee w' => ee = .returned (.tuple #[.agg #[.int .u16 0, .int .u8 0, .int .u8 0, .int .u32 0, .int .u32 0, .string ⟨#[]⟩], .int .i64 2]) ∧ Below w.heap.size w w' := by
  obtain ⟨s, hS⟩ : ∃ s : ByteArray, s = ⟨(a0 :: a1 :: a2 :: a3 :: a4 :: a5 :: a6 :: a7 :: a8 :: a9 :: a10 :: a11 :: a12 :: a13 :: a14 :: a15 :: a16 :: a17 :: a18 :: a19 :: l).toArray⟩ := ⟨_, rfl⟩
  have hz : s.size = l.length + 20 := by rw [hS, str_size]; simp
  have hmx : (s.size : Int) ≤ 9223372036854775807 := by omega
  have k20 : (20 : Int) ≤ (s.size : Int) := by omega
  have k20' : ¬ (s.size : Int) < 20 := by omega
  have k2 : (2 : Int) ≤ (s.size : Int) := by omega
  have k4 : (4 : Int) ≤ (s.size : Int) := by omega
  have k6 : (6 : Int) ≤ (s.size : Int) := by omega
  have k8 : (8 : Int) ≤ (s.size : Int) := by omega
  have k9 : (9 : Int) ≤ (s.size : Int) := by omega
  have k12 : (12 : Int) ≤ (s.size : Int) := by omega
  have k16 : (16 : Int) ≤ (s.size : Int) := by omega
  have O2 : Hid (∀ u : World, Calls Try.prog 45 #[.string (s.extract 2 4)] u fun ee w' => ee = .returned (.int .i64 (256 * (a2.toNat : Int) + (a3.toNat : Int))) ∧ w' = u) := hide (fun u => by
    have e1 : s.extract 2 4 = ⟨#[a2, a3]⟩ := by rw [hS]; apply ByteArray.ext; rw [ByteArray.data_extract]; apply Array.ext'; simp
    rw [e1]
    have q := of_any ⟨#[a2, a3]⟩ u (show 2 ≤ 4 by omega)
    rw [show ofL (⟨#[a2, a3]⟩ : ByteArray).data.toList = (256 * (a2.toNat : Int) + (a3.toNat : Int)) from by simp [ofL]] at q
    exact q)
  have O6 : Hid (∀ u : World, Calls Try.prog 45 #[.string (s.extract 6 8)] u fun ee w' => ee = .returned (.int .i64 (256 * (a6.toNat : Int) + (a7.toNat : Int))) ∧ w' = u) := hide (fun u => by
    have e1 : s.extract 6 8 = ⟨#[a6, a7]⟩ := by rw [hS]; apply ByteArray.ext; rw [ByteArray.data_extract]; apply Array.ext'; simp
    rw [e1]
    have q := of_any ⟨#[a6, a7]⟩ u (show 2 ≤ 4 by omega)
    rw [show ofL (⟨#[a6, a7]⟩ : ByteArray).data.toList = (256 * (a6.toNat : Int) + (a7.toNat : Int)) from by simp [ofL]] at q
    exact q)
  have i0 : ∀ u, (Instr.index 9 (.string s) (.int .i64 0)).run Try.prog u = .ok (.int .u8 a0.toNat) u := fun _ => by rw [hS]; kernel_rfl
  have p0 := a0.toNat_lt
  have p2 := a2.toNat_lt
  have p3 := a3.toNat_lt
  have p6 := a6.toNat_lt
  have p7 := a7.toNat_lt
  obtain ⟨x0, hx0⟩ : ∃ x, x = (a0.toNat : Int) := ⟨_, rfl⟩
  obtain ⟨x6, hx6⟩ : ∃ x, x = (256 * (a6.toNat : Int) + (a7.toNat : Int)) := ⟨_, rfl⟩
  have y0 : 0 ≤ x0 := by omega
  have y0' : x0 ≤ 255 := by omega
  have y6 : 0 ≤ x6 := by omega
  have y6' : x6 ≤ 65535 := by omega
  have w0 : IntKind.i64.wrap x0 = x0 := wrap_i64 _ (by omega) (by omega)
  rw [← hx6] at O6
  rw [← hx0] at i0
  have t1 : ¬ x0 / 16 = 4 := by omega
  obtain ⟨x2, hx2⟩ : ∃ x, x = (256 * (a2.toNat : Int) + (a3.toNat : Int)) := ⟨_, rfl⟩
  rw [← hx2] at O2
  rw [← hS]
  clear hS hz hx0 hx6 p0 p2 p3 p6 p7 hl hx2 h1
  go_enter Try.func24, Try.ntmps24
  go_wp2_with fail
  refine (unhide O2 _).mono ?_
  rintro ee wz ⟨rfl, hwz⟩
  rw [hwz]
  clear hwz wz
  go_wp2_with fail
  refine (unhide O6 _).mono ?_
  rintro ee wz ⟨rfl, hwz⟩
  rw [hwz]
  clear hwz wz
  go_wp2
  exact bodyPost_ret (v := .tuple #[.agg #[.int .u16 0, .int .u8 0, .int .u8 0, .int .u32 0, .int .u32 0, .string ⟨#[]⟩], .int .i64 2]) (by simp [results, Try.results24, go_sem]) rfl ⟨rfl, (Below.refl _ _).alloc (Nat.le_refl _) _⟩

set_option maxHeartbeats 4000000 in
set_option maxRecDepth 10000 in
theorem ip_few (a0 a1 a2 a3 a4 a5 a6 a7 a8 a9 a10 a11 a12 a13 a14 a15 a16 a17 a18 a19 : UInt8) (l : List UInt8) (w : World) (hl : l.length + 20 ≤ 9223372036854775807) (h1 : a0.toNat / 16 = 4) (h2 : a0.toNat % 16 < 5) :
    Calls Try.prog 24 #[.string ⟨(a0 :: a1 :: a2 :: a3 :: a4 :: a5 :: a6 :: a7 :: a8 :: a9 :: a10 :: a11 :: a12 :: a13 :: a14 :: a15 :: a16 :: a17 :: a18 :: a19 :: l).toArray⟩] w fun ee w' => ee = .returned (.tuple #[.agg #[.int .u16 0, .int .u8 0, .int .u8 0, .int .u32 0, .int .u32 0, .string ⟨#[]⟩], .int .i64 2]) ∧ Below w.heap.size w w' := by
  obtain ⟨s, hS⟩ : ∃ s : ByteArray, s = ⟨(a0 :: a1 :: a2 :: a3 :: a4 :: a5 :: a6 :: a7 :: a8 :: a9 :: a10 :: a11 :: a12 :: a13 :: a14 :: a15 :: a16 :: a17 :: a18 :: a19 :: l).toArray⟩ := ⟨_, rfl⟩
  have hz : s.size = l.length + 20 := by rw [hS, str_size]; simp
  have hmx : (s.size : Int) ≤ 9223372036854775807 := by omega
  have k20 : (20 : Int) ≤ (s.size : Int) := by omega
  have k20' : ¬ (s.size : Int) < 20 := by omega
  have k2 : (2 : Int) ≤ (s.size : Int) := by omega
  have k4 : (4 : Int) ≤ (s.size : Int) := by omega
  have k6 : (6 : Int) ≤ (s.size : Int) := by omega
  have k8 : (8 : Int) ≤ (s.size : Int) := by omega
  have k9 : (9 : Int) ≤ (s.size : Int) := by omega
  have k12 : (12 : Int) ≤ (s.size : Int) := by omega
  have k16 : (16 : Int) ≤ (s.size : Int) := by omega
  have O2 : Hid (∀ u : World, Calls Try.prog 45 #[.string (s.extract 2 4)] u fun ee w' => ee = .returned (.int .i64 (256 * (a2.toNat : Int) + (a3.toNat : Int))) ∧ w' = u) := hide (fun u => by
    have e1 : s.extract 2 4 = ⟨#[a2, a3]⟩ := by rw [hS]; apply ByteArray.ext; rw [ByteArray.data_extract]; apply Array.ext'; simp
    rw [e1]
    have q := of_any ⟨#[a2, a3]⟩ u (show 2 ≤ 4 by omega)
    rw [show ofL (⟨#[a2, a3]⟩ : ByteArray).data.toList = (256 * (a2.toNat : Int) + (a3.toNat : Int)) from by simp [ofL]] at q
    exact q)
  have O6 : Hid (∀ u : World, Calls Try.prog 45 #[.string (s.extract 6 8)] u fun ee w' => ee = .returned (.int .i64 (256 * (a6.toNat : Int) + (a7.toNat : Int))) ∧ w' = u) := hide (fun u => by
    have e1 : s.extract 6 8 = ⟨#[a6, a7]⟩ := by rw [hS]; apply ByteArray.ext; rw [ByteArray.data_extract]; apply Array.ext'; simp
    rw [e1]
    have q := of_any ⟨#[a6, a7]⟩ u (show 2 ≤ 4 by omega)
    rw [show ofL (⟨#[a6, a7]⟩ : ByteArray).data.toList = (256 * (a6.toNat : Int) + (a7.toNat : Int)) from by simp [ofL]] at q
    exact q)
  have i0 : ∀ u, (Instr.index 9 (.string s) (.int .i64 0)).run Try.prog u = .ok (.int .u8 a0.toNat) u := fun _ => by rw [hS]; kernel_rfl
  have p0 := a0.toNat_lt
  have p2 := a2.toNat_lt
  have p3 := a3.toNat_lt
  have p6 := a6.toNat_lt
  have p7 := a7.toNat_lt
  obtain ⟨x0, hx0⟩ : ∃ x, x = (a0.toNat : Int) := ⟨_, rfl⟩
  obtain ⟨x6, hx6⟩ : ∃ x, x = (256 * (a6.toNat : Int) + (a7.toNat : Int)) := ⟨_, rfl⟩
  have y0 : 0 ≤ x0 := by omega
  have y0' : x0 ≤ 255 := by omega
  have y6 : 0 ≤ x6 := by omega
  have y6' : x6 ≤ 65535 := by omega
  have w0 : IntKind.i64.wrap x0 = x0 := wrap_i64 _ (by omega) (by omega)
  rw [← hx6] at O6
  rw [← hx0] at i0
  have t1 : x0 / 16 = 4 := by omega
  have t2 : x0 % 16 < 5 := by omega
  obtain ⟨x2, hx2⟩ : ∃ x, x = (256 * (a2.toNat : Int) + (a3.toNat : Int)) := ⟨_, rfl⟩
  rw [← hx2] at O2
  rw [← hS]
  clear hS hz hx0 hx6 p0 p2 p3 p6 p7 hl hx2 h1 h2
  go_enter Try.func24, Try.ntmps24
  go_wp2_with fail
  refine (unhide O2 _).mono ?_
  rintro ee wz ⟨rfl, hwz⟩
  rw [hwz]
  clear hwz wz
  go_wp2_with fail
  refine (unhide O6 _).mono ?_
  rintro ee wz ⟨rfl, hwz⟩
  rw [hwz]
  clear hwz wz
  go_wp2
  exact bodyPost_ret (v := .tuple #[.agg #[.int .u16 0, .int .u8 0, .int .u8 0, .int .u32 0, .int .u32 0, .string ⟨#[]⟩], .int .i64 2]) (by simp [results, Try.results24, go_sem]) rfl ⟨rfl, (Below.refl _ _).alloc (Nat.le_refl _) _⟩

set_option maxHeartbeats 4000000 in
set_option maxRecDepth 10000 in
theorem ip_opt (a0 a1 a2 a3 a4 a5 a6 a7 a8 a9 a10 a11 a12 a13 a14 a15 a16 a17 a18 a19 : UInt8) (l : List UInt8) (w : World) (hl : l.length + 20 ≤ 9223372036854775807) (h1 : a0.toNat / 16 = 4) (h2 : 5 < a0.toNat % 16) :
    Calls Try.prog 24 #[.string ⟨(a0 :: a1 :: a2 :: a3 :: a4 :: a5 :: a6 :: a7 :: a8 :: a9 :: a10 :: a11 :: a12 :: a13 :: a14 :: a15 :: a16 :: a17 :: a18 :: a19 :: l).toArray⟩] w fun ee w' => ee = .returned (.tuple #[.agg #[.int .u16 0, .int .u8 0, .int .u8 0, .int .u32 0, .int .u32 0, .string ⟨#[]⟩], .int .i64 4]) ∧ Below w.heap.size w w' := by
  obtain ⟨s, hS⟩ : ∃ s : ByteArray, s = ⟨(a0 :: a1 :: a2 :: a3 :: a4 :: a5 :: a6 :: a7 :: a8 :: a9 :: a10 :: a11 :: a12 :: a13 :: a14 :: a15 :: a16 :: a17 :: a18 :: a19 :: l).toArray⟩ := ⟨_, rfl⟩
  have hz : s.size = l.length + 20 := by rw [hS, str_size]; simp
  have hmx : (s.size : Int) ≤ 9223372036854775807 := by omega
  have k20 : (20 : Int) ≤ (s.size : Int) := by omega
  have k20' : ¬ (s.size : Int) < 20 := by omega
  have k2 : (2 : Int) ≤ (s.size : Int) := by omega
  have k4 : (4 : Int) ≤ (s.size : Int) := by omega
  have k6 : (6 : Int) ≤ (s.size : Int) := by omega
  have k8 : (8 : Int) ≤ (s.size : Int) := by omega
  have k9 : (9 : Int) ≤ (s.size : Int) := by omega
  have k12 : (12 : Int) ≤ (s.size : Int) := by omega
  have k16 : (16 : Int) ≤ (s.size : Int) := by omega
  have O2 : Hid (∀ u : World, Calls Try.prog 45 #[.string (s.extract 2 4)] u fun ee w' => ee = .returned (.int .i64 (256 * (a2.toNat : Int) + (a3.toNat : Int))) ∧ w' = u) := hide (fun u => by
    have e1 : s.extract 2 4 = ⟨#[a2, a3]⟩ := by rw [hS]; apply ByteArray.ext; rw [ByteArray.data_extract]; apply Array.ext'; simp
    rw [e1]
    have q := of_any ⟨#[a2, a3]⟩ u (show 2 ≤ 4 by omega)
    rw [show ofL (⟨#[a2, a3]⟩ : ByteArray).data.toList = (256 * (a2.toNat : Int) + (a3.toNat : Int)) from by simp [ofL]] at q
    exact q)
  have O6 : Hid (∀ u : World, Calls Try.prog 45 #[.string (s.extract 6 8)] u fun ee w' => ee = .returned (.int .i64 (256 * (a6.toNat : Int) + (a7.toNat : Int))) ∧ w' = u) := hide (fun u => by
    have e1 : s.extract 6 8 = ⟨#[a6, a7]⟩ := by rw [hS]; apply ByteArray.ext; rw [ByteArray.data_extract]; apply Array.ext'; simp
    rw [e1]
    have q := of_any ⟨#[a6, a7]⟩ u (show 2 ≤ 4 by omega)
    rw [show ofL (⟨#[a6, a7]⟩ : ByteArray).data.toList = (256 * (a6.toNat : Int) + (a7.toNat : Int)) from by simp [ofL]] at q
    exact q)
  have i0 : ∀ u, (Instr.index 9 (.string s) (.int .i64 0)).run Try.prog u = .ok (.int .u8 a0.toNat) u := fun _ => by rw [hS]; kernel_rfl
  have p0 := a0.toNat_lt
  have p2 := a2.toNat_lt
  have p3 := a3.toNat_lt
  have p6 := a6.toNat_lt
  have p7 := a7.toNat_lt
  obtain ⟨x0, hx0⟩ : ∃ x, x = (a0.toNat : Int) := ⟨_, rfl⟩
  obtain ⟨x6, hx6⟩ : ∃ x, x = (256 * (a6.toNat : Int) + (a7.toNat : Int)) := ⟨_, rfl⟩
  have y0 : 0 ≤ x0 := by omega
  have y0' : x0 ≤ 255 := by omega
  have y6 : 0 ≤ x6 := by omega
  have y6' : x6 ≤ 65535 := by omega
  have w0 : IntKind.i64.wrap x0 = x0 := wrap_i64 _ (by omega) (by omega)
  rw [← hx6] at O6
  rw [← hx0] at i0
  have t1 : x0 / 16 = 4 := by omega
  have t2 : ¬ x0 % 16 < 5 := by omega
  have t3 : 5 < x0 % 16 := by omega
  obtain ⟨x2, hx2⟩ : ∃ x, x = (256 * (a2.toNat : Int) + (a3.toNat : Int)) := ⟨_, rfl⟩
  rw [← hx2] at O2
  rw [← hS]
  clear hS hz hx0 hx6 p0 p2 p3 p6 p7 hl hx2 h1 h2
  go_enter Try.func24, Try.ntmps24
  go_wp2_with fail
  refine (unhide O2 _).mono ?_
  rintro ee wz ⟨rfl, hwz⟩
  rw [hwz]
  clear hwz wz
  go_wp2_with fail
  refine (unhide O6 _).mono ?_
  rintro ee wz ⟨rfl, hwz⟩
  rw [hwz]
  clear hwz wz
  go_wp2
  exact bodyPost_ret (v := .tuple #[.agg #[.int .u16 0, .int .u8 0, .int .u8 0, .int .u32 0, .int .u32 0, .string ⟨#[]⟩], .int .i64 4]) (by simp [results, Try.results24, go_sem]) rfl ⟨rfl, (Below.refl _ _).alloc (Nat.le_refl _) _⟩
end Go.Proofs.Ytadkcdcdgphhpaa.Rr

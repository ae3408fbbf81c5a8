import Derived.Test.YtadkcdcdgphhpaaRefReadI
namespace Go.Proofs.Ytadkcdcdgphhpaa.Rr
open Go.ChangeShapes Go.WideShapes Go.ChangeAt Go.RowKit Bs Rd
open Ip (chk chk_bd)
set_option linter.unusedVariables false
set_option linter.unusedSimpArgs false

set_option maxHeartbeats 4000000 in
set_option maxRecDepth 10000 in
theorem ip_ok (a0 a1 a2 a3 a4 a5 a6 a7 a8 a9 a10 a11 a12 a13 a14 a15 a16 a17 a18 a19 : UInt8) (l : List UInt8) (w : World) (hl : l.length + 20 ≤ 9223372036854775807) (h0 : a0.toNat = 69) (k : Nat) (hn : (256 * (a2.toNat : Int) + (a3.toNat : Int)) = 20 + (k : Int)) (hk : k ≤ l.length) (hsum : chk [a0, a1, a2, a3, a4, a5, a6, a7, a8, a9, a10, a11, a12, a13, a14, a15, a16, a17, a18, a19] = 0) (hf : (256 * (a6.toNat : Int) + (a7.toNat : Int)) < 32768) (ht : (a8.toNat : Int) ≠ 0) (hp : (256 * (a6.toNat : Int) + (a7.toNat : Int)) % 16384 = 0) :
    Calls Try.prog 24 #[.string ⟨(a0 :: a1 :: a2 :: a3 :: a4 :: a5 :: a6 :: a7 :: a8 :: a9 :: a10 :: a11 :: a12 :: a13 :: a14 :: a15 :: a16 :: a17 :: a18 :: a19 :: l).toArray⟩] w fun ee w' => ee = .returned (.tuple #[.agg #[.int .u16 (256 * (a4.toNat : Int) + (a5.toNat : Int)), .int .u8 (a8.toNat : Int), .int .u8 (a9.toNat : Int), .int .u32 (16777216 * (a12.toNat : Int) + 65536 * (a13.toNat : Int) + 256 * (a14.toNat : Int) + (a15.toNat : Int)), .int .u32 (16777216 * (a16.toNat : Int) + 65536 * (a17.toNat : Int) + 256 * (a18.toNat : Int) + (a19.toNat : Int)), .string ⟨(l.take k).toArray⟩], .int .i64 0]) ∧ Below w.heap.size w w' := by
  obtain ⟨s, hS⟩ : ∃ s : ByteArray, s = ⟨(a0 :: a1 :: a2 :: a3 :: a4 :: a5 :: a6 :: a7 :: a8 :: a9 :: a10 :: a11 :: a12 :: a13 :: a14 :: a15 :: a16 :: a17 :: a18 :: a19 :: l).toArray⟩ := ⟨_, rfl⟩
  have hz : s.size = l.length + 20 := by rw [hS, str_size]; simp
  have hmx : (s.size : Int) ≤ 9223372036854775807 := by omega
  have k20 : (20 : Int) ≤ (s.size : Int) := by omega
  have k20' : ¬ (s.size : Int) < 20 := by omega
  have k2 : (2 : Int) ≤ (s.size : Int) := by omega
  have k4 : (4 : Int) ≤ (s.size : Int) := by omega
  have k6 : (6 : Int) ≤ (s.size : Int) := by omega
  have k8 : (8 : Int) ≤ (s.size : Int) := by omega
  have k9 : (9 : Int) ≤ (s.size : Int) := by omega
  have k12 : (12 : Int) ≤ (s.size : Int) := by omega
  have k16 : (16 : Int) ≤ (s.size : Int) := by omega
  have O2 : Hid (∀ u : World, Calls Try.prog 45 #[.string (s.extract 2 4)] u fun ee w' => ee = .returned (.int .i64 (256 * (a2.toNat : Int) + (a3.toNat : Int))) ∧ w' = u) := hide (fun u => by
    have e1 : s.extract 2 4 = ⟨#[a2, a3]⟩ := by rw [hS]; apply ByteArray.ext; rw [ByteArray.data_extract]; apply Array.ext'; simp
    rw [e1]
    have q := of_any ⟨#[a2, a3]⟩ u (show 2 ≤ 4 by omega)
    rw [show ofL (⟨#[a2, a3]⟩ : ByteArray).data.toList = (256 * (a2.toNat : Int) + (a3.toNat : Int)) from by simp [ofL]] at q
    exact q)
  have O6 : Hid (∀ u : World, Calls Try.prog 45 #[.string (s.extract 6 8)] u fun ee w' => ee = .returned (.int .i64 (256 * (a6.toNat : Int) + (a7.toNat : Int))) ∧ w' = u) := hide (fun u => by
    have e1 : s.extract 6 8 = ⟨#[a6, a7]⟩ := by rw [hS]; apply ByteArray.ext; rw [ByteArray.data_extract]; apply Array.ext'; simp
    rw [e1]
    have q := of_any ⟨#[a6, a7]⟩ u (show 2 ≤ 4 by omega)
    rw [show ofL (⟨#[a6, a7]⟩ : ByteArray).data.toList = (256 * (a6.toNat : Int) + (a7.toNat : Int)) from by simp [ofL]] at q
    exact q)
  have i0 : ∀ u, (Instr.index 9 (.string s) (.int .i64 0)).run Try.prog u = .ok (.int .u8 a0.toNat) u := fun _ => by rw [hS]; kernel_rfl
  have i8 : ∀ u, (Instr.index 9 (.string s) (.int .i64 8)).run Try.prog u = .ok (.int .u8 a8.toNat) u := fun _ => by rw [hS]; kernel_rfl
  have i9 : ∀ u, (Instr.index 9 (.string s) (.int .i64 9)).run Try.prog u = .ok (.int .u8 a9.toNat) u := fun _ => by rw [hS]; kernel_rfl
  have p0 := a0.toNat_lt
  have p2 := a2.toNat_lt
  have p3 := a3.toNat_lt
  have p6 := a6.toNat_lt
  have p7 := a7.toNat_lt
  obtain ⟨x0, hx0⟩ : ∃ x, x = (a0.toNat : Int) := ⟨_, rfl⟩
  obtain ⟨x6, hx6⟩ : ∃ x, x = (256 * (a6.toNat : Int) + (a7.toNat : Int)) := ⟨_, rfl⟩
  have y0 : 0 ≤ x0 := by omega
  have y0' : x0 ≤ 255 := by omega
  have y6 : 0 ≤ x6 := by omega
  have y6' : x6 ≤ 65535 := by omega
  have w0 : IntKind.i64.wrap x0 = x0 := wrap_i64 _ (by omega) (by omega)
  rw [← hx6] at O6
  rw [← hx0] at i0
  have t1 : x0 / 16 = 4 := by omega
  have t2 : x0 % 16 = 5 := by omega
  obtain ⟨m, hm⟩ : ∃ m : Nat, m = 20 + k := ⟨_, rfl⟩
  have hxm : (256 * (a2.toNat : Int) + (a3.toNat : Int)) = (m : Int) := by omega
  rw [hxm] at O2
  have m0 : (20 : Int) ≤ (m : Int) := by omega
  have m1 : (m : Int) ≤ (s.size : Int) := by omega
  have d0 : decide ((m : Int) < 20) = false := by simp; omega
  have d1 : decide ((s.size : Int) < (m : Int)) = false := by simp; omega
  have TC := (fun u => Chk.ref_check (s.extract 0 20) u (by rw [ByteArray.size_extract]; omega))
  have ec : 65535 - Chk.fold (Chk.wsum (s.extract 0 20).data.toList) = chk [a0, a1, a2, a3, a4, a5, a6, a7, a8, a9, a10, a11, a12, a13, a14, a15, a16, a17, a18, a19] := by
    rw [hS, str_take]; simp [chk]
  obtain ⟨c, hc⟩ : ∃ c, c = chk [a0, a1, a2, a3, a4, a5, a6, a7, a8, a9, a10, a11, a12, a13, a14, a15, a16, a17, a18, a19] := ⟨_, rfl⟩
  rw [ec, ← hc] at TC
  rw [← hc] at hsum
  have TC := hide TC
  subst hsum
  have t4 : x6 < 32768 := by omega
  have d4 : decide (32768 ≤ x6) = false := by simp; omega
  obtain ⟨x8, hx8⟩ : ∃ x, x = (a8.toNat : Int) := ⟨_, rfl⟩
  rw [← hx8] at i8 ht
  have t5 : (x8 == 0) = false := by simpa using ht
  have t6 : x6 % 16384 = 0 := by omega
  have O4 : Hid (∀ u : World, Calls Try.prog 45 #[.string (s.extract 4 6)] u fun ee w' => ee = .returned (.int .i64 (256 * (a4.toNat : Int) + (a5.toNat : Int))) ∧ w' = u) := hide (fun u => by
    have e1 : s.extract 4 6 = ⟨#[a4, a5]⟩ := by rw [hS]; apply ByteArray.ext; rw [ByteArray.data_extract]; apply Array.ext'; simp
    rw [e1]
    have q := of_any ⟨#[a4, a5]⟩ u (show 2 ≤ 4 by omega)
    rw [show ofL (⟨#[a4, a5]⟩ : ByteArray).data.toList = (256 * (a4.toNat : Int) + (a5.toNat : Int)) from by simp [ofL]] at q
    exact q)
  have I0 : Hid (∀ u : World, Calls Try.prog 51 #[.string (s.extract 12 16)] u fun ee w' => ee = .returned (.int .u32 (16777216 * (a12.toNat : Int) + 65536 * (a13.toNat : Int) + 256 * (a14.toNat : Int) + (a15.toNat : Int))) ∧ w' = u) := hide (fun u => by
    have e1 : s.extract 12 16 = ⟨#[a12, a13, a14, a15]⟩ := by rw [hS]; apply ByteArray.ext; rw [ByteArray.data_extract]; apply Array.ext'; simp
    rw [e1]; exact ipOf_any a12 a13 a14 a15 u)
  have I1 : Hid (∀ u : World, Calls Try.prog 51 #[.string (s.extract 16 20)] u fun ee w' => ee = .returned (.int .u32 (16777216 * (a16.toNat : Int) + 65536 * (a17.toNat : Int) + 256 * (a18.toNat : Int) + (a19.toNat : Int))) ∧ w' = u) := hide (fun u => by
    have e1 : s.extract 16 20 = ⟨#[a16, a17, a18, a19]⟩ := by rw [hS]; apply ByteArray.ext; rw [ByteArray.data_extract]; apply Array.ext'; simp
    rw [e1]; exact ipOf_any a16 a17 a18 a19 u)
  have eL : s.extract 20 m = ⟨(l.take k).toArray⟩ := by
    rw [hS, hm]; apply ByteArray.ext; rw [ByteArray.data_extract]; apply Array.ext'; simp
  have p4 := a4.toNat_lt
  have p5 := a5.toNat_lt
  obtain ⟨x4, hx4⟩ : ∃ x, x = (256 * (a4.toNat : Int) + (a5.toNat : Int)) := ⟨_, rfl⟩
  obtain ⟨x12, hx12⟩ : ∃ x, x = (16777216 * (a12.toNat : Int) + 65536 * (a13.toNat : Int) + 256 * (a14.toNat : Int) + (a15.toNat : Int)) := ⟨_, rfl⟩
  obtain ⟨x16, hx16⟩ : ∃ x, x = (16777216 * (a16.toNat : Int) + 65536 * (a17.toNat : Int) + 256 * (a18.toNat : Int) + (a19.toNat : Int)) := ⟨_, rfl⟩
  obtain ⟨x9, hx9⟩ : ∃ x, x = (a9.toNat : Int) := ⟨_, rfl⟩
  have w4 : IntKind.u16.wrap x4 = x4 := by rw [IntKind.wrap_u16]; omega
  rw [← eL, ← hx4, ← hx12, ← hx16, ← hx9, ← hx8]
  rw [← hx4] at O4
  rw [← hx12] at I0
  rw [← hx16] at I1
  rw [← hx9] at i9
  clear eL hx4 hx12 hx16 hx9 p4 p5 ht
  rw [← hS]
  clear hS hz hx0 hx6 p0 p2 p3 p6 p7 hl hxm hm ec hc hn hk hx8 h0 hf hp
  go_enter Try.func24, Try.ntmps24
  go_wp2_with fail
  refine (unhide O2 _).mono ?_
  rintro ee wz ⟨rfl, hwz⟩
  rw [hwz]
  clear hwz wz
  go_wp2_with fail
  refine (unhide O6 _).mono ?_
  rintro ee wz ⟨rfl, hwz⟩
  rw [hwz]
  clear hwz wz
  go_wp2_with fail
  refine (unhide TC _).mono ?_
  rintro ee wz ⟨rfl, nn, hwz⟩
  have hr : wz.heap[w.heap.size]? = some (.cells #[.int .u16 0, .int .u8 0, .int .u8 0, .int .u32 0, .int .u32 0, .string ⟨#[]⟩] 43 (0, 0)) := by rw [hwz]; exact heap_alloc_new w _
  have HB : Hid (Below w.heap.size w wz) := hide (by rw [hwz]; exact below_drewN ((Below.refl _ _).alloc (Nat.le_refl _) _) _)
  have q0 : wz.cell? ⟨w.heap.size, 0, none⟩ = some (.int .u16 0) := EtR.row_cell hr rfl
  have q1 : wz.cell? ⟨w.heap.size, 1, none⟩ = some (.int .u8 0) := EtR.row_cell hr rfl
  have q2 : wz.cell? ⟨w.heap.size, 2, none⟩ = some (.int .u8 0) := EtR.row_cell hr rfl
  have q3 : wz.cell? ⟨w.heap.size, 3, none⟩ = some (.int .u32 0) := EtR.row_cell hr rfl
  have q4 : wz.cell? ⟨w.heap.size, 4, none⟩ = some (.int .u32 0) := EtR.row_cell hr rfl
  have q5 : wz.cell? ⟨w.heap.size, 5, none⟩ = some (.string ⟨#[]⟩) := EtR.row_cell hr rfl
  have kd := EtR.row_free hr
  clear hwz hr
  go_wp2
  clear i0 O2 O6 TC t1 t2 d0 d1 d4 t4 t5 t6 y0 y0' y6 y6' w0 k2 k8 k9
  refine wp_region_any (by kernel_rfl) ?_
  change wpAny _ _ _ _ _ _ _ (World.drew _)
  refine wpAny_take (i := 0) (v := .string s) rfl (by kernel_rfl) (by kernel_rfl) (by kernel_rfl) (fun _ _ _ h => h) (Or.inl ⟨by rfl, ?_⟩) ?_
  · intro u; go_simp
  try simp only [Act.put, List.setIfInBounds_toArray, List.set_cons_zero, List.set_cons_succ]
  refine wpAny_take (i := 1) (v := .string (s.extract 4 6)) rfl (by kernel_rfl) (by kernel_rfl) (by kernel_rfl) (fun _ _ _ h => h) (Or.inl ⟨by rfl, ?_⟩) ?_
  · intro u; go_simp
  try simp only [Act.put, List.setIfInBounds_toArray, List.set_cons_zero, List.set_cons_succ]
  refine wpAny_take (i := 4) (v := .string s) rfl (by kernel_rfl) (by kernel_rfl) (by kernel_rfl) (fun _ _ _ h => h) (Or.inl ⟨by rfl, ?_⟩) ?_
  · intro u; go_simp
  try simp only [Act.put, List.setIfInBounds_toArray, List.set_cons_zero, List.set_cons_succ]
  refine wpAny_take (i := 5) (v := .int .u8 x8) rfl (by kernel_rfl) (by kernel_rfl) (by kernel_rfl) (fun _ _ _ h => h) (Or.inl ⟨by rfl, ?_⟩) ?_
  · intro u; go_simp
  try simp only [Act.put, List.setIfInBounds_toArray, List.set_cons_zero, List.set_cons_succ]
  refine wpAny_take (i := 6) (v := .string s) rfl (by kernel_rfl) (by kernel_rfl) (by kernel_rfl) (fun _ _ _ h => h) (Or.inl ⟨by rfl, ?_⟩) ?_
  · intro u; go_simp
  try simp only [Act.put, List.setIfInBounds_toArray, List.set_cons_zero, List.set_cons_succ]
  refine wpAny_take (i := 7) (v := .int .u8 x9) rfl (by kernel_rfl) (by kernel_rfl) (by kernel_rfl) (fun _ _ _ h => h) (Or.inl ⟨by rfl, ?_⟩) ?_
  · intro u; go_simp
  try simp only [Act.put, List.setIfInBounds_toArray, List.set_cons_zero, List.set_cons_succ]
  refine wpAny_take (i := 8) (v := .string s) rfl (by kernel_rfl) (by kernel_rfl) (by kernel_rfl) (fun _ _ _ h => h) (Or.inl ⟨by rfl, ?_⟩) ?_
  · intro u; go_simp
  try simp only [Act.put, List.setIfInBounds_toArray, List.set_cons_zero, List.set_cons_succ]
  refine wpAny_take (i := 9) (v := .string (s.extract 12 16)) rfl (by kernel_rfl) (by kernel_rfl) (by kernel_rfl) (fun _ _ _ h => h) (Or.inl ⟨by rfl, ?_⟩) ?_
  · intro u; go_simp
  try simp only [Act.put, List.setIfInBounds_toArray, List.set_cons_zero, List.set_cons_succ]
  refine wpAny_take (i := 11) (v := .string s) rfl (by kernel_rfl) (by kernel_rfl) (by kernel_rfl) (fun _ _ _ h => h) (Or.inl ⟨by rfl, ?_⟩) ?_
  · intro u; go_simp
  try simp only [Act.put, List.setIfInBounds_toArray, List.set_cons_zero, List.set_cons_succ]
  refine wpAny_take (i := 12) (v := .string (s.extract 16 20)) rfl (by kernel_rfl) (by kernel_rfl) (by kernel_rfl) (fun _ _ _ h => h) (Or.inl ⟨by rfl, ?_⟩) ?_
  · intro u; go_simp
  try simp only [Act.put, List.setIfInBounds_toArray, List.set_cons_zero, List.set_cons_succ]
  refine wpAny_take (i := 14) (v := .string s) rfl (by kernel_rfl) (by kernel_rfl) (by kernel_rfl) (fun _ _ _ h => h) (Or.inl ⟨by rfl, ?_⟩) ?_
  · intro u; go_simp
  try simp only [Act.put, List.setIfInBounds_toArray, List.set_cons_zero, List.set_cons_succ]
  refine wpAny_take (i := 15) (v := .int .i64 m) rfl (by kernel_rfl) (by kernel_rfl) (by kernel_rfl) (fun _ _ _ h => h) (Or.inl ⟨by rfl, ?_⟩) ?_
  · intro u; go_simp
  try simp only [Act.put, List.setIfInBounds_toArray, List.set_cons_zero, List.set_cons_succ]
  refine wpAny_take (i := 16) (v := .string (s.extract 20 m)) rfl (by kernel_rfl) (by kernel_rfl) (by kernel_rfl) (fun _ _ _ h => h) (Or.inl ⟨by rfl, ?_⟩) ?_
  · intro u; go_simp
  try simp only [Act.put, List.setIfInBounds_toArray, List.set_cons_zero, List.set_cons_succ]
  refine wpAny_ready (rs := [2]) (by kernel_rfl) (by simp) ?_
  refine AllReady.cons rfl (fun K hK => ?_) AllReady.nil
  go_simp
  refine (unhide O4 _).mono ?_
  rintro ee u2 ⟨rfl, hu⟩
  rw [hu]
  clear hu u2
  refine hK _ _ ?_
  clear hK K
  try simp only [Act.put, List.setIfInBounds_toArray, List.set_cons_zero, List.set_cons_succ]
  refine wpAny_take (i := 3) (v := .int .u16 x4) rfl (by kernel_rfl) (by kernel_rfl) (by kernel_rfl) (fun _ _ _ h => h) (Or.inl ⟨by rfl, ?_⟩) ?_
  · intro u; go_simp
  try simp only [Act.put, List.setIfInBounds_toArray, List.set_cons_zero, List.set_cons_succ]
  refine wpAny_ready (rs := [10]) (by kernel_rfl) (by simp) ?_
  refine AllReady.cons rfl (fun K hK => ?_) AllReady.nil
  go_simp
  refine (unhide I0 _).mono ?_
  rintro ee u2 ⟨rfl, hu⟩
  rw [hu]
  clear hu u2
  refine hK _ _ ?_
  clear hK K
  try simp only [Act.put, List.setIfInBounds_toArray, List.set_cons_zero, List.set_cons_succ]
  refine wpAny_ready (rs := [13]) (by kernel_rfl) (by simp) ?_
  refine AllReady.cons rfl (fun K hK => ?_) AllReady.nil
  go_simp
  refine (unhide I1 _).mono ?_
  rintro ee u2 ⟨rfl, hu⟩
  rw [hu]
  clear hu u2
  refine hK _ _ ?_
  clear hK K
  try simp only [Act.put, List.setIfInBounds_toArray, List.set_cons_zero, List.set_cons_succ]
  refine wpAny_take (i := 17) (v := .agg #[.int .u16 x4, .int .u8 x8, .int .u8 x9, .int .u32 x12, .int .u32 x16, .string (s.extract 20 m)]) rfl (by kernel_rfl) (by kernel_rfl) (by kernel_rfl) (fun _ _ _ h => h) (Or.inl ⟨by rfl, ?_⟩) ?_
  · intro u; go_simp
  try simp only [Act.put, List.setIfInBounds_toArray, List.set_cons_zero, List.set_cons_succ]
  refine wpAny_ready (rs := [18]) (by kernel_rfl) (by simp) ?_
  refine AllReady.cons rfl (fun K hK => ?_) AllReady.nil
  go_simp
  refine hK _ _ ?_
  clear hK K
  try simp only [Act.put, List.setIfInBounds_toArray, List.set_cons_zero, List.set_cons_succ]
  refine wpAny_ready (rs := [19]) (by kernel_rfl) (by simp) ?_
  refine AllReady.cons rfl (fun K hK => ?_) AllReady.nil
  go_simp
  refine hK _ _ ?_
  clear hK K
  try simp only [Act.put, List.setIfInBounds_toArray, List.set_cons_zero, List.set_cons_succ]
  refine wpAny_done (by kernel_rfl) ?_ _
  go_wp2
  refine bodyPost_ret (v := .tuple #[.agg #[.int .u16 x4, .int .u8 x8, .int .u8 x9, .int .u32 x12, .int .u32 x16, .string (s.extract 20 m)], .int .i64 0]) (by simp [results, Try.results24, go_sem, q0, q1, q2, q3, q4, q5]) rfl ⟨rfl, ?_⟩
  refine Below.drew ?_
  iterate 6 refine EtR.below_at ?_
  exact unhide HB
end Go.Proofs.Ytadkcdcdgphhpaa.Rr

import Derived.Test.YtadkcdcdgphhpaaRefReadO
namespace Go.Proofs.Ytadkcdcdgphhpaa.Rr
open Go.ChangeShapes Go.WideShapes Go.ChangeAt Go.RowKit Bs Rd
open Ip (chk chk_bd)
open Ud (udpP)
set_option linter.unusedVariables false
set_option linter.unusedSimpArgs false

set_option maxHeartbeats 4000000 in
set_option maxRecDepth 10000 in
theorem udp_sum (a0 a1 a2 a3 a4 a5 a6 a7 : UInt8) (l : List UInt8) (fr ta : Int) (w : World) (hl : l.length + 8 ≤ 262144) (hf : 0 ≤ fr ∧ fr ≤ 4294967295) (ho : 0 ≤ ta ∧ ta ≤ 4294967295) (m k : Nat) (hmk : m = 8 + k) (hn : (256 * (a4.toNat : Int) + (a5.toNat : Int)) = (m : Int)) (hk : k ≤ l.length) (hm : m ≤ 65535) (hq0 : (256 * (a6.toNat : Int) + (a7.toNat : Int)) ≠ 0) (hsum : chk (udpP fr ta (m : Int) ++ (a0 :: a1 :: a2 :: a3 :: a4 :: a5 :: a6 :: a7 :: l).take m) ≠ 0) :
    Calls Try.prog 28 #[.string ⟨(a0 :: a1 :: a2 :: a3 :: a4 :: a5 :: a6 :: a7 :: l).toArray⟩, .int .u32 fr, .int .u32 ta] w fun ee w' => ee = .returned (.tuple #[.agg #[.int .u16 0, .int .u16 0, .string ⟨#[]⟩], .int .i64 6]) ∧ Below w.heap.size w w' := by
  obtain ⟨s, hS⟩ : ∃ s : ByteArray, s = ⟨(a0 :: a1 :: a2 :: a3 :: a4 :: a5 :: a6 :: a7 :: l).toArray⟩ := ⟨_, rfl⟩
  have hz : s.size = l.length + 8 := by rw [hS, str_size]; simp
  have hmx : (s.size : Int) ≤ 9223372036854775807 := by omega
  have k8' : ¬ (s.size : Int) < 8 := by omega
  have k2 : (2 : Int) ≤ (s.size : Int) := by omega
  have k4 : (4 : Int) ≤ (s.size : Int) := by omega
  have k6 : (6 : Int) ≤ (s.size : Int) := by omega
  have k8 : (8 : Int) ≤ (s.size : Int) := by omega
  have O4 : Hid (∀ u : World, Calls Try.prog 45 #[.string (s.extract 4 6)] u fun ee w' => ee = .returned (.int .i64 (256 * (a4.toNat : Int) + (a5.toNat : Int))) ∧ w' = u) := hide (fun u => by
    have e1 : s.extract 4 6 = ⟨#[a4, a5]⟩ := by rw [hS]; apply ByteArray.ext; rw [ByteArray.data_extract]; apply Array.ext'; simp
    rw [e1]
    have q := of_any ⟨#[a4, a5]⟩ u (show 2 ≤ 4 by omega)
    rw [show ofL (⟨#[a4, a5]⟩ : ByteArray).data.toList = (256 * (a4.toNat : Int) + (a5.toNat : Int)) from by simp [ofL]] at q
    exact q)
  have O6 : Hid (∀ u : World, Calls Try.prog 45 #[.string (s.extract 6 8)] u fun ee w' => ee = .returned (.int .i64 (256 * (a6.toNat : Int) + (a7.toNat : Int))) ∧ w' = u) := hide (fun u => by
    have e1 : s.extract 6 8 = ⟨#[a6, a7]⟩ := by rw [hS]; apply ByteArray.ext; rw [ByteArray.data_extract]; apply Array.ext'; simp
    rw [e1]
    have q := of_any ⟨#[a6, a7]⟩ u (show 2 ≤ 4 by omega)
    rw [show ofL (⟨#[a6, a7]⟩ : ByteArray).data.toList = (256 * (a6.toNat : Int) + (a7.toNat : Int)) from by simp [ofL]] at q
    exact q)
  rw [hn] at O4
  have m0 : (8 : Int) ≤ (m : Int) := by omega
  have m1 : (m : Int) ≤ (s.size : Int) := by omega
  have d0 : decide ((m : Int) < 8) = false := by simp; omega
  have d1 : decide ((s.size : Int) < (m : Int)) = false := by simp; omega
  obtain ⟨x6, hx6⟩ : ∃ x, x = (256 * (a6.toNat : Int) + (a7.toNat : Int)) := ⟨_, rfl⟩
  rw [← hx6] at O6 hq0
  have hqn : (x6 == 0) = false := by simpa using hq0
  obtain ⟨Pb, hPb⟩ : ∃ Pb : ByteArray, Pb = ⟨(udpP fr ta (m : Int)).toArray⟩ := ⟨_, rfl⟩
  have HBe := hide (fun u => Ud.beside_any fr ta (m : Int) u hf ho (by omega))
  rw [← hPb] at HBe
  have hPz : Pb.size = 12 := by rw [hPb]; rfl
  have hxz : (s.extract 0 m).size = m := by rw [ByteArray.size_extract]; omega
  have hadd := fun u => run_string_add_sum (P := Try.prog) u Pb (s.extract 0 m) (by rw [hPz, hxz]; omega)
  have TC := (fun u => Chk.ref_check (Pb ++ s.extract 0 m) u (by rw [ByteArray.size_append, hPz, hxz]; omega))
  have ec : 65535 - Chk.fold (Chk.wsum (Pb ++ s.extract 0 m).data.toList) = chk (udpP fr ta (m : Int) ++ (a0 :: a1 :: a2 :: a3 :: a4 :: a5 :: a6 :: a7 :: l).take m) := by
    have e2 : (Pb ++ s.extract 0 m).data.toList = udpP fr ta (m : Int) ++ (a0 :: a1 :: a2 :: a3 :: a4 :: a5 :: a6 :: a7 :: l).take m := by rw [ByteArray.data_append, hS, str_take, hPb]; simp
    rw [e2]; rfl
  obtain ⟨c, hc⟩ : ∃ c, c = chk (udpP fr ta (m : Int) ++ (a0 :: a1 :: a2 :: a3 :: a4 :: a5 :: a6 :: a7 :: l).take m) := ⟨_, rfl⟩
  rw [ec, ← hc] at TC
  rw [← hc] at hsum
  have TC := hide TC
  have hcn : (c == 0) = false := by simpa using hsum
  rw [← hS]
  clear hS hz hl hPb hPz hxz ec hc hx6 hmk hn hk hm
  go_enter Try.func28, Try.ntmps28
  go_wp2_with fail
  refine (unhide O4 _).mono ?_
  rintro ee wz ⟨rfl, hwz⟩
  rw [hwz]
  clear hwz wz
  go_wp2
  refine wp_region_any (by kernel_rfl) ?_
  change wpAny _ _ _ _ _ _ _ (World.drew _)
  refine wpAny_take (i := 0) (v := .string s) rfl (by kernel_rfl) (by kernel_rfl) (by kernel_rfl) (fun _ _ _ h => h) (Or.inl ⟨by rfl, ?_⟩) ?_
  · intro u; go_simp
  try simp only [Act.put, List.setIfInBounds_toArray, List.set_cons_zero, List.set_cons_succ]
  refine wpAny_take (i := 1) (v := .string (s.extract 6 8)) rfl (by kernel_rfl) (by kernel_rfl) (by kernel_rfl) (fun _ _ _ h => h) (Or.inl ⟨by rfl, ?_⟩) ?_
  · intro u; go_simp
  try simp only [Act.put, List.setIfInBounds_toArray, List.set_cons_zero, List.set_cons_succ]
  refine wpAny_ready (rs := [2]) (by kernel_rfl) (by simp) ?_
  refine AllReady.cons rfl (fun K hK => ?_) AllReady.nil
  go_simp
  refine (unhide O6 _).mono ?_
  rintro ee u2 ⟨rfl, hu⟩
  rw [hu]
  clear hu u2
  refine hK _ _ ?_
  clear hK K
  try simp only [Act.put, List.setIfInBounds_toArray, List.set_cons_zero, List.set_cons_succ]
  refine wpAny_take (i := 3) (v := .bool true) rfl (by kernel_rfl) (by kernel_rfl) (by kernel_rfl) (fun _ _ _ h => h) (Or.inl ⟨by rfl, ?_⟩) ?_
  · intro u; go_simp
  try simp only [Act.put, List.setIfInBounds_toArray, List.set_cons_zero, List.set_cons_succ]
  refine wpAny_take (i := 4) (v := .bool true) rfl (by kernel_rfl) (by kernel_rfl) (by kernel_rfl) (fun _ _ _ h => h) (Or.inl ⟨by rfl, ?_⟩) ?_
  · intro u; go_simp
  try simp only [Act.put, List.setIfInBounds_toArray, List.set_cons_zero, List.set_cons_succ]
  refine wpAny_take (i := 5) (v := .int .u32 fr) rfl (by kernel_rfl) (by kernel_rfl) (by kernel_rfl) (fun _ _ _ h => h) (Or.inl ⟨by rfl, ?_⟩) ?_
  · intro u; go_simp
  try simp only [Act.put, List.setIfInBounds_toArray, List.set_cons_zero, List.set_cons_succ]
  refine wpAny_take (i := 6) (v := .int .u32 ta) rfl (by kernel_rfl) (by kernel_rfl) (by kernel_rfl) (fun _ _ _ h => h) (Or.inl ⟨by rfl, ?_⟩) ?_
  · intro u; go_simp
  try simp only [Act.put, List.setIfInBounds_toArray, List.set_cons_zero, List.set_cons_succ]
  refine wpAny_take (i := 7) (v := .int .i64 m) rfl (by kernel_rfl) (by kernel_rfl) (by kernel_rfl) (fun _ _ _ h => h) (Or.inl ⟨by rfl, ?_⟩) ?_
  · intro u; go_simp
  try simp only [Act.put, List.setIfInBounds_toArray, List.set_cons_zero, List.set_cons_succ]
  refine wpAny_take (i := 9) (v := .string s) rfl (by kernel_rfl) (by kernel_rfl) (by kernel_rfl) (fun _ _ _ h => h) (Or.inl ⟨by rfl, ?_⟩) ?_
  · intro u; go_simp
  try simp only [Act.put, List.setIfInBounds_toArray, List.set_cons_zero, List.set_cons_succ]
  refine wpAny_take (i := 10) (v := .int .i64 m) rfl (by kernel_rfl) (by kernel_rfl) (by kernel_rfl) (fun _ _ _ h => h) (Or.inl ⟨by rfl, ?_⟩) ?_
  · intro u; go_simp
  try simp only [Act.put, List.setIfInBounds_toArray, List.set_cons_zero, List.set_cons_succ]
  refine wpAny_take (i := 11) (v := .string (s.extract 0 m)) rfl (by kernel_rfl) (by kernel_rfl) (by kernel_rfl) (fun _ _ _ h => h) (Or.inl ⟨by rfl, ?_⟩) ?_
  · intro u; go_simp
  try simp only [Act.put, List.setIfInBounds_toArray, List.set_cons_zero, List.set_cons_succ]
  refine wpAny_ready (rs := [8]) (by kernel_rfl) (by simp) ?_
  refine AllReady.cons rfl (fun K hK => ?_) AllReady.nil
  go_simp
  refine (unhide HBe _).mono ?_
  rintro ee u1 ⟨rfl, hb1⟩
  have hB1 : Below (w.heap.size + 1) (w.alloc (.cells #[.int .u16 0, .int .u16 0, .string ⟨#[]⟩] 49)) u1 := ((Below.refl _ _).drew).trans (hb1.mono (by simp))
  clear hb1
  refine hK _ _ ?_
  clear hK K
  try simp only [Act.put, List.setIfInBounds_toArray, List.set_cons_zero, List.set_cons_succ]
  refine wpAny_take (i := 12) (v := .string (Pb ++ s.extract 0 m)) rfl (by kernel_rfl) (by kernel_rfl) (by kernel_rfl) (fun _ _ _ h => h) (Or.inl ⟨by rfl, ?_⟩) ?_
  · intro u; go_simp
  try simp only [Act.put, List.setIfInBounds_toArray, List.set_cons_zero, List.set_cons_succ]
  refine wpAny_ready (rs := [13]) (by kernel_rfl) (by simp) ?_
  refine AllReady.cons rfl (fun K hK => ?_) AllReady.nil
  go_simp
  refine (unhide TC _).mono ?_
  rintro ee u2 ⟨rfl, nn, hu1⟩
  have hB2 : Below (w.heap.size + 1) (w.alloc (.cells #[.int .u16 0, .int .u16 0, .string ⟨#[]⟩] 49)) u2 := (by rw [hu1]; exact below_drewN hB1 nn)
  have q0 : u2.cell? ⟨w.heap.size, 0, none⟩ = some (.int .u16 0) := EtR.row_cell (rowB hB2) rfl
  have q1 : u2.cell? ⟨w.heap.size, 1, none⟩ = some (.int .u16 0) := EtR.row_cell (rowB hB2) rfl
  have q2 : u2.cell? ⟨w.heap.size, 2, none⟩ = some (.string ⟨#[]⟩) := EtR.row_cell (rowB hB2) rfl
  have kd := EtR.row_free (rowB hB2)
  have HB := hide hB2
  clear hu1 hB1 hB2
  refine hK _ _ ?_
  clear hK K
  try simp only [Act.put, List.setIfInBounds_toArray, List.set_cons_zero, List.set_cons_succ]
  refine wpAny_take (i := 14) (v := .bool true) rfl (by kernel_rfl) (by kernel_rfl) (by kernel_rfl) (fun _ _ _ h => h) (Or.inl ⟨by rfl, ?_⟩) ?_
  · intro u; go_simp
  try simp only [Act.put, List.setIfInBounds_toArray, List.set_cons_zero, List.set_cons_succ]
  refine wpAny_ready (rs := [15]) (by kernel_rfl) (by simp) ?_
  refine AllReady.cons rfl (fun K hK => ?_) AllReady.nil
  go_simp
  refine hK _ _ ?_
  clear hK K
  try simp only [Act.put, List.setIfInBounds_toArray, List.set_cons_zero, List.set_cons_succ]
  refine wpAny_done (by kernel_rfl) ?_ _
  go_wp2
  refine bodyPost_ret (v := .tuple #[.agg #[.int .u16 0, .int .u16 0, .string ⟨#[]⟩], .int .i64 6]) (by simp [results, Try.results28, go_sem, q0, q1, q2]) rfl ⟨rfl, ?_⟩
  iterate 3 refine EtR.below_at ?_
  exact ((Below.refl _ w).alloc (Nat.le_refl _) _).trans ((unhide HB).mono (by omega))
end Go.Proofs.Ytadkcdcdgphhpaa.Rr

import Derived.Test.YtoifihhmneldeaaDoorVecFacts
import Derived.Deep.RegionHeld3
import Derived.Deep.DeepCutAuto
namespace Go.Proofs.YtoifihhmneldeaaDoor.Kp
open Go.ChangeShapes Go.WideShapes Go.ChangeAt Go.RowKit Bs
open Hs (RG kN)
set_option linter.unusedVariables false
set_option linter.unusedSimpArgs false

theorem cell_lt {w : World} {p : Addr} {v : Value} (h : w.cell? p = some v) : p.block < w.heap.size := by
  by_cases hlt : p.block < w.heap.size
  · exact hlt
  · have hn : w.heap[p.block]? = none := by simp; omega
    simp [World.cell?, hn] at h
theorem step {w u v : World} (h : Below w.heap.size w u) (hb : Below u.heap.size u v) : Below w.heap.size w v := h.trans (hb.mono h.size)
theorem made_later (u v : World) (n : Nat) (hb : Below (u.alloc (.cells (madeCells #[.int .u8 0] n) 5)).heap.size (u.alloc (.cells (madeCells #[.int .u8 0] n) 5)) v) : (convert 46 9 (.slice (some ⟨u.heap.size, 0, none⟩) n n)).run Tryd.prog v = .ok (.string ⟨(List.replicate n 0).toArray⟩) v := by
  have hr := RB.made u n
  have hr2 : RB v u.heap.size (List.replicate n 0) := (hb.block _ (by simp)).trans hr
  have h := run_convert_bytes_back (P := Tryd.prog) v 46 9 5 ⟨u.heap.size, 0, none⟩ n (List.replicate n 0) Tryd.underlying46 Tryd.underlying5 Tryd.underlying9 (fun j hj => by
    rw [add_lit', hr2.cell j hj])
  rw [List.length_replicate] at h
  exact h
/-- the packet as it lies in memory -/
def Pk (b : Nat) (BY : ByteArray) (u : World) : Prop := u.cell? ⟨b, 0, none⟩ = some (.int .u16 0) ∧ u.cell? ⟨b, 1, none⟩ = some (.int .u8 64) ∧ u.cell? ⟨b, 2, none⟩ = some (.int .u8 17) ∧ u.cell? ⟨b, 3, none⟩ = some (.int .u32 3232235521) ∧ u.cell? ⟨b, 4, none⟩ = some (.int .u32 3232235719) ∧ u.cell? ⟨b, 5, none⟩ = some (.string BY)
theorem Pk.later {u v : World} {b : Nat} {BY : ByteArray} (h : Pk b BY u) (hb : Below u.heap.size u v) : Pk b BY v := by
  obtain ⟨h0, h1, h2, h3, h4, h5⟩ := h
  exact ⟨(hb.cell (cell_lt h0)).trans h0, (hb.cell (cell_lt h1)).trans h1, (hb.cell (cell_lt h2)).trans h2, (hb.cell (cell_lt h3)).trans h3, (hb.cell (cell_lt h4)).trans h4, (hb.cell (cell_lt h5)).trans h5⟩
theorem Pk.new (u : World) (BY : ByteArray) : Pk u.heap.size BY (u.alloc (.cells #[.int .u16 0, .int .u8 64, .int .u8 17, .int .u32 3232235521, .int .u32 3232235719, .string BY] 31)) := by
  have h := heap_alloc_new u (.cells #[.int .u16 0, .int .u8 64, .int .u8 17, .int .u32 3232235521, .int .u32 3232235719, .string BY] 31)
  exact ⟨by rw [cell_of_row _ _ 0 _ _ _ h]; rfl, by rw [cell_of_row _ _ 1 _ _ _ h]; rfl, by rw [cell_of_row _ _ 2 _ _ _ h]; rfl, by rw [cell_of_row _ _ 3 _ _ _ h]; rfl, by rw [cell_of_row _ _ 4 _ _ _ h]; rfl, by rw [cell_of_row _ _ 5 _ _ _ h]; rfl⟩
/-- the two cards of the statement's package -/
def Cards2 (u : World) : Prop := u.cell? ⟨0, 0, none⟩ = some (.int .u8 2) ∧ u.cell? ⟨0, 1, none⟩ = some (.int .u8 0) ∧ u.cell? ⟨0, 2, none⟩ = some (.int .u8 0) ∧ u.cell? ⟨0, 3, none⟩ = some (.int .u8 0) ∧ u.cell? ⟨0, 4, none⟩ = some (.int .u8 0) ∧ u.cell? ⟨0, 5, none⟩ = some (.int .u8 42) ∧ u.cell? ⟨1, 0, none⟩ = some (.int .u8 2) ∧ u.cell? ⟨1, 1, none⟩ = some (.int .u8 0) ∧ u.cell? ⟨1, 2, none⟩ = some (.int .u8 0) ∧ u.cell? ⟨1, 3, none⟩ = some (.int .u8 0) ∧ u.cell? ⟨1, 4, none⟩ = some (.int .u8 0) ∧ u.cell? ⟨1, 5, none⟩ = some (.int .u8 7)
theorem Cards2.later {w u : World} (h : Cards2 w) (hb : Below w.heap.size w u) : Cards2 u := by
  obtain ⟨h0, h1, h2, h3, h4, h5, h6, h7, h8, h9, h10, h11⟩ := h
  exact ⟨(hb.cell (cell_lt h0)).trans h0, (hb.cell (cell_lt h1)).trans h1, (hb.cell (cell_lt h2)).trans h2, (hb.cell (cell_lt h3)).trans h3, (hb.cell (cell_lt h4)).trans h4, (hb.cell (cell_lt h5)).trans h5, (hb.cell (cell_lt h6)).trans h6, (hb.cell (cell_lt h7)).trans h7, (hb.cell (cell_lt h8)).trans h8, (hb.cell (cell_lt h9)).trans h9, (hb.cell (cell_lt h10)).trans h10, (hb.cell (cell_lt h11)).trans h11⟩

set_option maxHeartbeats 4000000 in
set_option maxRecDepth 10000 in
theorem vectors_walk (w : World) (hG : RG w 2 kN) (hC : Cards2 w) :
    Calls Tryd.prog 4 #[] w fun e w' => e = .returned (.bool true) ∧ Below w.heap.size w w' := by
  obtain ⟨A1, hA1⟩ : ∃ o : ByteArray, o = ⟨(hexL Hs.x_abc).toArray⟩ := ⟨_, rfl⟩
  obtain ⟨A2, hA2⟩ : ∃ o : ByteArray, o = ⟨(hexL Hs.x_nil).toArray⟩ := ⟨_, rfl⟩
  obtain ⟨A3, hA3⟩ : ∃ o : ByteArray, o = ⟨(hexL Hs.x_two).toArray⟩ := ⟨_, rfl⟩
  obtain ⟨CK, hCK⟩ : ∃ o : ByteArray, o = ⟨(hexL xCk).toArray⟩ := ⟨_, rfl⟩
  obtain ⟨HD, hHD⟩ : ∃ o : ByteArray, o = ⟨(hexL xHead).toArray⟩ := ⟨_, rfl⟩
  obtain ⟨BY, hBY⟩ : ∃ o : ByteArray, o = ⟨(bytesL 95 1).toArray⟩ := ⟨_, rfl⟩
  obtain ⟨AR, hAR⟩ : ∃ o : ByteArray, o = ⟨(hexL xArp).toArray⟩ := ⟨_, rfl⟩
  obtain ⟨HE, hHE⟩ : ∃ o : ByteArray, o = ⟨(hexL xEth).toArray⟩ := ⟨_, rfl⟩
  obtain ⟨Z18, hZ18⟩ : ∃ o : ByteArray, o = ⟨(List.replicate 18 (0 : UInt8)).toArray⟩ := ⟨_, rfl⟩
  have s1 : HD.size = 20 := by rw [hHD, str_size, len_head]
  have s2 : BY.size = 95 := by rw [hBY, str_size, bytesL_length]
  have s3 : AR.size = 28 := by rw [hAR, str_size, len_arp]
  have s4 : HE.size = 14 := by rw [hHE, str_size, len_eth]
  have s5 : Z18.size = 18 := by rw [hZ18, str_size]; rfl
  have l1 : ¬ 9223372036854775807 < HD.size + BY.size := by omega
  have l2 : ¬ 9223372036854775807 < HD.size + BY.size + 6 := by omega
  have l3 : ¬ 9223372036854775807 < HE.size + AR.size := by omega
  have l4 : ¬ 9223372036854775807 < HE.size + AR.size + Z18.size := by omega
  have H1 := hide (fun u (h : Below w.heap.size w u) => hashAt Hs.m_abc Hs.x_abc (by decide) Hs.sha_abc A1 hA1 u (hG.below h hG.lt))
  have H2 := hide (fun u (h : Below w.heap.size w u) => hashAt Hs.m_nil Hs.x_nil (by decide) Hs.sha_nil A2 hA2 u (hG.below h hG.lt))
  have H3 := hide (fun u (h : Below w.heap.size w u) => hashAt Hs.m_two Hs.x_two (by decide) Hs.sha_two A3 hA3 u (hG.below h hG.lt))
  have X1 := hide (hexAt Hs.x_abc (by decide) A1 hA1)
  have X2 := hide (hexAt Hs.x_nil (by decide) A2 hA2)
  have X3 := hide (hexAt Hs.x_two (by decide) A3 hA3)
  have X4 := hide (hexAt xCk (by decide) CK hCK)
  have X5 := hide (hexAt xHead (by decide) HD hHD)
  have X6 := hide (hexAt xArp (by decide) AR hAR)
  have X7 := hide (hexAt xEth (by decide) HE hHE)
  have C1 := hide (fun u => checkAt (hexL xCk) (by decide +kernel) 8717 ck_a u)
  rw [← hCK] at C1
  have C2 := hide (fun u => checkAt [] (by decide) 65535 ck_b u)
  have C3 := hide (fun u => checkAt [1] (by decide) 65279 ck_c u)
  have C4 := hide (fun u => checkAt [255, 255] (by decide) 0 ck_d u)
  have BB := hide (fun u => bytes_any 95 1 u (by decide) (by decide) (by decide))
  rw [← hBY] at BB
  have RD := hide readAt
  rw [show (⟨lIP.toArray⟩ : ByteArray) = HD ++ BY ++ ⟨xBeh.toArray⟩ by rw [hHD, hBY, add_str, add_str]; rfl, ← hBY] at RD
  have WR := hide writeAt
  rw [show (⟨(hexL xHead ++ bytesL 95 1).toArray⟩ : ByteArray) = HD ++ BY by rw [hHD, hBY, add_str], ← hBY] at WR
  have WA := hide arpAt
  rw [← hAR] at WA
  have WE := hide ethAt
  rw [show (⟨(hexL xEth ++ hexL xArp ++ List.replicate 18 (0 : UInt8)).toArray⟩ : ByteArray) = HE ++ AR ++ Z18 by rw [hHE, hAR, hZ18, add_str, add_str], ← hAR] at WE
  have HZ18 := hide hZ18
  have HC0 := hide hC
  have HB0 := hide (Below.refl w.heap.size w)
  clear hA1 hA2 hA3 hCK hHD hBY hAR hHE hZ18 s1 s2 s3 s4 s5 hG hC
  go_enter Tryd.func4, Tryd.ntmps4
  go_wp2_with fail
  refine (unhide H1 _ (unhide HB0)).mono ?_
  rintro e u1 ⟨rfl, hb⟩
  have HB1 := hide (step (unhide HB0) hb)
  clear hb HB0
  go_wp2_with fail
  refine (unhide X1 _).mono ?_
  rintro e u2 ⟨rfl, hb⟩
  have HB2 := hide (step (unhide HB1) hb)
  clear hb HB1
  go_wp2_with fail
  refine (unhide H2 _ (unhide HB2)).mono ?_
  rintro e u3 ⟨rfl, hb⟩
  have HB3 := hide (step (unhide HB2) hb)
  clear hb HB2
  go_wp2_with fail
  refine (unhide X2 _).mono ?_
  rintro e u4 ⟨rfl, hb⟩
  have HB4 := hide (step (unhide HB3) hb)
  clear hb HB3
  go_wp2_with fail
  refine (unhide H3 _ (unhide HB4)).mono ?_
  rintro e u5 ⟨rfl, hb⟩
  have HB5 := hide (step (unhide HB4) hb)
  clear hb HB4
  go_wp2_with fail
  refine (unhide X3 _).mono ?_
  rintro e u6 ⟨rfl, hb⟩
  have HB6 := hide (step (unhide HB5) hb)
  clear hb HB5
  go_wp2_with fail
  refine (unhide X4 _).mono ?_
  rintro e u7 ⟨rfl, hb⟩
  have HB7 := hide (step (unhide HB6) hb)
  clear hb HB6
  go_wp2_with fail
  refine (unhide C1 _).mono ?_
  rintro e u ⟨rfl, rfl⟩
  go_wp2_with fail
  refine (unhide C2 _).mono ?_
  rintro e u ⟨rfl, rfl⟩
  go_wp2_with fail
  refine (unhide C3 _).mono ?_
  rintro e u ⟨rfl, rfl⟩
  go_wp2_with fail
  refine (unhide C4 _).mono ?_
  rintro e u ⟨rfl, rfl⟩
  go_wp2_with fail
  refine (unhide X5 _).mono ?_
  rintro e u8 ⟨rfl, hb⟩
  have HB8 := hide (step (unhide HB7) hb)
  clear hb HB7
  go_wp2_with fail
  refine (unhide BB _).mono ?_
  rintro e u9 ⟨rfl, hb⟩
  have HB9 := hide (step (unhide HB8) hb)
  clear hb HB8
  go_wp2_with fail
  refine (unhide RD _).mono ?_
  rintro e u10 ⟨rfl, hb⟩
  have HB10 := hide (step (unhide HB9) hb)
  clear hb HB9
  go_wp2_with fail
  have HPK := hide (Pk.new u10 BY)
  have HBP : Hid (Below w.heap.size w (u10.alloc (.cells #[.int .u16 0, .int .u8 64, .int .u8 17, .int .u32 3232235521, .int .u32 3232235719, .string BY] 31))) := hide (step (unhide HB10) ((Below.refl _ u10).alloc (Nat.le_refl _) _))
  obtain ⟨wp, hwp⟩ : ∃ wp, wp = u10.alloc (.cells #[.int .u16 0, .int .u8 64, .int .u8 17, .int .u32 3232235521, .int .u32 3232235719, .string BY] 31) := ⟨_, rfl⟩
  obtain ⟨pb, hpb⟩ : ∃ pb, pb = u10.heap.size := ⟨_, rfl⟩
  rw [← hwp, ← hpb] at HPK
  rw [← hwp] at HBP
  rw [← hwp, ← hpb]
  clear hwp hpb HB10
  have heq := Sqi.eql_ip 0 64 17 3232235521 3232235719 BY
  go_cut [7] (fun v7 wc => v7 = .bool true ∧ Hid (Pk pb BY wc) ∧ Hid (Below w.heap.size w wc))
  case first =>
    obtain ⟨p0, p1, p2, p3, p4, p5⟩ := unhide HPK
    go_region_with (first | (go_at_call 11; refine (unhide BB _).mono ?_; rintro ee v ⟨rfl, hb⟩; obtain ⟨q0, q1, q2, q3, q4, q5⟩ := (show Pk pb BY v from (unhide HPK).later ((Below.refl _ wp).drew.trans hb))))
    all_goals go_wp2
    all_goals go_meet
    all_goals exact ⟨rfl, hide ((unhide HPK).later ((Below.refl _ wp).drew.trans hb)), hide (step (unhide HBP) ((Below.refl _ wp).drew.trans hb))⟩
  case rest =>
    obtain ⟨rfl, HPK2, HB11⟩ := hcut
    rename World => u11
    obtain ⟨p0, p1, p2, p3, p4, p5⟩ := unhide HPK2
    clear HPK HBP heq
    go_wp2_with fail
    refine (unhide WR _).mono ?_
    rintro e u12 ⟨rfl, hb⟩
    have HB12 := hide (step (unhide HB11) hb)
    clear hb HB11
    clear p0 p1 p2 p3 p4 p5 HPK2
    go_wp2_with fail
    refine (unhide BB _).mono ?_
    rintro e u13 ⟨rfl, hb⟩
    have HB13 := hide (step (unhide HB12) hb)
    clear hb HB12
    have HCC := hide ((unhide HC0).later (unhide HB13))
    obtain ⟨k0, k1, k2, k3, k4, k5, o0, o1, o2, o3, o4, o5⟩ := unhide HCC
    go_wp2_with fail
    refine (unhide WA _).mono ?_
    rintro e u14 ⟨rfl, hb⟩
    have HB14 := hide (step (unhide HB13) hb)
    clear hb HB13
    clear k0 k1 k2 k3 k4 k5 o0 o1 o2 o3 o4 o5 HCC
    go_wp2_with fail
    refine (unhide X6 _).mono ?_
    rintro e u15 ⟨rfl, hb⟩
    have HB15 := hide (step (unhide HB14) hb)
    clear hb HB14
    have HCC := hide ((unhide HC0).later (unhide HB15))
    obtain ⟨k0, k1, k2, k3, k4, k5, o0, o1, o2, o3, o4, o5⟩ := unhide HCC
    go_wp2_with fail
    refine (unhide WE _).mono ?_
    rintro e u16 ⟨rfl, hb⟩
    have HB16 := hide (step (unhide HB15) hb)
    clear hb HB15
    clear k0 k1 k2 k3 k4 k5 o0 o1 o2 o3 o4 o5 HCC
    have hmk : ∀ u : World, (Instr.makeSlice 46 (.int .i64 18) (.int .i64 18)).run Tryd.prog u = .ok (.slice (some ⟨u.heap.size, 0, none⟩) 18 18) (u.alloc (.cells (madeCells #[.int .u8 0] 18) 5)) := fun u => by
      obtain ⟨i0, hi, hz0, hz1, hz2⟩ := info_parts info8
      have h := run_make (P := Tryd.prog) u 46 5 i0 (.int .u8 0) Tryd.underlying46 hi hz0 .i64 .i64 18 18 (by omega) (Int.le_refl _) (by rw [hz2]; decide) (by omega)
      simpa [hz1, Value.cells] using h
    have hcv : ∀ u : World, (convert 46 9 (.slice (some ⟨u.heap.size, 0, none⟩) 18 18)).run Tryd.prog (u.alloc (.cells (madeCells #[.int .u8 0] 18) 5)) = .ok (.string Z18) (u.alloc (.cells (madeCells #[.int .u8 0] 18) 5)) := fun u => by rw [unhide HZ18]; exact made_later u _ 18 (Below.refl _ _)
    have HCL := hide (fun (u v : World) hb => made_later u v 18 hb)
    rw [← unhide HZ18] at HCL
    obtain ⟨M, hM⟩ : ∃ M, M = madeCells #[Value.int .u8 0] 18 := ⟨_, rfl⟩
    rw [← hM] at hmk hcv HCL
    clear hM
    have hcd : ∀ u : World, (convert 46 9 (.slice (some ⟨u.heap.size, 0, none⟩) 18 18)).run Tryd.prog (u.alloc (.cells M 5)).drew = .ok (.string Z18) (u.alloc (.cells M 5)).drew := fun u => unhide HCL u _ ((Below.refl _ _).drew)
    go_wp2_with fail
    refine wp_region_any (by kernel_rfl) ?_
    change wpAny _ _ _ _ _ _ _ (World.drew _)
    refine wpAny_take (i := 0) (v := .bool true) rfl (by kernel_rfl) (by kernel_rfl) (by kernel_rfl) (fun _ _ _ h => h) (Or.inl ⟨by kernel_rfl, ?_⟩) ?_
    · intro u; go_simp
    try simp only [Act.put, List.setIfInBounds_toArray, List.set_cons_zero, List.set_cons_succ]
    refine wpAny_take (i := 1) (v := .bool true) rfl (by kernel_rfl) (by kernel_rfl) (by kernel_rfl) (fun _ _ _ h => h) (Or.inl ⟨by kernel_rfl, ?_⟩) ?_
    · intro u; go_simp
    try simp only [Act.put, List.setIfInBounds_toArray, List.set_cons_zero, List.set_cons_succ]
    refine wpAny_take (i := 2) (v := .bool true) rfl (by kernel_rfl) (by kernel_rfl) (by kernel_rfl) (fun _ _ _ h => h) (Or.inl ⟨by kernel_rfl, ?_⟩) ?_
    · intro u; go_simp
    try simp only [Act.put, List.setIfInBounds_toArray, List.set_cons_zero, List.set_cons_succ]
    refine wpAny_take (i := 3) (v := .bool true) rfl (by kernel_rfl) (by kernel_rfl) (by kernel_rfl) (fun _ _ _ h => h) (Or.inl ⟨by kernel_rfl, ?_⟩) ?_
    · intro u; go_simp
    try simp only [Act.put, List.setIfInBounds_toArray, List.set_cons_zero, List.set_cons_succ]
    refine wpAny_take (i := 4) (v := .bool true) rfl (by kernel_rfl) (by kernel_rfl) (by kernel_rfl) (fun _ _ _ h => h) (Or.inl ⟨by kernel_rfl, ?_⟩) ?_
    · intro u; go_simp
    try simp only [Act.put, List.setIfInBounds_toArray, List.set_cons_zero, List.set_cons_succ]
    refine wpAny_take (i := 5) (v := .bool true) rfl (by kernel_rfl) (by kernel_rfl) (by kernel_rfl) (fun _ _ _ h => h) (Or.inl ⟨by kernel_rfl, ?_⟩) ?_
    · intro u; go_simp
    try simp only [Act.put, List.setIfInBounds_toArray, List.set_cons_zero, List.set_cons_succ]
    refine wpAny_take (i := 6) (v := .bool true) rfl (by kernel_rfl) (by kernel_rfl) (by kernel_rfl) (fun _ _ _ h => h) (Or.inl ⟨by kernel_rfl, ?_⟩) ?_
    · intro u; go_simp
    try simp only [Act.put, List.setIfInBounds_toArray, List.set_cons_zero, List.set_cons_succ]
    refine wpAny_take (i := 7) (v := .bool true) rfl (by kernel_rfl) (by kernel_rfl) (by kernel_rfl) (fun _ _ _ h => h) (Or.inl ⟨by kernel_rfl, ?_⟩) ?_
    · intro u; go_simp
    try simp only [Act.put, List.setIfInBounds_toArray, List.set_cons_zero, List.set_cons_succ]
    refine wpAny_take (i := 8) (v := .bool true) rfl (by kernel_rfl) (by kernel_rfl) (by kernel_rfl) (fun _ _ _ h => h) (Or.inl ⟨by kernel_rfl, ?_⟩) ?_
    · intro u; go_simp
    try simp only [Act.put, List.setIfInBounds_toArray, List.set_cons_zero, List.set_cons_succ]
    refine wpAny_take (i := 9) (v := .bool true) rfl (by kernel_rfl) (by kernel_rfl) (by kernel_rfl) (fun _ _ _ h => h) (Or.inl ⟨by kernel_rfl, ?_⟩) ?_
    · intro u; go_simp
    try simp only [Act.put, List.setIfInBounds_toArray, List.set_cons_zero, List.set_cons_succ]
    refine wpAny_take (i := 10) (v := .bool true) rfl (by kernel_rfl) (by kernel_rfl) (by kernel_rfl) (fun _ _ _ h => h) (Or.inl ⟨by kernel_rfl, ?_⟩) ?_
    · intro u; go_simp
    try simp only [Act.put, List.setIfInBounds_toArray, List.set_cons_zero, List.set_cons_succ]
    refine wpAny_take (i := 11) (v := .bool true) rfl (by kernel_rfl) (by kernel_rfl) (by kernel_rfl) (fun _ _ _ h => h) (Or.inl ⟨by kernel_rfl, ?_⟩) ?_
    · intro u; go_simp
    try simp only [Act.put, List.setIfInBounds_toArray, List.set_cons_zero, List.set_cons_succ]
    refine wpAny_take (i := 12) (v := .bool true) rfl (by kernel_rfl) (by kernel_rfl) (by kernel_rfl) (fun _ _ _ h => h) (Or.inl ⟨by kernel_rfl, ?_⟩) ?_
    · intro u; go_simp
    try simp only [Act.put, List.setIfInBounds_toArray, List.set_cons_zero, List.set_cons_succ]
    refine wpAny_take (i := 13) (v := .bool true) rfl (by kernel_rfl) (by kernel_rfl) (by kernel_rfl) (fun _ _ _ h => h) (Or.inl ⟨by kernel_rfl, ?_⟩) ?_
    · intro u; go_simp
    try simp only [Act.put, List.setIfInBounds_toArray, List.set_cons_zero, List.set_cons_succ]
    refine wpAny_take (i := 14) (v := .bool true) rfl (by kernel_rfl) (by kernel_rfl) (by kernel_rfl) (fun _ _ _ h => h) (Or.inl ⟨by kernel_rfl, ?_⟩) ?_
    · intro u; go_simp
    try simp only [Act.put, List.setIfInBounds_toArray, List.set_cons_zero, List.set_cons_succ]
    refine wpAny_take (i := 15) (v := .bool true) rfl (by kernel_rfl) (by kernel_rfl) (by kernel_rfl) (fun _ _ _ h => h) (Or.inl ⟨by kernel_rfl, ?_⟩) ?_
    · intro u; go_simp
    try simp only [Act.put, List.setIfInBounds_toArray, List.set_cons_zero, List.set_cons_succ]
    refine wpAny_take (i := 16) (v := .bool true) rfl (by kernel_rfl) (by kernel_rfl) (by kernel_rfl) (fun _ _ _ h => h) (Or.inl ⟨by kernel_rfl, ?_⟩) ?_
    · intro u; go_simp
    try simp only [Act.put, List.setIfInBounds_toArray, List.set_cons_zero, List.set_cons_succ]
    refine wpAny_take (i := 17) (v := .int .i64 0) rfl (by kernel_rfl) (by kernel_rfl) (by kernel_rfl) (fun _ _ _ h => h) (Or.inl ⟨by kernel_rfl, ?_⟩) ?_
    · intro u; go_simp
    try simp only [Act.put, List.setIfInBounds_toArray, List.set_cons_zero, List.set_cons_succ]
    refine wpAny_take (i := 18) (v := .bool true) rfl (by kernel_rfl) (by kernel_rfl) (by kernel_rfl) (fun _ _ _ h => h) (Or.inl ⟨by kernel_rfl, ?_⟩) ?_
    · intro u; go_simp
    try simp only [Act.put, List.setIfInBounds_toArray, List.set_cons_zero, List.set_cons_succ]
    refine wpAny_take (i := 19) (v := .bool true) rfl (by kernel_rfl) (by kernel_rfl) (by kernel_rfl) (fun _ _ _ h => h) (Or.inl ⟨by kernel_rfl, ?_⟩) ?_
    · intro u; go_simp
    try simp only [Act.put, List.setIfInBounds_toArray, List.set_cons_zero, List.set_cons_succ]
    refine wpAny_take (i := 20) (v := .bool true) rfl (by kernel_rfl) (by kernel_rfl) (by kernel_rfl) (fun _ _ _ h => h) (Or.inl ⟨by kernel_rfl, ?_⟩) ?_
    · intro u; go_simp
    try simp only [Act.put, List.setIfInBounds_toArray, List.set_cons_zero, List.set_cons_succ]
    refine wpAny_take (i := 21) (v := .string (HE ++ AR ++ Z18)) rfl (by kernel_rfl) (by kernel_rfl) (by kernel_rfl) (fun _ _ _ h => h) (Or.inl ⟨by kernel_rfl, ?_⟩) ?_
    · intro u; go_simp
    try simp only [Act.put, List.setIfInBounds_toArray, List.set_cons_zero, List.set_cons_succ]
    refine wpAny_take (i := 23) (v := .string AR) rfl (by kernel_rfl) (by kernel_rfl) (by kernel_rfl) (fun _ _ _ h => h) (Or.inl ⟨by kernel_rfl, ?_⟩) ?_
    · intro u; go_simp
    try simp only [Act.put, List.setIfInBounds_toArray, List.set_cons_zero, List.set_cons_succ]
    refine wpAny_ready (rs := [22, 25]) (by kernel_rfl) (by simp) ?_
    refine AllReady.cons rfl (fun K hK => ?_) (AllReady.cons rfl (fun K hK => ?_) AllReady.nil)
    · skip
      go_simp
      refine (unhide X7 _).mono ?_
      rintro ee v ⟨rfl, hb⟩
      have HBV := hide hb
      clear hb
      refine hK _ _ ?_
      clear hK K
      try simp only [Act.put, List.setIfInBounds_toArray, List.set_cons_zero, List.set_cons_succ]
      refine wpAny_take (i := 24) (v := .string (HE ++ AR)) rfl (by kernel_rfl) (by kernel_rfl) (by kernel_rfl) (fun _ _ _ h => h) (Or.inl ⟨by kernel_rfl, ?_⟩) ?_
      · intro u; go_simp
      try simp only [Act.put, List.setIfInBounds_toArray, List.set_cons_zero, List.set_cons_succ]
      refine wpAny_ready (rs := [25]) (by kernel_rfl) (by simp) ?_
      refine AllReady.cons rfl (fun K hK => ?_) AllReady.nil
      go_simp
      refine hK _ _ ?_
      clear hK K
      try simp only [Act.put, List.setIfInBounds_toArray, List.set_cons_zero, List.set_cons_succ]
      refine wpAny_ready (rs := [26]) (by kernel_rfl) (by simp) ?_
      refine AllReady.cons rfl (fun K hK => ?_) AllReady.nil
      go_simp
      refine hK _ _ ?_
      clear hK K
      try simp only [Act.put, List.setIfInBounds_toArray, List.set_cons_zero, List.set_cons_succ]
      refine wpAny_take (i := 27) (v := .string (HE ++ AR ++ Z18)) rfl (by kernel_rfl) (by kernel_rfl) (by kernel_rfl) (fun _ _ _ h => h) (Or.inl ⟨by kernel_rfl, ?_⟩) ?_
      · intro u; go_simp
      try simp only [Act.put, List.setIfInBounds_toArray, List.set_cons_zero, List.set_cons_succ]
      refine wpAny_take (i := 28) (v := .bool true) rfl (by kernel_rfl) (by kernel_rfl) (by kernel_rfl) (fun _ _ _ h => h) (Or.inl ⟨by kernel_rfl, ?_⟩) ?_
      · intro u; go_simp
      try simp only [Act.put, List.setIfInBounds_toArray, List.set_cons_zero, List.set_cons_succ]
      refine wpAny_take (i := 29) (v := .bool true) rfl (by kernel_rfl) (by kernel_rfl) (by kernel_rfl) (fun _ _ _ h => h) (Or.inl ⟨by kernel_rfl, ?_⟩) ?_
      · intro u; go_simp
      try simp only [Act.put, List.setIfInBounds_toArray, List.set_cons_zero, List.set_cons_succ]
      refine wpAny_ready (rs := [30]) (by kernel_rfl) (by simp) ?_
      refine AllReady.cons rfl (fun K hK => ?_) AllReady.nil
      go_simp
      refine hK _ _ ?_
      clear hK K
      try simp only [Act.put, List.setIfInBounds_toArray, List.set_cons_zero, List.set_cons_succ]
      refine wpAny_done (by kernel_rfl) ?_ _
      go_wp2
      go_ret
      exact ⟨rfl, step (unhide HB16) (((Below.refl u16.heap.size u16).drew.trans (unhide HBV)).alloc (unhide HBV).size _)⟩
    · skip
      go_simp
      refine hK _ _ ?_
      clear hK K
      try simp only [Act.put, List.setIfInBounds_toArray, List.set_cons_zero, List.set_cons_succ]
      refine wpAny_ready (rs := [22, 26]) (by kernel_rfl) (by simp) ?_
      refine AllReady.cons rfl (fun K hK => ?_) (AllReady.cons rfl (fun K hK => ?_) AllReady.nil)
      · skip
        go_simp
        refine (unhide X7 _).mono ?_
        rintro ee v ⟨rfl, hb⟩
        have hc2 := unhide HCL u16 v ((Below.refl _ _).drew.trans hb)
        have HBV := hide hb
        clear hb
        refine hK _ _ ?_
        clear hK K
        try simp only [Act.put, List.setIfInBounds_toArray, List.set_cons_zero, List.set_cons_succ]
        refine wpAny_take (i := 24) (v := .string (HE ++ AR)) rfl (by kernel_rfl) (by kernel_rfl) (by kernel_rfl) (fun _ _ _ h => h) (Or.inl ⟨by kernel_rfl, ?_⟩) ?_
        · intro u; go_simp
        try simp only [Act.put, List.setIfInBounds_toArray, List.set_cons_zero, List.set_cons_succ]
        refine wpAny_ready (rs := [26]) (by kernel_rfl) (by simp) ?_
        refine AllReady.cons rfl (fun K hK => ?_) AllReady.nil
        go_simp
        refine hK _ _ ?_
        clear hK K
        try simp only [Act.put, List.setIfInBounds_toArray, List.set_cons_zero, List.set_cons_succ]
        refine wpAny_take (i := 27) (v := .string (HE ++ AR ++ Z18)) rfl (by kernel_rfl) (by kernel_rfl) (by kernel_rfl) (fun _ _ _ h => h) (Or.inl ⟨by kernel_rfl, ?_⟩) ?_
        · intro u; go_simp
        try simp only [Act.put, List.setIfInBounds_toArray, List.set_cons_zero, List.set_cons_succ]
        refine wpAny_take (i := 28) (v := .bool true) rfl (by kernel_rfl) (by kernel_rfl) (by kernel_rfl) (fun _ _ _ h => h) (Or.inl ⟨by kernel_rfl, ?_⟩) ?_
        · intro u; go_simp
        try simp only [Act.put, List.setIfInBounds_toArray, List.set_cons_zero, List.set_cons_succ]
        refine wpAny_take (i := 29) (v := .bool true) rfl (by kernel_rfl) (by kernel_rfl) (by kernel_rfl) (fun _ _ _ h => h) (Or.inl ⟨by kernel_rfl, ?_⟩) ?_
        · intro u; go_simp
        try simp only [Act.put, List.setIfInBounds_toArray, List.set_cons_zero, List.set_cons_succ]
        refine wpAny_ready (rs := [30]) (by kernel_rfl) (by simp) ?_
        refine AllReady.cons rfl (fun K hK => ?_) AllReady.nil
        go_simp
        refine hK _ _ ?_
        clear hK K
        try simp only [Act.put, List.setIfInBounds_toArray, List.set_cons_zero, List.set_cons_succ]
        refine wpAny_done (by kernel_rfl) ?_ _
        go_wp2
        go_ret
        exact ⟨rfl, step (unhide HB16) (((Below.refl u16.heap.size u16).alloc (Nat.le_refl _) _).drew.trans ((unhide HBV).mono ((Below.refl u16.heap.size u16).alloc (Nat.le_refl _) _).drew.size))⟩
      · skip
        go_simp
        refine hK _ _ ?_
        clear hK K
        try simp only [Act.put, List.setIfInBounds_toArray, List.set_cons_zero, List.set_cons_succ]
        refine wpAny_ready (rs := [22]) (by kernel_rfl) (by simp) ?_
        refine AllReady.cons rfl (fun K hK => ?_) AllReady.nil
        go_simp
        refine (unhide X7 _).mono ?_
        rintro ee v ⟨rfl, hb⟩
        have HBV := hide hb
        clear hb
        refine hK _ _ ?_
        clear hK K
        try simp only [Act.put, List.setIfInBounds_toArray, List.set_cons_zero, List.set_cons_succ]
        refine wpAny_take (i := 24) (v := .string (HE ++ AR)) rfl (by kernel_rfl) (by kernel_rfl) (by kernel_rfl) (fun _ _ _ h => h) (Or.inl ⟨by kernel_rfl, ?_⟩) ?_
        · intro u; go_simp
        try simp only [Act.put, List.setIfInBounds_toArray, List.set_cons_zero, List.set_cons_succ]
        refine wpAny_take (i := 27) (v := .string (HE ++ AR ++ Z18)) rfl (by kernel_rfl) (by kernel_rfl) (by kernel_rfl) (fun _ _ _ h => h) (Or.inl ⟨by kernel_rfl, ?_⟩) ?_
        · intro u; go_simp
        try simp only [Act.put, List.setIfInBounds_toArray, List.set_cons_zero, List.set_cons_succ]
        refine wpAny_take (i := 28) (v := .bool true) rfl (by kernel_rfl) (by kernel_rfl) (by kernel_rfl) (fun _ _ _ h => h) (Or.inl ⟨by kernel_rfl, ?_⟩) ?_
        · intro u; go_simp
        try simp only [Act.put, List.setIfInBounds_toArray, List.set_cons_zero, List.set_cons_succ]
        refine wpAny_take (i := 29) (v := .bool true) rfl (by kernel_rfl) (by kernel_rfl) (by kernel_rfl) (fun _ _ _ h => h) (Or.inl ⟨by kernel_rfl, ?_⟩) ?_
        · intro u; go_simp
        try simp only [Act.put, List.setIfInBounds_toArray, List.set_cons_zero, List.set_cons_succ]
        refine wpAny_ready (rs := [30]) (by kernel_rfl) (by simp) ?_
        refine AllReady.cons rfl (fun K hK => ?_) AllReady.nil
        go_simp
        refine hK _ _ ?_
        clear hK K
        try simp only [Act.put, List.setIfInBounds_toArray, List.set_cons_zero, List.set_cons_succ]
        refine wpAny_done (by kernel_rfl) ?_ _
        go_wp2
        go_ret
        exact ⟨rfl, step (unhide HB16) (((Below.refl u16.heap.size u16).alloc (Nat.le_refl _) _).drew.trans ((unhide HBV).mono ((Below.refl u16.heap.size u16).alloc (Nat.le_refl _) _).drew.size))⟩
end Go.Proofs.YtoifihhmneldeaaDoor.Kp

import Derived.Test.YtoifihhmneldeaaSpoiltA
namespace Go.Proofs.Ytoifihhmneldeaa.Sp
open Go.ChangeShapes Go.WideShapes Go.ChangeAt Go.RowKit Bs Rd IpK UdK
open Ip (chk chk_bd headL headL_length headL_put ipL)
open Ud (udpP udp0 udpQ udpC udpL)
set_option linter.unusedVariables false

theorem getD_get (l : List UInt8) (j : Nat) (h : j < l.length) : l.getD j 0 = l[j] := by simp [h]
set_option maxHeartbeats 8000000 in
set_option maxRecDepth 10000 in
theorem walk_in (load : ByteArray) (i b : Int) (w : World) (hl : load.size ≤ 1000) (hi0 : -9223372036854775808 ≤ i) (hi1 : i ≤ 9223372036854775807) (hb0 : -9223372036854775808 ≤ b) (hb1 : b ≤ 9223372036854775807) :
    Calls Try.prog 4 #[.string load, .int .i64 i, .int .i64 b] w fun ee w' => ee = .returned (.bool true) ∧ Below w.heap.size w w' := by
  obtain ⟨L, hL⟩ : ∃ L, L = ipL 7 64 17 167772161 167772215 load := ⟨_, rfl⟩
  have hlen : L.length = 20 + load.size := by rw [hL]; exact ipL_length _ _ _ _ _ _
  have hK : ipK L = 0 := by rw [hL]; exact ipK_written _ _ _ _ _ _ (by omega) (by omega)
  obtain ⟨s, hs⟩ : ∃ s : ByteArray, s = ⟨L.toArray⟩ := ⟨_, rfl⟩
  have hsz : s.size = 20 + load.size := by rw [hs, str_size]; exact hlen
  have HW := hide (fun u => wIP load hl s (by rw [hs, hL]) u)
  obtain ⟨f0, f1, f2, f3, f4, f5, hR⟩ := rIP L (by omega)
  rw [hK, ← hs] at hR
  have HR := hide hR
  -- the byte that is turned
  have pj := pickF_bd i 20 (by omega)
  have pr := pickF_bd b 255 (by omega)
  obtain ⟨j, hj⟩ : ∃ j : Nat, pickF i 20 = (j : Int) := ⟨(pickF i 20).toNat, by omega⟩
  obtain ⟨r, hr⟩ : ∃ r : Nat, pickF b 255 = (r : Int) := ⟨(pickF b 255).toNat, by omega⟩
  have P1 := fun u => pick_any i 20 u hi0 hi1 (by omega) (by omega)
  have P2 := fun u => pick_any b 255 u hb0 hb1 (by omega) (by omega)
  rw [hj] at P1
  rw [hr] at P2
  have hj20 : j < 20 := by omega
  have hr255 : r < 255 := by omega
  obtain ⟨a, ha⟩ : ∃ a, a = L.getD j 0 := ⟨_, rfl⟩
  obtain ⟨x, hx⟩ : ∃ x, x = xo a r := ⟨_, rfl⟩
  have hxb : bits .xor .u8 (a.toNat : Int) (1 + (r : Int)) = (x.toNat : Int) := by rw [hx]; exact xo_bits a r hr255
  obtain ⟨s2, hs2⟩ : ∃ s2 : ByteArray, s2 = ⟨(L.set j x).toArray⟩ := ⟨_, rfl⟩
  obtain ⟨e0, e1, e2, e3, e4, e5, hR2⟩ := rIP (L.set j x) (by rw [List.length_set]; omega)
  obtain ⟨k2, hk2⟩ : ∃ k2, k2 = ipK (L.set j x) := ⟨_, rfl⟩
  have hk20 : ¬ k2 = 0 := by rw [hk2]; exact ipK_spoilt L j x (by omega) hj20 (by rw [← getD_get L j (by omega), ← ha, hx]; exact xo_ne a r hr255) hK
  have hk2b : (k2 == 0) = false := by simpa using hk20
  rw [← hk2, ← hs2] at hR2
  have HR2 := hide hR2
  have HP1 := hide P1
  have HP2 := hide P2
  have w1q : IntKind.i64.wrap (1 + (r : Int)) = 1 + (r : Int) := wrap_i64 _ (by omega) (by omega)
  have w2q : IntKind.u8.wrap (1 + (r : Int)) = 1 + (r : Int) := by rw [IntKind.wrap_u8]; omega
  -- the datagram
  obtain ⟨U, hU⟩ : ∃ U, U = udpL 5 6 167772161 167772215 load := ⟨_, rfl⟩
  have hulen : U.length = 8 + load.size := by rw [hU]; exact udpL_length _ _ _ _ _
  obtain ⟨v, hv⟩ : ∃ v : ByteArray, v = ⟨U.toArray⟩ := ⟨_, rfl⟩
  have hvz : v.size = 8 + load.size := by rw [hv, str_size]; exact hulen
  have HW3 := hide (fun u => wUDP load hl v (by rw [hv, hU]) u)
  obtain ⟨g0, g1, g2, hR3⟩ := rUDP U 167772161 167772215 (by omega) (by omega) (by omega)
  rw [show udK U 167772161 167772215 = 0 by rw [hU]; exact udK_written _ _ _ _ _ (by omega), ← hv] at hR3
  have HR3 := hide hR3
  obtain ⟨h0, h1, h2, hR5⟩ := rUDP U 167772161 167772216 (by omega) (by omega) (by omega)
  rw [show udK U 167772161 167772216 = 6 by rw [hU]; exact udK_other _ _ _ (by omega), ← hv] at hR5
  have HR5 := hide hR5
  have pk := pickF_bd i (v.size : Int) (by omega)
  obtain ⟨k, hk⟩ : ∃ k : Nat, pickF i (v.size : Int) = (k : Int) := ⟨(pickF i (v.size : Int)).toNat, by omega⟩
  have P3 := fun u => pick_any i (v.size : Int) u hi0 hi1 (by omega) (by omega)
  rw [hk] at P3
  have HP3 := hide P3
  have hkU : k < U.length := by omega
  obtain ⟨c, hc⟩ : ∃ c, c = U.getD k 0 := ⟨_, rfl⟩
  obtain ⟨y, hy⟩ : ∃ y, y = xo c r := ⟨_, rfl⟩
  have hyb : bits .xor .u8 (c.toNat : Int) (1 + (r : Int)) = (y.toNat : Int) := by rw [hy]; exact xo_bits c r hr255
  have hUl : (U.set k y).length = 8 + load.size := by rw [List.length_set]; exact hulen
  obtain ⟨y6, hy6⟩ : ∃ y6, y6 = (U.set k y).getD 6 0 := ⟨_, rfl⟩
  obtain ⟨y7, hy7⟩ : ∃ y7, y7 = (U.set k y).getD 7 0 := ⟨_, rfl⟩
  obtain ⟨v2, hv2⟩ : ∃ v2 : ByteArray, v2 = ⟨(U.set k y).toArray⟩ := ⟨_, rfl⟩
  obtain ⟨d0, d1, d2, hR4⟩ := rUDP (U.set k y) 167772161 167772215 (by omega) (by omega) (by omega)
  rw [← hv2] at hR4
  have hbad : k ≠ 4 → k ≠ 5 → ¬ (y6 = 0 ∧ y7 = 0) → udK (U.set k y) 167772161 167772215 = 6 := by
    intro h4 h5 h67
    have hw2 : w2 (U.set k y) 6 = 256 * (y6.toNat : Int) + (y7.toNat : Int) := by
      unfold w2 bt
      rw [hy6, hy7]
    have hnz : w2 (U.set k y) 6 ≠ 0 := by
      rw [hw2]
      intro q
      exact h67 ⟨UInt8.toNat_inj.1 (show y6.toNat = (0 : UInt8).toNat by show y6.toNat = 0; omega), UInt8.toNat_inj.1 (show y7.toNat = (0 : UInt8).toNat by show y7.toNat = 0; omega)⟩
    subst hU
    exact udK_spoilt 5 6 167772161 167772215 load k y (by omega) (by omega) h4 h5 (by rw [← getD_get _ k (by omega), ← hc, hy]; exact xo_ne c r hr255) hnz
  have HBAD := hide hbad
  have HR4 := hide hR4
  have hgt : ¬ (1000 : Int) < (load.size : Int) := by omega
  have hs20 : ¬ (s.size : Int) < 20 := by omega
  have hv8 : ¬ (v.size : Int) < 8 := by omega
  have hs20' : (20 : Int) ≤ (s.size : Int) := by omega
  have hv8' : (8 : Int) ≤ (v.size : Int) := by omega
  have hs1 : (s.size : Int) ≤ 1020 := by omega
  have hv1 : (v.size : Int) ≤ 1008 := by omega
  have hjs : (j : Int) < (s.size : Int) := by omega
  have hkv : (k : Int) < (v.size : Int) := by omega
  have hk6 : (6 : Int) < (v.size : Int) := by omega
  have hk7 : (7 : Int) < (v.size : Int) := by omega
  have HS := hide hs
  have HLen := hide hlen
  have HSz := hide hsz
  have HA := hide ha
  have HS2 := hide hs2
  have HV := hide hv
  have HULen := hide hulen
  have HVz := hide hvz
  have HC := hide hc
  have HV2 := hide hv2
  have HY6 := hide hy6
  have HY7 := hide hy7
  have HUl := hide hUl
  clear hR hs hL hlen hsz hK P1 P2 hj hr ha hx hs2 hk2 hR2 hU hulen hv hvz hR3 hR5 hk P3 hc hy hy6 hy7 hv2 hbad hR4 pj pr pk hUl
  go_enter Try.func4, Try.ntmps4
  go_wp2_with fail
  refine (unhide HW _).mono ?_
  rintro ee w1 ⟨rfl, q1⟩
  have B1 := hide q1
  clear q1
  go_wp2_with fail
  refine (unhide HR _).mono ?_
  rintro ee w2 ⟨rfl, q2⟩
  have B2 := hide ((unhide B1).trans (q2.mono (unhide B1).size))
  clear q2 B1 HW HR
  obtain ⟨cap, w3, hcap, hcv, hrow, q3, hz3⟩ := conv_to (w2.alloc (.cells #[.int .u16 f0, .int .u8 f1, .int .u8 f2, .int .u32 f3, .int .u32 f4, .string f5] 32)) s L (by rw [unhide HS]) (w2.heap.size + 1) (by simp)
  have hcell : w3.cell? ⟨w2.heap.size + 1, j, none⟩ = some (.int .u8 a.toNat) := by rw [unhide HA, getD_get L j (by rw [unhide HLen]; omega)]; exact hrow.cell j (by rw [unhide HLen]; omega)
  have hfree : w3.frozen? ⟨w2.heap.size + 1, j, none⟩ = false := hrow.free j (by rw [unhide HLen]; omega)
  have B3 := hide ((((unhide B2).alloc (unhide B2).size _)).trans (q3.mono (by have := (unhide B2).size; simp; omega)))
  have ROW := hide hrow
  have Z3 := hide hz3
  clear q3 hrow hz3
  go_wp2
  go_cut [] (fun wx => wx = (w3.setCell ⟨w2.heap.size + 1, j, none⟩ (.int .u8 x.toNat)).drew)
  case first =>
    go_region_with (first | (go_at_call_of 9 i; refine (unhide HP1 _).mono ?_; rintro ee uu ⟨rfl, hu⟩; rw [hu]; clear hu uu) | (go_at_call_of 9 b; refine (unhide HP2 _).mono ?_; rintro ee uu ⟨rfl, hu⟩; rw [hu]; clear hu uu))
    all_goals go_wp2
    all_goals go_meet
    all_goals rfl
  case rest =>
    rename World => w4
    have hrow4 := (unhide ROW).turned j (by rw [unhide HLen]; omega) x
    have q4 : Below w.heap.size w (w3.setCell ⟨w2.heap.size + 1, j, none⟩ (.int .u8 x.toNat)) := (unhide B3).setCell (by have := (unhide B2).size; simp; omega) _
    have B4 := hide q4.drew
    rw [← hcut] at hrow4 B4
    have hz4 : w4.heap.size = w2.heap.size + 1 + 1 := by rw [hcut]; show (w3.setCell _ _).heap.size = _; rw [← unhide Z3]; simp [World.setCell]
    have hcb := hrow4.back s.size cap (by rw [List.length_set, unhide HLen, unhide HSz])
    rw [← unhide HS2] at hcb
    have Z4 := hide hz4
    clear hcut hrow4 hz4 q4 hcell hfree hcv ROW B2 B3 Z3
    go_wp2_with fail
    refine (unhide HR2 _).mono ?_
    rintro ee w5 ⟨rfl, q5⟩
    have B5 := hide ((unhide B4).trans (q5.mono (unhide B4).size))
    clear q5 B4 Z4 HR2 hcb
    go_wp2_with fail
    refine (unhide HW3 _).mono ?_
    rintro ee w6 ⟨rfl, q6⟩
    have B6 := hide (((unhide B5).alloc (unhide B5).size _).trans (q6.mono (by have := (unhide B5).size; simp; omega)))
    clear q6 B5 HW3
    go_wp2_with fail
    refine (unhide HR3 _).mono ?_
    rintro ee w7 ⟨rfl, q7⟩
    have B7 := hide ((unhide B6).trans (q7.mono (unhide B6).size))
    clear q7 B6 HR3
    obtain ⟨cap2, w8, hcap2, hcv2, hrow8, q8, hz8⟩ := conv_to w7 v U (by rw [unhide HV]) w7.heap.size rfl
    have hcell8 : w8.cell? ⟨w7.heap.size, k, none⟩ = some (.int .u8 c.toNat) := by rw [unhide HC, getD_get U k hkU]; exact hrow8.cell k hkU
    have hfree8 : w8.frozen? ⟨w7.heap.size, k, none⟩ = false := hrow8.free k hkU
    have B8 := hide ((unhide B7).trans (q8.mono (unhide B7).size))
    have ROW8 := hide hrow8
    clear q8 hrow8 hz8
    go_wp2_with fail
    refine (unhide HP3 _).mono ?_
    rintro ee wz ⟨rfl, hwz⟩
    rw [hwz]
    clear hwz wz
    go_wp2
    go_cut [] (fun wx => wx = (w8.setCell ⟨w7.heap.size, k, none⟩ (.int .u8 y.toNat)).drew)
    case first =>
      go_region_with (first | (go_at_call 9; refine (unhide HP2 _).mono ?_; rintro ee uu ⟨rfl, hu⟩; rw [hu]; clear hu uu))
      all_goals go_wp2
      all_goals go_meet
      all_goals rfl
    case rest =>
      rename World => w9
      have hrow9 := (unhide ROW8).turned k hkU y
      have q9 : Below w.heap.size w (w8.setCell ⟨w7.heap.size, k, none⟩ (.int .u8 y.toNat)) := (unhide B8).setCell (unhide B7).size _
      have B9 := hide q9.drew
      rw [← hcut] at hrow9 B9
      have hcb9 := hrow9.back v.size cap2 (by rw [unhide HUl, unhide HVz])
      rw [← unhide HV2] at hcb9
      have hc6 : w9.cell? ⟨w7.heap.size, 6, none⟩ = some (.int .u8 y6.toNat) := by rw [unhide HY6, getD_get _ 6 (by rw [unhide HUl]; omega)]; exact hrow9.cell 6 (by rw [unhide HUl]; omega)
      have hc7 : w9.cell? ⟨w7.heap.size, 7, none⟩ = some (.int .u8 y7.toNat) := by rw [unhide HY7, getD_get _ 7 (by rw [unhide HUl]; omega)]; exact hrow9.cell 7 (by rw [unhide HUl]; omega)
      clear hcut hrow9 q9 hcell8 hfree8 hcv2 ROW8 B7 B8 HP1 HP2 HP3 hcap hcap2
      by_cases h4 : k = 4
      · have t4 : (k : Int) = 4 := by omega
        clear hcb9 hc6 hc7 HR4 HR5 HBAD h4
        go_wp2
        go_ret
        exact ⟨rfl, unhide B9⟩
      · have t4 : ((k : Int) == 4) = false := by simp; omega
        have t4' : ¬ (k : Int) = 4 := by omega
        by_cases h5 : k = 5
        · have t5 : (k : Int) = 5 := by omega
          clear hcb9 hc6 hc7 HR4 HR5 HBAD h5
          go_wp2
          go_ret
          exact ⟨rfl, unhide B9⟩
        · have t5 : ((k : Int) == 5) = false := by simp; omega
          have t5' : ¬ (k : Int) = 5 := by omega
          by_cases h6 : y6 = 0
          · have t6 : (y6.toNat : Int) = 0 := by rw [h6]; rfl
            rw [t6] at hc6
            by_cases h7 : y7 = 0
            · have t7 : (y7.toNat : Int) = 0 := by rw [h7]; rfl
              rw [t7] at hc7
              clear hcb9 HR4 HR5 HBAD t6 t7 h6 h7
              go_wp2
              go_ret
              exact ⟨rfl, unhide B9⟩
            · have t7 : ((y7.toNat : Int) == 0) = false := by
                simp only [beq_eq_false_iff_ne, ne_eq]
                intro q
                exact h7 (UInt8.toNat_inj.1 (show y7.toNat = (0 : UInt8).toNat by show y7.toNat = 0; omega))
              have t7' : ¬ (y7.toNat : Int) = 0 := by simpa using t7
              have hn67 : ¬ (y6 = 0 ∧ y7 = 0) := fun q => h7 q.2
              have r4 := unhide HR4
              rw [unhide HBAD h4 h5 hn67] at r4
              have HR4' := hide r4
              clear r4 HR4 HBAD
              go_wp2_with fail
              refine (unhide HR4' _).mono ?_
              rintro ee wa ⟨rfl, qa⟩
              have BA := hide ((unhide B9).trans (qa.mono (unhide B9).size))
              clear qa hcb9 hc6 hc7
              go_wp2_with fail
              refine (unhide HR5 _).mono ?_
              rintro ee wb ⟨rfl, qb⟩
              have BB := hide ((unhide BA).trans (qb.mono (unhide BA).size))
              clear qb
              go_wp2
              go_ret
              exact ⟨by simp, unhide BB⟩
          · have t6 : ((y6.toNat : Int) == 0) = false := by
              simp only [beq_eq_false_iff_ne, ne_eq]
              intro q
              exact h6 (UInt8.toNat_inj.1 (show y6.toNat = (0 : UInt8).toNat by show y6.toNat = 0; omega))
            have t6' : ¬ (y6.toNat : Int) = 0 := by simpa using t6
            have hn67 : ¬ (y6 = 0 ∧ y7 = 0) := fun q => h6 q.1
            have r4 := unhide HR4
            rw [unhide HBAD h4 h5 hn67] at r4
            have HR4' := hide r4
            clear r4 HR4 HBAD
            go_wp2_with fail
            refine (unhide HR4' _).mono ?_
            rintro ee wa ⟨rfl, qa⟩
            have BA := hide ((unhide B9).trans (qa.mono (unhide B9).size))
            clear qa hcb9 hc6 hc7
            go_wp2_with fail
            refine (unhide HR5 _).mono ?_
            rintro ee wb ⟨rfl, qb⟩
            have BB := hide ((unhide BA).trans (qb.mono (unhide BA).size))
            clear qb
            go_wp2
            go_ret
            exact ⟨by simp, unhide BB⟩
end Go.Proofs.Ytoifihhmneldeaa.Sp

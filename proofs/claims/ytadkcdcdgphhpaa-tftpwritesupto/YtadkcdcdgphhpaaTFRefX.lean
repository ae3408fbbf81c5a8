import Derived.Test.YtadkcdcdgphhpaaTFRefW
namespace Go.Proofs.Ytadkcdcdgphhpaa.Tf
open Go.ChangeShapes Go.WideShapes Go.ChangeAt Go.RowKit Bs
set_option linter.unusedVariables false
set_option linter.unusedSimpArgs false

set_option maxHeartbeats 4000000 in
set_option maxRecDepth 10000 in
theorem ref_1 (bl : Int) (ts ds : ByteArray) (fa : Option Addr) (fc : Nat) (m : Msg) (w : World) (hop : (m.op : Int) = 1) (hbl : (m.block : Int) = bl) (hb0 : 0 ≤ bl) (hb1 : bl ≤ 65535) (hts : ts.data.toList = m.text) (hds : ds.data.toList = m.data) (hA : AtF w fa m.fs) (hcap : m.fs.length ≤ fc) (hl : heavyF m.fs ≤ 1048576) (ht : m.text.length ≤ 1048576) (hd : m.data.length ≤ 1048576) :
    Calls Try.prog 42 #[.agg #[.int .u16 1, .int .u16 bl, .string ts, .string ds, .slice fa m.fs.length fc]] w fun e w' => e = .returned (.tuple #[.string ⟨(wrB m).toArray⟩, .int .i64 (wrK m)]) ∧ Below w.heap.size w w' := by
  obtain ⟨W, hWW⟩ : ∃ W, W = w.alloc (.cells #[.int .u16 1, .int .u16 bl, .string ts, .string ds, .slice fa m.fs.length fc] 67) := ⟨_, rfl⟩
  have hW0 : Below w.heap.size w W := by rw [hWW]; exact (Below.refl _ _).alloc (Nat.le_refl _) _
  have hWz : W.heap.size = w.heap.size + 1 := by rw [hWW]; simp
  have hbox : ∀ j, W.cell? ⟨w.heap.size, j, none⟩ = #[.int .u16 1, .int .u16 bl, .string ts, .string ds, .slice fa m.fs.length fc][j]? := fun j => by rw [hWW, cell_of_row _ w.heap.size j _ _ (0, 0) (heap_alloc_new w _)]
  have hdz : ds.size = m.data.length := by rw [← hds, len_str]
  have htz : ts.size = m.text.length := by rw [← hts, len_str]
  obtain ⟨s0, hs0⟩ : ∃ s0 : ByteArray, s0 = ⟨(be2 m.op).toArray⟩ := ⟨_, rfl⟩
  have hs0z : s0.size = 2 := by rw [hs0, str_size]; rfl
  have HBG := hide (big_be2 m.op 1 hop (by omega) s0 hs0 W)
  have HA := hide hA
  have HW0 := hide hW0
  have HWZ := hide hWz
  have HBX := hide hbox
  have HWW := hide hWW
  have HTS := hide hts
  have HDS := hide hds
  have HOP := hide hop
  have HBL := hide hbl
  have HS0 := hide hs0
  clear hW0 hWz hbox hA hWW hts hds hop hbl hs0
  go_enter Try.func42, Try.ntmps42
  go_wp2_with fail
  rw [← unhide HWW]
  refine (unhide HBG).mono ?_
  rintro e w1 ⟨rfl, hb1'⟩
  have hz1 : w.heap.size + 1 ≤ w1.heap.size := by have := hb1'.size; rw [unhide HWZ] at this; exact this
  have hcc1 : ∀ j, w1.cell? ⟨w.heap.size, j, none⟩ = #[.int .u16 1, .int .u16 bl, .string ts, .string ds, .slice fa m.fs.length fc][j]? := fun j => by
    rw [hb1'.cell (p := ⟨w.heap.size, j, none⟩) (by show w.heap.size < _; rw [unhide HWZ]; omega)]; exact unhide HBX j
  have HB1 : Hid (Below w.heap.size w w1) := hide ((unhide HW0).trans (hb1'.mono (by rw [unhide HWZ]; omega)))
  have HC1 := hide hcc1
  clear hb1' HBG HWW HW0 HWZ HBX
  go_wp2_with fail
  refine (word_any ts m.text w1 (unhide HTS) (by omega)).mono ?_
  rintro e u ⟨rfl, rfl⟩
  by_cases hnm : nameB m.text = true
  rotate_left
  · have hnm' : nameB m.text = false := by simpa using hnm
    have HK : Hid (wrK m = 2 ∧ wrB m = []) := hide (by
      have hh : toldM m = false := by have := unhide HOP; unfold toldM; rw [if_pos (by omega), hnm', Bool.false_and]
      have : wrK m = 2 := by unfold wrK; rw [if_pos hh]
      exact ⟨this, by unfold wrB; rw [this]; rfl⟩)
    rw [hnm']
    clear hnm hnm'
    go_wp2
    go_ret2
    exact ⟨ret_two' (by rw [(unhide HK).2]) (by rw [(unhide HK).1]; rfl), unhide HB1⟩
  rw [hnm]
  have HTM : Hid (toldM m = toldB m.fs) := hide (by have := unhide HOP; unfold toldM; rw [if_pos (by omega), hnm, Bool.true_and])
  have HBM : Hid (bytesM m = be2 1 ++ (m.text ++ [0] ++ (octet ++ [0])) ++ flds8 m.fs) := hide (by have := unhide HOP; unfold bytesM; rw [show m.op = 1 by omega]; simp)
  obtain ⟨a1, ha1⟩ : ∃ a : ByteArray, a = ts ++ ⟨#[0, 111, 99, 116, 101, 116, 0]⟩ := ⟨_, rfl⟩
  obtain ⟨sP, hsP⟩ : ∃ a : ByteArray, a = s0 ++ a1 := ⟨_, rfl⟩
  have z1 : a1.size = ts.size + 7 := by rw [ha1, ByteArray.size_append]; rfl
  have haddP := fun u => run_string_add_sum (P := Try.prog) u ts ⟨#[0, 111, 99, 116, 101, 116, 0]⟩ (by show ts.size + 7 ≤ _; omega)
  have haddQ := fun u => run_string_add_sum (P := Try.prog) u s0 a1 (by omega)
  rw [← ha1] at haddP
  rw [← hsP] at haddQ
  have HSQ : Hid (sP = ⟨(be2 1 ++ (m.text ++ [0] ++ (octet ++ [0]))).toArray⟩) := hide (by
    have := unhide HOP
    rw [hsP, ha1, unhide HS0, str_of (unhide HTS), show m.op = 1 by omega, show (⟨#[0, 111, 99, 116, 101, 116, 0]⟩ : ByteArray) = ⟨([0] ++ (octet ++ [0]) : List UInt8).toArray⟩ from rfl, add_str, add_str]
    simp)
  clear ha1 hsP z1 hnm
  obtain ⟨Pf, hPf⟩ : ∃ Pf : List UInt8, Pf = be2 1 ++ (m.text ++ [0] ++ (octet ++ [0])) := ⟨_, rfl⟩
  have hPl : Pf.length ≤ 1048600 := by rw [hPf]; simp [be2_length, octet]; try omega
  have HSP : Hid (sP = ⟨Pf.toArray⟩) := hide (by rw [hPf]; exact unhide HSQ)
  have HPF := hide hPf
  have hfl := flds8_heavy m.fs
  have hlen : m.fs.length ≤ heavyF m.fs := by unfold heavyF; omega
  clear hPf HSQ
  go_wp2
  go_loopw [4, 32] (fun v4 i wr => ∃ k : Nat, k ≤ m.fs.length ∧ i = .int .i64 k ∧ v4 = .string ⟨(Pf ++ flds8 (m.fs.take k)).toArray⟩ ∧ Hid (toldB (m.fs.take k) = true) ∧ Hid (Below w1.heap.size w1 wr)) (fun _ i _ => m.fs.length - (intOf i).toNat)
  case atStart => exact ⟨0, Nat.zero_le _, rfl, by simp [flds8, unhide HSP], hide rfl, hide (Below.refl _ _)⟩
  case round =>
    obtain ⟨k, hk, rfl, rfl, HT, HV⟩ := hrel
    rename World => wr
    have hvz := (unhide HV).size
    have HW : Hid (Below w.heap.size w wr) := hide ((unhide HB1).trans ((unhide HV).mono (by omega)))
    have hcc : ∀ j, wr.cell? ⟨w.heap.size, j, none⟩ = #[.int .u16 1, .int .u16 bl, .string ts, .string ds, .slice fa m.fs.length fc][j]? := fun j => by
      rw [(unhide HV).cell (p := ⟨w.heap.size, j, none⟩) (by show w.heap.size < _; omega)]; exact unhide HC1 j
    obtain ⟨sk, hsk⟩ : ∃ s : ByteArray, s = ⟨(Pf ++ flds8 (m.fs.take k)).toArray⟩ := ⟨_, rfl⟩
    have hskz : sk.size ≤ 4194304 := by
      have := flds8_le m.fs k
      rw [hsk, str_size, List.length_append]; omega
    rw [← hsk]
    have HSK := hide hsk
    clear hsk
    by_cases hlt : k < m.fs.length
    · obtain ⟨ad, hfa, c0, c1⟩ := (unhide HA).below (unhide HW) (Nat.le_refl _) k hlt
      subst hfa
      have hlt' : (k : Int) < (m.fs.length : Int) := by omega
      have hkc : (k : Int) ≤ (fc : Int) := by omega
      have h1 := heavyF_one m.fs k hlt
      have HTK := hide (toldB_take m.fs k hlt)
      have HFK := hide (flds8_take m.fs k hlt)
      rw [unhide HT, Bool.true_and] at HTK
      obtain ⟨n, v, hnv⟩ : ∃ n v, m.fs[k] = (n, v) := ⟨_, _, rfl⟩
      rw [hnv] at c0 c1 HTK HFK h1
      simp only at h1
      have hgd : goodF (n, v) = (nameB n && (lowL n == n) && nameB v) := rfl
      rw [hgd] at HTK
      obtain ⟨ns, hns⟩ : ∃ s : ByteArray, s = ⟨n.toArray⟩ := ⟨_, rfl⟩
      obtain ⟨vs, hvs⟩ : ∃ s : ByteArray, s = ⟨v.toArray⟩ := ⟨_, rfl⟩
      rw [← hns] at c0
      rw [← hvs] at c1
      have hnz : ns.size = n.length := by rw [hns, str_size]
      have hvz' : vs.size = v.length := by rw [hvs, str_size]
      have hbn : ns.data.toList.length ≤ 9223372036854775806 := by rw [hns]; simp; omega
      have hbv : vs.data.toList.length ≤ 9223372036854775806 := by rw [hvs]; simp; omega
      have HI := hide (fun (s : ByteArray) (h : s.data.toList.length ≤ 9223372036854775806) u => word_any s _ u rfl h)
      have HSM := hide (fun u => low_any ns n u (by rw [hns]) (by omega))
      have HNM := hide (fun (u : World) (hu : AtF u (some ad) m.fs) => named_any (some ad) fc (m.fs.take k) ns n u (by rw [hns]) (hu.take k) (by rw [List.length_take]; omega))
      rw [List.length_take, Nat.min_eq_left (by omega)] at HNM
      have gn : nameB ns.data.toList = nameB n := by rw [hns]
      have gv : nameB vs.data.toList = nameB v := by rw [hvs]
      have HNS := hide hns
      have HVS := hide hvs
      have hwz := (unhide HW).size
      have HBD := hide (fun h => toldB_prefix m.fs (k + 1) h)
      clear hns hvs hnv hgd
      by_cases hn : nameB n = true
      · rw [hn] at gn
        by_cases hv : nameB v = true
        · rw [hv] at gv
          obtain ⟨ls, hls⟩ : ∃ s : ByteArray, s = ⟨(lowL n).toArray⟩ := ⟨_, rfl⟩
          rw [← hls] at HSM
          by_cases hlo : lowL n = n
          · have e1 : ls = ns := by rw [hls, hlo, unhide HNS]
            rw [e1] at HSM
            rw [hn, hlo, hv] at HTK
            clear hls e1
            obtain ⟨b, hb⟩ : ∃ b, b = namedB (m.fs.take k) n := ⟨_, rfl⟩
            rw [← hb] at HNM HTK
            have hat : ∀ u, Below wr.heap.size wr u → AtF u (some ad) m.fs := fun u hu => (unhide HA).below ((unhide HW).trans (hu.mono hwz)) (Nat.le_refl _)
            have HAT := hide hat
            clear hb hn hlo hv hat
            cases b with
            | true =>
              have hh2 : toldB m.fs = false := unhide HBD (by rw [unhide HTK]; simp)
              have HK : Hid (wrK m = 2 ∧ wrB m = []) := hide (by
                have hh : toldM m = false := by rw [unhide HTM]; exact hh2
                have : wrK m = 2 := by unfold wrK; rw [if_pos hh]
                exact ⟨this, by unfold wrB; rw [this]; rfl⟩)
              clear hh2
              go_wp2
              go_region_held3 (fun u => u.cell? ⟨wr.heap.size, 0, none⟩ = some (.string ns) ∧ u.cell? ⟨wr.heap.size, 1, none⟩ = some (.string vs) ∧ u.cell? ⟨w.heap.size, 4, none⟩ = some (.slice (some ad) m.fs.length fc) ∧ wr.heap.size < u.heap.size) (go_keep)
                (first | (go_at_call 66; refine (unhide HI _ (by first | exact hbn | exact hbv) _).mono ?_; rintro e u ⟨rfl, rfl⟩) | (go_at_call 67; refine (unhide HSM _).mono ?_; rintro e u1 ⟨rfl, hb1'⟩; have hc := below_cells hb1'; have hz := hb1'.size; have hzz : wr.heap.size < u1.heap.size := (by simp at hz; omega); have HBR1 : Hid (Below wr.heap.size wr u1) := hide (((Below.refl _ wr).alloc (Nat.le_refl _) _).drew.trans (hb1'.mono (by simp))); have hbx1 : u1.cell? ⟨w.heap.size, 4, none⟩ = some (.slice (some ad) m.fs.length fc) := ((unhide HBR1).cell (p := ⟨w.heap.size, 4, none⟩) (by show w.heap.size < _; omega)).trans (hcc 4)) | (go_at_call 70; refine (unhide HNM _ (unhide HAT _ (unhide HBR1))).mono ?_; rintro e u2 ⟨rfl, hb2'⟩; have hc2 := below_cells hb2'; have hz2 := hb2'.size; have hzz2 : wr.heap.size < u2.heap.size := (by omega); have HBR2 : Hid (Below wr.heap.size wr u2) := hide ((unhide HBR1).trans (hb2'.mono (by omega))); have hbx2 : u2.cell? ⟨w.heap.size, 4, none⟩ = some (.slice (some ad) m.fs.length fc) := ((unhide HBR2).cell (p := ⟨w.heap.size, 4, none⟩) (by show w.heap.size < _; omega)).trans (hcc 4)))
              have HBU : Hid (Below w.heap.size w u2) := hide ((unhide HW).trans ((unhide HBR2).mono hwz))
              clear hc hc2 hbx1 hbx2
              go_wp2
              go_ret2
              exact ⟨ret_two' (by rw [(unhide HK).2]) (by rw [(unhide HK).1]; rfl), unhide HBU⟩
            | false =>
              have HTN : Hid (toldB (m.fs.take (k + 1)) = true) := hide (by rw [unhide HTK]; simp)
              obtain ⟨z, hz0⟩ : ∃ z : ByteArray, z = ⟨#[0]⟩ := ⟨_, rfl⟩
              obtain ⟨a1, ha1⟩ : ∃ a : ByteArray, a = ns ++ ⟨#[0]⟩ := ⟨_, rfl⟩
              obtain ⟨a2, ha2⟩ : ∃ a : ByteArray, a = a1 ++ vs := ⟨_, rfl⟩
              obtain ⟨a3, ha3⟩ : ∃ a : ByteArray, a = a2 ++ ⟨#[0]⟩ := ⟨_, rfl⟩
              obtain ⟨a4, ha4⟩ : ∃ a : ByteArray, a = sk ++ a3 := ⟨_, rfl⟩
              have z1 : a1.size = ns.size + 1 := by rw [ha1, ByteArray.size_append]; rfl
              have z2 : a2.size = a1.size + vs.size := by rw [ha2, ByteArray.size_append]
              have z3 : a3.size = a2.size + 1 := by rw [ha3, ByteArray.size_append]; rfl
              have hadd1 := fun u => run_string_add_sum (P := Try.prog) u ns ⟨#[0]⟩ (by show ns.size + 1 ≤ _; omega)
              have hadd2 := fun u => run_string_add_sum (P := Try.prog) u a1 vs (by omega)
              have hadd3 := fun u => run_string_add_sum (P := Try.prog) u a2 ⟨#[0]⟩ (by show a2.size + 1 ≤ _; omega)
              have hadd4 := fun u => run_string_add_sum (P := Try.prog) u sk a3 (by omega)
              rw [← ha1] at hadd1
              rw [← ha2] at hadd2
              rw [← ha3] at hadd3
              rw [← ha4] at hadd4
              have HA4 : Hid (a4 = ⟨(Pf ++ flds8 (m.fs.take (k + 1))).toArray⟩) := hide (by
                rw [ha4, ha3, ha2, ha1, unhide HSK, unhide HNS, unhide HVS, unhide HFK, show (⟨#[0]⟩ : ByteArray) = ⟨[(0 : UInt8)].toArray⟩ from rfl, add_str, add_str, add_str, add_str]
                simp [fd8])
              clear ha1 ha2 ha3 ha4 z1 z2 z3 hz0
              go_wp2
              go_region_held3 (fun u => u.cell? ⟨wr.heap.size, 0, none⟩ = some (.string ns) ∧ u.cell? ⟨wr.heap.size, 1, none⟩ = some (.string vs) ∧ u.cell? ⟨w.heap.size, 4, none⟩ = some (.slice (some ad) m.fs.length fc) ∧ wr.heap.size < u.heap.size) (go_keep)
                (first | (go_at_call 66; refine (unhide HI _ (by first | exact hbn | exact hbv) _).mono ?_; rintro e u ⟨rfl, rfl⟩) | (go_at_call 67; refine (unhide HSM _).mono ?_; rintro e u1 ⟨rfl, hb1'⟩; have hc := below_cells hb1'; have hz := hb1'.size; have hzz : wr.heap.size < u1.heap.size := (by simp at hz; omega); have HBR1 : Hid (Below wr.heap.size wr u1) := hide (((Below.refl _ wr).alloc (Nat.le_refl _) _).drew.trans (hb1'.mono (by simp))); have hbx1 : u1.cell? ⟨w.heap.size, 4, none⟩ = some (.slice (some ad) m.fs.length fc) := ((unhide HBR1).cell (p := ⟨w.heap.size, 4, none⟩) (by show w.heap.size < _; omega)).trans (hcc 4)) | (go_at_call 70; refine (unhide HNM _ (unhide HAT _ (unhide HBR1))).mono ?_; rintro e u2 ⟨rfl, hb2'⟩; have hc2 := below_cells hb2'; have hz2 := hb2'.size; have hzz2 : wr.heap.size < u2.heap.size := (by omega); have HBR2 : Hid (Below wr.heap.size wr u2) := hide ((unhide HBR1).trans (hb2'.mono (by omega))); have hbx2 : u2.cell? ⟨w.heap.size, 4, none⟩ = some (.slice (some ad) m.fs.length fc) := ((unhide HBR2).cell (p := ⟨w.heap.size, 4, none⟩) (by show w.heap.size < _; omega)).trans (hcc 4)))
              have HVU : Hid (Below w1.heap.size w1 u2) := hide ((unhide HV).trans ((unhide HBR2).mono hvz))
              have d0 : u2.cell? ⟨wr.heap.size, 0, none⟩ = some (.string ns) := (hc2 wr.heap.size 0 (by omega)).trans ((hc wr.heap.size 0 (by simp)).trans (cell_of_row _ wr.heap.size 0 _ _ (0, 0) (heap_alloc_new wr _)))
              have d1 : u2.cell? ⟨wr.heap.size, 1, none⟩ = some (.string vs) := (hc2 wr.heap.size 1 (by omega)).trans ((hc wr.heap.size 1 (by simp)).trans (cell_of_row _ wr.heap.size 1 _ _ (0, 0) (heap_alloc_new wr _)))
              clear hc hc2 hbx1 hbx2
              go_wp2
              exact ⟨⟨k + 1, by omega, by go_num, by rw [unhide HA4], HTN, HVU⟩, by simp [intOf]; omega⟩
          · have hne : (ls.toList == ns.toList) = false := by
              rw [ByteArray.toList_eq, ByteArray.toList_eq, hls, unhide HNS]
              simpa using hlo
            have hh2 : toldB m.fs = false := unhide HBD (by rw [unhide HTK]; simp [hlo])
            have HK : Hid (wrK m = 2 ∧ wrB m = []) := hide (by
              have hh : toldM m = false := by rw [unhide HTM]; exact hh2
              have : wrK m = 2 := by unfold wrK; rw [if_pos hh]
              exact ⟨this, by unfold wrB; rw [this]; rfl⟩)
            clear hh2 hn hlo hls hv
            go_wp2
            refine wp_region_held_drew (S := fun u => u.cell? ⟨wr.heap.size, 0, none⟩ = some (.string ns) ∧ u.cell? ⟨wr.heap.size, 1, none⟩ = some (.string vs)) (by kernel_rfl) (by go_keep) (fun hS0 => ?_)
            refine wpAnyH_take (i := 0) (v := .pointer (some ⟨wr.heap.size, 0, none⟩)) rfl (by kernel_rfl) (by kernel_rfl) (by kernel_rfl) (fun _ _ _ h => h) (Or.inl ⟨by kernel_rfl, ?_⟩) hS0 ?_
            · intro u hu; obtain ⟨hu0, hu1⟩ := hu; go_simp
            try simp only [Act.put, List.setIfInBounds_toArray, List.set_cons_zero, List.set_cons_succ]
            refine wpAnyH_take (i := 1) (v := .string ns) rfl (by kernel_rfl) (by kernel_rfl) (by kernel_rfl) (fun _ _ _ h => h) (Or.inl ⟨by kernel_rfl, ?_⟩) hS0 ?_
            · intro u hu; obtain ⟨hu0, hu1⟩ := hu; go_simp
            try simp only [Act.put, List.setIfInBounds_toArray, List.set_cons_zero, List.set_cons_succ]
            refine wpAnyH_ready (rs := [2]) (by kernel_rfl) (by simp) ?_
            refine AllReadyH.cons rfl (fun K hK => ?_) AllReadyH.nil
            go_simp
            refine (unhide HI _ hbn _).mono ?_
            rintro e u ⟨rfl, rfl⟩
            rw [gn]
            refine hK.out _ _ hS0 (fun _ => ?_)
            clear hK K
            try simp only [Act.put, List.setIfInBounds_toArray, List.set_cons_zero, List.set_cons_succ]
            refine wpAnyH_take (i := 3) (v := .bool false) rfl (by kernel_rfl) (by kernel_rfl) (by kernel_rfl) (fun _ _ _ h => h) (Or.inl ⟨by kernel_rfl, ?_⟩) hS0 ?_
            · intro u hu; obtain ⟨hu0, hu1⟩ := hu; go_simp
            try simp only [Act.put, List.setIfInBounds_toArray, List.set_cons_zero, List.set_cons_succ]
            refine wpAnyH_take (i := 4) (v := .bool false) rfl (by kernel_rfl) (by kernel_rfl) (by kernel_rfl) (fun _ _ _ h => h) (Or.inl ⟨by kernel_rfl, ?_⟩) hS0 ?_
            · intro u hu; obtain ⟨hu0, hu1⟩ := hu; go_simp
            try simp only [Act.put, List.setIfInBounds_toArray, List.set_cons_zero, List.set_cons_succ]
            refine wpAnyH_take (i := 5) (v := .pointer (some ⟨wr.heap.size, 1, none⟩)) rfl (by kernel_rfl) (by kernel_rfl) (by kernel_rfl) (fun _ _ _ h => h) (Or.inl ⟨by kernel_rfl, ?_⟩) hS0 ?_
            · intro u hu; obtain ⟨hu0, hu1⟩ := hu; go_simp
            try simp only [Act.put, List.setIfInBounds_toArray, List.set_cons_zero, List.set_cons_succ]
            refine wpAnyH_take (i := 6) (v := .string vs) rfl (by kernel_rfl) (by kernel_rfl) (by kernel_rfl) (fun _ _ _ h => h) (Or.inl ⟨by kernel_rfl, ?_⟩) hS0 ?_
            · intro u hu; obtain ⟨hu0, hu1⟩ := hu; go_simp
            try simp only [Act.put, List.setIfInBounds_toArray, List.set_cons_zero, List.set_cons_succ]
            refine wpAnyH_ready (rs := [7]) (by kernel_rfl) (by simp) ?_
            refine AllReadyH.cons rfl (fun K hK => ?_) AllReadyH.nil
            go_simp
            refine (unhide HI _ hbv _).mono ?_
            rintro e u ⟨rfl, rfl⟩
            rw [gv]
            refine hK.out _ _ hS0 (fun _ => ?_)
            clear hK K
            try simp only [Act.put, List.setIfInBounds_toArray, List.set_cons_zero, List.set_cons_succ]
            refine wpAnyH_take (i := 8) (v := .bool false) rfl (by kernel_rfl) (by kernel_rfl) (by kernel_rfl) (fun _ _ _ h => h) (Or.inl ⟨by kernel_rfl, ?_⟩) hS0 ?_
            · intro u hu; obtain ⟨hu0, hu1⟩ := hu; go_simp
            try simp only [Act.put, List.setIfInBounds_toArray, List.set_cons_zero, List.set_cons_succ]
            refine wpAnyH_take (i := 9) (v := .bool false) rfl (by kernel_rfl) (by kernel_rfl) (by kernel_rfl) (fun _ _ _ h => h) (Or.inl ⟨by kernel_rfl, ?_⟩) hS0 ?_
            · intro u hu; obtain ⟨hu0, hu1⟩ := hu; go_simp
            try simp only [Act.put, List.setIfInBounds_toArray, List.set_cons_zero, List.set_cons_succ]
            refine wpAnyH_take (i := 10) (v := .bool false) rfl (by kernel_rfl) (by kernel_rfl) (by kernel_rfl) (fun _ _ _ h => h) (Or.inl ⟨by kernel_rfl, ?_⟩) hS0 ?_
            · intro u hu; obtain ⟨hu0, hu1⟩ := hu; go_simp
            try simp only [Act.put, List.setIfInBounds_toArray, List.set_cons_zero, List.set_cons_succ]
            refine wpAnyH_take (i := 11) (v := .pointer (some ⟨wr.heap.size, 0, none⟩)) rfl (by kernel_rfl) (by kernel_rfl) (by kernel_rfl) (fun _ _ _ h => h) (Or.inl ⟨by kernel_rfl, ?_⟩) hS0 ?_
            · intro u hu; obtain ⟨hu0, hu1⟩ := hu; go_simp
            try simp only [Act.put, List.setIfInBounds_toArray, List.set_cons_zero, List.set_cons_succ]
            refine wpAnyH_take (i := 12) (v := .string ns) rfl (by kernel_rfl) (by kernel_rfl) (by kernel_rfl) (fun _ _ _ h => h) (Or.inl ⟨by kernel_rfl, ?_⟩) hS0 ?_
            · intro u hu; obtain ⟨hu0, hu1⟩ := hu; go_simp
            try simp only [Act.put, List.setIfInBounds_toArray, List.set_cons_zero, List.set_cons_succ]
            refine wpAnyH_take (i := 14) (v := .pointer (some ⟨wr.heap.size, 0, none⟩)) rfl (by kernel_rfl) (by kernel_rfl) (by kernel_rfl) (fun _ _ _ h => h) (Or.inl ⟨by kernel_rfl, ?_⟩) hS0 ?_
            · intro u hu; obtain ⟨hu0, hu1⟩ := hu; go_simp
            try simp only [Act.put, List.setIfInBounds_toArray, List.set_cons_zero, List.set_cons_succ]
            refine wpAnyH_take (i := 15) (v := .string ns) rfl (by kernel_rfl) (by kernel_rfl) (by kernel_rfl) (fun _ _ _ h => h) (Or.inl ⟨by kernel_rfl, ?_⟩) hS0 ?_
            · intro u hu; obtain ⟨hu0, hu1⟩ := hu; go_simp
            try simp only [Act.put, List.setIfInBounds_toArray, List.set_cons_zero, List.set_cons_succ]
            refine wpAnyH_ready (rs := [13]) (by kernel_rfl) (by simp) ?_
            refine AllReadyH.cons rfl (fun K hK => ?_) AllReadyH.nil
            go_simp
            refine (unhide HSM _).mono ?_
            rintro e u ⟨rfl, hb⟩
            have hS1 : u.cell? ⟨wr.heap.size, 0, none⟩ = some (.string ns) ∧ u.cell? ⟨wr.heap.size, 1, none⟩ = some (.string vs) := ⟨(below_cells hb _ _ (by simp)).trans hS0.1, (below_cells hb _ _ (by simp)).trans hS0.2⟩
            have HBU : Hid (Below w.heap.size w u) := hide ((((unhide HW).alloc hwz _).drew).trans (hb.mono (by simp; omega)))
            clear hb
            refine hK.out _ _ hS1 (fun _ => ?_)
            clear hK K
            try simp only [Act.put, List.setIfInBounds_toArray, List.set_cons_zero, List.set_cons_succ]
            refine wpAnyH_take (i := 16) (v := .bool true) rfl (by kernel_rfl) (by kernel_rfl) (by kernel_rfl) (fun _ _ _ h => h) (Or.inl ⟨by kernel_rfl, ?_⟩) hS1 ?_
            · intro u hu; obtain ⟨hu0, hu1⟩ := hu; go_simp
            try simp only [Act.put, List.setIfInBounds_toArray, List.set_cons_zero, List.set_cons_succ]
            refine wpAnyH_take (i := 17) (v := .bool true) rfl (by kernel_rfl) (by kernel_rfl) (by kernel_rfl) (fun _ _ _ h => h) (Or.inl ⟨by kernel_rfl, ?_⟩) hS1 ?_
            · intro u hu; obtain ⟨hu0, hu1⟩ := hu; go_simp
            try simp only [Act.put, List.setIfInBounds_toArray, List.set_cons_zero, List.set_cons_succ]
            refine wpAnyH_take (i := 18) (v := .bool true) rfl (by kernel_rfl) (by kernel_rfl) (by kernel_rfl) (fun _ _ _ h => h) (Or.inl ⟨by kernel_rfl, ?_⟩) hS1 ?_
            · intro u hu; obtain ⟨hu0, hu1⟩ := hu; go_simp
            try simp only [Act.put, List.setIfInBounds_toArray, List.set_cons_zero, List.set_cons_succ]
            refine wpAnyH_take (i := 19) (v := undef) rfl (by kernel_rfl) (by kernel_rfl) (by kernel_rfl) (fun _ _ _ h => h) (Or.inr ⟨by kernel_rfl, rfl⟩) hS1 ?_
            try simp only [Act.put, List.setIfInBounds_toArray, List.set_cons_zero, List.set_cons_succ]
            refine wpAnyH_take (i := 20) (v := undef) rfl (by kernel_rfl) (by kernel_rfl) (by kernel_rfl) (fun _ _ _ h => h) (Or.inr ⟨by kernel_rfl, rfl⟩) hS1 ?_
            try simp only [Act.put, List.setIfInBounds_toArray, List.set_cons_zero, List.set_cons_succ]
            refine wpAnyH_take (i := 21) (v := undef) rfl (by kernel_rfl) (by kernel_rfl) (by kernel_rfl) (fun _ _ _ h => h) (Or.inr ⟨by kernel_rfl, rfl⟩) hS1 ?_
            try simp only [Act.put, List.setIfInBounds_toArray, List.set_cons_zero, List.set_cons_succ]
            refine wpAnyH_take (i := 22) (v := undef) rfl (by kernel_rfl) (by kernel_rfl) (by kernel_rfl) (fun _ _ _ h => h) (Or.inr ⟨by kernel_rfl, rfl⟩) hS1 ?_
            try simp only [Act.put, List.setIfInBounds_toArray, List.set_cons_zero, List.set_cons_succ]
            refine wpAnyH_take (i := 23) (v := undef) rfl (by kernel_rfl) (by kernel_rfl) (by kernel_rfl) (fun _ _ _ h => h) (Or.inr ⟨by kernel_rfl, rfl⟩) hS1 ?_
            try simp only [Act.put, List.setIfInBounds_toArray, List.set_cons_zero, List.set_cons_succ]
            refine wpAnyH_take (i := 24) (v := undef) rfl (by kernel_rfl) (by kernel_rfl) (by kernel_rfl) (fun _ _ _ h => h) (Or.inr ⟨by kernel_rfl, rfl⟩) hS1 ?_
            try simp only [Act.put, List.setIfInBounds_toArray, List.set_cons_zero, List.set_cons_succ]
            refine wpAnyH_take (i := 25) (v := undef) rfl (by kernel_rfl) (by kernel_rfl) (by kernel_rfl) (fun _ _ _ h => h) (Or.inr ⟨by kernel_rfl, rfl⟩) hS1 ?_
            try simp only [Act.put, List.setIfInBounds_toArray, List.set_cons_zero, List.set_cons_succ]
            refine wpAnyH_ready (rs := [26]) (by kernel_rfl) (by simp) ?_
            refine AllReadyH.cons rfl (fun K hK => ?_) AllReadyH.nil
            go_simp
            refine hK.out _ _ hS1 (fun _ => ?_)
            clear hK K
            try simp only [Act.put, List.setIfInBounds_toArray, List.set_cons_zero, List.set_cons_succ]
            refine wpAnyH_done (by kernel_rfl) ?_ _
            go_wp2
            go_ret2
            exact ⟨ret_two' (by rw [(unhide HK).2]) (by rw [(unhide HK).1]; rfl), unhide HBU⟩
        · have hv' : nameB v = false := by simpa using hv
          rw [hv'] at gv
          have hh2 : toldB m.fs = false := unhide HBD (by rw [unhide HTK, hv']; simp)
          have HK : Hid (wrK m = 2 ∧ wrB m = []) := hide (by
            have hh : toldM m = false := by rw [unhide HTM]; exact hh2
            have : wrK m = 2 := by unfold wrK; rw [if_pos hh]
            exact ⟨this, by unfold wrB; rw [this]; rfl⟩)
          clear hh2 hn hv hv'
          go_wp2
          go_quiet ((go_at_call 66; exact Calls.quiet_of_same ((unhide HI _ (by first | exact hbn | exact hbv) _).mono fun _ _ h => ⟨h.1, h.2.symm⟩)))
          go_wp2
          go_ret2
          exact ⟨ret_two' (by rw [(unhide HK).2]) (by rw [(unhide HK).1]; rfl), below_drewN ((unhide HW).alloc hwz _) _⟩
      · have hn' : nameB n = false := by simpa using hn
        rw [hn'] at gn
        have hh2 : toldB m.fs = false := unhide HBD (by rw [unhide HTK, hn']; simp)
        have HK : Hid (wrK m = 2 ∧ wrB m = []) := hide (by
          have hh : toldM m = false := by rw [unhide HTM]; exact hh2
          have : wrK m = 2 := by unfold wrK; rw [if_pos hh]
          exact ⟨this, by unfold wrB; rw [this]; rfl⟩)
        clear hh2 hn hn'
        go_wp2
        go_quiet ((go_at_call 66; exact Calls.quiet_of_same ((unhide HI _ (by first | exact hbn | exact hbv) _).mono fun _ _ h => ⟨h.1, h.2.symm⟩)))
        go_wp2
        go_ret2
        exact ⟨ret_two' (by rw [(unhide HK).2]) (by rw [(unhide HK).1]; rfl), below_drewN ((unhide HW).alloc hwz _) _⟩
    · have hlt' : ¬ (k : Int) < (m.fs.length : Int) := by omega
      have HTM2 : Hid (toldM m = true ∧ ¬ (m.op = 3 ∧ 1024 < m.data.length)) := hide (by
        have q := unhide HT
        rw [List.take_of_length_le (by omega)] at q
        have := unhide HOP
        exact ⟨by rw [unhide HTM, q], by omega⟩)
      have HSE : Hid (sk = ⟨(bytesM m).toArray⟩) := hide (by rw [unhide HSK, List.take_of_length_le (by omega), unhide HBM, unhide HPF])
      clear hlt
      have hSz : sk.size = (bytesM m).length := by rw [unhide HSE, str_size]
      by_cases hM : 1472 < sk.size
      · have hM' : (1472 : Int) < (sk.size : Int) := by omega
        have HK : Hid (wrK m = 7 ∧ wrB m = []) := hide (by
          have : wrK m = 7 := by unfold wrK; rw [(unhide HTM2).1, if_neg (by simp), if_neg (unhide HTM2).2, if_pos (by omega)]
          exact ⟨this, by unfold wrB; rw [this]; rfl⟩)
        clear hSz
        go_wp2
        go_ret2
        exact ⟨ret_two' (by rw [(unhide HK).2]) (by rw [(unhide HK).1]; rfl), unhide HW⟩
      · have hM' : ¬ (1472 : Int) < (sk.size : Int) := by omega
        have HK : Hid (wrK m = 0 ∧ sk = ⟨(wrB m).toArray⟩) := hide (by
          have : wrK m = 0 := by unfold wrK; rw [(unhide HTM2).1, if_neg (by simp), if_neg (unhide HTM2).2, if_neg (by omega)]
          exact ⟨this, by unfold wrB; rw [if_pos this]; exact unhide HSE⟩)
        clear hSz
        go_wp2
        go_ret2
        exact ⟨ret_two' (by rw [← (unhide HK).2]) (by rw [(unhide HK).1]; rfl), unhide HW⟩
end Go.Proofs.Ytadkcdcdgphhpaa.Tf

import Derived.Test.YtadkcdcdgphhpaaTFFields
import Derived.Deep.RegionHeld3
namespace Go.Proofs.Ytadkcdcdgphhpaa.Tf
open Go.ChangeShapes Go.WideShapes Go.ChangeAt Go.RowKit Bs
set_option linter.unusedVariables false
set_option linter.unusedSimpArgs false

theorem below_cells {w w' : World} (h : Below w.heap.size w w') : ∀ b o, b < w.heap.size → w'.cell? ⟨b, o, none⟩ = w.cell? ⟨b, o, none⟩ := fun b o hb => h.cell (p := ⟨b, o, none⟩) hb
theorem below_drewN {N : Nat} {a w : World} (h : Below N a w) (n : Nat) : Below N a (w.drewN n) := ⟨h.os, h.tape, h.output, h.size, h.block⟩
theorem told_bad {fs : Flds} {k : Nat} (h : k < fs.length) (hb : goodF fs[k] = false) : toldB fs = false := by
  apply toldB_prefix fs (k + 1)
  rw [toldB_take fs k h, hb]; simp
def allGood (fs : Flds) : Bool := fs.all goodF
theorem allGood_take {fs : Flds} {k : Nat} (h : k < fs.length) (h0 : allGood (fs.take k) = true) (h1 : goodF fs[k] = true) : allGood (fs.take (k + 1)) = true := by
  unfold allGood at *
  rw [List.take_succ_eq_append_getElem h, List.all_append, h0]
  simpa using h1

set_option maxHeartbeats 1000000 in
set_option maxRecDepth 10000 in
theorem mayFs_any (a : Option Addr) (cap : Nat) (fs : Flds) (w : World) (hA : AtF w a fs) (hl : heavyF fs ≤ 268435456) :
    Calls Try.prog 135 #[.slice a fs.length cap] w fun e w' => e = .returned (.bool (toldB fs)) ∧ Below w.heap.size w w' := by
  have hlen : fs.length ≤ heavyF fs := by unfold heavyF; omega
  have HA := hide hA
  clear hA
  go_enter Try.func135, Try.ntmps135
  go_wp2
  go_loopw [7] (fun i wr => ∃ k : Nat, k ≤ fs.length ∧ i = .int .i64 k ∧ Hid (allGood (fs.take k) = true) ∧ Hid (Below w.heap.size w wr)) (fun i _ => fs.length - (intOf i).toNat)
  case atStart => exact ⟨0, Nat.zero_le _, rfl, hide rfl, hide (Below.refl _ _)⟩
  case round =>
    obtain ⟨k, hk, rfl, HG, HW⟩ := hrel
    rename World => wr
    have hwz := (unhide HW).size
    by_cases hlt : k < fs.length
    · obtain ⟨ad, rfl, c0, c1⟩ := (unhide HA).below (unhide HW) (Nat.le_refl _) k hlt
      have hlt' : (k : Int) < (fs.length : Int) := by omega
      have h1 := heavyF_one fs k hlt
      have HBD := hide (fun h => told_bad (fs := fs) hlt h)
      have HOK := hide (fun h => allGood_take (fs := fs) hlt (unhide HG) h)
      obtain ⟨n, v, hnv⟩ : ∃ n v, fs[k] = (n, v) := ⟨_, _, rfl⟩
      rw [hnv] at c0 c1 HBD HOK h1
      simp only at h1
      have hgd : goodF (n, v) = (nameB n && (lowL n == n) && nameB v) := rfl
      obtain ⟨ns, hns⟩ : ∃ s : ByteArray, s = ⟨n.toArray⟩ := ⟨_, rfl⟩
      obtain ⟨vs, hvs⟩ : ∃ s : ByteArray, s = ⟨v.toArray⟩ := ⟨_, rfl⟩
      rw [← hns] at c0
      rw [← hvs] at c1
      have hbn : ns.data.toList.length ≤ 9223372036854775807 := by rw [hns]; simp; omega
      have hbv : vs.data.toList.length ≤ 9223372036854775807 := by rw [hvs]; simp; omega
      have HI := hide (fun (s : ByteArray) (h : s.data.toList.length ≤ 9223372036854775807) u => isName_any s _ u rfl h)
      have HSM := hide (fun u => small_any ns n u (by rw [hns]) (by omega))
      have gn : nameB ns.data.toList = nameB n := by rw [hns]
      have gv : nameB vs.data.toList = nameB v := by rw [hvs]
      have HNS := hide hns
      clear hns hvs hnv
      by_cases hn : nameB n = true
      · rw [hn] at gn
        obtain ⟨ls, hls⟩ : ∃ s : ByteArray, s = ⟨(lowL n).toArray⟩ := ⟨_, rfl⟩
        rw [← hls] at HSM
        by_cases hlo : lowL n = n
        · have e1 : ls = ns := by rw [hls, hlo, unhide HNS]
          rw [e1] at HSM
          clear hls e1
          by_cases hv : nameB v = true
          · rw [hv] at gv
            have HN : Hid (allGood (fs.take (k + 1)) = true) := hide (unhide HOK (by rw [hgd, hn, hlo, hv]; simp))
            clear HBD HOK hgd hn hlo hv
            go_wp2
            go_region_held3 (fun u => u.cell? ⟨wr.heap.size, 0, none⟩ = some (.string ns) ∧ u.cell? ⟨wr.heap.size, 1, none⟩ = some (.string vs) ∧ wr.heap.size < u.heap.size) (go_keep)
              (first | (go_at_call 132; refine (unhide HI _ (by first | exact hbn | exact hbv) _).mono ?_; rintro e u ⟨rfl, rfl⟩) | (go_at_call 147; refine (unhide HSM _).mono ?_; rintro e u ⟨rfl, hb⟩; have hc := below_cells hb; have hz := hb.size; have hzz : wr.heap.size < u.heap.size := by first | omega | (simp at hz; omega)))
            have HBU : Hid (Below w.heap.size w u) := hide ((((unhide HW).alloc hwz _).drew).trans (‹Below _ _ u›.mono (by simp; omega)))
            go_wp2
            exact ⟨⟨k + 1, by omega, by go_num, HN, HBU⟩, by simp [intOf]; omega⟩
          · have hv' : nameB v = false := by simpa using hv
            rw [hv'] at gv
            have HN : Hid (toldB fs = false) := hide (unhide HBD (by rw [hgd, hv']; simp))
            clear HBD HOK hgd hn hlo hv hv'
            go_wp2
            go_region_held3 (fun u => u.cell? ⟨wr.heap.size, 0, none⟩ = some (.string ns) ∧ u.cell? ⟨wr.heap.size, 1, none⟩ = some (.string vs) ∧ wr.heap.size < u.heap.size) (go_keep)
              (first | (go_at_call 132; refine (unhide HI _ (by first | exact hbn | exact hbv) _).mono ?_; rintro e u ⟨rfl, rfl⟩) | (go_at_call 147; refine (unhide HSM _).mono ?_; rintro e u ⟨rfl, hb⟩; have hc := below_cells hb; have hz := hb.size; have hzz : wr.heap.size < u.heap.size := by first | omega | (simp at hz; omega)))
            have HBU : Hid (Below w.heap.size w u) := hide ((((unhide HW).alloc hwz _).drew).trans (‹Below _ _ u›.mono (by simp; omega)))
            go_wp2
            go_ret
            exact ⟨by rw [unhide HN]; rfl, unhide HBU⟩
        · have hne : (ls.toList == ns.toList) = false := by
            rw [ByteArray.toList_eq, ByteArray.toList_eq, hls, unhide HNS]
            simpa using hlo
          have HN : Hid (toldB fs = false) := hide (unhide HBD (by rw [hgd, hn]; simp [hlo]))
          clear HBD HOK hgd hn hlo hls
          go_wp2
          refine wp_region_held_drew (S := fun u => u.cell? ⟨wr.heap.size, 0, none⟩ = some (.string ns)) (by kernel_rfl) (by go_keep) (fun hS0 => ?_)
          refine wpAnyH_take (i := 0) (v := .pointer (some ⟨wr.heap.size, 0, none⟩)) rfl (by kernel_rfl) (by kernel_rfl) (by kernel_rfl) (fun _ _ _ h => h) (Or.inl ⟨by rfl, ?_⟩) hS0 ?_
          · intro u hu; go_simp
          try simp only [Act.put, List.setIfInBounds_toArray, List.set_cons_zero, List.set_cons_succ]
          refine wpAnyH_take (i := 1) (v := .string ns) rfl (by kernel_rfl) (by kernel_rfl) (by kernel_rfl) (fun _ _ _ h => h) (Or.inl ⟨by rfl, ?_⟩) hS0 ?_
          · intro u hu; go_simp
          try simp only [Act.put, List.setIfInBounds_toArray, List.set_cons_zero, List.set_cons_succ]
          refine wpAnyH_ready (rs := [2]) (by kernel_rfl) (by simp) ?_
          refine AllReadyH.cons rfl (fun K hK => ?_) AllReadyH.nil
          go_simp
          refine (unhide HI _ hbn _).mono ?_
          rintro e u ⟨rfl, rfl⟩
          rw [gn]
          refine hK.out _ _ hS0 (fun _ => ?_)
          clear hK K
          try simp only [Act.put, List.setIfInBounds_toArray, List.set_cons_zero, List.set_cons_succ]
          refine wpAnyH_take (i := 3) (v := .bool false) rfl (by kernel_rfl) (by kernel_rfl) (by kernel_rfl) (fun _ _ _ h => h) (Or.inl ⟨by rfl, ?_⟩) hS0 ?_
          · intro u hu; go_simp
          try simp only [Act.put, List.setIfInBounds_toArray, List.set_cons_zero, List.set_cons_succ]
          refine wpAnyH_take (i := 4) (v := .bool false) rfl (by kernel_rfl) (by kernel_rfl) (by kernel_rfl) (fun _ _ _ h => h) (Or.inl ⟨by rfl, ?_⟩) hS0 ?_
          · intro u hu; go_simp
          try simp only [Act.put, List.setIfInBounds_toArray, List.set_cons_zero, List.set_cons_succ]
          refine wpAnyH_take (i := 5) (v := .pointer (some ⟨wr.heap.size, 0, none⟩)) rfl (by kernel_rfl) (by kernel_rfl) (by kernel_rfl) (fun _ _ _ h => h) (Or.inl ⟨by rfl, ?_⟩) hS0 ?_
          · intro u hu; go_simp
          try simp only [Act.put, List.setIfInBounds_toArray, List.set_cons_zero, List.set_cons_succ]
          refine wpAnyH_take (i := 6) (v := .string ns) rfl (by kernel_rfl) (by kernel_rfl) (by kernel_rfl) (fun _ _ _ h => h) (Or.inl ⟨by rfl, ?_⟩) hS0 ?_
          · intro u hu; go_simp
          try simp only [Act.put, List.setIfInBounds_toArray, List.set_cons_zero, List.set_cons_succ]
          refine wpAnyH_take (i := 8) (v := .pointer (some ⟨wr.heap.size, 0, none⟩)) rfl (by kernel_rfl) (by kernel_rfl) (by kernel_rfl) (fun _ _ _ h => h) (Or.inl ⟨by rfl, ?_⟩) hS0 ?_
          · intro u hu; go_simp
          try simp only [Act.put, List.setIfInBounds_toArray, List.set_cons_zero, List.set_cons_succ]
          refine wpAnyH_take (i := 9) (v := .string ns) rfl (by kernel_rfl) (by kernel_rfl) (by kernel_rfl) (fun _ _ _ h => h) (Or.inl ⟨by rfl, ?_⟩) hS0 ?_
          · intro u hu; go_simp
          try simp only [Act.put, List.setIfInBounds_toArray, List.set_cons_zero, List.set_cons_succ]
          refine wpAnyH_ready (rs := [7]) (by kernel_rfl) (by simp) ?_
          refine AllReadyH.cons rfl (fun K hK => ?_) AllReadyH.nil
          go_simp
          refine (unhide HSM _).mono ?_
          rintro e u ⟨rfl, hb⟩
          have hS1 : u.cell? ⟨wr.heap.size, 0, none⟩ = some (.string ns) := (below_cells hb _ _ (by simp)).trans hS0
          have HBU : Hid (Below w.heap.size w u) := hide ((((unhide HW).alloc hwz _).drew).trans (hb.mono (by simp; omega)))
          clear hb
          refine hK.out _ _ hS1 (fun _ => ?_)
          clear hK K
          try simp only [Act.put, List.setIfInBounds_toArray, List.set_cons_zero, List.set_cons_succ]
          refine wpAnyH_take (i := 10) (v := .bool true) rfl (by kernel_rfl) (by kernel_rfl) (by kernel_rfl) (fun _ _ _ h => h) (Or.inl ⟨by rfl, ?_⟩) hS1 ?_
          · intro u hu; go_simp
          try simp only [Act.put, List.setIfInBounds_toArray, List.set_cons_zero, List.set_cons_succ]
          refine wpAnyH_take (i := 11) (v := .bool true) rfl (by kernel_rfl) (by kernel_rfl) (by kernel_rfl) (fun _ _ _ h => h) (Or.inl ⟨by rfl, ?_⟩) hS1 ?_
          · intro u hu; go_simp
          try simp only [Act.put, List.setIfInBounds_toArray, List.set_cons_zero, List.set_cons_succ]
          refine wpAnyH_take (i := 12) (v := .bool true) rfl (by kernel_rfl) (by kernel_rfl) (by kernel_rfl) (fun _ _ _ h => h) (Or.inl ⟨by rfl, ?_⟩) hS1 ?_
          · intro u hu; go_simp
          try simp only [Act.put, List.setIfInBounds_toArray, List.set_cons_zero, List.set_cons_succ]
          refine wpAnyH_take (i := 13) (v := undef) rfl (by kernel_rfl) (by kernel_rfl) (by kernel_rfl) (fun _ _ _ h => h) (Or.inr ⟨by rfl, rfl⟩) hS1 ?_
          try simp only [Act.put, List.setIfInBounds_toArray, List.set_cons_zero, List.set_cons_succ]
          refine wpAnyH_take (i := 14) (v := undef) rfl (by kernel_rfl) (by kernel_rfl) (by kernel_rfl) (fun _ _ _ h => h) (Or.inr ⟨by rfl, rfl⟩) hS1 ?_
          try simp only [Act.put, List.setIfInBounds_toArray, List.set_cons_zero, List.set_cons_succ]
          refine wpAnyH_take (i := 15) (v := undef) rfl (by kernel_rfl) (by kernel_rfl) (by kernel_rfl) (fun _ _ _ h => h) (Or.inr ⟨by rfl, rfl⟩) hS1 ?_
          try simp only [Act.put, List.setIfInBounds_toArray, List.set_cons_zero, List.set_cons_succ]
          refine wpAnyH_take (i := 16) (v := undef) rfl (by kernel_rfl) (by kernel_rfl) (by kernel_rfl) (fun _ _ _ h => h) (Or.inr ⟨by rfl, rfl⟩) hS1 ?_
          try simp only [Act.put, List.setIfInBounds_toArray, List.set_cons_zero, List.set_cons_succ]
          refine wpAnyH_ready (rs := [17]) (by kernel_rfl) (by simp) ?_
          refine AllReadyH.cons rfl (fun K hK => ?_) AllReadyH.nil
          go_simp
          refine hK.out _ _ hS1 (fun _ => ?_)
          clear hK K
          try simp only [Act.put, List.setIfInBounds_toArray, List.set_cons_zero, List.set_cons_succ]
          refine wpAnyH_done (by kernel_rfl) ?_ _
          go_wp2
          go_ret
          exact ⟨by rw [unhide HN]; rfl, unhide HBU⟩
      · have hn' : nameB n = false := by simpa using hn
        rw [hn'] at gn
        have HN : Hid (toldB fs = false) := hide (unhide HBD (by rw [hgd, hn']; simp))
        clear HBD HOK hgd hn hn'
        go_wp2
        go_quiet ((go_at_call 132; exact Calls.quiet_of_same (unhide HI _ (by first | exact hbn | exact hbv) _)))
        go_wp2
        go_ret
        exact ⟨by rw [unhide HN]; rfl, below_drewN ((unhide HW).alloc hwz _) _⟩
    · have e : k = fs.length := by omega
      have hlt' : ¬ (k : Int) < (fs.length : Int) := by omega
      have HT : Hid (toldB fs = apartB (namesF fs)) := hide (by
        have q := unhide HG
        rw [e, List.take_length] at q
        unfold toldB
        unfold allGood at q
        rw [q, Bool.true_and])
      have HD := hide (differ_any a cap fs wr ((unhide HA).below (unhide HW) (Nat.le_refl _)) (by omega))
      clear e
      go_wp2_with fail
      refine (unhide HD).mono ?_
      rintro e u ⟨rfl, hb⟩
      have HB : Hid (Below w.heap.size w u) := hide ((unhide HW).trans (hb.mono hwz))
      clear hb
      go_wp2
      go_ret
      exact ⟨by rw [unhide HT]; rfl, unhide HB⟩

theorem index_le (l : List UInt8) : decide (0 ≤ Lib.indexByte l 0) = l.contains 0 := by
  induction l with
  | nil => rfl
  | cons c r ih =>
    have hge := Lib.indexByte_ge r 0
    unfold Lib.indexByte
    rw [List.contains_cons]
    by_cases hc : c = 0
    · subst hc; simp
    · have e1 : (c == 0) = false := by simpa using hc
      have e2 : ((0 : UInt8) == c) = false := by simpa using fun h => hc h.symm
      rw [e1, e2, Bool.false_or, ← ih]
      simp only [Bool.false_eq_true, if_false]
      by_cases hm : Lib.indexByte r 0 = -1
      · rw [hm]; rfl
      · have : (Lib.indexByte r 0 == -1) = false := by simpa using hm
        rw [this]
        simp only [Bool.false_eq_true, if_false]
        rw [decide_eq_decide]; omega
end Go.Proofs.Ytadkcdcdgphhpaa.Tf

import Derived.Test.YtadkcdcdgphhpaaDHRefW
import Derived.Test.YtadkcdcdgphhpaaDHOpen
import Derived.JoinedCond
namespace Go.Proofs.Ytadkcdcdgphhpaa.dHCPWrites
open Go.ChangeShapes Go.WideShapes Go.ChangeAt Go.RowKit Bs Dh
set_option linter.unusedVariables false
set_option linter.unusedSimpArgs false

theorem infoO : (Try.prog.info? 87).map (fun i => (i.zero, i.size, i.bytes)) = some (some (.agg #[.int .u8 0, .string ⟨#[]⟩]), 2, 24) := by kernel_rfl

set_option maxHeartbeats 4000000 in
set_option maxRecDepth 10000 in
theorem walk (rep : Bool) (xid cl yo ne : Int) (a b c d e f : UInt8) (sa : Option Addr) (sc : Nat) (os : Opts) (w : World) (hx : 0 ≤ xid ∧ xid ≤ 4294967295) (hc : 0 ≤ cl ∧ cl ≤ 4294967295) (hy : 0 ≤ yo ∧ yo ≤ 4294967295) (hn : 0 ≤ ne ∧ ne ≤ 4294967295) (hA : At w sa os) (hl : heavy os ≤ 1048576) (hnil : sa = none → os = [] ∧ sc = 0) :
    Calls Try.prog 12 #[.agg #[.bool rep, .int .u32 xid, .int .u32 cl, .int .u32 yo, .int .u32 ne, .int .u8 a.toNat, .int .u8 b.toNat, .int .u8 c.toNat, .int .u8 d.toNat, .int .u8 e.toNat, .int .u8 f.toNat, .slice sa os.length sc]] w fun ee w' => ee = .returned (.bool true) ∧ Below w.heap.size w w' := by
  obtain ⟨i0, hi, hz0, hz1, hz2⟩ := info_parts infoO
  obtain ⟨W, hWW⟩ : ∃ W, W = w.alloc (.cells #[.bool rep, .int .u32 xid, .int .u32 cl, .int .u32 yo, .int .u32 ne, .int .u8 a.toNat, .int .u8 b.toNat, .int .u8 c.toNat, .int .u8 d.toNat, .int .u8 e.toNat, .int .u8 f.toNat, .slice sa os.length sc] 57) := ⟨_, rfl⟩
  have hW0 : Below w.heap.size w W := by rw [hWW]; exact (Below.refl _ _).alloc (Nat.le_refl _) _
  have hWz : W.heap.size = w.heap.size + 1 := by rw [hWW]; simp
  have hlen : os.length ≤ heavy os := by unfold heavy; omega
  have HWt := hide (weight_any sa sc os W (hA.below hW0 (Nat.le_refl _)) (by omega))
  have HBOX : Hid (∀ j, W.cell? ⟨w.heap.size, j, none⟩ = #[.bool rep, .int .u32 xid, .int .u32 cl, .int .u32 yo, .int .u32 ne, .int .u8 a.toNat, .int .u8 b.toNat, .int .u8 c.toNat, .int .u8 d.toNat, .int .u8 e.toNat, .int .u8 f.toNat, .slice sa os.length sc][j]?) := hide (fun j => by rw [hWW, cell_of_row _ w.heap.size j _ _ (0, 0) (heap_alloc_new w _)])
  have HA := hide hA
  have HW0 := hide hW0
  have HWZ := hide hWz
  obtain ⟨S, hSS⟩ : ∃ S, S = dhS rep xid cl yo ne [a, b, c, d, e, f] os := ⟨_, rfl⟩
  obtain ⟨E, hEE⟩ : ∃ E, E = dhE rep xid cl yo ne [a, b, c, d, e, f] os := ⟨_, rfl⟩
  rw [hWW] at HWt
  have HWW := hide hWW
  clear hA hW0 hWz hWW
  go_enter Try.func12, Try.ntmps12
  go_wp2_with fail
  refine (unhide HWt).mono ?_
  rintro ee w1 ⟨rfl, hb1⟩
  rw [← unhide HWW] at hb1
  have hcc1 : ∀ j, w1.cell? ⟨w.heap.size, j, none⟩ = #[.bool rep, .int .u32 xid, .int .u32 cl, .int .u32 yo, .int .u32 ne, .int .u8 a.toNat, .int .u8 b.toNat, .int .u8 c.toNat, .int .u8 d.toNat, .int .u8 e.toNat, .int .u8 f.toNat, .slice sa os.length sc][j]? := fun j => by
    rw [hb1.cell (p := ⟨w.heap.size, j, none⟩) (by show w.heap.size < _; rw [unhide HWZ]; omega)]; exact unhide HBOX j
  have HB1 : Hid (Below w.heap.size w w1) := hide ((unhide HW0).trans (hb1.mono (by rw [unhide HWZ]; omega)))
  have hz1' : w.heap.size + 1 ≤ w1.heap.size := by have := hb1.size; rw [unhide HWZ] at this; exact this
  have HA1 := hide ((unhide HA).below (unhide HB1) (Nat.le_refl _))
  clear hb1 HWt HWW HW0 HWZ HBOX
  by_cases hbig : heavy os ≤ 262144
  · have hgt : ¬ (262144 : Int) < (heavy os : Int) := by omega
    cases sa with
    | none =>
      obtain ⟨rfl, rfl⟩ := hnil rfl
      have HOA := HA1
      have HAA := HA1
      have HBA := HB1
      have hzA := hz1'
      have hccA := hcc1
      have HCA := hide hcc1
      clear hnil hcc1
      have HO := hide (boot_any rep xid cl yo ne a b c d e f none 0 [] w1 hx hc hy hn (unhide HAA) (by omega))
      rw [← hSS, ← hEE] at HO
      go_wp2_with fail
      refine (unhide HO).mono ?_
      rintro ee w2 ⟨rfl, hb2⟩
      have hcc2 : ∀ j, w2.cell? ⟨w.heap.size, j, none⟩ = #[.bool rep, .int .u32 xid, .int .u32 cl, .int .u32 yo, .int .u32 ne, .int .u8 a.toNat, .int .u8 b.toNat, .int .u8 c.toNat, .int .u8 d.toNat, .int .u8 e.toNat, .int .u8 f.toNat, .slice none [].length 0][j]? := fun j => by
        rw [hb2.cell (p := ⟨w.heap.size, j, none⟩) (by show w.heap.size < _; omega)]; exact unhide HCA j
      have HAA2 := hide ((unhide HAA).below hb2 (Nat.le_refl _))
      have HOA2 := hide ((unhide HOA).below hb2 (Nat.le_refl _))
      have hzz2 := hb2.size
      have HB2 := hide ((unhide HBA).trans (hb2.mono (by omega)))
      have HCC2 := hide hcc2
      clear hb2 HO hccA
      have HR := hide (ref_any rep xid cl yo ne a b c d e f none 0 [] w2 hx hc hy hn (unhide HAA2) (by omega))
      rw [← hSS, ← hEE] at HR
      go_wp2_with fail
      refine (unhide HR).mono ?_
      rintro ee w3 ⟨rfl, hb3⟩
      have hcc3 : ∀ j, w3.cell? ⟨w.heap.size, j, none⟩ = #[.bool rep, .int .u32 xid, .int .u32 cl, .int .u32 yo, .int .u32 ne, .int .u8 a.toNat, .int .u8 b.toNat, .int .u8 c.toNat, .int .u8 d.toNat, .int .u8 e.toNat, .int .u8 f.toNat, .slice none [].length 0][j]? := fun j => by
        rw [hb3.cell (p := ⟨w.heap.size, j, none⟩) (by show w.heap.size < _; omega)]; exact unhide HCC2 j
      have HB3 := hide ((unhide HB2).trans (hb3.mono (by omega)))
      have hzz3 := hb3.size
      have HSm := hide (same_any none none 0 0 [] w3 ((unhide HOA2).below hb3 (Nat.le_refl _)) ((unhide HAA2).below hb3 (Nat.le_refl _)) (by omega))
      clear hb3 HR hcc2
      go_wp2_with fail
      refine (unhide HSm).mono ?_
      rintro ee w4 ⟨rfl, hb4⟩
      have HB4 := hide ((unhide HB3).trans (hb4.mono (by omega)))
      clear hb4 HSm hcc3
      go_wp2
      go_ret
      exact ⟨rfl, unhide HB4⟩
    | some ad =>
      clear hnil
      have HNS := hide (show (cellsO os).length = os.length * 2 from cellsO_length os)
      have HCS := hide (At.cells (unhide HA1))
      go_wp2_with (at_builtin; refine wpList_append_own _ rfl (.const (.slice none 0 0)) (.tmp 13) 55 rfl w1.heap.size 87 i0 (.agg #[.int .u8 0, .string ⟨#[]⟩]) 2 24 Try.underlying55 hi hz0 hz1 hz2 rfl (by decide) (.slice none 0 0) 0 [] rfl (World.ownsRow_nil _ _ _ _) ad os.length sc (cellsO os) rfl (unhide HNS) (unhide HCS) (cellsO_one _) ?h63 ?hby ?hba ?_)
      case h63 => simp only [maxLen]; omega
      case hby => omega
      case hba => exact Nat.le_refl _
      · intro v' wA hown hg _
        have hBA : Below w1.heap.size w1 wA := (Below.refl w1.heap.size w1).grown hg (Nat.le_refl _) (fun k hk => by simp [Value.ownBlock] at hk)
        have hoa : ∃ oa oc, v' = .slice oa os.length oc ∧ At wA oa os := by
          have hcl := fun g hg => hown.cells (g := g) hg
          rcases hown.2 with ⟨rfl, h0⟩ | ⟨g, cap, cur, rfl, _⟩
          · have e0 : os.length = 0 := by omega
            exact ⟨none, 0, by rw [e0], fun i hi => by omega⟩
          · refine ⟨some ⟨g, 0, none⟩, cap, rfl, At.ofCells (fun j u hj => ?_)⟩
            exact hcl g rfl j u (by simpa using hj)
        obtain ⟨oa, oc, rfl, hoat⟩ := hoa
        have HOA := hide hoat
        have HAA := hide ((unhide HA1).below hBA (Nat.le_refl _))
        have HBA := hide ((unhide HB1).trans (hBA.mono (by omega)))
        have hzA : w.heap.size + 1 ≤ wA.heap.size := by have := hBA.size; omega
        have hccA : ∀ j, wA.cell? ⟨w.heap.size, j, none⟩ = #[.bool rep, .int .u32 xid, .int .u32 cl, .int .u32 yo, .int .u32 ne, .int .u8 a.toNat, .int .u8 b.toNat, .int .u8 c.toNat, .int .u8 d.toNat, .int .u8 e.toNat, .int .u8 f.toNat, .slice (some ad) os.length sc][j]? := fun j => by
          rw [hBA.cell (p := ⟨w.heap.size, j, none⟩) (by show w.heap.size < _; omega)]; exact hcc1 j
        have HCA := hide hccA
        clear hown hg hBA hoat hcc1 HNS HCS
        have HO := hide (boot_any rep xid cl yo ne a b c d e f (some ad) sc os wA hx hc hy hn (unhide HAA) (by omega))
        rw [← hSS, ← hEE] at HO
        go_wp2_with fail
        refine (unhide HO).mono ?_
        rintro ee w2 ⟨rfl, hb2⟩
        have hcc2 : ∀ j, w2.cell? ⟨w.heap.size, j, none⟩ = #[.bool rep, .int .u32 xid, .int .u32 cl, .int .u32 yo, .int .u32 ne, .int .u8 a.toNat, .int .u8 b.toNat, .int .u8 c.toNat, .int .u8 d.toNat, .int .u8 e.toNat, .int .u8 f.toNat, .slice (some ad) os.length sc][j]? := fun j => by
          rw [hb2.cell (p := ⟨w.heap.size, j, none⟩) (by show w.heap.size < _; omega)]; exact unhide HCA j
        have HAA2 := hide ((unhide HAA).below hb2 (Nat.le_refl _))
        have HOA2 := hide ((unhide HOA).below hb2 (Nat.le_refl _))
        have hzz2 := hb2.size
        have HB2 := hide ((unhide HBA).trans (hb2.mono (by omega)))
        have HCC2 := hide hcc2
        clear hb2 HO hccA
        have HR := hide (ref_any rep xid cl yo ne a b c d e f (some ad) sc os w2 hx hc hy hn (unhide HAA2) (by omega))
        rw [← hSS, ← hEE] at HR
        go_wp2_with fail
        refine (unhide HR).mono ?_
        rintro ee w3 ⟨rfl, hb3⟩
        have hcc3 : ∀ j, w3.cell? ⟨w.heap.size, j, none⟩ = #[.bool rep, .int .u32 xid, .int .u32 cl, .int .u32 yo, .int .u32 ne, .int .u8 a.toNat, .int .u8 b.toNat, .int .u8 c.toNat, .int .u8 d.toNat, .int .u8 e.toNat, .int .u8 f.toNat, .slice (some ad) os.length sc][j]? := fun j => by
          rw [hb3.cell (p := ⟨w.heap.size, j, none⟩) (by show w.heap.size < _; omega)]; exact unhide HCC2 j
        have HB3 := hide ((unhide HB2).trans (hb3.mono (by omega)))
        have hzz3 := hb3.size
        have HSm := hide (same_any oa (some ad) oc sc os w3 ((unhide HOA2).below hb3 (Nat.le_refl _)) ((unhide HAA2).below hb3 (Nat.le_refl _)) (by omega))
        clear hb3 HR hcc2
        go_wp2_with fail
        refine (unhide HSm).mono ?_
        rintro ee w4 ⟨rfl, hb4⟩
        have HB4 := hide ((unhide HB3).trans (hb4.mono (by omega)))
        clear hb4 HSm hcc3
        go_wp2
        go_ret
        exact ⟨rfl, unhide HB4⟩
  · have hgt : (262144 : Int) < (heavy os : Int) := by omega
    go_wp2
    go_ret
    exact ⟨rfl, unhide HB1⟩

set_option maxRecDepth 100000 in
theorem small {H : Type} {d : DataW H} (hk : Rows.uptoSmall H [d] = true) : Rows.uptoBulk d ≤ 1048576 := by
  have h : Rows.uptoBulkAll [d] ≤ 1048576 := of_decide_eq_true hk
  simp only [Rows.uptoBulkAll] at h
  omega

set_option maxRecDepth 100000 in
theorem contract (H : Type) (enc : TypeId × Value → H) (W : World) (base : Nat) (args : Array Value) (ds gs : List (DataW H)) (before : List MemPlace)
    (hval0 : ∀ (j : Nat) t v, Try.f12.params[j]? = some t → args[j]? = some v → Value.okWide Try.prog W .any base t v)
    (hW : DataW.Whole enc Try.prog Try.f12.params.toList Rows.dHCPWritesSpec.vars false W args.toList ds gs before) (hk : Rows.uptoSmall H (ds ++ gs) = true) :
    Calls Try.prog 12 args W fun e W' => ∃ v, e = .returned v ∧ Rows.dHCPWritesSpec.post enc Try.prog Try.f12 false true false false W args v W' := by
  have hval : ∀ (j : Nat) t v, Try.f12.params[j]? = some t → args[j]? = some v → Value.okWide Try.prog W .any base t v := hval0
  have hW' := hW
  obtain ⟨p, q, hA0, hV, rfl, hfz, hnd⟩ := hW
  have hA : DataW.TrodAll enc Try.prog W 0 (fun _ => true) true Try.f12.params.toList args.toList ds p := hA0
  rw [Try.params12] at hA hval
  obtain ⟨v0, vs0, d0, ds0, p0, q0, hargs, rfl, rfl, h0, r0⟩ := trodAll_cons hA
  obtain ⟨rfl, rfl, rfl⟩ := trodAll_nil r0
  obtain rfl : args = #[v0] := by cases args; simp_all
  obtain ⟨rfl, rfl⟩ := trodVars_none hV
  clear hA0 hval0
  simp only [List.append_nil] at hW' hk
  have h0k := h0
  obtain ⟨cs, rfl, hsz⟩ := okWide_struct Try.underlying57 (hval 0 57 v0 rfl rfl)
  obtain ⟨fuel, hf⟩ := h0
  obtain ⟨rep, xid, cl, yo, ne, a, b, c, d, e, f, sa, sc, os, b1, b2, b3, b4, hAt, hnil, hbk, ecs⟩ := Op.dhcp_open hf
  have ecs' : cs = #[.bool rep, .int .u32 xid, .int .u32 cl, .int .u32 yo, .int .u32 ne, .int .u8 a.toNat, .int .u8 b.toNat, .int .u8 c.toNat, .int .u8 d.toNat, .int .u8 e.toNat, .int .u8 f.toNat, .slice sa os.length sc] := by
    apply Array.ext'
    simpa [Value.cells] using ecs
  subst ecs'
  have hsm := small hk
  simp only at hbk
  refine (walk rep xid cl yo ne a b c d e f sa sc os W b1 b2 b3 b4 hAt (by omega) hnil).mono fun ee W' ⟨he, hg⟩ => ?_
  subst he
  exact ⟨_, rfl, Op.close1 hW' rfl rfl rfl ⟨rfl, rfl, rfl⟩ (by kernel_rfl) (of_decide_eq_true (by kernel_rfl)) h0k hg⟩

set_option maxRecDepth 100000 in
theorem lifted (os : Os) (started : os.Started) (H : Type) (enc : TypeId × Value → H) (F : Stop.Interp) :
    ReturnsInHanded {} Try.checked os 12 .any ((Rows.OpenSpec.upto Rows.dHCPWritesSpec).pre6 enc Try.prog Try.f12 Rows.dHCPWritesUptoRow.domain false) (((Rows.OpenSpec.upto Rows.dHCPWritesSpec).at F).post enc Try.prog Try.f12 false true false false) := by
  refine returnsInHanded_of_cond (C := Try.checked) (s := Rows.OpenSpec.upto Rows.dHCPWritesSpec) (k := Rows.uptoSmall) rfl Op.own started (by kernel_rfl) Try.func12
    (OpenSpec.witness (enc := enc) (C := Try.checked) (s := Rows.OpenSpec.upto Rows.dHCPWritesSpec) (k := Rows.uptoSmall) rfl false ⟨#[], #[.agg #[.bool false, .int .u32 0, .int .u32 0, .int .u32 0, .int .u32 0, .int .u8 0, .int .u8 0, .int .u8 0, .int .u8 0, .int .u8 0, .int .u8 0, .slice none 0 0]], []⟩ 8 (by kernel_rfl) (by kernel_rfl) (by kernel_rfl)
      (x := ([.agg [.lit (.bool false), .lit (.int .u32 0), .lit (.int .u32 0), .lit (.int .u32 0), .lit (.int .u32 0), .agg [.lit (.int .u8 0), .lit (.int .u8 0), .lit (.int .u8 0), .lit (.int .u8 0), .lit (.int .u8 0), .lit (.int .u8 0)], .nil]], [], [])) (by kernel_rfl) rfl (by kernel_rfl)) ?_
  intro W base args ds gs before hval hW _ hk _
  exact contract H enc W base args ds gs before hval hW hk

theorem over : Rows.DHCPWritesUptoSaid :=
  OpenClaim.holds_of_cond 12 Try.f12 rfl rfl rfl rfl rfl rfl rfl ⟨rfl, rfl, rfl, rfl, rfl⟩ rfl rfl rfl rfl rfl (by kernel_rfl) Try.func12 (by kernel_rfl)
    (of_decide_eq_true (by kernel_rfl)) (by unfold Func.isWrapper; first | (rw [if_pos (by decide +kernel)]; kernel_rfl) | (rw [if_neg (by decide +kernel)]; exact ⟨rfl, rfl⟩))
    (fun os started H enc _ F => lifted os started H enc F)
end Go.Proofs.Ytadkcdcdgphhpaa.dHCPWrites
namespace Go.Proofs.Ytadkcdcdgphhpaa
theorem dHCPWrites_holds : Rows.DHCPWritesUptoSaid := dHCPWrites.over
end Go.Proofs.Ytadkcdcdgphhpaa

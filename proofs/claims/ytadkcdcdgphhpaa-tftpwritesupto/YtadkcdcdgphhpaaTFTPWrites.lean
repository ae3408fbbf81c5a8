import Derived.Test.YtadkcdcdgphhpaaTFRefZ
import Derived.Test.YtadkcdcdgphhpaaTFWriteW
import Derived.Test.YtadkcdcdgphhpaaTFOpen
import Derived.JoinedCond
namespace Go.Proofs.Ytadkcdcdgphhpaa.tFTPWrites
open Go.ChangeShapes Go.WideShapes Go.ChangeAt Go.RowKit Bs Tf
set_option linter.unusedVariables false
set_option linter.unusedSimpArgs false

theorem infoF : (Try.prog.info? 89).map (fun i => (i.zero, i.size, i.bytes)) = some (some (.agg #[.string ⟨#[]⟩, .string ⟨#[]⟩]), 2, 32) := by kernel_rfl
theorem own_set {wA : World} {B : Nat} {a b c d e v : Value} {t : TypeId} (h : wA.heap[B]? = some (.cells #[a, b, c, d, e] t (0, 0))) : (wA.setCell ⟨B, 4, none⟩ v).heap[B]? = some (.cells #[a, b, c, d, v] t (0, 0)) := by
  rw [setCell_eq_setRow wA B 4 _ _ _ _ h, setRow_heap wA B _ _ _ _ h]; rfl
theorem frees {wA : World} {B : Nat} {cs : Array Value} {t : TypeId} (h : wA.heap[B]? = some (.cells cs t (0, 0))) (j : Nat) : wA.frozen? ⟨B, j, none⟩ = false := by simp [World.frozen?, h]

/-- the rest of the law, behind the copy of the fields: XB where the argument lies, OB where the copy does -/
def Rest (w wB : World) (XB OB : Nat) (o bl : Int) (ts ds : ByteArray) (fa oa : Option Addr) (fc oc : Nat) (fs : Flds) : Prop :=
  (∀ j, wB.cell? ⟨XB, j, none⟩ = #[.int .u16 o, .int .u16 bl, .string ts, .string ds, .slice fa fs.length fc][j]?) ∧ (∀ j, wB.cell? ⟨OB, j, none⟩ = #[.int .u16 o, .int .u16 bl, .string ts, .string ds, .slice oa fs.length oc][j]?) ∧ XB < wB.heap.size ∧ OB < wB.heap.size ∧ AtF wB fa fs ∧ AtF wB oa fs ∧ Below w.heap.size w wB ∧ w.heap.size ≤ wB.heap.size
theorem Rest.next {w wB u : World} {XB OB : Nat} {o bl : Int} {ts ds : ByteArray} {fa oa : Option Addr} {fc oc : Nat} {fs : Flds} (h : Rest w wB XB OB o bl ts ds fa oa fc oc fs) (hb : Below wB.heap.size wB u) : Rest w u XB OB o bl ts ds fa oa fc oc fs := by
  obtain ⟨h1, h2, h3, h4, h5, h6, h7, h8⟩ := h
  have hz := hb.size
  exact ⟨fun j => by rw [hb.cell (p := ⟨XB, j, none⟩) h3]; exact h1 j, fun j => by rw [hb.cell (p := ⟨OB, j, none⟩) h4]; exact h2 j, by omega, by omega, h5.below hb (Nat.le_refl _), h6.below hb (Nat.le_refl _), h7.trans (hb.mono h8), by omega⟩

set_option maxHeartbeats 4000000 in
set_option maxRecDepth 10000 in
theorem walk (o bl : Int) (ts ds : ByteArray) (fa : Option Addr) (fc : Nat) (fs : Flds) (w : World) (ho : 0 ≤ o ∧ o ≤ 65535) (hb : 0 ≤ bl ∧ bl ≤ 65535) (hA : AtF w fa fs) (hcap : fs.length ≤ fc) (hl : heavyF fs + ts.size + ds.size ≤ 1048576) (hnil : fa = none → fs = [] ∧ fc = 0) :
    Calls Try.prog 14 #[.agg #[.int .u16 o, .int .u16 bl, .string ts, .string ds, .slice fa fs.length fc]] w fun ee w' => ee = .returned (.bool true) ∧ Below w.heap.size w w' := by
  obtain ⟨i0, hi, hz0, hz1, hz2⟩ := info_parts infoF
  obtain ⟨W, hWW⟩ : ∃ W, W = w.alloc (.cells #[.int .u16 o, .int .u16 bl, .string ts, .string ds, .slice fa fs.length fc] 67) := ⟨_, rfl⟩
  have hW0 : Below w.heap.size w W := by rw [hWW]; exact (Below.refl _ _).alloc (Nat.le_refl _) _
  have hWz : W.heap.size = w.heap.size + 1 := by rw [hWW]; simp
  have hlen : fs.length ≤ heavyF fs := by unfold heavyF; omega
  have hbox : ∀ j, W.cell? ⟨w.heap.size, j, none⟩ = #[.int .u16 o, .int .u16 bl, .string ts, .string ds, .slice fa fs.length fc][j]? := fun j => by rw [hWW, cell_of_row _ w.heap.size j _ _ (0, 0) (heap_alloc_new w _)]
  have HWt := hide (fun (u : World) (hu : Below W.heap.size W u) => weightF_any fa fc fs u ((hA.below hW0 (Nat.le_refl _)).below hu (Nat.le_refl _)) (by omega))
  have HA := hide hA
  have HW0 := hide hW0
  have HBX := hide hbox
  have HWW := hide hWW
  have q1 : IntKind.i64.wrap ((heavyF fs : Int) + (ts.size : Int)) = (heavyF fs : Int) + (ts.size : Int) := wrap_i64 _ (by omega) (by omega)
  have q2 : IntKind.i64.wrap ((heavyF fs : Int) + (ts.size : Int) + (ds.size : Int)) = (heavyF fs : Int) + (ts.size : Int) + (ds.size : Int) := wrap_i64 _ (by omega) (by omega)
  have hzlt : w.heap.size < W.heap.size := by omega
  obtain ⟨m, hm⟩ : ∃ m : Msg, m = ⟨o.toNat, bl.toNat, ts.data.toList, ds.data.toList, fs⟩ := ⟨_, rfl⟩
  have m0 : (m.op : Int) = o := by rw [hm]; simp; omega
  have m1 : (m.block : Int) = bl := by rw [hm]; simp; omega
  have m2 : ts.data.toList = m.text := by rw [hm]
  have m3 : ds.data.toList = m.data := by rw [hm]
  have m4 : m.fs = fs := by rw [hm]
  have z2 : m.text.length = ts.size := by rw [← m2, len_str]
  have z3 : m.data.length = ds.size := by rw [← m3, len_str]
  have HBO := hide (fun (u : World) (hu : AtF u fa fs) => boot_any o bl ts ds fa fc m u m0 m1 hb.1 hb.2 m2 m3 (by rw [m4]; exact hu) (by rw [m4]; omega) (by omega) (by omega))
  have HRE := hide (fun (u : World) (hu : AtF u fa fs) => ref_any o bl ts ds fa fc m u m0 ho.2 m1 hb.1 hb.2 m2 m3 (by rw [m4]; exact hu) (by rw [m4]; exact hcap) (by rw [m4]; omega) (by omega) (by omega))
  rw [m4] at HBO HRE
  obtain ⟨S, hSS⟩ : ∃ S : ByteArray, S = ⟨(wrB m).toArray⟩ := ⟨_, rfl⟩
  obtain ⟨E, hEE⟩ : ∃ E : Int, E = (wrK m : Int) := ⟨_, rfl⟩
  rw [← hSS, ← hEE] at HBO HRE
  clear hA hW0 hbox hWW hm m0 m1 m2 m3 m4 z2 z3 hSS hEE
  have hbx := unhide HBX
  go_enter Try.func14, Try.ntmps14
  go_wp2
  rw [← unhide HWW]
  go_region_held3 (fun u => u.cell? ⟨w.heap.size, 2, none⟩ = some (.string ts) ∧ u.cell? ⟨w.heap.size, 3, none⟩ = some (.string ds) ∧ u.cell? ⟨w.heap.size, 4, none⟩ = some (.slice fa fs.length fc) ∧ w.heap.size < u.heap.size) (go_keep)
    (first | (go_at_call 34; refine (unhide HWt _ (Below.refl _ W).drew).mono ?_; rintro ee w1 ⟨rfl, hb1⟩; have hz1' := hb1.size; have hzz1 : w.heap.size < w1.heap.size := (by first | omega | (simp at hz1'; omega)); have HB1 : Hid (Below W.heap.size W w1) := hide ((Below.refl _ W).drew.trans hb1); have hcc1 : ∀ j, w1.cell? ⟨w.heap.size, j, none⟩ = #[.int .u16 o, .int .u16 bl, .string ts, .string ds, .slice fa fs.length fc][j]? := (fun j => by rw [(unhide HB1).cell (p := ⟨w.heap.size, j, none⟩) hzlt]; exact unhide HBX j)))
  have HV1 : Hid (Below w.heap.size w w1) := hide ((unhide HW0).trans ((unhide HB1).mono (by omega)))
  have HC1 := hide hcc1
  have hwz1 : w.heap.size + 1 ≤ w1.heap.size := by omega
  have HA1 := hide ((unhide HA).below (unhide HV1) (Nat.le_refl _))
  by_cases hbig : heavyF fs + ts.size + ds.size ≤ 16384
  rotate_left
  · have hgt : (16384 : Int) < (heavyF fs : Int) + (ts.size : Int) + (ds.size : Int) := by omega
    go_wp2
    go_ret
    exact ⟨rfl, unhide HV1⟩
  have hgt : ¬ (16384 : Int) < (heavyF fs : Int) + (ts.size : Int) + (ds.size : Int) := by omega
  have hcA : ∀ j ob, (w1.alloc ob).cell? ⟨w.heap.size, j, none⟩ = #[.int .u16 o, .int .u16 bl, .string ts, .string ds, .slice fa fs.length fc][j]? := fun j ob => by
    rw [((Below.refl w1.heap.size w1).alloc (Nat.le_refl _) ob).cell (p := ⟨w.heap.size, j, none⟩) (by show w.heap.size < _; omega)]; exact unhide HC1 j
  clear q1 q2 HWt HWW HB1 hb1
  cases fa with
  | none =>
    obtain ⟨rfl, rfl⟩ := hnil rfl
    have hN : ∀ u : World, AtF u none [] := fun u i hi => by simp at hi
    obtain ⟨wB, hwB⟩ : ∃ wB, wB = w1.alloc (.cells #[.int .u16 o, .int .u16 bl, .string ts, .string ds, .slice none 0 0] 67) := ⟨_, rfl⟩
    have hBB : Below w1.heap.size w1 wB := by rw [hwB]; exact (Below.refl _ w1).alloc (Nat.le_refl _) _
    have hOC : wB.heap[w1.heap.size]? = some (.cells #[.int .u16 o, .int .u16 bl, .string ts, .string ds, .slice none 0 0] 67 (0, 0)) := by rw [hwB]; exact heap_alloc_new w1 _
    have HR : Hid (Rest w wB w.heap.size w1.heap.size o bl ts ds none none 0 0 []) := hide ⟨fun j => by rw [hBB.cell (p := ⟨w.heap.size, j, none⟩) (by show w.heap.size < _; omega)]; exact unhide HC1 j, fun j => cell_of_row wB w1.heap.size j _ _ _ hOC, by have := hBB.size; omega, lt_of_block hOC, hN _, hN _, (unhide HV1).trans (hBB.mono (by omega)), by have := hBB.size; omega⟩
    have HWB := hide hwB
    clear hBB hOC hwB
    go_wp2_with fail
    rw [← unhide HWB]
    refine (unhide HBO wB (unhide HR).2.2.2.2.1).mono ?_
    rintro ee w2 ⟨rfl, hb2⟩
    have HR2 := hide ((unhide HR).next hb2)
    have hx2 := (unhide HR2).1
    clear hb2 HWB HBO hcA
    go_wp2_with fail
    refine (unhide HRE w2 (unhide HR2).2.2.2.2.1).mono ?_
    rintro ee w3 ⟨rfl, hb3⟩
    have HR3 := hide ((unhide HR2).next hb3)
    have hx3 := (unhide HR3).1
    have hy3 := (unhide HR3).2.1
    have HSm := hide (sameT_any o bl ts ds none none 0 0 [] w3 (unhide HR3).2.2.2.2.2.1 (unhide HR3).2.2.2.2.1 (by first | omega | simp))
    clear hb3 HRE hx2
    go_wp2_with fail
    refine (unhide HSm).mono ?_
    rintro ee w4 ⟨rfl, hb4⟩
    have HB4 := hide ((unhide HR3).2.2.2.2.2.2.1.trans (hb4.mono (unhide HR3).2.2.2.2.2.2.2))
    clear hb4 HSm hx3 hy3
    go_wp2
    go_ret
    exact ⟨rfl, unhide HB4⟩
  | some ad =>
    clear hnil
    have HNS := hide (show (cellsF fs).length = fs.length * 2 from cellsF_length fs)
    have HCS := hide (fun ob => AtF.cells ((unhide HA1).below ((Below.refl _ w1).alloc (Nat.le_refl _) ob) (Nat.le_refl _)))
    go_wp2_with (at_builtin; refine wpList_append_own _ rfl (.const (.slice none 0 0)) (.tmp 22) 65 rfl (w1.heap.size + 1) 89 i0 (.agg #[.string ⟨#[]⟩, .string ⟨#[]⟩]) 2 32 Try.underlying65 hi hz0 hz1 hz2 rfl (by decide) (.slice none 0 0) 0 [] rfl (World.ownsRow_nil _ _ _ _) ad fs.length fc (cellsF fs) rfl (unhide HNS) (unhide HCS _) (cellsF_one _) ?h63 ?hby ?hba ?_)
    case h63 => simp only [maxLen]; omega
    case hby => omega
    · intro v' wA hown hg _
      have hOB : wA.heap[w1.heap.size]? = some (.cells #[.int .u16 o, .int .u16 bl, .string ts, .string ds, .slice (some ad) fs.length fc] 67 (0, 0)) := (hg.block w1.heap.size (by simp) (by simp [Value.ownBlock])).trans (heap_alloc_new w1 _)
      have hBA : Below w1.heap.size w1 wA := ((Below.refl _ w1).alloc (Nat.le_refl _) _).grown hg (by simp) (fun k hk => by simp [Value.ownBlock] at hk)
      have hBB : Below w1.heap.size w1 (wA.setCell ⟨w1.heap.size, 4, none⟩ v') := hBA.setCell (Nat.le_refl _) _
      have hownB : (wA.setCell ⟨w1.heap.size, 4, none⟩ v').ownsRow (w1.heap.size + 1) 89 2 v' fs.length (cellsF fs) := ownsRow_setCell_below (a := ⟨w1.heap.size, 4, none⟩) hown (by simp) v'
      have hOC := own_set (v := v') hOB
      have hoa : ∃ oa oc, v' = .slice oa fs.length oc ∧ AtF (wA.setCell ⟨w1.heap.size, 4, none⟩ v') oa fs := by
        have hcl := fun g hg => hownB.cells (g := g) hg
        rcases hownB.2 with ⟨e, h0⟩ | ⟨g, cap, cur, e, _⟩
        · have e0 : fs.length = 0 := by omega
          exact ⟨none, 0, by rw [e, e0], fun i hi => by omega⟩
        · refine ⟨some ⟨g, 0, none⟩, cap, by rw [e], AtF.ofCells (fun j u hj => ?_)⟩
          exact hcl g (by rw [e]; rfl) j u hj
      obtain ⟨oa, oc, rfl, hoat⟩ := hoa
      have hd4 : wA.cell? ⟨w1.heap.size, 4, none⟩ = some (.slice (some ad) fs.length fc) := cell_of_row wA w1.heap.size 4 _ _ _ hOB
      have hf4 := frees hOB 4
      obtain ⟨wB, hwB⟩ : ∃ wB, wB = wA.setCell ⟨w1.heap.size, 4, none⟩ (.slice oa fs.length oc) := ⟨_, rfl⟩
      rw [← hwB] at hBB hOC hoat
      have HR : Hid (Rest w wB w.heap.size w1.heap.size o bl ts ds (some ad) oa fc oc fs) := hide ⟨fun j => by rw [hBB.cell (p := ⟨w.heap.size, j, none⟩) (by show w.heap.size < _; omega)]; exact unhide HC1 j, fun j => cell_of_row wB w1.heap.size j _ _ _ hOC, by have := hBB.size; omega, lt_of_block hOC, (unhide HA1).below hBB (Nat.le_refl _), hoat, (unhide HV1).trans (hBB.mono (by omega)), by have := hBB.size; omega⟩
      have HWB := hide hwB
      have hxA : ∀ j, (wA.setCell ⟨w1.heap.size, 4, none⟩ (.slice oa fs.length oc)).cell? ⟨w.heap.size, j, none⟩ = #[.int .u16 o, .int .u16 bl, .string ts, .string ds, .slice (some ad) fs.length fc][j]? := by rw [← hwB]; exact (unhide HR).1
      clear hown hg hOB hBA hBB hownB hOC hoat hwB HNS HCS hcA
      go_wp2_with fail
      rw [← unhide HWB]
      refine (unhide HBO wB (unhide HR).2.2.2.2.1).mono ?_
      rintro ee w2 ⟨rfl, hb2⟩
      have HR2 := hide ((unhide HR).next hb2)
      have hx2 := (unhide HR2).1
      clear hb2 HWB HBO hxA hd4 hf4
      go_wp2_with fail
      refine (unhide HRE w2 (unhide HR2).2.2.2.2.1).mono ?_
      rintro ee w3 ⟨rfl, hb3⟩
      have HR3 := hide ((unhide HR2).next hb3)
      have hx3 := (unhide HR3).1
      have hy3 := (unhide HR3).2.1
      have HSm := hide (sameT_any o bl ts ds oa (some ad) oc fc fs w3 (unhide HR3).2.2.2.2.2.1 (unhide HR3).2.2.2.2.1 (by first | omega | simp))
      clear hb3 HRE hx2
      go_wp2_with fail
      refine (unhide HSm).mono ?_
      rintro ee w4 ⟨rfl, hb4⟩
      have HB4 := hide ((unhide HR3).2.2.2.2.2.2.1.trans (hb4.mono (unhide HR3).2.2.2.2.2.2.2))
      clear hb4 HSm hx3 hy3
      go_wp2
      go_ret
      exact ⟨rfl, unhide HB4⟩
set_option maxRecDepth 100000 in
theorem small {H : Type} {d : DataW H} (hk : Rows.uptoSmall H [d] = true) : Rows.uptoBulk d ≤ 1048576 := by
  have h : Rows.uptoBulkAll [d] ≤ 1048576 := of_decide_eq_true hk
  simp only [Rows.uptoBulkAll] at h
  omega

set_option maxRecDepth 100000 in
theorem contract (H : Type) (enc : TypeId × Value → H) (W : World) (base : Nat) (args : Array Value) (ds gs : List (DataW H)) (before : List MemPlace)
    (hval0 : ∀ (j : Nat) t v, Try.f14.params[j]? = some t → args[j]? = some v → Value.okWide Try.prog W .any base t v)
    (hW : DataW.Whole enc Try.prog Try.f14.params.toList Rows.tFTPWritesSpec.vars false W args.toList ds gs before) (hk : Rows.uptoSmall H (ds ++ gs) = true) :
    Calls Try.prog 14 args W fun e W' => ∃ v, e = .returned v ∧ Rows.tFTPWritesSpec.post enc Try.prog Try.f14 false true false false W args v W' := by
  have hval : ∀ (j : Nat) t v, Try.f14.params[j]? = some t → args[j]? = some v → Value.okWide Try.prog W .any base t v := hval0
  have hW' := hW
  obtain ⟨p, q, hA0, hV, rfl, hfz, hnd⟩ := hW
  have hA : DataW.TrodAll enc Try.prog W 0 (fun _ => true) true Try.f14.params.toList args.toList ds p := hA0
  rw [Try.params14] at hA hval
  obtain ⟨v0, vs0, d0, ds0, p0, q0, hargs, rfl, rfl, h0, r0⟩ := trodAll_cons hA
  obtain ⟨rfl, rfl, rfl⟩ := trodAll_nil r0
  obtain rfl : args = #[v0] := by cases args; simp_all
  obtain ⟨rfl, rfl⟩ := trodVars_none hV
  clear hA0 hval0
  simp only [List.append_nil] at hW' hk
  have h0k := h0
  obtain ⟨cs, rfl, hsz⟩ := okWide_struct Try.underlying67 (hval 0 67 v0 rfl rfl)
  obtain ⟨fuel, hf⟩ := h0
  obtain ⟨o, bl, ts, ds, sa, sc, fs, b1, b2, hAt, hnil, hcap, hbk, ecs⟩ := Op.tftp_open hf
  have ecs' : cs = #[.int .u16 o, .int .u16 bl, .string ts, .string ds, .slice sa fs.length sc] := by
    apply Array.ext'
    simpa [Value.cells] using ecs
  subst ecs'
  have hsm := small hk
  simp only at hbk
  refine (walk o bl ts ds sa sc fs W b1 b2 hAt hcap (by omega) hnil).mono fun ee W' ⟨he, hg⟩ => ?_
  subst he
  exact ⟨_, rfl, Op.close1 hW' rfl rfl rfl ⟨rfl, rfl, rfl⟩ (by kernel_rfl) (of_decide_eq_true (by kernel_rfl)) h0k hg⟩

set_option maxRecDepth 100000 in
theorem lifted (os : Os) (started : os.Started) (H : Type) (enc : TypeId × Value → H) (F : Stop.Interp) :
    ReturnsInHanded {} Try.checked os 14 .any ((Rows.OpenSpec.upto Rows.tFTPWritesSpec).pre6 enc Try.prog Try.f14 Rows.tFTPWritesUptoRow.domain false) (((Rows.OpenSpec.upto Rows.tFTPWritesSpec).at F).post enc Try.prog Try.f14 false true false false) := by
  refine returnsInHanded_of_cond (C := Try.checked) (s := Rows.OpenSpec.upto Rows.tFTPWritesSpec) (k := Rows.uptoSmall) rfl Op.own started (by kernel_rfl) Try.func14
    (OpenSpec.witness (enc := enc) (C := Try.checked) (s := Rows.OpenSpec.upto Rows.tFTPWritesSpec) (k := Rows.uptoSmall) rfl false ⟨#[], #[.agg #[.int .u16 0, .int .u16 0, .string ⟨#[]⟩, .string ⟨#[]⟩, .slice none 0 0]], []⟩ 8 (by kernel_rfl) (by kernel_rfl) (by kernel_rfl)
      (x := ([.agg [.lit (.int .u16 0), .lit (.int .u16 0), .lit (.string []), .lit (.string []), .nil]], [], [])) (by kernel_rfl) rfl (by kernel_rfl)) ?_
  intro W base args ds gs before hval hW _ hk _
  exact contract H enc W base args ds gs before hval hW hk

theorem over : Rows.TFTPWritesUptoSaid :=
  OpenClaim.holds_of_cond 14 Try.f14 rfl rfl rfl rfl rfl rfl rfl ⟨rfl, rfl, rfl, rfl, rfl⟩ rfl rfl rfl rfl rfl (by kernel_rfl) Try.func14 (by kernel_rfl)
    (of_decide_eq_true (by kernel_rfl)) (by unfold Func.isWrapper; first | (rw [if_pos (by decide +kernel)]; kernel_rfl) | (rw [if_neg (by decide +kernel)]; exact ⟨rfl, rfl⟩))
    (fun os started H enc _ F => lifted os started H enc F)
end Go.Proofs.Ytadkcdcdgphhpaa.tFTPWrites
namespace Go.Proofs.Ytadkcdcdgphhpaa
theorem tFTPWrites_holds : Rows.TFTPWritesUptoSaid := tFTPWrites.over
end Go.Proofs.Ytadkcdcdgphhpaa

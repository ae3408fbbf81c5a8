import Derived.Test.YtoifihhmneldeaaDoorVecWalk
import Derived.Test.YtoifihhmneldeaaDoorOpen
import Derived.Test.YtoifihhmneldeaaDoorCards
import Derived.Test.YtoifihhmneldeaaDoorTie
import Derived.WalkKit
import Derived.ProofKit
import Derived.OpenShut
import Derived.ShutString
import Derived.Deep.DeepHandedRow
import Derived.Lib.LaidTab
namespace Go.Proofs.YtoifihhmneldeaaDoor.vectors
open Go.ChangeShapes Go.WideShapes Go.ChangeAt Go.RowKit Hs Kp
set_option linter.unusedVariables false

theorem gTab : Tryd.prog.globalNamed "netboot/digest.rounds" = some 2 := by kernel_rfl
theorem gTabType : (Tryd.prog.globals[2]?).map (·.type) = some 92 := by kernel_rfl
theorem cellsA : Tryd.prog.cellsOf 92 = 64 := by kernel_rfl
theorem cells1 : Tryd.prog.cellsOf 28 = 1 := by kernel_rfl
theorem gCard : Tryd.prog.globalNamed "netboot/netbootkeep.card" = some 0 := by kernel_rfl
theorem gCardType : (Tryd.prog.globals[0]?).map (·.type) = some 40 := by kernel_rfl
theorem gOther : Tryd.prog.globalNamed "netboot/netbootkeep.other" = some 1 := by kernel_rfl
theorem gOtherType : (Tryd.prog.globals[1]?).map (·.type) = some 40 := by kernel_rfl
theorem cellsM : Tryd.prog.cellsOf 40 = 6 := by kernel_rfl
theorem cells8 : Tryd.prog.cellsOf 5 = 1 := by kernel_rfl
def kI : List Int := [1116352408, 1899447441, 3049323471, 3921009573, 961987163, 1508970993, 2453635748, 2870763221, 3624381080, 310598401, 607225278, 1426881987, 1925078388, 2162078206, 2614888103, 3248222580, 3835390401, 4022224774, 264347078, 604807628, 770255983, 1249150122, 1555081692, 1996064986, 2554220882, 2821834349, 2952996808, 3210313671, 3336571891, 3584528711, 113926993, 338241895, 666307205, 773529912, 1294757372, 1396182291, 1695183700, 1986661051, 2177026350, 2456956037, 2730485921, 2820302411, 3259730800, 3345764771, 3516065817, 3600352804, 4094571909, 275423344, 430227734, 506948616, 659060556, 883997877, 958139571, 1322822218, 1537002063, 1747873779, 1955562222, 2024104815, 2227730452, 2361852424, 2428436474, 2756734187, 3204031479, 3329325298]
def cI : List Int := [2, 0, 0, 0, 0, 42]
def oI : List Int := [2, 0, 0, 0, 0, 7]
theorem tabs {W : World} (h : laidMetH Tryd.prog Rows.vectorsRow.laid W) : Lib.TabIs Tryd.prog W "netboot/digest.rounds" .u32 kI ∧ Lib.TabIs Tryd.prog W "netboot/netbootkeep.card" .u8 cI ∧ Lib.TabIs Tryd.prog W "netboot/netbootkeep.other" .u8 oI := by
  have h' : laidMet Tryd.prog [("netboot/digest.rounds", Lib.tabData .u32 kI), ("netboot/netbootkeep.card", Lib.tabData .u8 cI), ("netboot/netbootkeep.other", Lib.tabData .u8 oI)] W := h
  obtain ⟨ps, ⟨g1, t1, cs1, f1, p1, q1, hg1, ht1, hv1, hd1, ⟨g2, t2, cs2, f2, p2, q2, hg2, ht2, hv2, hd2, ⟨g3, t3, cs3, f3, p3, q3, hg3, ht3, hv3, hd3, _⟩, _⟩, _⟩, _⟩ := h'
  obtain rfl := Option.some.inj (gTab.symm.trans hg1)
  obtain rfl := Option.some.inj (gTabType.symm.trans ht1)
  obtain rfl := Option.some.inj (gCard.symm.trans hg2)
  obtain rfl := Option.some.inj (gCardType.symm.trans ht2)
  obtain rfl := Option.some.inj (gOther.symm.trans hg3)
  obtain rfl := Option.some.inj (gOtherType.symm.trans ht3)
  refine ⟨?_, ?_, ?_⟩
  · unfold Lib.TabIs
    rw [hv1, ← Lib.cells_of_tab Tryd.underlying92 Tryd.underlying28 cells1 cellsA hd1]
  · unfold Lib.TabIs
    rw [hv2, ← Lib.cells_of_tab Tryd.underlying40 Tryd.underlying5 cells8 cellsM hd2]
  · unfold Lib.TabIs
    rw [hv3, ← Lib.cells_of_tab Tryd.underlying40 Tryd.underlying5 cells8 cellsM hd3]
theorem kI_row : (kI.map fun z => Value.int .u32 z) = rowF kN := by kernel_rfl
theorem rg {W : World} (h : Lib.TabIs Tryd.prog W "netboot/digest.rounds" .u32 kI) : RG W 2 kN := by
  unfold Lib.TabIs World.var? at h
  rw [gTab, kI_row] at h
  simp only [Option.bind_some] at h
  cases hw : W.heap[(2 : Nat)]? with
  | none => rw [hw] at h; simp at h
  | some o =>
    rw [hw] at h
    cases o with
    | cells cs t fz => simp only [Option.some.injEq] at h; exact ⟨t, fz, by rw [hw, h]⟩
    | _ => simp at h
theorem cards {W : World} (h1 : Lib.TabIs Tryd.prog W "netboot/netbootkeep.card" .u8 cI) (h2 : Lib.TabIs Tryd.prog W "netboot/netbootkeep.other" .u8 oI) : Cards2 W :=
  ⟨h1.cell gCard 0 (by decide), h1.cell gCard 1 (by decide), h1.cell gCard 2 (by decide), h1.cell gCard 3 (by decide), h1.cell gCard 4 (by decide), h1.cell gCard 5 (by decide), h2.cell gOther 0 (by decide), h2.cell gOther 1 (by decide), h2.cell gOther 2 (by decide), h2.cell gOther 3 (by decide), h2.cell gOther 4 (by decide), h2.cell gOther 5 (by decide)⟩
/-- a law of no argument -/
theorem close0 {H : Type} {enc : TypeId × Value → H} {fn : Func} {s : ChangeSpec} {W W' : World}
    (hW : DataW.Whole enc Tryd.prog fn.params.toList s.vars false W (#[] : Array Value).toList [] [] []) (hp : fn.params = #[]) (hr : fn.resultTypes = #[4]) (hv : s.vars = [])
    (hs : (s.fn H []).results = [.lit (.bool true)] ∧ (s.fn H []).args = [] ∧ (s.fn H []).vars = []) (hb : Below W.heap.size W W') :
    s.post enc Tryd.prog fn false true false false W #[] (.bool true) W' := by
  refine ⟨[], [], [], [], [], [], hW, ?_, ?_, ?_, hb.frame _, fun h => by cases h⟩
  · rw [List.append_nil, hs.1, hr]
    exact trodAll_cons_mk (shut_bool Tryd.underlying4 _) trodAll_mk0
  · rw [List.append_nil, hs.2.1, hp]
    exact trodAll_mk0
  · rw [List.append_nil, hs.2.2, hv]
    rfl

theorem contract (H : Type) (enc : TypeId × Value → H) (W : World) (base : Nat) (args : Array Value) (ds gs : List (DataW H)) (before : List MemPlace)
    (hW : DataW.Whole enc Tryd.prog Tryd.f4.params.toList Rows.vectorsSpec.vars false W args.toList ds gs before) (hL : laidMetH Tryd.prog Rows.vectorsRow.laid W) :
    Calls Tryd.prog 4 args W fun e W' => ∃ v, e = .returned v ∧ Rows.vectorsSpec.post enc Tryd.prog Tryd.f4 false true false false W args v W' := by
  have hW' := hW
  obtain ⟨p, q, hA0, hV, rfl, hfz, hnd⟩ := hW
  have hA : DataW.TrodAll enc Tryd.prog W 0 (fun _ => true) true Tryd.f4.params.toList args.toList ds p := hA0
  rw [Tryd.params4] at hA
  obtain ⟨hargs, rfl, rfl⟩ := trodAll_nil hA
  obtain rfl : args = #[] := by cases args; simp_all
  obtain ⟨rfl, rfl⟩ := trodVars_none hV
  clear hA0
  simp only [List.append_nil] at hW'
  obtain ⟨h1, h2, h3⟩ := tabs hL
  refine (vectors_walk W (rg h1) (cards h2 h3)).mono fun ee W' ⟨he, hg⟩ => ?_
  subst he
  exact ⟨_, rfl, close0 hW' rfl rfl rfl ⟨rfl, rfl, rfl⟩ hg⟩

/-- a block with other cells -/
def put (cs : Array Value) : Obj → Obj
  | .cells _ t frozen => .cells cs t frozen
  | o => o
noncomputable def laidWorld (os : Os) : World :=
  { World.holding Tryd.prog os ⟨#[], #[], []⟩ with heap := (((World.holding Tryd.prog os ⟨#[], #[], []⟩).heap.modify 2 (put (kI.map fun z => Value.int .u32 z).toArray)).modify 0 (put (cI.map fun z => Value.int .u8 z).toArray)).modify 1 (put (oI.map fun z => Value.int .u8 z).toArray) }
theorem laid_met (os : Os) : laidMet Tryd.prog Rows.vectorsRow.laid ((laidWorld os).forCall (fun _ _ => 0) ⟨#[], #[], []⟩).memory :=
  laidMet_of_run' 70 (by kernel_rfl) (by kernel_rfl)
theorem reads (os : Os) {H : Type} (enc : TypeId × Value → H) : ∃ places, DataW.whole enc Tryd.prog ((laidWorld os).forCall (fun _ _ => 0) ⟨#[], #[], []⟩).memory Tryd.f4.params.toList Rows.vectorsSpec.vars false (#[] : Array Value).toList 8 = some ([], [], places) :=
  ⟨[], by kernel_rfl⟩

set_option maxRecDepth 100000 in
theorem lifted (os : Os) (started : os.Started) (H : Type) (enc : TypeId × Value → H) (F : Stop.Interp) :
    ReturnsInHanded {} Tryd.checked os 4 .any ((OpenSpec.ofChange Rows.vectorsSpec).preRow enc Tryd.prog Tryd.f4 Rows.vectorsRow.domain false Rows.vectorsRow.laid) (((OpenSpec.ofChange Rows.vectorsSpec).at F).post enc Tryd.prog Tryd.f4 false true false false) := by
  obtain ⟨places, hx⟩ := reads os enc
  refine returnsInHanded_of_row (C := Tryd.checked) (s := OpenSpec.ofChange Rows.vectorsSpec) Op.own started (by kernel_rfl) Tryd.func4
    (witness_row_at (enc := enc) (C := Tryd.checked) false (laidWorld os) #[] rfl (by kernel_rfl) (by kernel_rfl) (by kernel_rfl)
      (OpenSpec.preRow_of_cond 8 hx (by kernel_rfl) (fun k hk => by cases hk) (by kernel_rfl) (laid_met os))) ?_
  intro W base args ds gs before hval hW _ _ _ hL _ _
  exact contract H enc W base args ds gs before hW hL

theorem said : Rows.VectorsSaid :=
  OpenClaim.holds_of_cond 4 Tryd.f4 rfl rfl rfl rfl rfl rfl rfl ⟨rfl, rfl, rfl, rfl, rfl⟩ rfl rfl rfl rfl rfl (by kernel_rfl) Tryd.func4 (by kernel_rfl)
    (of_decide_eq_true (by kernel_rfl)) (by unfold Func.isWrapper; first | (rw [if_pos (by decide +kernel)]; kernel_rfl) | (rw [if_neg (by decide +kernel)]; exact ⟨rfl, rfl⟩))
    (fun os started H enc _ F => by rw [OpenClaim.pre_eq_preRow]; exact lifted os started H enc F)

theorem plain (f : FuncId) (fn : Func) (hf : Tryd.pinned.checked.prog.funcNamed "netboot/netbootkeep.Vectors" = some f) (hfn : Tryd.pinned.checked.prog.funcs[f]? = some fn) :
    true = Tryd.pinned.checked.prog.looks [] ∧ ∀ (j : Nat) t, fn.params[j]? = some t → Tryd.pinned.checked.prog.wantsStandIn t = false := by
  obtain rfl : f = 4 := Option.some.inj ((show Tryd.prog.funcNamed "netboot/netbootkeep.Vectors" = some 4 by kernel_rfl).symm.trans hf) |>.symm
  obtain rfl : fn = Tryd.f4 := (Option.some.inj (Tryd.func4.symm.trans hfn)).symm
  refine ⟨by kernel_rfl, fun j t ht => ?_⟩
  rw [Tryd.params4] at ht
  simp at ht

theorem card : Rows.VectorsCardSaid :=
  Claim7.holds_tied_plain_at .later [] _ _ _ _ said (fun _ h => by cases h) (by kernel_rfl) (fun _ h => by cases h) vectors_row_tie rfl ⟨rfl, rfl⟩ (by kernel_rfl) rfl plain (by kernel_rfl)
end Go.Proofs.YtoifihhmneldeaaDoor.vectors
namespace Go.Proofs.YtoifihhmneldeaaDoor
theorem vectors_holds : Rows.VectorsCardSaid := vectors.card
end Go.Proofs.YtoifihhmneldeaaDoor

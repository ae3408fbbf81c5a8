import Derived.Test.YtoifihhmneldeaaGreatDoorMgZ
import Derived.Test.YtoifihhmneldeaaGreatDoorOpen
import Derived.Test.YtoifihhmneldeaaGreatDoorCards
import Derived.Test.YtoifihhmneldeaaGreatDoorTie
import Derived.WalkKit
import Derived.ProofKit
import Derived.OpenShut
import Derived.ShutString
import Derived.Deep.DeepHandedRow
import Derived.Lib.LaidTab
namespace Go.Proofs.YtoifihhmneldeaaGreatDoor.rounds
open Go.ChangeShapes Go.WideShapes Go.ChangeAt Go.RowKit Rn
open Go.ChangeMaps (open_string shut_string)
set_option linter.unusedVariables false

theorem gCard : Tryz.prog.globalNamed "netboot/netbootkeep.card" = some 1 := by kernel_rfl
theorem gCardType : (Tryz.prog.globals[1]?).map (·.type) = some 23 := by kernel_rfl
theorem gOther : Tryz.prog.globalNamed "netboot/netbootkeep.other" = some 0 := by kernel_rfl
theorem gOtherType : (Tryz.prog.globals[0]?).map (·.type) = some 23 := by kernel_rfl
theorem cellsM : Tryz.prog.cellsOf 23 = 6 := by kernel_rfl
theorem cells8 : Tryz.prog.cellsOf 5 = 1 := by kernel_rfl
def cI : List Int := [2, 0, 0, 0, 0, 42]
def oI : List Int := [2, 0, 0, 0, 0, 7]
theorem tabs {W : World} (h : laidMetH Tryz.prog Rows.roundsRow.laid W) : Lib.TabIs Tryz.prog W "netboot/netbootkeep.card" .u8 cI ∧ Lib.TabIs Tryz.prog W "netboot/netbootkeep.other" .u8 oI := by
  have h' : laidMet Tryz.prog [("netboot/netbootkeep.card", Lib.tabData .u8 cI), ("netboot/netbootkeep.other", Lib.tabData .u8 oI)] W := h
  obtain ⟨ps, ⟨g2, t2, cs2, f2, p2, q2, hg2, ht2, hv2, hd2, ⟨g3, t3, cs3, f3, p3, q3, hg3, ht3, hv3, hd3, _⟩, _⟩, _⟩ := h'
  obtain rfl := Option.some.inj (gCard.symm.trans hg2)
  obtain rfl := Option.some.inj (gCardType.symm.trans ht2)
  obtain rfl := Option.some.inj (gOther.symm.trans hg3)
  obtain rfl := Option.some.inj (gOtherType.symm.trans ht3)
  refine ⟨?_, ?_⟩
  · unfold Lib.TabIs
    rw [hv2, ← Lib.cells_of_tab Tryz.underlying23 Tryz.underlying5 cells8 cellsM hd2]
  · unfold Lib.TabIs
    rw [hv3, ← Lib.cells_of_tab Tryz.underlying23 Tryz.underlying5 cells8 cellsM hd3]
theorem cards {W : World} (h1 : Lib.TabIs Tryz.prog W "netboot/netbootkeep.card" .u8 cI) (h2 : Lib.TabIs Tryz.prog W "netboot/netbootkeep.other" .u8 oI) : Cards2 W :=
  ⟨h2.cell gOther 0 (by decide), h2.cell gOther 1 (by decide), h2.cell gOther 2 (by decide), h2.cell gOther 3 (by decide), h2.cell gOther 4 (by decide), h2.cell gOther 5 (by decide), h1.cell gCard 0 (by decide), h1.cell gCard 1 (by decide), h1.cell gCard 2 (by decide), h1.cell gCard 3 (by decide), h1.cell gCard 4 (by decide), h1.cell gCard 5 (by decide)⟩
theorem bd64' {n : Int} (h : (Lit.int .i64 n).wf = true) : -9223372036854775808 ≤ n ∧ n ≤ 9223372036854775807 := by
  simpa [Lit.wf, IntKind.min, IntKind.max, IntKind.signed, IntKind.bits] using h
/-- a law of four arguments -/
theorem close4 {H : Type} {enc : TypeId × Value → H} {fn : Func} {s : ChangeSpec} {W W' : World} {t0 t1 t2 t3 : TypeId} {v0 v1 v2 v3 : Value} {d0 d1 d2 d3 : DataW H} {p0 p1 p2 p3 : List MemPlace}
    (hW : DataW.Whole enc Tryz.prog fn.params.toList s.vars false W #[v0, v1, v2, v3].toList [d0, d1, d2, d3] [] (p0 ++ (p1 ++ (p2 ++ p3)))) (hp : fn.params = #[t0, t1, t2, t3]) (hr : fn.resultTypes = #[4]) (hv : s.vars = [])
    (hs : (s.fn H [d0, d1, d2, d3]).results = [.lit (.bool true)] ∧ (s.fn H [d0, d1, d2, d3]).args = [d0, d1, d2, d3] ∧ (s.fn H [d0, d1, d2, d3]).vars = [])
    (hread0 : Tryz.prog.readableRec t0 = true) (hrow0 : t0 < Tryz.prog.types.size) (hread1 : Tryz.prog.readableRec t1 = true) (hrow1 : t1 < Tryz.prog.types.size) (hread2 : Tryz.prog.readableRec t2 = true) (hrow2 : t2 < Tryz.prog.types.size) (hread3 : Tryz.prog.readableRec t3 = true) (hrow3 : t3 < Tryz.prog.types.size)
    (h0 : DataW.Trod enc Tryz.prog W 0 (fun _ => true) true t0 v0 d0 p0) (h1 : DataW.Trod enc Tryz.prog W 0 (fun _ => true) true t1 v1 d1 p1) (h2 : DataW.Trod enc Tryz.prog W 0 (fun _ => true) true t2 v2 d2 p2) (h3 : DataW.Trod enc Tryz.prog W 0 (fun _ => true) true t3 v3 d3 p3) (hb : Below W.heap.size W W') :
    s.post enc Tryz.prog fn false true false false W #[v0, v1, v2, v3] (.bool true) W' := by
  have hlt : ∀ x ∈ p0 ++ (p1 ++ (p2 ++ p3)), x.block < W.heap.size := fun x hx => by simpa using hW.lt x hx
  refine ⟨[d0, d1, d2, d3], [], p0 ++ (p1 ++ (p2 ++ p3)), [], p0 ++ (p1 ++ (p2 ++ (p3 ++ []))), [], hW, ?_, ?_, ?_, hb.frame _, fun h => by cases h⟩
  · rw [List.append_nil, hs.1, hr]
    exact trodAll_cons_mk (shut_bool Tryz.underlying4 _) trodAll_mk0
  · rw [List.append_nil, hs.2.1, hp]
    have a0 := Below.trod Op.laid hread0 hrow0 h0 hb (fun x hx => hlt x (List.mem_append_left _ hx))
    have a1 := Below.trod Op.laid hread1 hrow1 h1 hb (fun x hx => hlt x (List.mem_append_right _ (List.mem_append_left _ hx)))
    have a2 := Below.trod Op.laid hread2 hrow2 h2 hb (fun x hx => hlt x (List.mem_append_right _ (List.mem_append_right _ (List.mem_append_left _ hx))))
    have a3 := Below.trod Op.laid hread3 hrow3 h3 hb (fun x hx => hlt x (List.mem_append_right _ (List.mem_append_right _ (List.mem_append_right _ hx))))
    exact trodAll_cons_mk a0 (trodAll_cons_mk a1 (trodAll_cons_mk a2 (trodAll_cons_mk a3 trodAll_mk0)))
  · rw [List.append_nil, hs.2.2, hv]
    rfl

set_option maxRecDepth 100000 in
theorem contract (H : Type) (enc : TypeId × Value → H) (W : World) (base : Nat) (args : Array Value) (ds gs : List (DataW H)) (before : List MemPlace)
    (hval : ∀ (j : Nat) t v, Tryz.f3.params[j]? = some t → args[j]? = some v → Value.okWide Tryz.prog W .any base t v)
    (hW : DataW.Whole enc Tryz.prog Tryz.f3.params.toList Rows.roundsSpec.vars false W args.toList ds gs before) (hL : laidMetH Tryz.prog Rows.roundsRow.laid W) :
    Calls Tryz.prog 3 args W fun e W' => ∃ v, e = .returned v ∧ Rows.roundsSpec.post enc Tryz.prog Tryz.f3 false true false false W args v W' := by
  have hW' := hW
  obtain ⟨p, q, hA0, hV, rfl, hfz, hnd⟩ := hW
  have hA : DataW.TrodAll enc Tryz.prog W 0 (fun _ => true) true Tryz.f3.params.toList args.toList ds p := hA0
  rw [Tryz.params3] at hA hval
  obtain ⟨v0, vs0, d0, ds0, p0, q0, hargs, rfl, rfl, h0, r0⟩ := trodAll_cons hA
  obtain ⟨v1, vs1, d1, ds1, p1, q1, rfl, rfl, rfl, h1, r1⟩ := trodAll_cons r0
  obtain ⟨v2, vs2, d2, ds2, p2, q2, rfl, rfl, rfl, h2, r2⟩ := trodAll_cons r1
  obtain ⟨v3, vs3, d3, ds3, p3, q3, rfl, rfl, rfl, h3, r3⟩ := trodAll_cons r2
  obtain ⟨rfl, rfl, rfl⟩ := trodAll_nil r3
  obtain rfl : args = #[v0, v1, v2, v3] := by cases args; simp_all
  obtain ⟨rfl, rfl⟩ := trodVars_none hV
  clear hA0
  simp only [List.append_nil] at hW'
  have h0k := h0
  have h1k := h1
  have h2k := h2
  have h3k := h3
  obtain ⟨a0, rfl, rfl, rfl, w0⟩ := open_string Tryz.underlying9 (hval 0 9 v0 rfl rfl) h0
  obtain ⟨a, rfl, rfl, rfl, w1⟩ := open_int Tryz.underlying3 (hval 1 3 v1 rfl rfl) h1
  obtain ⟨b, rfl, rfl, rfl, w2⟩ := open_int Tryz.underlying3 (hval 2 3 v2 rfl rfl) h2
  obtain ⟨k, rfl, rfl, rfl, w3⟩ := open_int Tryz.underlying3 (hval 3 3 v3 rfl rfl) h3
  obtain ⟨t1, t2⟩ := tabs hL
  refine (rounds_any a0 a b k W (bd64' w1) (bd64' w2) (bd64' w3) (cards t1 t2)).mono fun ee W' ⟨he, hg⟩ => ?_
  subst he
  exact ⟨_, rfl, close4 hW' rfl rfl rfl ⟨rfl, rfl, rfl⟩ (by kernel_rfl) (of_decide_eq_true (by kernel_rfl)) (by kernel_rfl) (of_decide_eq_true (by kernel_rfl)) (by kernel_rfl) (of_decide_eq_true (by kernel_rfl)) (by kernel_rfl) (of_decide_eq_true (by kernel_rfl)) h0k h1k h2k h3k hg⟩

/-- a block with other cells -/
def put (cs : Array Value) : Obj → Obj
  | .cells _ t frozen => .cells cs t frozen
  | o => o
noncomputable def laidWorld (os : Os) : World :=
  { World.holding Tryz.prog os ⟨#[], #[], []⟩ with heap := ((World.holding Tryz.prog os ⟨#[], #[], []⟩).heap.modify 1 (put (cI.map fun z => Value.int .u8 z).toArray)).modify 0 (put (oI.map fun z => Value.int .u8 z).toArray) }
set_option maxRecDepth 100000 in
theorem laid_met (os : Os) : laidMet Tryz.prog Rows.roundsRow.laid ((laidWorld os).forCall (fun _ _ => 0) ⟨#[], #[.string ByteArray.empty, .int .i64 0, .int .i64 0, .int .i64 0], []⟩).memory :=
  laidMet_of_run' 70 (by kernel_rfl) (by kernel_rfl)
set_option maxRecDepth 100000 in
theorem reads (os : Os) {H : Type} (enc : TypeId × Value → H) : ∃ places, DataW.whole enc Tryz.prog ((laidWorld os).forCall (fun _ _ => 0) ⟨#[], #[.string ByteArray.empty, .int .i64 0, .int .i64 0, .int .i64 0], []⟩).memory Tryz.f3.params.toList Rows.roundsSpec.vars false (#[.string ByteArray.empty, .int .i64 0, .int .i64 0, .int .i64 0] : Array Value).toList 8 = some ([.lit (.string []), .lit (.int .i64 0), .lit (.int .i64 0), .lit (.int .i64 0)], [], places) :=
  ⟨[], by kernel_rfl⟩

set_option maxRecDepth 100000 in
theorem lifted (os : Os) (started : os.Started) (H : Type) (enc : TypeId × Value → H) (F : Stop.Interp) :
    ReturnsInHanded {} Tryz.checked os 3 .any ((OpenSpec.ofChange Rows.roundsSpec).preRow enc Tryz.prog Tryz.f3 Rows.roundsRow.domain false Rows.roundsRow.laid) (((OpenSpec.ofChange Rows.roundsSpec).at F).post enc Tryz.prog Tryz.f3 false true false false) := by
  obtain ⟨places, hx⟩ := reads os enc
  refine returnsInHanded_of_row (C := Tryz.checked) (s := OpenSpec.ofChange Rows.roundsSpec) Op.own started (by kernel_rfl) Tryz.func3
    (witness_row_at (enc := enc) (C := Tryz.checked) false (laidWorld os) #[.string ByteArray.empty, .int .i64 0, .int .i64 0, .int .i64 0] rfl (by kernel_rfl) (by kernel_rfl) (by kernel_rfl)
      (OpenSpec.preRow_of_cond 8 hx (by kernel_rfl) (fun k hk => by cases hk) (by kernel_rfl) (laid_met os))) ?_
  intro W base args ds gs before hval hW _ _ _ hL _ _
  exact contract H enc W base args ds gs before hval hW hL

set_option maxRecDepth 100000 in
theorem said : Rows.RoundsSaid :=
  OpenClaim.holds_of_cond 3 Tryz.f3 rfl rfl rfl rfl rfl rfl rfl ⟨rfl, rfl, rfl, rfl, rfl⟩ rfl rfl rfl rfl rfl (by kernel_rfl) Tryz.func3 (by kernel_rfl)
    (of_decide_eq_true (by kernel_rfl)) (by unfold Func.isWrapper; first | (rw [if_pos (by decide +kernel)]; kernel_rfl) | (rw [if_neg (by decide +kernel)]; exact ⟨rfl, rfl⟩))
    (fun os started H enc _ F => by rw [OpenClaim.pre_eq_preRow]; exact lifted os started H enc F)

set_option maxRecDepth 100000 in
theorem plain (f : FuncId) (fn : Func) (hf : Tryz.pinned.checked.prog.funcNamed "netboot/netbootkeep.Rounds" = some f) (hfn : Tryz.pinned.checked.prog.funcs[f]? = some fn) :
    true = Tryz.pinned.checked.prog.looks [] ∧ ∀ (j : Nat) t, fn.params[j]? = some t → Tryz.pinned.checked.prog.wantsStandIn t = false := by
  obtain rfl : f = 3 := Option.some.inj ((show Tryz.prog.funcNamed "netboot/netbootkeep.Rounds" = some 3 by kernel_rfl).symm.trans hf) |>.symm
  obtain rfl : fn = Tryz.f3 := (Option.some.inj (Tryz.func3.symm.trans hfn)).symm
  refine ⟨by kernel_rfl, fun j t ht => ?_⟩
  rw [Tryz.params3] at ht
  have ht2 : t = 9 ∨ t = 3 := by
    have := Array.mem_of_getElem? ht
    simpa using this
  rcases ht2 with rfl | rfl
  · exact (show Tryz.prog.wantsStandIn 9 = false by kernel_rfl)
  · exact (show Tryz.prog.wantsStandIn 3 = false by kernel_rfl)

set_option maxRecDepth 100000 in
theorem card : Rows.RoundsCardSaid :=
  Claim7.holds_tied_plain_at .later [] _ _ _ _ said (fun _ h => by cases h) (by kernel_rfl) (fun _ h => by cases h) rounds_row_tie rfl ⟨rfl, rfl⟩ (by kernel_rfl) rfl plain (by kernel_rfl)
end Go.Proofs.YtoifihhmneldeaaGreatDoor.rounds
namespace Go.Proofs.YtoifihhmneldeaaGreatDoor
theorem rounds_holds : Rows.RoundsCardSaid := rounds.card
end Go.Proofs.YtoifihhmneldeaaGreatDoor

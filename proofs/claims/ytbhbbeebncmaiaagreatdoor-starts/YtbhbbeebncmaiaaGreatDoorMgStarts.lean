import Derived.Test.YtbhbbeebncmaiaaGreatDoorMgZ43
import Derived.Test.YtbhbbeebncmaiaaGreatDoorMgZ50
import Derived.Test.YtbhbbeebncmaiaaGreatDoorMgZ51
import Derived.Test.YtbhbbeebncmaiaaGreatDoorCards
import Derived.Test.YtbhbbeebncmaiaaGreatDoorTie
import Derived.WalkKit
import Derived.ProofKit
import Derived.OpenShut
import Derived.Deep.DeepHandedRow
import Derived.Lib.LaidTab
namespace Go.Proofs.YtbhbbeebncmaiaaGreatDoor.starts
open Go.ChangeShapes Go.WideShapes Go.ChangeAt Go.RowKit Mac Ref Law
set_option linter.unusedVariables false
theorem gAll : Tryz.prog.globalNamed "netboot/machine.allCards" = some 1 := by kernel_rfl
theorem gAllType : (Tryz.prog.globals[1]?).map (·.type) = some 26 := by kernel_rfl
theorem gRef : Tryz.prog.globalNamed "netboot/netbootref.all" = some 0 := by kernel_rfl
theorem gRefType : (Tryz.prog.globals[0]?).map (·.type) = some 26 := by kernel_rfl
theorem cellsM : Tryz.prog.cellsOf 26 = 6 := by kernel_rfl
theorem cells8 : Tryz.prog.cellsOf 5 = 1 := by kernel_rfl
def b32I : List Int := [0, 1, 28, 2, 29, 14, 24, 3, 30, 22, 20, 15, 25, 17, 4, 8, 31, 27, 13, 23, 21, 19, 16, 7, 26, 12, 18, 6, 11, 5, 10, 9]
def b64I : List Int := [0, 1, 56, 2, 57, 49, 28, 3, 61, 58, 42, 50, 38, 29, 17, 4, 62, 47, 59, 36, 45, 43, 51, 22, 53, 39, 33, 30, 24, 18, 12, 5, 63, 55, 48, 27, 60, 41, 37, 16, 46, 35, 44, 21, 52, 32, 23, 11, 54, 26, 40, 15, 34, 20, 31, 10, 25, 14, 19, 9, 13, 8, 7, 6]
def powI : List Int := [1, 10, 100, 1000, 10000, 100000, 1000000, 10000000, 100000000, 1000000000, 10000000000, 100000000000, 1000000000000, 10000000000000, 100000000000000, 1000000000000000, 10000000000000000, 100000000000000000, 1000000000000000000, 10000000000000000000]
def kI : List Int := [1116352408, 1899447441, 3049323471, 3921009573, 961987163, 1508970993, 2453635748, 2870763221, 3624381080, 310598401, 607225278, 1426881987, 1925078388, 2162078206, 2614888103, 3248222580, 3835390401, 4022224774, 264347078, 604807628, 770255983, 1249150122, 1555081692, 1996064986, 2554220882, 2821834349, 2952996808, 3210313671, 3336571891, 3584528711, 113926993, 338241895, 666307205, 773529912, 1294757372, 1396182291, 1695183700, 1986661051, 2177026350, 2456956037, 2730485921, 2820302411, 3259730800, 3345764771, 3516065817, 3600352804, 4094571909, 275423344, 430227734, 506948616, 659060556, 883997877, 958139571, 1322822218, 1537002063, 1747873779, 1955562222, 2024104815, 2227730452, 2361852424, 2428436474, 2756734187, 3204031479, 3329325298]
def rI : List Int := [255, 255, 255, 255, 255, 255]
def aI : List Int := [255, 255, 255, 255, 255, 255]
theorem tabs {W : World} (h : laidMetH Tryz.prog Rows.startsRow.laid W) : Lib.TabIs Tryz.prog W "netboot/machine.allCards" .u8 aI ∧ Lib.TabIs Tryz.prog W "netboot/netbootref.all" .u8 rI := by
  have h' : laidMet Tryz.prog [("math/bits.deBruijn32tab", Lib.tabData .u8 b32I), ("math/bits.deBruijn64tab", Lib.tabData .u8 b64I), ("internal/strconv.uint64pow10", Lib.tabData .u64 powI), ("netboot/digest.rounds", Lib.tabData .u32 kI), ("netboot/netbootref.all", Lib.tabData .u8 rI), ("strconv.ErrRange", Rows.laid_strconv_ErrRange), ("strconv.ErrSyntax", Rows.laid_strconv_ErrSyntax), ("netboot/machine.allCards", Lib.tabData .u8 aI)] W := h
  obtain ⟨ps, ⟨g1, t1, cs1, f1, p1, q1, hg1, ht1, hv1, hd1, ⟨g2, t2, cs2, f2, p2, q2, hg2, ht2, hv2, hd2, ⟨g3, t3, cs3, f3, p3, q3, hg3, ht3, hv3, hd3, ⟨g4, t4, cs4, f4, p4, q4, hg4, ht4, hv4, hd4, ⟨g5, t5, cs5, f5, p5, q5, hg5, ht5, hv5, hd5, ⟨g6, t6, cs6, f6, p6, q6, hg6, ht6, hv6, hd6, ⟨g7, t7, cs7, f7, p7, q7, hg7, ht7, hv7, hd7, ⟨g8, t8, cs8, f8, p8, q8, hg8, ht8, hv8, hd8, _, _⟩, _⟩, _⟩, _⟩, _⟩, _⟩, _⟩, _⟩, _⟩ := h'
  obtain rfl := Option.some.inj (gAll.symm.trans hg8)
  obtain rfl := Option.some.inj (gAllType.symm.trans ht8)
  obtain rfl := Option.some.inj (gRef.symm.trans hg5)
  obtain rfl := Option.some.inj (gRefType.symm.trans ht5)
  refine ⟨?_, ?_⟩
  · unfold Lib.TabIs
    rw [hv8, ← Lib.cells_of_tab Tryz.underlying26 Tryz.underlying5 cells8 cellsM hd8]
  · unfold Lib.TabIs
    rw [hv5, ← Lib.cells_of_tab Tryz.underlying26 Tryz.underlying5 cells8 cellsM hd5]
theorem all6 {W : World} (h1 : Lib.TabIs Tryz.prog W "netboot/machine.allCards" .u8 aI) : Gl W := fun j hj => by
  have h : j = 0 ∨ j = 1 ∨ j = 2 ∨ j = 3 ∨ j = 4 ∨ j = 5 := by omega
  rcases h with rfl | rfl | rfl | rfl | rfl | rfl
  · exact h1.cell gAll 0 (by decide)
  · exact h1.cell gAll 1 (by decide)
  · exact h1.cell gAll 2 (by decide)
  · exact h1.cell gAll 3 (by decide)
  · exact h1.cell gAll 4 (by decide)
  · exact h1.cell gAll 5 (by decide)
theorem ref6 {W : World} (h1 : Lib.TabIs Tryz.prog W "netboot/netbootref.all" .u8 rI) : Gr W := fun j hj => by
  have h : j = 0 ∨ j = 1 ∨ j = 2 ∨ j = 3 ∨ j = 4 ∨ j = 5 := by omega
  rcases h with rfl | rfl | rfl | rfl | rfl | rfl
  · exact h1.cell gRef 0 (by decide)
  · exact h1.cell gRef 1 (by decide)
  · exact h1.cell gRef 2 (by decide)
  · exact h1.cell gRef 3 (by decide)
  · exact h1.cell gRef 4 (by decide)
  · exact h1.cell gRef 5 (by decide)
theorem big {W : World} (h : W.ShapedOpen Tryz.prog) (h2 : Gl W) (h3 : Gr W) : 9 ≤ W.heap.size := by
  have q : ∃ zero t, (((begin Tryz.prog (fun _ _ => 0) default).world).heap[9 - 1]?).bind Obj.row? = some (zero, t) := by
    have e : ((((begin Tryz.prog (fun _ _ => 0) default).world).heap[9 - 1]?).bind Obj.row?).isSome = true := by kernel_rfl
    obtain ⟨x, hx⟩ := Option.isSome_iff_exists.1 e
    exact ⟨x.1, x.2, hx⟩
  obtain ⟨zero, t, hq⟩ := q
  obtain ⟨cs, hc, _⟩ := h.1 (9 - 1) zero t (by decide +kernel) hq
  have := (Array.getElem?_eq_some_iff.1 hc).1
  omega
set_option maxRecDepth 100000 in
theorem contract (H : Type) (enc : TypeId × Value → H) (W : World) (base : Nat) (args : Array Value) (ds gs : List (DataW H)) (before : List MemPlace)
    (hval0 : ∀ (j : Nat) t v, Tryz.f4.params[j]? = some t → args[j]? = some v → Value.okWide Tryz.prog W .any base t v)
    (hW : DataW.Whole enc Tryz.prog Tryz.f4.params.toList Rows.startsSpec.vars false W args.toList ds gs before)
    (hz : (DataW.weightsEach Tryz.prog (Tryz.f4.params.toList ++ (OpenSpec.ofChange Rows.startsSpec).bare.plain.varTypes Tryz.prog) (ds ++ gs)).all (· ≤ reachBytes) = true)
    (hL : laidMetH Tryz.prog Rows.startsRow.laid W) (hsh : W.ShapedOpen Tryz.prog) :
    Calls Tryz.prog 4 args W fun e W' => ∃ v, e = .returned v ∧ Rows.startsSpec.post enc Tryz.prog Tryz.f4 false true false false W args v W' := by
  have hval : ∀ (j : Nat) t v, Tryz.f4.params[j]? = some t → args[j]? = some v → Value.okWide Tryz.prog W .any base t v := hval0
  have hW' := hW
  obtain ⟨p, q, hA0, hV, rfl, hfz, hnd⟩ := hW
  have hA : DataW.TrodAll enc Tryz.prog W 0 (fun _ => true) true Tryz.f4.params.toList args.toList ds p := hA0
  have hz' : ∀ n ∈ DataW.weightsEach Tryz.prog (Tryz.f4.params.toList ++ (OpenSpec.ofChange Rows.startsSpec).bare.plain.varTypes Tryz.prog) (ds ++ gs), n ≤ reachBytes := fun n hn => by simpa using List.all_eq_true.1 hz n hn
  rw [Tryz.params4] at hA hval hz'
  obtain ⟨v0, vs0, d0, ds0, p0, q0, hargs, rfl, rfl, h0, r0⟩ := trodAll_cons hA
  obtain ⟨rfl, rfl, rfl⟩ := trodAll_nil r0
  obtain rfl : args = #[v0] := by cases args; simp_all
  obtain ⟨rfl, rfl⟩ := trodVars_none hV
  clear hA0 hval0
  simp only [List.append_nil] at hW'
  have h0k := h0
  obtain ⟨a, len, cap, rfl⟩ := okWide_slice Tryz.underlying22 (hval 0 22 v0 rfl rfl)
  obtain ⟨fuel, hf⟩ := h0
  obtain ⟨sa, sc, ops, ecs, hS, hl, hO⟩ := ops_open hf (fun n hn => hz' n (DataW.weights_mem_each (j := 0) rfl rfl n hn))
  have e : (Value.slice a len cap) = .slice sa ops.length sc := by simpa [Value.cells] using ecs
  rw [e] at hW' h0k ⊢
  obtain ⟨t1, t2⟩ := tabs hL
  refine (starts_any sa sc ops W hS hl hO (big hsh (all6 t1) (ref6 t2)) (all6 t1) (ref6 t2)).mono fun ee W' ⟨he, hg⟩ => ?_
  subst he
  exact ⟨_, rfl, Op.close1 hW' rfl rfl rfl ⟨rfl, rfl, rfl⟩ (by kernel_rfl) (of_decide_eq_true (by kernel_rfl)) h0k hg⟩

def put (cs : Array Value) : Obj → Obj
  | .cells _ t frozen => .cells cs t frozen
  | o => o
noncomputable def low : Nat := (World.holding Tryz.prog default ⟨#[], #[], []⟩).heap.size
noncomputable def laidWorld (os : Os) : World :=
  let w0 := World.holding Tryz.prog os ⟨#[.cells #[.string ⟨#[118, 97, 108, 117, 101, 32, 111, 117, 116, 32, 111, 102, 32, 114, 97, 110, 103, 101]⟩] 395, .cells #[.string ⟨#[105, 110, 118, 97, 108, 105, 100, 32, 115, 121, 110, 116, 97, 120]⟩] 395], #[], []⟩
  { w0 with heap := ((((((((w0.heap.modify 4 (put (b32I.map fun z => Value.int .u8 z).toArray)).modify 5 (put (b64I.map fun z => Value.int .u8 z).toArray)).modify 2 (put (powI.map fun z => Value.int .u64 z).toArray)).modify 8 (put (kI.map fun z => Value.int .u32 z).toArray)).modify 0 (put (rI.map fun z => Value.int .u8 z).toArray)).modify 7 (put #[.iface 393 (.pointer (some ⟨low + 0, 0, none⟩))])).modify 6 (put #[.iface 393 (.pointer (some ⟨low + 1, 0, none⟩))])).modify 1 (put (aI.map fun z => Value.int .u8 z).toArray)) }
set_option maxRecDepth 100000 in
theorem laid_met (os : Os) : laidMet Tryz.prog Rows.startsRow.laid ((laidWorld os).forCall (fun _ _ => 0) ⟨#[], #[.slice none 0 0], []⟩).memory :=
  laidMet_of_run' 70 (by kernel_rfl) (by kernel_rfl)
set_option maxRecDepth 100000 in
theorem reads (os : Os) {H : Type} (enc : TypeId × Value → H) : ∃ places, DataW.whole enc Tryz.prog ((laidWorld os).forCall (fun _ _ => 0) ⟨#[], #[.slice none 0 0], []⟩).memory Tryz.f4.params.toList Rows.startsSpec.vars false (#[.slice none 0 0] : Array Value).toList 8 = some ([.nil], [], places) :=
  ⟨[], by kernel_rfl⟩

set_option maxRecDepth 100000 in
theorem lifted (os : Os) (started : os.Started) (H : Type) (enc : TypeId × Value → H) (F : Stop.Interp) :
    ReturnsInHanded {} Tryz.checked os 4 .any ((OpenSpec.ofChange Rows.startsSpec).preRow enc Tryz.prog Tryz.f4 Rows.startsRow.domain false Rows.startsRow.laid) (((OpenSpec.ofChange Rows.startsSpec).at F).post enc Tryz.prog Tryz.f4 false true false false) := by
  obtain ⟨places, hx⟩ := reads os enc
  refine returnsInHanded_of_row (C := Tryz.checked) (s := OpenSpec.ofChange Rows.startsSpec) Op.own started (by kernel_rfl) Tryz.func4
    (witness_row_at (enc := enc) (C := Tryz.checked) false (laidWorld os) #[.slice none 0 0] rfl (by kernel_rfl) (by kernel_rfl) (by kernel_rfl)
      (OpenSpec.preRow_of_cond 8 hx (by kernel_rfl) (fun k hk => by cases hk) (by kernel_rfl) (laid_met os))) ?_
  intro W base args ds gs before hval hW _ _ hz hL hsh _
  exact contract H enc W base args ds gs before hval hW hz hL hsh

set_option maxRecDepth 100000 in
theorem said : Rows.StartsSaid :=
  OpenClaim.holds_of_cond 4 Tryz.f4 rfl rfl rfl rfl rfl rfl rfl ⟨rfl, rfl, rfl, rfl, rfl⟩ rfl rfl rfl rfl rfl (by kernel_rfl) Tryz.func4 startsJ.closed
    (of_decide_eq_true (by kernel_rfl)) (by unfold Func.isWrapper; first | (rw [if_pos (by decide +kernel)]; kernel_rfl) | (rw [if_neg (by decide +kernel)]; exact ⟨rfl, rfl⟩))
    (fun os started H enc _ F => by rw [OpenClaim.pre_eq_preRow]; exact lifted os started H enc F)

set_option maxRecDepth 100000 in
theorem plain (f : FuncId) (fn : Func) (hf : Tryz.pinned.checked.prog.funcNamed "netboot/netbootlaw.Starts" = some f) (hfn : Tryz.pinned.checked.prog.funcs[f]? = some fn) :
    true = Tryz.pinned.checked.prog.looks [] ∧ ∀ (j : Nat) t, fn.params[j]? = some t → Tryz.pinned.checked.prog.wantsStandIn t = false := by
  obtain rfl : f = 4 := Option.some.inj ((show Tryz.prog.funcNamed "netboot/netbootlaw.Starts" = some 4 by kernel_rfl).symm.trans hf) |>.symm
  obtain rfl : fn = Tryz.f4 := (Option.some.inj (Tryz.func4.symm.trans hfn)).symm
  refine ⟨by kernel_rfl, fun j t ht => ?_⟩
  rw [Tryz.params4] at ht
  obtain rfl : t = 22 := by simpa using Array.mem_of_getElem? ht
  exact (show Tryz.prog.wantsStandIn 22 = false by kernel_rfl)

set_option maxRecDepth 100000 in
theorem card : Rows.StartsCardSaid :=
  Claim7.holds_tied_plain_at .later [] _ _ _ _ said (fun _ h => by cases h) (by kernel_rfl) (fun _ h => by cases h) starts_row_tie rfl ⟨rfl, rfl⟩ (by kernel_rfl) rfl plain (by kernel_rfl)
end Go.Proofs.YtbhbbeebncmaiaaGreatDoor.starts
namespace Go.Proofs.YtbhbbeebncmaiaaGreatDoor
theorem starts_holds : Rows.StartsCardSaid := starts.card
end Go.Proofs.YtbhbbeebncmaiaaGreatDoor

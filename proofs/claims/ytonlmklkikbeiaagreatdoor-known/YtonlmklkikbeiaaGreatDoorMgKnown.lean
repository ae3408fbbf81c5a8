import Derived.Test.YtonlmklkikbeiaaGreatDoorMgKd
import Derived.Test.YtonlmklkikbeiaaGreatDoorMgHe
import Derived.Test.YtonlmklkikbeiaaGreatDoorMgOpen
import Derived.Test.YtonlmklkikbeiaaGreatDoorCards
import Derived.Test.YtonlmklkikbeiaaGreatDoorTie
import Derived.WalkKit
import Derived.ProofKit
import Derived.OpenShut
import Derived.Deep.DeepHandedRow
import Derived.Lib.LaidTab
namespace Go.Proofs.YtonlmklkikbeiaaGreatDoor.known
open Go.ChangeShapes Go.WideShapes Go.ChangeAt Go.RowKit Hs Mac
set_option linter.unusedVariables false

theorem gTab : Tryz.prog.globalNamed "netboot/digest.rounds" = some 2 := by kernel_rfl
theorem gTabType : (Tryz.prog.globals[2]?).map (·.type) = some 174 := by kernel_rfl
theorem cellsA : Tryz.prog.cellsOf 174 = 64 := by kernel_rfl
theorem cells1 : Tryz.prog.cellsOf 31 = 1 := by kernel_rfl
theorem gCard : Tryz.prog.globalNamed "netboot/netbootkeep.card" = some 0 := by kernel_rfl
theorem gCardType : (Tryz.prog.globals[0]?).map (·.type) = some 23 := by kernel_rfl
theorem gAll : Tryz.prog.globalNamed "netboot/machine.allCards" = some 1 := by kernel_rfl
theorem gAllType : (Tryz.prog.globals[1]?).map (·.type) = some 23 := by kernel_rfl
theorem cellsM : Tryz.prog.cellsOf 23 = 6 := by kernel_rfl
theorem cells8 : Tryz.prog.cellsOf 5 = 1 := by kernel_rfl
def b32I : List Int := [0, 1, 28, 2, 29, 14, 24, 3, 30, 22, 20, 15, 25, 17, 4, 8, 31, 27, 13, 23, 21, 19, 16, 7, 26, 12, 18, 6, 11, 5, 10, 9]
def b64I : List Int := [0, 1, 56, 2, 57, 49, 28, 3, 61, 58, 42, 50, 38, 29, 17, 4, 62, 47, 59, 36, 45, 43, 51, 22, 53, 39, 33, 30, 24, 18, 12, 5, 63, 55, 48, 27, 60, 41, 37, 16, 46, 35, 44, 21, 52, 32, 23, 11, 54, 26, 40, 15, 34, 20, 31, 10, 25, 14, 19, 9, 13, 8, 7, 6]
def powI : List Int := [1, 10, 100, 1000, 10000, 100000, 1000000, 10000000, 100000000, 1000000000, 10000000000, 100000000000, 1000000000000, 10000000000000, 100000000000000, 1000000000000000, 10000000000000000, 100000000000000000, 1000000000000000000, 10000000000000000000]
def kI : List Int := [1116352408, 1899447441, 3049323471, 3921009573, 961987163, 1508970993, 2453635748, 2870763221, 3624381080, 310598401, 607225278, 1426881987, 1925078388, 2162078206, 2614888103, 3248222580, 3835390401, 4022224774, 264347078, 604807628, 770255983, 1249150122, 1555081692, 1996064986, 2554220882, 2821834349, 2952996808, 3210313671, 3336571891, 3584528711, 113926993, 338241895, 666307205, 773529912, 1294757372, 1396182291, 1695183700, 1986661051, 2177026350, 2456956037, 2730485921, 2820302411, 3259730800, 3345764771, 3516065817, 3600352804, 4094571909, 275423344, 430227734, 506948616, 659060556, 883997877, 958139571, 1322822218, 1537002063, 1747873779, 1955562222, 2024104815, 2227730452, 2361852424, 2428436474, 2756734187, 3204031479, 3329325298]
def aI : List Int := [255, 255, 255, 255, 255, 255]
def cI : List Int := [2, 0, 0, 0, 0, 42]
theorem tabs {W : World} (h : laidMetH Tryz.prog Rows.knownRow.laid W) : Lib.TabIs Tryz.prog W "netboot/digest.rounds" .u32 kI ∧ Lib.TabIs Tryz.prog W "netboot/machine.allCards" .u8 aI ∧ Lib.TabIs Tryz.prog W "netboot/netbootkeep.card" .u8 cI := by
  have h' : laidMet Tryz.prog [("math/bits.deBruijn32tab", Lib.tabData .u8 b32I), ("math/bits.deBruijn64tab", Lib.tabData .u8 b64I), ("internal/strconv.uint64pow10", Lib.tabData .u64 powI), ("netboot/digest.rounds", Lib.tabData .u32 kI), ("strconv.ErrRange", Rows.laid_strconv_ErrRange), ("strconv.ErrSyntax", Rows.laid_strconv_ErrSyntax), ("netboot/machine.allCards", Lib.tabData .u8 aI), ("netboot/netbootkeep.card", Lib.tabData .u8 cI)] W := h
  obtain ⟨ps, ⟨g1, t1, cs1, f1, p1, q1, hg1, ht1, hv1, hd1, ⟨g2, t2, cs2, f2, p2, q2, hg2, ht2, hv2, hd2, ⟨g3, t3, cs3, f3, p3, q3, hg3, ht3, hv3, hd3, ⟨g4, t4, cs4, f4, p4, q4, hg4, ht4, hv4, hd4, ⟨g5, t5, cs5, f5, p5, q5, hg5, ht5, hv5, hd5, ⟨g6, t6, cs6, f6, p6, q6, hg6, ht6, hv6, hd6, ⟨g7, t7, cs7, f7, p7, q7, hg7, ht7, hv7, hd7, ⟨g8, t8, cs8, f8, p8, q8, hg8, ht8, hv8, hd8, _, _⟩, _⟩, _⟩, _⟩, _⟩, _⟩, _⟩, _⟩, _⟩ := h'
  obtain rfl := Option.some.inj (gTab.symm.trans hg4)
  obtain rfl := Option.some.inj (gTabType.symm.trans ht4)
  obtain rfl := Option.some.inj (gAll.symm.trans hg7)
  obtain rfl := Option.some.inj (gAllType.symm.trans ht7)
  obtain rfl := Option.some.inj (gCard.symm.trans hg8)
  obtain rfl := Option.some.inj (gCardType.symm.trans ht8)
  refine ⟨?_, ?_, ?_⟩
  · unfold Lib.TabIs
    rw [hv4, ← Lib.cells_of_tab Tryz.underlying174 Tryz.underlying31 cells1 cellsA hd4]
  · unfold Lib.TabIs
    rw [hv7, ← Lib.cells_of_tab Tryz.underlying23 Tryz.underlying5 cells8 cellsM hd7]
  · unfold Lib.TabIs
    rw [hv8, ← Lib.cells_of_tab Tryz.underlying23 Tryz.underlying5 cells8 cellsM hd8]
theorem kI_row : (kI.map fun z => Value.int .u32 z) = rowF kN := by kernel_rfl
theorem rg {W : World} (h : Lib.TabIs Tryz.prog W "netboot/digest.rounds" .u32 kI) : RG W 2 kN := by
  unfold Lib.TabIs World.var? at h
  rw [gTab, kI_row] at h
  simp only [Option.bind_some] at h
  cases hw : W.heap[(2 : Nat)]? with
  | none => rw [hw] at h; simp at h
  | some o =>
    rw [hw] at h
    cases o with
    | cells cs t fz => simp only [Option.some.injEq] at h; exact ⟨t, fz, by rw [hw, h]⟩
    | _ => simp at h
theorem card6 {W : World} (h1 : Lib.TabIs Tryz.prog W "netboot/netbootkeep.card" .u8 cI) : Cd W :=
  ⟨h1.cell gCard 0 (by decide), h1.cell gCard 1 (by decide), h1.cell gCard 2 (by decide), h1.cell gCard 3 (by decide), h1.cell gCard 4 (by decide), h1.cell gCard 5 (by decide)⟩
theorem all6 {W : World} (h1 : Lib.TabIs Tryz.prog W "netboot/machine.allCards" .u8 aI) : Gl W := fun j hj => by
  have h : j = 0 ∨ j = 1 ∨ j = 2 ∨ j = 3 ∨ j = 4 ∨ j = 5 := by omega
  rcases h with rfl | rfl | rfl | rfl | rfl | rfl
  · exact h1.cell gAll 0 (by decide)
  · exact h1.cell gAll 1 (by decide)
  · exact h1.cell gAll 2 (by decide)
  · exact h1.cell gAll 3 (by decide)
  · exact h1.cell gAll 4 (by decide)
  · exact h1.cell gAll 5 (by decide)
theorem big {W : World} (h1 : RG W 2 kN) (h2 : Gl W) : 3 ≤ W.heap.size := by
  have a := h1.lt
  have b := World.block_lt_of_cell? W _ (h2 0 (by decide))
  first | exact a | exact b
/-- a law of no argument -/
theorem close0 {H : Type} {enc : TypeId × Value → H} {fn : Func} {s : ChangeSpec} {W W' : World}
    (hW : DataW.Whole enc Tryz.prog fn.params.toList s.vars false W (#[] : Array Value).toList [] [] []) (hp : fn.params = #[]) (hr : fn.resultTypes = #[4]) (hv : s.vars = [])
    (hs : (s.fn H []).results = [.lit (.bool true)] ∧ (s.fn H []).args = [] ∧ (s.fn H []).vars = []) (hb : Below W.heap.size W W') :
    s.post enc Tryz.prog fn false true false false W #[] (.bool true) W' := by
  refine ⟨[], [], [], [], [], [], hW, ?_, ?_, ?_, hb.frame _, fun h => by cases h⟩
  · rw [List.append_nil, hs.1, hr]
    exact trodAll_cons_mk (shut_bool Tryz.underlying4 _) trodAll_mk0
  · rw [List.append_nil, hs.2.1, hp]
    exact trodAll_mk0
  · rw [List.append_nil, hs.2.2, hv]
    rfl

set_option maxRecDepth 100000 in
theorem contract (H : Type) (enc : TypeId × Value → H) (W : World) (base : Nat) (args : Array Value) (ds gs : List (DataW H)) (before : List MemPlace)
    (hW : DataW.Whole enc Tryz.prog Tryz.f4.params.toList Rows.knownSpec.vars false W args.toList ds gs before) (hL : laidMetH Tryz.prog Rows.knownRow.laid W) :
    Calls Tryz.prog 4 args W fun e W' => ∃ v, e = .returned v ∧ Rows.knownSpec.post enc Tryz.prog Tryz.f4 false true false false W args v W' := by
  have hW' := hW
  obtain ⟨p, q, hA0, hV, rfl, hfz, hnd⟩ := hW
  have hA : DataW.TrodAll enc Tryz.prog W 0 (fun _ => true) true Tryz.f4.params.toList args.toList ds p := hA0
  rw [Tryz.params4] at hA
  obtain ⟨hargs, rfl, rfl⟩ := trodAll_nil hA
  obtain rfl : args = #[] := by cases args; simp_all
  obtain ⟨rfl, rfl⟩ := trodVars_none hV
  clear hA0
  simp only [List.append_nil] at hW'
  obtain ⟨t1, t2, t3⟩ := tabs hL
  refine (known_any kN W (big (rg t1) (all6 t2)) (all6 t2) (card6 t3) (rg t1) kN_lt).mono fun ee W' ⟨he, hg⟩ => ?_
  subst he
  exact ⟨_, rfl, close0 hW' rfl rfl rfl ⟨rfl, rfl, rfl⟩ hg⟩

/-- a block with other cells -/
def put (cs : Array Value) : Obj → Obj
  | .cells _ t frozen => .cells cs t frozen
  | o => o
/-- so many blocks has the settled world -/
noncomputable def low : Nat := (World.holding Tryz.prog default ⟨#[], #[], []⟩).heap.size
noncomputable def laidWorld (os : Os) : World :=
  let w0 := World.holding Tryz.prog os ⟨#[.cells #[.string ⟨#[118, 97, 108, 117, 101, 32, 111, 117, 116, 32, 111, 102, 32, 114, 97, 110, 103, 101]⟩] 346, .cells #[.string ⟨#[105, 110, 118, 97, 108, 105, 100, 32, 115, 121, 110, 116, 97, 120]⟩] 346], #[], []⟩
  { w0 with heap := ((((((((w0.heap.modify 5 (put (b32I.map fun z => Value.int .u8 z).toArray)).modify 6 (put (b64I.map fun z => Value.int .u8 z).toArray)).modify 3 (put (powI.map fun z => Value.int .u64 z).toArray)).modify 2 (put (kI.map fun z => Value.int .u32 z).toArray)).modify 8 (put #[.iface 344 (.pointer (some ⟨low + 0, 0, none⟩))])).modify 7 (put #[.iface 344 (.pointer (some ⟨low + 1, 0, none⟩))])).modify 1 (put (aI.map fun z => Value.int .u8 z).toArray)).modify 0 (put (cI.map fun z => Value.int .u8 z).toArray)) }
set_option maxRecDepth 100000 in
theorem laid_met (os : Os) : laidMet Tryz.prog Rows.knownRow.laid ((laidWorld os).forCall (fun _ _ => 0) ⟨#[], #[], []⟩).memory :=
  laidMet_of_run' 70 (by kernel_rfl) (by kernel_rfl)
set_option maxRecDepth 100000 in
theorem reads (os : Os) {H : Type} (enc : TypeId × Value → H) : ∃ places, DataW.whole enc Tryz.prog ((laidWorld os).forCall (fun _ _ => 0) ⟨#[], #[], []⟩).memory Tryz.f4.params.toList Rows.knownSpec.vars false (#[] : Array Value).toList 8 = some ([], [], places) :=
  ⟨[], by kernel_rfl⟩

set_option maxRecDepth 100000 in
theorem lifted (os : Os) (started : os.Started) (H : Type) (enc : TypeId × Value → H) (F : Stop.Interp) :
    ReturnsInHanded {} Tryz.checked os 4 .any ((OpenSpec.ofChange Rows.knownSpec).preRow enc Tryz.prog Tryz.f4 Rows.knownRow.domain false Rows.knownRow.laid) (((OpenSpec.ofChange Rows.knownSpec).at F).post enc Tryz.prog Tryz.f4 false true false false) := by
  obtain ⟨places, hx⟩ := reads os enc
  refine returnsInHanded_of_row (C := Tryz.checked) (s := OpenSpec.ofChange Rows.knownSpec) Op.own started (by kernel_rfl) Tryz.func4
    (witness_row_at (enc := enc) (C := Tryz.checked) false (laidWorld os) #[] rfl (by kernel_rfl) (by kernel_rfl) (by kernel_rfl)
      (OpenSpec.preRow_of_cond 8 hx (by kernel_rfl) (fun k hk => by cases hk) (by kernel_rfl) (laid_met os))) ?_
  intro W base args ds gs before hval hW _ _ _ hL _ _
  exact contract H enc W base args ds gs before hW hL

set_option maxRecDepth 100000 in
theorem said : Rows.KnownSaid :=
  OpenClaim.holds_of_cond 4 Tryz.f4 rfl rfl rfl rfl rfl rfl rfl ⟨rfl, rfl, rfl, rfl, rfl⟩ rfl rfl rfl rfl rfl (by kernel_rfl) Tryz.func4 (by kernel_rfl)
    (of_decide_eq_true (by kernel_rfl)) (by unfold Func.isWrapper; first | (rw [if_pos (by decide +kernel)]; kernel_rfl) | (rw [if_neg (by decide +kernel)]; exact ⟨rfl, rfl⟩))
    (fun os started H enc _ F => by rw [OpenClaim.pre_eq_preRow]; exact lifted os started H enc F)

set_option maxRecDepth 100000 in
theorem plain (f : FuncId) (fn : Func) (hf : Tryz.pinned.checked.prog.funcNamed "netboot/netbootkeep.Known" = some f) (hfn : Tryz.pinned.checked.prog.funcs[f]? = some fn) :
    true = Tryz.pinned.checked.prog.looks [] ∧ ∀ (j : Nat) t, fn.params[j]? = some t → Tryz.pinned.checked.prog.wantsStandIn t = false := by
  obtain rfl : f = 4 := Option.some.inj ((show Tryz.prog.funcNamed "netboot/netbootkeep.Known" = some 4 by kernel_rfl).symm.trans hf) |>.symm
  obtain rfl : fn = Tryz.f4 := (Option.some.inj (Tryz.func4.symm.trans hfn)).symm
  refine ⟨by kernel_rfl, fun j t ht => ?_⟩
  rw [Tryz.params4] at ht
  simp at ht

set_option maxRecDepth 100000 in
theorem card : Rows.KnownCardSaid :=
  Claim7.holds_tied_plain_at .later [] _ _ _ _ said (fun _ h => by cases h) (by kernel_rfl) (fun _ h => by cases h) known_row_tie rfl ⟨rfl, rfl⟩ (by kernel_rfl) rfl plain (by kernel_rfl)
end Go.Proofs.YtonlmklkikbeiaaGreatDoor.known
namespace Go.Proofs.YtonlmklkikbeiaaGreatDoor
theorem known_holds : Rows.KnownCardSaid := known.card
end Go.Proofs.YtonlmklkikbeiaaGreatDoor

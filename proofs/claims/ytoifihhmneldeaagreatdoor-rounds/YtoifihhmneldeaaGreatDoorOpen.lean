import Derived.Test.YtoifihhmneldeaaGreatDoorBase
import Derived.OpenShut
namespace Go.Proofs.YtoifihhmneldeaaGreatDoor.Op
open Go.ChangeShapes Go.WideShapes Go.ChangeAt Go.RowKit Bs
set_option linter.unusedVariables false

theorem laid : laidOutB Tryz.prog = true := by kernel_rfl
theorem own : ownKnob Tryz.prog.godebug = none := by kernel_rfl
theorem cellsMAC : Tryz.prog.cellsOf 23 = 6 := by kernel_rfl
theorem cells8 : Tryz.prog.cellsOf 5 = 1 := by kernel_rfl
theorem cells16 : Tryz.prog.cellsOf 24 = 1 := by kernel_rfl
theorem cellsStr : Tryz.prog.cellsOf 9 = 1 := by kernel_rfl

theorem byte_of {n : Int} (h : (Lit.int .u8 n).wf = true) : ∃ a : UInt8, n = (a.toNat : Int) := by
  have hx : 0 ≤ n ∧ n ≤ 255 := by simpa [Lit.wf, IntKind.min, IntKind.max, IntKind.signed, IntKind.bits] using h
  exact ⟨UInt8.ofNat n.toNat, by simp only [UInt8.toNat_ofNat']; omega⟩
theorem bd16 {n : Int} (h : (Lit.int .u16 n).wf = true) : 0 ≤ n ∧ n ≤ 65535 := by
  simpa [Lit.wf, IntKind.min, IntKind.max, IntKind.signed, IntKind.bits] using h
theorem bd32 {n : Int} (h : (Lit.int .u32 n).wf = true) : 0 ≤ n ∧ n ≤ 4294967295 := by
  simpa [Lit.wf, IntKind.min, IntKind.max, IntKind.signed, IntKind.bits] using h

section
variable {H : Type} {enc : TypeId × Value → H} {w : World} {base : Nat} {spare : Nat → Bool} {held : Bool} {fuel : Nat}

theorem list6 (l : List Value) (h : l.length = 6) : ∃ a b c d e f, l = [a, b, c, d, e, f] := by
  match l, h with
  | [a, b, c, d, e, f], _ => exact ⟨a, b, c, d, e, f, rfl⟩
/-- a card's address, opened -/
theorem mac_open {cs : List Value} {x : DataW H × List MemPlace} (h : DataW.trod enc Tryz.prog w base spare held fuel 23 cs = some x) :
    ∃ a b c d e f : UInt8, cs = [.int .u8 a.toNat, .int .u8 b.toNat, .int .u8 c.toNat, .int .u8 d.toNat, .int .u8 e.toNat, .int .u8 f.toNat] := by
  obtain ⟨xs, m, _, _, hl, hx, hi⟩ := DataW.trod_array Tryz.underlying23 h
  rw [cellsMAC] at hl
  have one : ∀ i (hi6 : i < 6), ∃ a : UInt8, cs[i]? = some (.int .u8 a.toNat) := by
    intro i hi6
    have h1 := hi i hi6
    rw [cells8, Nat.mul_one, List.getElem?_eq_getElem (by omega)] at h1
    obtain ⟨n, e1, _, wn⟩ := DataW.trod_int Tryz.underlying5 h1
    obtain ⟨a, rfl⟩ := byte_of wn
    refine ⟨a, ?_⟩
    have e2 := congrArg (fun l => l[0]?) e1
    simpa using e2
  obtain ⟨c0, c1, c2, c3, c4, c5, rfl⟩ := list6 cs hl
  obtain ⟨a, ha⟩ := one 0 (by omega)
  obtain ⟨b, hb⟩ := one 1 (by omega)
  obtain ⟨c, hc⟩ := one 2 (by omega)
  obtain ⟨d, hd⟩ := one 3 (by omega)
  obtain ⟨e, he⟩ := one 4 (by omega)
  obtain ⟨f, hf⟩ := one 5 (by omega)
  simp at ha hb hc hd he hf
  subst ha hb hc hd he hf
  exact ⟨a, b, c, d, e, f, rfl⟩
end

/-- a law of one argument: what its walk gives closes the row's step -/
theorem close1 {H : Type} {enc : TypeId × Value → H} {fn : Func} {s : ChangeSpec} {W W' : World} {t : TypeId} {v0 : Value} {d0 : DataW H} {p0 : List MemPlace}
    (hW : DataW.Whole enc Tryz.prog fn.params.toList s.vars false W #[v0].toList [d0] [] p0) (hp : fn.params = #[t]) (hr : fn.resultTypes = #[4]) (hv : s.vars = [])
    (hs : (s.fn H [d0]).results = [.lit (.bool true)] ∧ (s.fn H [d0]).args = [d0] ∧ (s.fn H [d0]).vars = [])
    (hread : Tryz.prog.readableRec t = true) (hrow : t < Tryz.prog.types.size)
    (h0 : DataW.Trod enc Tryz.prog W 0 (fun _ => true) true t v0 d0 p0) (hb : Below W.heap.size W W') :
    s.post enc Tryz.prog fn false true false false W #[v0] (.bool true) W' := by
  have hlt : ∀ x ∈ p0, x.block < W.heap.size := fun x hx => by simpa using hW.lt x hx
  refine ⟨[d0], [], p0, [], p0 ++ [], [], hW, ?_, ?_, ?_, hb.frame _, fun h => by cases h⟩
  · rw [List.append_nil, hs.1, hr]
    exact trodAll_cons_mk (shut_bool Tryz.underlying4 _) trodAll_mk0
  · rw [List.append_nil, hs.2.1, hp]
    exact trodAll_cons_mk (Below.trod laid hread hrow h0 hb hlt) trodAll_mk0
  · rw [List.append_nil, hs.2.2, hv]
    rfl
end Go.Proofs.YtoifihhmneldeaaGreatDoor.Op

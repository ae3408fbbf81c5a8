import Derived.Test.YtadkcdcdgphhpaaARPWriteR
import Derived.Test.YtadkcdcdgphhpaaARPOpen
import Derived.ShutString
namespace Go.Proofs.Ytadkcdcdgphhpaa.aRPWrites
open Go.ChangeShapes Go.WideShapes Go.ChangeAt Go.RowKit Bs
set_option linter.unusedVariables false

set_option maxHeartbeats 1000000 in
theorem walk (op : Int) (a b c d e f : UInt8) (fi : Int) (a' b' c' d' e' f' : UInt8) (ti : Int) (w : World) (h1 : 0 ≤ op) (h2 : op ≤ 65535) (h3 : 0 ≤ fi) (h4 : fi ≤ 4294967295) (h5 : 0 ≤ ti) (h6 : ti ≤ 4294967295) :
    Calls Try.prog 6 #[.agg #[.int .u16 op, .int .u8 a.toNat, .int .u8 b.toNat, .int .u8 c.toNat, .int .u8 d.toNat, .int .u8 e.toNat, .int .u8 f.toNat, .int .u32 fi, .int .u8 a'.toNat, .int .u8 b'.toNat, .int .u8 c'.toNat, .int .u8 d'.toNat, .int .u8 e'.toNat, .int .u8 f'.toNat, .int .u32 ti]] w fun ee w' => ee = .returned (.bool true) ∧ Below w.heap.size w w' := by
  have HO := fun w => hide (Arp.boot_any op a b c d e f fi a' b' c' d' e' f' ti w h1 h2 h3 h4 h5 h6)
  have HR := fun w => hide (Arp.ref_any op a b c d e f fi a' b' c' d' e' f' ti w h1 h2 h3 h4 h5 h6)
  go_enter Try.func6, Try.ntmps6
  go_wp2_with fail
  refine (unhide (HO _)).mono ?_
  rintro ee w1 ⟨rfl, hb⟩
  have hc := Arp.below_cells hb
  have HB := hide hb
  clear hb HO
  go_wp2_with fail
  refine (unhide (HR _)).mono ?_
  rintro ee w2 ⟨rfl, hb2⟩
  have HB2 := hide hb2
  clear hb2 HR hc
  go_wp2
  go_ret
  refine ⟨by simp, ?_⟩
  have q := (unhide HB).size
  exact (((Below.refl _ _).alloc (Nat.le_refl _) _).trans ((unhide HB).mono (by simp))).trans ((unhide HB2).mono (by simp at q; omega))

set_option maxRecDepth 100000 in
theorem lifted (os : Os) (started : os.Started) (H : Type) (enc : TypeId × Value → H) :
    ReturnsInHanded {} Try.checked os 6 .any (Rows.aRPWritesSpec.pre6 enc Try.prog Try.f6 Rows.aRPWritesRow.domain false) (Rows.aRPWritesSpec.post enc Try.prog Try.f6 false true false false) := by
  refine returnsInHanded_of_change (C := Try.checked) Op.own started (by kernel_rfl) Try.func6
    (ChangeSpec.witness6 (enc := enc) (C := Try.checked) false ⟨#[], #[.agg #[.int .u16 0, .int .u8 0, .int .u8 0, .int .u8 0, .int .u8 0, .int .u8 0, .int .u8 0, .int .u32 0, .int .u8 0, .int .u8 0, .int .u8 0, .int .u8 0, .int .u8 0, .int .u8 0, .int .u32 0]], []⟩ 8 (by kernel_rfl) (by kernel_rfl) (by kernel_rfl) (by kernel_rfl)) ?_
  intro W base args ds gs before hval0 hW hcnd _
  have hval : ∀ (j : Nat) t v, Try.f6.params[j]? = some t → args[j]? = some v → Value.okWide Try.prog W .any base t v := hval0
  have hW' := hW
  obtain ⟨p, q, hA0, hV, rfl, hfz, hnd⟩ := hW
  have hA : DataW.TrodAll enc Try.prog W 0 (fun _ => true) true Try.f6.params.toList args.toList ds p := hA0
  rw [Try.params6] at hA hval
  obtain ⟨v0, vs0, d0, ds0, p0, q0, hargs, rfl, rfl, h0, r0⟩ := trodAll_cons hA
  obtain ⟨rfl, rfl, rfl⟩ := trodAll_nil r0
  obtain rfl : args = #[v0] := by cases args; simp_all
  obtain ⟨rfl, rfl⟩ := trodVars_none hV
  clear hA0 hval0
  simp only [List.append_nil] at hW'
  obtain ⟨cs, rfl, hsz⟩ := okWide_struct Try.underlying37 (hval 0 37 v0 rfl rfl)
  have h0k := h0
  obtain ⟨fuel, hf⟩ := h0
  obtain ⟨op, a, b, c, d, e, f, fi, a', b', c', d', e', f', ti, b1, b2, b3, ecs⟩ := Op.arp_open hf
  have ecs' : cs = #[.int .u16 op, .int .u8 a.toNat, .int .u8 b.toNat, .int .u8 c.toNat, .int .u8 d.toNat, .int .u8 e.toNat, .int .u8 f.toNat, .int .u32 fi, .int .u8 a'.toNat, .int .u8 b'.toNat, .int .u8 c'.toNat, .int .u8 d'.toNat, .int .u8 e'.toNat, .int .u8 f'.toNat, .int .u32 ti] := by
    apply Array.ext'
    simpa [Value.cells] using ecs
  subst ecs'
  refine (walk op a b c d e f fi a' b' c' d' e' f' ti W b1.1 b1.2 b2.1 b2.2 b3.1 b3.2).mono fun ee W' ⟨he, hg⟩ => ?_
  subst he
  exact ⟨_, rfl, Op.close1 hW' rfl rfl rfl ⟨rfl, rfl, rfl⟩ (by kernel_rfl) (of_decide_eq_true (by kernel_rfl)) h0k hg⟩

theorem over : Rows.aRPWritesRow.holds Try.pinned (OpenSpec.ofChange Rows.aRPWritesSpec) :=
  OpenClaim.holds_of_wide 6 Try.f6 rfl rfl rfl rfl rfl rfl rfl ⟨rfl, rfl, rfl, rfl, rfl⟩ rfl rfl rfl rfl rfl (by kernel_rfl) Try.func6 (by kernel_rfl)
    (of_decide_eq_true (by kernel_rfl)) (by unfold Func.isWrapper; first | (rw [if_pos (by decide +kernel)]; kernel_rfl) | (rw [if_neg (by decide +kernel)]; exact ⟨rfl, rfl⟩))
    (fun os started H enc _ => lifted os started H enc)
end Go.Proofs.Ytadkcdcdgphhpaa.aRPWrites
namespace Go.Proofs.Ytadkcdcdgphhpaa
theorem aRPWrites_holds : Rows.ARPWritesSaid := aRPWrites.over
end Go.Proofs.Ytadkcdcdgphhpaa

import Derived.Test.YtadkcdcdgphhpaaEtherR
import Derived.Test.YtadkcdcdgphhpaaEtherOpen
import Derived.ShutString
namespace Go.Proofs.Ytadkcdcdgphhpaa.etherWrites
open Go.ChangeShapes Go.WideShapes Go.ChangeAt Go.RowKit Bs
set_option linter.unusedVariables false

set_option maxHeartbeats 1000000 in
theorem walk (a b c d e f a' b' c' d' e' f' : UInt8) (ty : Int) (load : ByteArray) (w : World) (h1 : 0 ≤ ty) (h2 : ty ≤ 65535) (hm : load.size ≤ maxLen) :
    Calls Try.prog 4 #[.agg #[.int .u8 a.toNat, .int .u8 b.toNat, .int .u8 c.toNat, .int .u8 d.toNat, .int .u8 e.toNat, .int .u8 f.toNat, .int .u8 a'.toNat, .int .u8 b'.toNat, .int .u8 c'.toNat, .int .u8 d'.toNat, .int .u8 e'.toNat, .int .u8 f'.toNat, .int .u16 ty, .string load]] w fun ee w' => ee = .returned (.bool true) ∧ Below w.heap.size w w' := by
  unfold maxLen at hm
  by_cases h3 : load.size ≤ 262144
  · have HO := fun w => hide (Eth.boot_any a b c d e f a' b' c' d' e' f' ty load w h1 h2 h3)
    have HR := fun w => hide (Eth.ref_any a b c d e f a' b' c' d' e' f' ty load w h1 h2 h3)
    go_enter Try.func4, Try.ntmps4
    go_wp2_with fail
    refine (unhide (HO _)).mono ?_
    rintro ee w1 ⟨rfl, hb⟩
    have hc := Arp.below_cells hb
    have HB := hide hb
    clear hb HO
    go_wp2_with fail
    refine (unhide (HR _)).mono ?_
    rintro ee w2 ⟨rfl, hb2⟩
    have HB2 := hide hb2
    clear hb2 HR hc
    go_wp2
    go_ret
    refine ⟨by simp, ?_⟩
    have q := (unhide HB).size
    exact (((Below.refl _ _).alloc (Nat.le_refl _) _).trans ((unhide HB).mono (by simp))).trans ((unhide HB2).mono (by simp at q; omega))
  · go_enter Try.func4, Try.ntmps4
    go_wp2
    go_ret
    exact ⟨rfl, (Below.refl _ _).alloc (Nat.le_refl _) _⟩

set_option maxRecDepth 100000 in
theorem lifted (os : Os) (started : os.Started) (H : Type) (enc : TypeId × Value → H) :
    ReturnsInHanded {} Try.checked os 4 .any (Rows.etherWritesSpec.pre6 enc Try.prog Try.f4 Rows.etherWritesRow.domain false) (Rows.etherWritesSpec.post enc Try.prog Try.f4 false true false false) := by
  refine returnsInHanded_of_change (C := Try.checked) Op.own started (by kernel_rfl) Try.func4
    (ChangeSpec.witness6 (enc := enc) (C := Try.checked) false ⟨#[], #[.agg #[.int .u8 0, .int .u8 0, .int .u8 0, .int .u8 0, .int .u8 0, .int .u8 0, .int .u8 0, .int .u8 0, .int .u8 0, .int .u8 0, .int .u8 0, .int .u8 0, .int .u16 0, .string ByteArray.empty]], []⟩ 8 (by kernel_rfl) (by kernel_rfl) (by kernel_rfl) (by kernel_rfl)) ?_
  intro W base args ds gs before hval0 hW hcnd _
  have hval : ∀ (j : Nat) t v, Try.f4.params[j]? = some t → args[j]? = some v → Value.okWide Try.prog W .any base t v := hval0
  have hW' := hW
  obtain ⟨p, q, hA0, hV, rfl, hfz, hnd⟩ := hW
  have hA : DataW.TrodAll enc Try.prog W 0 (fun _ => true) true Try.f4.params.toList args.toList ds p := hA0
  rw [Try.params4] at hA hval
  obtain ⟨v0, vs0, d0, ds0, p0, q0, hargs, rfl, rfl, h0, r0⟩ := trodAll_cons hA
  obtain ⟨rfl, rfl, rfl⟩ := trodAll_nil r0
  obtain rfl : args = #[v0] := by cases args; simp_all
  obtain ⟨rfl, rfl⟩ := trodVars_none hV
  clear hA0 hval0
  simp only [List.append_nil] at hW'
  obtain ⟨cs, rfl, hsz⟩ := okWide_struct Try.underlying26 (hval 0 26 v0 rfl rfl)
  have h0k := h0
  obtain ⟨fuel, hf⟩ := h0
  obtain ⟨a, b, c, d, e, f, a', b', c', d', e', f', ty, load, b1, b2, ecs⟩ := Op.ether_open hf
  have ecs' : cs = #[.int .u8 a.toNat, .int .u8 b.toNat, .int .u8 c.toNat, .int .u8 d.toNat, .int .u8 e.toNat, .int .u8 f.toNat, .int .u8 a'.toNat, .int .u8 b'.toNat, .int .u8 c'.toNat, .int .u8 d'.toNat, .int .u8 e'.toNat, .int .u8 f'.toNat, .int .u16 ty, .string load] := by
    apply Array.ext'
    simpa [Value.cells] using ecs
  subst ecs'
  refine (walk a b c d e f a' b' c' d' e' f' ty load W b1.1 b1.2 b2).mono fun ee W' ⟨he, hg⟩ => ?_
  subst he
  exact ⟨_, rfl, Op.close1 hW' rfl rfl rfl ⟨rfl, rfl, rfl⟩ (by kernel_rfl) (of_decide_eq_true (by kernel_rfl)) h0k hg⟩

theorem over : Rows.etherWritesRow.holds Try.pinned (OpenSpec.ofChange Rows.etherWritesSpec) :=
  OpenClaim.holds_of_wide 4 Try.f4 rfl rfl rfl rfl rfl rfl rfl ⟨rfl, rfl, rfl, rfl, rfl⟩ rfl rfl rfl rfl rfl (by kernel_rfl) Try.func4 (by kernel_rfl)
    (of_decide_eq_true (by kernel_rfl)) (by unfold Func.isWrapper; first | (rw [if_pos (by decide +kernel)]; kernel_rfl) | (rw [if_neg (by decide +kernel)]; exact ⟨rfl, rfl⟩))
    (fun os started H enc _ => lifted os started H enc)
end Go.Proofs.Ytadkcdcdgphhpaa.etherWrites
namespace Go.Proofs.Ytadkcdcdgphhpaa
theorem etherWrites_holds : Rows.EtherWritesSaid := etherWrites.over
end Go.Proofs.Ytadkcdcdgphhpaa

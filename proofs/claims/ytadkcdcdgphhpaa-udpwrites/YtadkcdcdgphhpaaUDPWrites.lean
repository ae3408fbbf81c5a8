import Derived.Test.YtadkcdcdgphhpaaUDPWriteR
import Derived.Test.YtadkcdcdgphhpaaUDPOpen
import Derived.ShutString
namespace Go.Proofs.Ytadkcdcdgphhpaa.uDPWrites
open Go.ChangeShapes Go.WideShapes Go.ChangeAt Go.RowKit Bs
set_option linter.unusedVariables false

set_option maxHeartbeats 1000000 in
theorem walk (f t fr ta : Int) (load : ByteArray) (w : World) (hF : 0 ≤ f ∧ f ≤ 65535) (hT : 0 ≤ t ∧ t ≤ 65535) (hf : 0 ≤ fr ∧ fr ≤ 4294967295) (ho : 0 ≤ ta ∧ ta ≤ 4294967295) (hm : load.size ≤ maxLen) :
    Calls Try.prog 10 #[.agg #[.int .u16 f, .int .u16 t, .string load], .int .u32 fr, .int .u32 ta] w fun ee w' => ee = .returned (.bool true) ∧ Below w.heap.size w w' := by
  unfold maxLen at hm
  by_cases h3 : load.size ≤ 262144
  · have HO := fun w => hide (Ud.boot_any f t fr ta load w hF hT hf ho h3)
    have HR := fun w => hide (Ud.ref_any f t fr ta load w hF hT hf ho h3)
    go_enter Try.func10, Try.ntmps10
    go_wp2_with fail
    refine (unhide (HO _)).mono ?_
    rintro ee w1 ⟨rfl, hb⟩
    have hc := Arp.below_cells hb
    have HB := hide hb
    clear hb HO
    go_wp2_with fail
    refine (unhide (HR _)).mono ?_
    rintro ee w2 ⟨rfl, hb2⟩
    have HB2 := hide hb2
    clear hb2 HR hc
    go_wp2
    go_ret
    refine ⟨by simp, ?_⟩
    have q := (unhide HB).size
    exact (((Below.refl _ _).alloc (Nat.le_refl _) _).trans ((unhide HB).mono (by simp))).trans ((unhide HB2).mono (by simp at q; omega))
  · go_enter Try.func10, Try.ntmps10
    go_wp2
    go_ret
    exact ⟨rfl, (Below.refl _ _).alloc (Nat.le_refl _) _⟩

set_option maxRecDepth 100000 in
theorem lifted (os : Os) (started : os.Started) (H : Type) (enc : TypeId × Value → H) :
    ReturnsInHanded {} Try.checked os 10 .any (Rows.uDPWritesSpec.pre6 enc Try.prog Try.f10 Rows.uDPWritesRow.domain false) (Rows.uDPWritesSpec.post enc Try.prog Try.f10 false true false false) := by
  refine returnsInHanded_of_change (C := Try.checked) Op.own started (by kernel_rfl) Try.func10
    (ChangeSpec.witness6 (enc := enc) (C := Try.checked) false ⟨#[], #[.agg #[.int .u16 0, .int .u16 0, .string ByteArray.empty], .int .u32 0, .int .u32 0], []⟩ 8 (by kernel_rfl) (by kernel_rfl) (by kernel_rfl) (by kernel_rfl)) ?_
  intro W base args ds gs before hval0 hW hcnd _
  have hval : ∀ (j : Nat) t v, Try.f10.params[j]? = some t → args[j]? = some v → Value.okWide Try.prog W .any base t v := hval0
  have hW' := hW
  obtain ⟨p, q, hA0, hV, rfl, hfz, hnd⟩ := hW
  have hA : DataW.TrodAll enc Try.prog W 0 (fun _ => true) true Try.f10.params.toList args.toList ds p := hA0
  rw [Try.params10] at hA hval
  obtain ⟨v0, vs0, d0, ds0, p0, q0, hargs, rfl, rfl, h0, r0⟩ := trodAll_cons hA
  obtain ⟨v1, vs1, d1, ds1, p1, q1, rfl, rfl, rfl, h1, r1⟩ := trodAll_cons r0
  obtain ⟨v2, vs2, d2, ds2, p2, q2, rfl, rfl, rfl, h2, r2⟩ := trodAll_cons r1
  obtain ⟨rfl, rfl, rfl⟩ := trodAll_nil r2
  obtain rfl : args = #[v0, v1, v2] := by cases args; simp_all
  obtain ⟨rfl, rfl⟩ := trodVars_none hV
  clear hA0 hval0
  simp only [List.append_nil] at hW'
  have h0k := h0
  have h1k := h1
  have h2k := h2
  obtain ⟨cs, rfl, hsz⟩ := okWide_struct Try.underlying49 (hval 0 49 v0 rfl rfl)
  obtain ⟨fr, rfl, rfl, rfl, w1⟩ := open_int Try.underlying35 (hval 1 35 v1 rfl rfl) h1
  obtain ⟨ta, rfl, rfl, rfl, w2⟩ := open_int Try.underlying35 (hval 2 35 v2 rfl rfl) h2
  obtain ⟨fuel, hf⟩ := h0
  obtain ⟨f, t, load, b1, b2, b3, ecs⟩ := Op.udp_open hf
  have ecs' : cs = #[.int .u16 f, .int .u16 t, .string load] := by
    apply Array.ext'
    simpa [Value.cells] using ecs
  subst ecs'
  refine (walk f t fr ta load W b1 b2 (Op.bd32 w1) (Op.bd32 w2) b3).mono fun ee W' ⟨he, hg⟩ => ?_
  subst he
  exact ⟨_, rfl, Op.close3 hW' rfl rfl rfl ⟨rfl, rfl, rfl⟩ (by kernel_rfl) (of_decide_eq_true (by kernel_rfl)) (by kernel_rfl) (of_decide_eq_true (by kernel_rfl)) (by kernel_rfl) (of_decide_eq_true (by kernel_rfl)) h0k h1k h2k hg⟩

theorem over : Rows.uDPWritesRow.holds Try.pinned (OpenSpec.ofChange Rows.uDPWritesSpec) :=
  OpenClaim.holds_of_wide 10 Try.f10 rfl rfl rfl rfl rfl rfl rfl ⟨rfl, rfl, rfl, rfl, rfl⟩ rfl rfl rfl rfl rfl (by kernel_rfl) Try.func10 (by kernel_rfl)
    (of_decide_eq_true (by kernel_rfl)) (by unfold Func.isWrapper; first | (rw [if_pos (by decide +kernel)]; kernel_rfl) | (rw [if_neg (by decide +kernel)]; exact ⟨rfl, rfl⟩))
    (fun os started H enc _ => lifted os started H enc)
end Go.Proofs.Ytadkcdcdgphhpaa.uDPWrites
namespace Go.Proofs.Ytadkcdcdgphhpaa
theorem uDPWrites_holds : Rows.UDPWritesSaid := uDPWrites.over
end Go.Proofs.Ytadkcdcdgphhpaa

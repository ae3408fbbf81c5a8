import Derived.Test.YtadkcdcdgphhpaaIPWriteA
import Derived.Test.YtadkcdcdgphhpaaUDPOpen
import Derived.ShutString
namespace Go.Proofs.Ytadkcdcdgphhpaa.iPWrites
open Go.ChangeShapes Go.WideShapes Go.ChangeAt Go.RowKit Bs
set_option linter.unusedVariables false

set_option maxHeartbeats 1000000 in
theorem walk (id ttl pr fr ta : Int) (load : ByteArray) (w : World) (hi : 0 ≤ id ∧ id ≤ 65535) (ht : 0 ≤ ttl ∧ ttl ≤ 255) (hp : 0 ≤ pr ∧ pr ≤ 255) (hf : 0 ≤ fr ∧ fr ≤ 4294967295) (ho : 0 ≤ ta ∧ ta ≤ 4294967295) (hm : load.size ≤ maxLen) :
    Calls Try.prog 8 #[.agg #[.int .u16 id, .int .u8 ttl, .int .u8 pr, .int .u32 fr, .int .u32 ta, .string load]] w fun ee w' => ee = .returned (.bool true) ∧ Below w.heap.size w w' := by
  unfold maxLen at hm
  by_cases h3 : load.size ≤ 262144
  · have HO := fun w => hide (Ip.boot_any id ttl pr fr ta load w hi ht hp hf ho h3)
    have HR := fun w => hide (Ip.ref_any id ttl pr fr ta load w hi ht hp hf ho h3)
    go_enter Try.func8, Try.ntmps8
    go_wp2_with fail
    refine (unhide (HO _)).mono ?_
    rintro ee w1 ⟨rfl, hb⟩
    have hc := Arp.below_cells hb
    have HB := hide hb
    clear hb HO
    go_wp2_with fail
    refine (unhide (HR _)).mono ?_
    rintro ee w2 ⟨rfl, hb2⟩
    have HB2 := hide hb2
    clear hb2 HR hc
    go_wp2
    go_ret
    refine ⟨by simp, ?_⟩
    have q := (unhide HB).size
    exact (((Below.refl _ _).alloc (Nat.le_refl _) _).trans ((unhide HB).mono (by simp))).trans ((unhide HB2).mono (by simp at q; omega))
  · go_enter Try.func8, Try.ntmps8
    go_wp2
    go_ret
    exact ⟨rfl, (Below.refl _ _).alloc (Nat.le_refl _) _⟩

set_option maxRecDepth 100000 in
theorem lifted (os : Os) (started : os.Started) (H : Type) (enc : TypeId × Value → H) :
    ReturnsInHanded {} Try.checked os 8 .any (Rows.iPWritesSpec.pre6 enc Try.prog Try.f8 Rows.iPWritesRow.domain false) (Rows.iPWritesSpec.post enc Try.prog Try.f8 false true false false) := by
  refine returnsInHanded_of_change (C := Try.checked) Op.own started (by kernel_rfl) Try.func8
    (ChangeSpec.witness6 (enc := enc) (C := Try.checked) false ⟨#[], #[.agg #[.int .u16 0, .int .u8 0, .int .u8 0, .int .u32 0, .int .u32 0, .string ByteArray.empty]], []⟩ 8 (by kernel_rfl) (by kernel_rfl) (by kernel_rfl) (by kernel_rfl)) ?_
  intro W base args ds gs before hval0 hW hcnd _
  have hval : ∀ (j : Nat) t v, Try.f8.params[j]? = some t → args[j]? = some v → Value.okWide Try.prog W .any base t v := hval0
  have hW' := hW
  obtain ⟨p, q, hA0, hV, rfl, hfz, hnd⟩ := hW
  have hA : DataW.TrodAll enc Try.prog W 0 (fun _ => true) true Try.f8.params.toList args.toList ds p := hA0
  rw [Try.params8] at hA hval
  obtain ⟨v0, vs0, d0, ds0, p0, q0, hargs, rfl, rfl, h0, r0⟩ := trodAll_cons hA
  obtain ⟨rfl, rfl, rfl⟩ := trodAll_nil r0
  obtain rfl : args = #[v0] := by cases args; simp_all
  obtain ⟨rfl, rfl⟩ := trodVars_none hV
  clear hA0 hval0
  simp only [List.append_nil] at hW'
  obtain ⟨cs, rfl, hsz⟩ := okWide_struct Try.underlying43 (hval 0 43 v0 rfl rfl)
  have h0k := h0
  obtain ⟨fuel, hf⟩ := h0
  obtain ⟨id, ttl, pr, fr, ta, load, b1, b2, b3, b4, b5, b6, ecs⟩ := Op.ip_open hf
  have ecs' : cs = #[.int .u16 id, .int .u8 ttl, .int .u8 pr, .int .u32 fr, .int .u32 ta, .string load] := by
    apply Array.ext'
    simpa [Value.cells] using ecs
  subst ecs'
  refine (walk id ttl pr fr ta load W b1 b2 b3 b4 b5 b6).mono fun ee W' ⟨he, hg⟩ => ?_
  subst he
  exact ⟨_, rfl, Op.close1 hW' rfl rfl rfl ⟨rfl, rfl, rfl⟩ (by kernel_rfl) (of_decide_eq_true (by kernel_rfl)) h0k hg⟩

theorem over : Rows.iPWritesRow.holds Try.pinned (OpenSpec.ofChange Rows.iPWritesSpec) :=
  OpenClaim.holds_of_wide 8 Try.f8 rfl rfl rfl rfl rfl rfl rfl ⟨rfl, rfl, rfl, rfl, rfl⟩ rfl rfl rfl rfl rfl (by kernel_rfl) Try.func8 (by kernel_rfl)
    (of_decide_eq_true (by kernel_rfl)) (by unfold Func.isWrapper; first | (rw [if_pos (by decide +kernel)]; kernel_rfl) | (rw [if_neg (by decide +kernel)]; exact ⟨rfl, rfl⟩))
    (fun os started H enc _ => lifted os started H enc)
end Go.Proofs.Ytadkcdcdgphhpaa.iPWrites
namespace Go.Proofs.Ytadkcdcdgphhpaa
theorem iPWrites_holds : Rows.IPWritesSaid := iPWrites.over
end Go.Proofs.Ytadkcdcdgphhpaa

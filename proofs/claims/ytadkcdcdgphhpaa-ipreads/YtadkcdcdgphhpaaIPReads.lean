import Derived.Test.YtadkcdcdgphhpaaIPRi
import Derived.Test.YtadkcdcdgphhpaaRefReadN
import Derived.Test.YtadkcdcdgphhpaaStructSameI
import Derived.Test.YtadkcdcdgphhpaaOpen
import Derived.ShutString
namespace Go.Proofs.Ytadkcdcdgphhpaa.iPReads
open Go.ChangeShapes Go.WideShapes Go.ChangeAt Go.RowKit Bs Rd
open Go.ChangeMaps (open_string shut_string)
set_option linter.unusedVariables false

set_option maxHeartbeats 1000000 in
theorem law_of (s : ByteArray) (a0 a1 a2 a3 a4 : Int) (a5 : ByteArray) (k : Int) (w : World) (hm : s.size ≤ 262144)
    (hO : ∀ u : World, Calls Try.prog 23 #[.string s] u fun ee w' => ee = .returned (.tuple #[.agg #[.int .u16 a0, .int .u8 a1, .int .u8 a2, .int .u32 a3, .int .u32 a4, .string a5], .int .i64 k]) ∧ Below u.heap.size u w')
    (hR : ∀ u : World, Calls Try.prog 24 #[.string s] u fun ee w' => ee = .returned (.tuple #[.agg #[.int .u16 a0, .int .u8 a1, .int .u8 a2, .int .u32 a3, .int .u32 a4, .string a5], .int .i64 k]) ∧ Below u.heap.size u w') :
    Calls Try.prog 7 #[.string s] w fun ee w' => ee = .returned (.bool true) ∧ Below w.heap.size w w' := by
  have HO := hide hO
  have HR := hide hR
  clear hO hR
  have hgt : ¬ (262144 : Int) < (s.size : Int) := by omega
  have heq := fun u => Sqi.eql_ip a0 a1 a2 a3 a4 a5 u
  go_enter Try.func7, Try.ntmps7
  go_wp2_with fail
  refine (unhide HO _).mono ?_
  rintro ee w1 ⟨rfl, hb1⟩
  have HB1 := hide hb1
  clear hb1 HO
  go_wp2_with fail
  refine (unhide HR _).mono ?_
  rintro ee w2 ⟨rfl, hb2⟩
  have hc := Arp.below_cells hb2
  have HB2 := hide hb2
  have hz : w1.heap.size < w2.heap.size := by have := hb2.size; simp at this; omega
  clear hb2 HR
  go_wp2
  go_ret
  refine ⟨by simp, ?_⟩
  have q := (unhide HB1).size
  exact (((unhide HB1).alloc q _).trans ((unhide HB2).mono (by simp; omega))).alloc (by omega) _

set_option maxHeartbeats 1000000 in
theorem walk (s : ByteArray) (hm : s.size ≤ maxLen) (w : World) :
    Calls Try.prog 7 #[.string s] w fun ee w' => ee = .returned (.bool true) ∧ Below w.heap.size w w' := by
  unfold maxLen at hm
  by_cases h3 : s.size ≤ 262144
  · exact law_of s _ _ _ _ _ _ _ w h3 (fun u => IpR.code_any s _ rfl u h3) (fun u => IpQ.ref_any s _ rfl u h3)
  · have hgt : (262144 : Int) < (s.size : Int) := by omega
    go_enter Try.func7, Try.ntmps7
    go_wp2
    go_ret
    exact ⟨rfl, Below.refl _ _⟩

set_option maxRecDepth 100000 in
theorem lifted (os : Os) (started : os.Started) (H : Type) (enc : TypeId × Value → H) :
    ReturnsInHanded {} Try.checked os 7 .any (Rows.iPReadsSpec.pre6 enc Try.prog Try.f7 Rows.iPReadsRow.domain false) (Rows.iPReadsSpec.post enc Try.prog Try.f7 false true false false) := by
  refine returnsInHanded_of_change (C := Try.checked) Op.own started (by kernel_rfl) Try.func7
    (ChangeSpec.witness6 (enc := enc) (C := Try.checked) false ⟨#[], #[.string ByteArray.empty], []⟩ 8 (by kernel_rfl) (by kernel_rfl) (by kernel_rfl) (by kernel_rfl)) ?_
  intro W base args ds gs before hval0 hW hcnd _
  have hval : ∀ (j : Nat) t v, Try.f7.params[j]? = some t → args[j]? = some v → Value.okWide Try.prog W .any base t v := hval0
  have hW' := hW
  obtain ⟨p, q, hA0, hV, rfl, hfz, hnd⟩ := hW
  have hA : DataW.TrodAll enc Try.prog W 0 (fun _ => true) true Try.f7.params.toList args.toList ds p := hA0
  rw [Try.params7] at hA hval
  obtain ⟨v0, vs0, d0, ds0, p0, q0, hargs, rfl, rfl, h0, r0⟩ := trodAll_cons hA
  obtain ⟨rfl, rfl, rfl⟩ := trodAll_nil r0
  obtain rfl : args = #[v0] := by cases args; simp_all
  obtain ⟨rfl, rfl⟩ := trodVars_none hV
  clear hA0 hval0
  simp only [List.append_nil] at hW'
  have h0k := h0
  obtain ⟨a0, rfl, rfl, rfl, w0⟩ := open_string Try.underlying9 (hval 0 9 v0 rfl rfl) h0
  refine (walk a0 w0 W).mono fun ee W' ⟨he, hg⟩ => ?_
  subst he
  exact ⟨_, rfl, Op.close1 hW' rfl rfl rfl ⟨rfl, rfl, rfl⟩ (by kernel_rfl) (of_decide_eq_true (by kernel_rfl)) h0k hg⟩

theorem over : Rows.iPReadsRow.holds Try.pinned (OpenSpec.ofChange Rows.iPReadsSpec) :=
  OpenClaim.holds_of_wide 7 Try.f7 rfl rfl rfl rfl rfl rfl rfl ⟨rfl, rfl, rfl, rfl, rfl⟩ rfl rfl rfl rfl rfl (by kernel_rfl) Try.func7 (by kernel_rfl)
    (of_decide_eq_true (by kernel_rfl)) (by unfold Func.isWrapper; first | (rw [if_pos (by decide +kernel)]; kernel_rfl) | (rw [if_neg (by decide +kernel)]; exact ⟨rfl, rfl⟩))
    (fun os started H enc _ => lifted os started H enc)
end Go.Proofs.Ytadkcdcdgphhpaa.iPReads
namespace Go.Proofs.Ytadkcdcdgphhpaa
theorem iPReads_holds : Rows.IPReadsSaid := iPReads.over
end Go.Proofs.Ytadkcdcdgphhpaa

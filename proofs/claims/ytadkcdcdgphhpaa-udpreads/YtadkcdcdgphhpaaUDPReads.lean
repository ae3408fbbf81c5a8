import Derived.Test.YtadkcdcdgphhpaaUDPRi
import Derived.Test.YtadkcdcdgphhpaaRefReadQ
import Derived.Test.YtadkcdcdgphhpaaStructSameI
import Derived.Test.YtadkcdcdgphhpaaUDPOpen
import Derived.ShutString
namespace Go.Proofs.Ytadkcdcdgphhpaa.uDPReads
open Go.ChangeShapes Go.WideShapes Go.ChangeAt Go.RowKit Bs Rd
open Go.ChangeMaps (open_string shut_string)
set_option linter.unusedVariables false

set_option maxHeartbeats 1000000 in
theorem law_of (s : ByteArray) (a0 a1 : Int) (a2 : ByteArray) (k : Int) (fr ta : Int) (w : World) (hm : s.size ≤ 262144)
    (hO : ∀ u : World, Calls Try.prog 27 #[.string s, .int .u32 fr, .int .u32 ta] u fun ee w' => ee = .returned (.tuple #[.agg #[.int .u16 a0, .int .u16 a1, .string a2], .int .i64 k]) ∧ Below u.heap.size u w')
    (hR : ∀ u : World, Calls Try.prog 28 #[.string s, .int .u32 fr, .int .u32 ta] u fun ee w' => ee = .returned (.tuple #[.agg #[.int .u16 a0, .int .u16 a1, .string a2], .int .i64 k]) ∧ Below u.heap.size u w') :
    Calls Try.prog 9 #[.string s, .int .u32 fr, .int .u32 ta] w fun ee w' => ee = .returned (.bool true) ∧ Below w.heap.size w w' := by
  have HO := hide hO
  have HR := hide hR
  clear hO hR
  have hgt : ¬ (262144 : Int) < (s.size : Int) := by omega
  have heq := fun u => Sqi.eql_udp a0 a1 a2 u
  go_enter Try.func9, Try.ntmps9
  go_wp2_with fail
  refine (unhide HO _).mono ?_
  rintro ee w1 ⟨rfl, hb1⟩
  have HB1 := hide hb1
  clear hb1 HO
  go_wp2_with fail
  refine (unhide HR _).mono ?_
  rintro ee w2 ⟨rfl, hb2⟩
  have hc := Arp.below_cells hb2
  have HB2 := hide hb2
  have hz : w1.heap.size < w2.heap.size := by have := hb2.size; simp at this; omega
  clear hb2 HR
  go_wp2
  go_ret
  refine ⟨by simp, ?_⟩
  have q := (unhide HB1).size
  exact (((unhide HB1).alloc q _).trans ((unhide HB2).mono (by simp; omega))).alloc (by omega) _

set_option maxHeartbeats 1000000 in
theorem walk (s : ByteArray) (fr ta : Int) (hm : s.size ≤ maxLen) (hf : 0 ≤ fr ∧ fr ≤ 4294967295) (ho : 0 ≤ ta ∧ ta ≤ 4294967295) (w : World) :
    Calls Try.prog 9 #[.string s, .int .u32 fr, .int .u32 ta] w fun ee w' => ee = .returned (.bool true) ∧ Below w.heap.size w w' := by
  unfold maxLen at hm
  by_cases h3 : s.size ≤ 262144
  · exact law_of s _ _ _ _ fr ta w h3 (fun u => UdR.code_any s _ rfl fr ta u h3 hf ho) (fun u => UdQ.ref_any s _ rfl fr ta u h3 hf ho)
  · have hgt : (262144 : Int) < (s.size : Int) := by omega
    go_enter Try.func9, Try.ntmps9
    go_wp2
    go_ret
    exact ⟨rfl, Below.refl _ _⟩

set_option maxRecDepth 100000 in
theorem lifted (os : Os) (started : os.Started) (H : Type) (enc : TypeId × Value → H) :
    ReturnsInHanded {} Try.checked os 9 .any (Rows.uDPReadsSpec.pre6 enc Try.prog Try.f9 Rows.uDPReadsRow.domain false) (Rows.uDPReadsSpec.post enc Try.prog Try.f9 false true false false) := by
  refine returnsInHanded_of_change (C := Try.checked) Op.own started (by kernel_rfl) Try.func9
    (ChangeSpec.witness6 (enc := enc) (C := Try.checked) false ⟨#[], #[.string ByteArray.empty, .int .u32 0, .int .u32 0], []⟩ 8 (by kernel_rfl) (by kernel_rfl) (by kernel_rfl) (by kernel_rfl)) ?_
  intro W base args ds gs before hval0 hW hcnd _
  have hval : ∀ (j : Nat) t v, Try.f9.params[j]? = some t → args[j]? = some v → Value.okWide Try.prog W .any base t v := hval0
  have hW' := hW
  obtain ⟨p, q, hA0, hV, rfl, hfz, hnd⟩ := hW
  have hA : DataW.TrodAll enc Try.prog W 0 (fun _ => true) true Try.f9.params.toList args.toList ds p := hA0
  rw [Try.params9] at hA hval
  obtain ⟨v0, vs0, d0, ds0, p0, q0, hargs, rfl, rfl, h0, r0⟩ := trodAll_cons hA
  obtain ⟨v1, vs1, d1, ds1, p1, q1, rfl, rfl, rfl, h1, r1⟩ := trodAll_cons r0
  obtain ⟨v2, vs2, d2, ds2, p2, q2, rfl, rfl, rfl, h2, r2⟩ := trodAll_cons r1
  obtain ⟨rfl, rfl, rfl⟩ := trodAll_nil r2
  obtain rfl : args = #[v0, v1, v2] := by cases args; simp_all
  obtain ⟨rfl, rfl⟩ := trodVars_none hV
  clear hA0 hval0
  simp only [List.append_nil] at hW'
  have h0k := h0
  have h1k := h1
  have h2k := h2
  obtain ⟨a0, rfl, rfl, rfl, w0⟩ := open_string Try.underlying9 (hval 0 9 v0 rfl rfl) h0
  obtain ⟨fr, rfl, rfl, rfl, w1⟩ := open_int Try.underlying35 (hval 1 35 v1 rfl rfl) h1
  obtain ⟨ta, rfl, rfl, rfl, w2⟩ := open_int Try.underlying35 (hval 2 35 v2 rfl rfl) h2
  refine (walk a0 fr ta w0 (Op.bd32 w1) (Op.bd32 w2) W).mono fun ee W' ⟨he, hg⟩ => ?_
  subst he
  exact ⟨_, rfl, Op.close3 hW' rfl rfl rfl ⟨rfl, rfl, rfl⟩ (by kernel_rfl) (of_decide_eq_true (by kernel_rfl)) (by kernel_rfl) (of_decide_eq_true (by kernel_rfl)) (by kernel_rfl) (of_decide_eq_true (by kernel_rfl)) h0k h1k h2k hg⟩

theorem over : Rows.uDPReadsRow.holds Try.pinned (OpenSpec.ofChange Rows.uDPReadsSpec) :=
  OpenClaim.holds_of_wide 9 Try.f9 rfl rfl rfl rfl rfl rfl rfl ⟨rfl, rfl, rfl, rfl, rfl⟩ rfl rfl rfl rfl rfl (by kernel_rfl) Try.func9 (by kernel_rfl)
    (of_decide_eq_true (by kernel_rfl)) (by unfold Func.isWrapper; first | (rw [if_pos (by decide +kernel)]; kernel_rfl) | (rw [if_neg (by decide +kernel)]; exact ⟨rfl, rfl⟩))
    (fun os started H enc _ => lifted os started H enc)
end Go.Proofs.Ytadkcdcdgphhpaa.uDPReads
namespace Go.Proofs.Ytadkcdcdgphhpaa
theorem uDPReads_holds : Rows.UDPReadsSaid := uDPReads.over
end Go.Proofs.Ytadkcdcdgphhpaa

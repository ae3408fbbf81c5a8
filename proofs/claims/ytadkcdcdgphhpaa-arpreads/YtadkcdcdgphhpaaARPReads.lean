import Derived.Test.YtadkcdcdgphhpaaARPRi
import Derived.Test.YtadkcdcdgphhpaaRefReadB
import Derived.Test.YtadkcdcdgphhpaaOpen
import Derived.ShutString
namespace Go.Proofs.Ytadkcdcdgphhpaa.aRPReads
open Go.ChangeShapes Go.WideShapes Go.ChangeAt Go.RowKit Bs Rd ArR
open Go.ChangeMaps (open_string shut_string)
set_option linter.unusedVariables false

theorem many (l : List UInt8) (h : 28 ≤ l.length) : ∃ h1 h2 h3 h4 h5 h6 o o' a b c d e f i1 i2 i3 i4 a' b' c' d' e' f' j1 j2 j3 j4 r, l = h1 :: h2 :: h3 :: h4 :: h5 :: h6 :: o :: o' :: a :: b :: c :: d :: e :: f :: i1 :: i2 :: i3 :: i4 :: a' :: b' :: c' :: d' :: e' :: f' :: j1 :: j2 :: j3 :: j4 :: r := by
  obtain ⟨h1, h2, h3, h4, h5, h6, l1, rfl⟩ := EtR.sixth l (by omega)
  simp only [List.length_cons] at h
  obtain ⟨o, o', a, b, c, d, l2, rfl⟩ := EtR.sixth l1 (by omega)
  simp only [List.length_cons] at h
  obtain ⟨e, f, i1, i2, i3, i4, l3, rfl⟩ := EtR.sixth l2 (by omega)
  simp only [List.length_cons] at h
  obtain ⟨a', b', c', d', e', f', l4, rfl⟩ := EtR.sixth l3 (by omega)
  simp only [List.length_cons] at h
  obtain ⟨j1, j2, l5, rfl⟩ := EtR.second l4 (by omega)
  simp only [List.length_cons] at h
  obtain ⟨j3, j4, r, rfl⟩ := EtR.second l5 (by omega)
  exact ⟨h1, h2, h3, h4, h5, h6, o, o', a, b, c, d, e, f, i1, i2, i3, i4, a', b', c', d', e', f', j1, j2, j3, j4, r, rfl⟩

theorem walk (s : ByteArray) (hm : s.size ≤ maxLen) (w : World) :
    Calls Try.prog 5 #[.string s] w fun ee w' => ee = .returned (.bool true) ∧ Below w.heap.size w w' := by
  have hl := len_str s
  by_cases h28 : s.size < 28
  · exact law_of s 0 0 0 0 0 0 0 0 0 0 0 0 0 0 0 1 w (fun u => boot_of s 0 0 0 0 0 0 0 0 0 0 0 0 0 0 0 1 u (fun u => wire_of s 0 0 0 0 0 0 0 0 0 0 0 0 0 0 0 1 u (fun u => read_no s 1 u (fun u B h => arp_short B _ u h (by omega))))) (fun u => Rr.arp_short s u h28)
  · have heta := str_eta s
    obtain ⟨h1, h2, h3, h4, h5, h6, o, o', a, b, c, d, e, f, i1, i2, i3, i4, a', b', c', d', e', f', j1, j2, j3, j4, r, hlist⟩ := many s.data.toList (by omega)
    have hml : (h1 :: h2 :: h3 :: h4 :: h5 :: h6 :: o :: o' :: a :: b :: c :: d :: e :: f :: i1 :: i2 :: i3 :: i4 :: a' :: b' :: c' :: d' :: e' :: f' :: j1 :: j2 :: j3 :: j4 :: r).length ≤ maxLen := by rw [← hlist, hl]; exact hm
    have hr : r.length + 28 ≤ 9223372036854775807 := by simp only [List.length_cons, maxLen] at hml; omega
    have hsr : s = ⟨(h1 :: h2 :: h3 :: h4 :: h5 :: h6 :: o :: o' :: a :: b :: c :: d :: e :: f :: i1 :: i2 :: i3 :: i4 :: a' :: b' :: c' :: d' :: e' :: f' :: j1 :: j2 :: j3 :: j4 :: r).toArray⟩ := by rw [← hlist, heta]
    cases hh : okHead h1 h2 h3 h4 h5 h6 with
    | false =>
      refine law_of s 0 0 0 0 0 0 0 0 0 0 0 0 0 0 0 2 w (fun u => boot_of s 0 0 0 0 0 0 0 0 0 0 0 0 0 0 0 2 u (fun u => wire_of s 0 0 0 0 0 0 0 0 0 0 0 0 0 0 0 2 u (fun u => read_no s 2 u (fun u B h => ?_)))) (fun u => ?_)
      · rw [hlist] at h
        exact arp_head B h1 h2 h3 h4 h5 h6 o o' a b c d e f i1 i2 i3 i4 a' b' c' d' e' f' j1 j2 j3 j4 r u h hml hh
      · rw [hsr]
        exact Rr.arp_head h1 h2 h3 h4 h5 h6 o o' a b c d e f i1 i2 i3 i4 a' b' c' d' e' f' j1 j2 j3 j4 r u hr hh
    | true =>
      cases ho : (256 * (o.toNat : Int) + (o'.toNat : Int) == 1 || 256 * (o.toNat : Int) + (o'.toNat : Int) == 2) with
      | false =>
        have hne : ¬ (256 * (o.toNat : Int) + (o'.toNat : Int) = 1) ∧ ¬ (256 * (o.toNat : Int) + (o'.toNat : Int) = 2) := by simpa using ho
        refine law_of s 0 0 0 0 0 0 0 0 0 0 0 0 0 0 0 2 w (fun u => boot_of s 0 0 0 0 0 0 0 0 0 0 0 0 0 0 0 2 u (fun u => wire_of s 0 0 0 0 0 0 0 0 0 0 0 0 0 0 0 2 u (fun u => read_no s 2 u (fun u B h => ?_)))) (fun u => ?_)
        · rw [hlist] at h
          exact arp_op B h1 h2 h3 h4 h5 h6 o o' a b c d e f i1 i2 i3 i4 a' b' c' d' e' f' j1 j2 j3 j4 r u h hml hh ho
        · rw [hsr]
          by_cases h0 : 256 * (o.toNat : Int) + (o'.toNat : Int) < 1
          · exact Rr.arp_op0 h1 h2 h3 h4 h5 h6 o o' a b c d e f i1 i2 i3 i4 a' b' c' d' e' f' j1 j2 j3 j4 r u hr hh h0
          · exact Rr.arp_op3 h1 h2 h3 h4 h5 h6 o o' a b c d e f i1 i2 i3 i4 a' b' c' d' e' f' j1 j2 j3 j4 r u hr hh (by omega)
      | true =>
        have hne : (256 * (o.toNat : Int) + (o'.toNat : Int) = 1) ∨ (256 * (o.toNat : Int) + (o'.toNat : Int) = 2) := by simpa using ho
        refine law_of s (256 * (o.toNat : Int) + (o'.toNat : Int)) a.toNat b.toNat c.toNat d.toNat e.toNat f.toNat (16777216 * (i1.toNat : Int) + 65536 * (i2.toNat : Int) + 256 * (i3.toNat : Int) + (i4.toNat : Int)) a'.toNat b'.toNat c'.toNat d'.toNat e'.toNat f'.toNat (16777216 * (j1.toNat : Int) + 65536 * (j2.toNat : Int) + 256 * (j3.toNat : Int) + (j4.toNat : Int)) 0 w (fun u => boot_of s (256 * (o.toNat : Int) + (o'.toNat : Int)) a.toNat b.toNat c.toNat d.toNat e.toNat f.toNat (16777216 * (i1.toNat : Int) + 65536 * (i2.toNat : Int) + 256 * (i3.toNat : Int) + (i4.toNat : Int)) a'.toNat b'.toNat c'.toNat d'.toNat e'.toNat f'.toNat (16777216 * (j1.toNat : Int) + 65536 * (j2.toNat : Int) + 256 * (j3.toNat : Int) + (j4.toNat : Int)) 0 u (fun u => wire_of s (256 * (o.toNat : Int) + (o'.toNat : Int)) a.toNat b.toNat c.toNat d.toNat e.toNat f.toNat (16777216 * (i1.toNat : Int) + 65536 * (i2.toNat : Int) + 256 * (i3.toNat : Int) + (i4.toNat : Int)) a'.toNat b'.toNat c'.toNat d'.toNat e'.toNat f'.toNat (16777216 * (j1.toNat : Int) + 65536 * (j2.toNat : Int) + 256 * (j3.toNat : Int) + (j4.toNat : Int)) 0 u (fun u => read_ok s (256 * (o.toNat : Int) + (o'.toNat : Int)) a.toNat b.toNat c.toNat d.toNat e.toNat f.toNat (16777216 * (i1.toNat : Int) + 65536 * (i2.toNat : Int) + 256 * (i3.toNat : Int) + (i4.toNat : Int)) a'.toNat b'.toNat c'.toNat d'.toNat e'.toNat f'.toNat (16777216 * (j1.toNat : Int) + 65536 * (j2.toNat : Int) + 256 * (j3.toNat : Int) + (j4.toNat : Int)) u (fun u B h => ?_)))) (fun u => ?_)
        · rw [hlist] at h
          exact arp_ok B h1 h2 h3 h4 h5 h6 o o' a b c d e f i1 i2 i3 i4 a' b' c' d' e' f' j1 j2 j3 j4 r u h hml hh ho
        · rw [hsr]
          exact Rr.arp_ok h1 h2 h3 h4 h5 h6 o o' a b c d e f i1 i2 i3 i4 a' b' c' d' e' f' j1 j2 j3 j4 r u hr hh (by omega) (by omega)

set_option maxRecDepth 100000 in
theorem lifted (os : Os) (started : os.Started) (H : Type) (enc : TypeId × Value → H) :
    ReturnsInHanded {} Try.checked os 5 .any (Rows.aRPReadsSpec.pre6 enc Try.prog Try.f5 Rows.aRPReadsRow.domain false) (Rows.aRPReadsSpec.post enc Try.prog Try.f5 false true false false) := by
  refine returnsInHanded_of_change (C := Try.checked) Op.own started (by kernel_rfl) Try.func5
    (ChangeSpec.witness6 (enc := enc) (C := Try.checked) false ⟨#[], #[.string ByteArray.empty], []⟩ 8 (by kernel_rfl) (by kernel_rfl) (by kernel_rfl) (by kernel_rfl)) ?_
  intro W base args ds gs before hval0 hW hcnd _
  have hval : ∀ (j : Nat) t v, Try.f5.params[j]? = some t → args[j]? = some v → Value.okWide Try.prog W .any base t v := hval0
  have hW' := hW
  obtain ⟨p, q, hA0, hV, rfl, hfz, hnd⟩ := hW
  have hA : DataW.TrodAll enc Try.prog W 0 (fun _ => true) true Try.f5.params.toList args.toList ds p := hA0
  rw [Try.params5] at hA hval
  obtain ⟨v0, vs0, d0, ds0, p0, q0, hargs, rfl, rfl, h0, r0⟩ := trodAll_cons hA
  obtain ⟨rfl, rfl, rfl⟩ := trodAll_nil r0
  obtain rfl : args = #[v0] := by cases args; simp_all
  obtain ⟨rfl, rfl⟩ := trodVars_none hV
  clear hA0 hval0
  simp only [List.append_nil] at hW'
  have h0k := h0
  obtain ⟨a0, rfl, rfl, rfl, w0⟩ := open_string Try.underlying9 (hval 0 9 v0 rfl rfl) h0
  refine (walk a0 w0 W).mono fun ee W' ⟨he, hg⟩ => ?_
  subst he
  exact ⟨_, rfl, Op.close1 hW' rfl rfl rfl ⟨rfl, rfl, rfl⟩ (by kernel_rfl) (of_decide_eq_true (by kernel_rfl)) h0k hg⟩

theorem over : Rows.aRPReadsRow.holds Try.pinned (OpenSpec.ofChange Rows.aRPReadsSpec) :=
  OpenClaim.holds_of_wide 5 Try.f5 rfl rfl rfl rfl rfl rfl rfl ⟨rfl, rfl, rfl, rfl, rfl⟩ rfl rfl rfl rfl rfl (by kernel_rfl) Try.func5 (by kernel_rfl)
    (of_decide_eq_true (by kernel_rfl)) (by unfold Func.isWrapper; first | (rw [if_pos (by decide +kernel)]; kernel_rfl) | (rw [if_neg (by decide +kernel)]; exact ⟨rfl, rfl⟩))
    (fun os started H enc _ => lifted os started H enc)
end Go.Proofs.Ytadkcdcdgphhpaa.aRPReads
namespace Go.Proofs.Ytadkcdcdgphhpaa
theorem aRPReads_holds : Rows.ARPReadsSaid := aRPReads.over
end Go.Proofs.Ytadkcdcdgphhpaa

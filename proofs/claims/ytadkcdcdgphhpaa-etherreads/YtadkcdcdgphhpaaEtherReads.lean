import Derived.Test.YtadkcdcdgphhpaaEtherRi
import Derived.Test.YtadkcdcdgphhpaaRefReadF
import Derived.Test.YtadkcdcdgphhpaaRefReadG
import Derived.Test.YtadkcdcdgphhpaaOpen
import Derived.ShutString
namespace Go.Proofs.Ytadkcdcdgphhpaa.etherReads
open Go.ChangeShapes Go.WideShapes Go.ChangeAt Go.RowKit Bs Rd EtR
open Go.ChangeMaps (open_string shut_string)
set_option linter.unusedVariables false

theorem short14 (s : ByteArray) (hs : s.size < 14) (u : World) (B : Nat) (h : Rdr u B s.data.toList) :
    Calls Try.prog 72 #[.pointer (some ⟨B, 0, none⟩)] u fun ee w' => ee = .panicked (errP 1) ∧ u.grownBy w' (some B) := by
  have hl := len_str s
  generalize s.data.toList = l at h hl
  by_cases h6 : l.length < 6
  · exact ether_short1 B l u h h6
  · obtain ⟨a, b, c, d, e, f, r, rfl⟩ := sixth l (by omega)
    simp only [List.length_cons] at hl h6
    by_cases h12 : r.length < 6
    · exact ether_short2 B a b c d e f r u h h12
    · obtain ⟨a', b', c', d', e', f', q, rfl⟩ := sixth r (by omega)
      simp only [List.length_cons] at hl h12
      exact ether_short3 B a b c d e f a' b' c' d' e' f' q u h (by omega)

theorem fourteen (l : List UInt8) (h : 14 ≤ l.length) : ∃ a b c d e f a' b' c' d' e' f' t t' r, l = a :: b :: c :: d :: e :: f :: a' :: b' :: c' :: d' :: e' :: f' :: t :: t' :: r := by
  match l, h with
  | a :: b :: c :: d :: e :: f :: a' :: b' :: c' :: d' :: e' :: f' :: t :: t' :: r, _ => exact ⟨a, b, c, d, e, f, a', b', c', d', e', f', t, t', r, rfl⟩

theorem walk (s : ByteArray) (hm : s.size ≤ maxLen) (w : World) :
    Calls Try.prog 3 #[.string s] w fun ee w' => ee = .returned (.bool true) ∧ Below w.heap.size w w' := by
  unfold maxLen at hm
  by_cases hs : s.size ≤ 262144
  · by_cases h14 : s.size < 14
    · exact law_of s 0 0 0 0 0 0 0 0 0 0 0 0 0 ⟨#[]⟩ 1 w hs (fun u => boot_of s 0 0 0 0 0 0 0 0 0 0 0 0 0 ⟨#[]⟩ 1 u (fun u => wire_of s 0 0 0 0 0 0 0 0 0 0 0 0 0 ⟨#[]⟩ 1 u (fun u => read_no s 1 u (short14 s h14)))) (fun u => Rr.ether_short s u h14)
    · have hl := len_str s
      have heta := str_eta s
      obtain ⟨a, b, c, d, e, f, a', b', c', d', e', f', t, t', r, hlist⟩ := fourteen s.data.toList (by omega)
      have hr : r.length ≤ 1099511627000 := by rw [hlist] at hl; simp only [List.length_cons] at hl; omega
      have hsr : s = ⟨(a :: b :: c :: d :: e :: f :: a' :: b' :: c' :: d' :: e' :: f' :: t :: t' :: r).toArray⟩ := by rw [← hlist, heta]
      cases ht : Eth.okTy (256 * (t.toNat : Int) + (t'.toNat : Int)) with
      | false =>
        refine law_of s 0 0 0 0 0 0 0 0 0 0 0 0 0 ⟨#[]⟩ 3 w hs (fun u => boot_of s 0 0 0 0 0 0 0 0 0 0 0 0 0 ⟨#[]⟩ 3 u (fun u => wire_of s 0 0 0 0 0 0 0 0 0 0 0 0 0 ⟨#[]⟩ 3 u (fun u => read_no s 3 u (fun u B h => ?_)))) (fun u => ?_)
        · rw [hlist] at h
          exact ether_type B a b c d e f a' b' c' d' e' f' t t' r u h hr ht
        · rw [hsr]
          exact Rr.ether_type a b c d e f a' b' c' d' e' f' t t' r u hr ht
      | true =>
        cases hl' : Eth.okLoad ⟨r.toArray⟩ with
        | false =>
          refine law_of s 0 0 0 0 0 0 0 0 0 0 0 0 0 ⟨#[]⟩ 7 w hs (fun u => boot_of s 0 0 0 0 0 0 0 0 0 0 0 0 0 ⟨#[]⟩ 7 u (fun u => wire_of s 0 0 0 0 0 0 0 0 0 0 0 0 0 ⟨#[]⟩ 7 u (fun u => read_no s 7 u (fun u B h => ?_)))) (fun u => ?_)
          · rw [hlist] at h
            exact ether_long B a b c d e f a' b' c' d' e' f' t t' r u h hr ht hl'
          · rw [hsr]
            exact Rr.ether_long a b c d e f a' b' c' d' e' f' t t' r u hr ht hl'
        | true =>
          refine law_of s a.toNat b.toNat c.toNat d.toNat e.toNat f.toNat a'.toNat b'.toNat c'.toNat d'.toNat e'.toNat f'.toNat (256 * (t.toNat : Int) + (t'.toNat : Int)) ⟨r.toArray⟩ 0 w hs (fun u => boot_of s a.toNat b.toNat c.toNat d.toNat e.toNat f.toNat a'.toNat b'.toNat c'.toNat d'.toNat e'.toNat f'.toNat (256 * (t.toNat : Int) + (t'.toNat : Int)) ⟨r.toArray⟩ 0 u (fun u => wire_of s a.toNat b.toNat c.toNat d.toNat e.toNat f.toNat a'.toNat b'.toNat c'.toNat d'.toNat e'.toNat f'.toNat (256 * (t.toNat : Int) + (t'.toNat : Int)) ⟨r.toArray⟩ 0 u (fun u => read_ok s a.toNat b.toNat c.toNat d.toNat e.toNat f.toNat a'.toNat b'.toNat c'.toNat d'.toNat e'.toNat f'.toNat (256 * (t.toNat : Int) + (t'.toNat : Int)) ⟨r.toArray⟩ u (fun u B h => ?_)))) (fun u => ?_)
          · rw [hlist] at h
            exact ether_ok B a b c d e f a' b' c' d' e' f' t t' r u h hr ht hl'
          · rw [hsr]
            exact Rr.ether_ok a b c d e f a' b' c' d' e' f' t t' r u hr ht hl'
  · go_enter Try.func3, Try.ntmps3
    go_wp2
    go_ret
    exact ⟨rfl, Below.refl _ _⟩

set_option maxRecDepth 100000 in
theorem lifted (os : Os) (started : os.Started) (H : Type) (enc : TypeId × Value → H) :
    ReturnsInHanded {} Try.checked os 3 .any (Rows.etherReadsSpec.pre6 enc Try.prog Try.f3 Rows.etherReadsRow.domain false) (Rows.etherReadsSpec.post enc Try.prog Try.f3 false true false false) := by
  refine returnsInHanded_of_change (C := Try.checked) Op.own started (by kernel_rfl) Try.func3
    (ChangeSpec.witness6 (enc := enc) (C := Try.checked) false ⟨#[], #[.string ByteArray.empty], []⟩ 8 (by kernel_rfl) (by kernel_rfl) (by kernel_rfl) (by kernel_rfl)) ?_
  intro W base args ds gs before hval0 hW hcnd _
  have hval : ∀ (j : Nat) t v, Try.f3.params[j]? = some t → args[j]? = some v → Value.okWide Try.prog W .any base t v := hval0
  have hW' := hW
  obtain ⟨p, q, hA0, hV, rfl, hfz, hnd⟩ := hW
  have hA : DataW.TrodAll enc Try.prog W 0 (fun _ => true) true Try.f3.params.toList args.toList ds p := hA0
  rw [Try.params3] at hA hval
  obtain ⟨v0, vs0, d0, ds0, p0, q0, hargs, rfl, rfl, h0, r0⟩ := trodAll_cons hA
  obtain ⟨rfl, rfl, rfl⟩ := trodAll_nil r0
  obtain rfl : args = #[v0] := by cases args; simp_all
  obtain ⟨rfl, rfl⟩ := trodVars_none hV
  clear hA0 hval0
  simp only [List.append_nil] at hW'
  have h0k := h0
  obtain ⟨a0, rfl, rfl, rfl, w0⟩ := open_string Try.underlying9 (hval 0 9 v0 rfl rfl) h0
  refine (walk a0 w0 W).mono fun ee W' ⟨he, hg⟩ => ?_
  subst he
  exact ⟨_, rfl, Op.close1 hW' rfl rfl rfl ⟨rfl, rfl, rfl⟩ (by kernel_rfl) (of_decide_eq_true (by kernel_rfl)) h0k hg⟩

theorem over : Rows.etherReadsRow.holds Try.pinned (OpenSpec.ofChange Rows.etherReadsSpec) :=
  OpenClaim.holds_of_wide 3 Try.f3 rfl rfl rfl rfl rfl rfl rfl ⟨rfl, rfl, rfl, rfl, rfl⟩ rfl rfl rfl rfl rfl (by kernel_rfl) Try.func3 (by kernel_rfl)
    (of_decide_eq_true (by kernel_rfl)) (by unfold Func.isWrapper; first | (rw [if_pos (by decide +kernel)]; kernel_rfl) | (rw [if_neg (by decide +kernel)]; exact ⟨rfl, rfl⟩))
    (fun os started H enc _ => lifted os started H enc)
end Go.Proofs.Ytadkcdcdgphhpaa.etherReads
namespace Go.Proofs.Ytadkcdcdgphhpaa
theorem etherReads_holds : Rows.EtherReadsSaid := etherReads.over
end Go.Proofs.Ytadkcdcdgphhpaa

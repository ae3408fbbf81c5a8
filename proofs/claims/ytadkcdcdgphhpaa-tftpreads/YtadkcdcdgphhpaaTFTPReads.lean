import Derived.Test.YtadkcdcdgphhpaaTFEnd
import Derived.Test.YtadkcdcdgphhpaaOpen
import Derived.ShutString
namespace Go.Proofs.Ytadkcdcdgphhpaa.tFTPReads
open Go.ChangeShapes Go.WideShapes Go.ChangeAt Go.RowKit Bs Rd Tf
open Go.ChangeMaps (open_string shut_string)
set_option linter.unusedVariables false

theorem pairsR_len : ∀ (L : List (List UInt8)) (fs : Flds), pairsR L = some fs → fs.length ≤ L.length
  | [], fs, h => by simp [pairsR] at h; subst h; simp
  | [_], fs, h => by simp [pairsR] at h
  | n :: v :: r, fs, h => by
    rw [pairsR] at h
    split at h
    · cases hp : pairsR r with
      | none => rw [hp] at h; simp at h
      | some f2 =>
        rw [hp] at h
        simp only [Option.some.injEq] at h
        subst h
        have := pairsR_len r f2 hp
        simp only [List.length_cons]; omega
    · simp at h
theorem fldsS_len (L : List (List UInt8)) (fs : Flds) (h : fldsS L = some fs) : fs.length ≤ L.length := by
  unfold fldsS at h
  cases hp : pairsR L with
  | none => rw [hp] at h; simp at h
  | some f2 =>
    rw [hp] at h
    simp only at h
    split at h
    · simp only [Option.some.injEq] at h
      subst h
      exact pairsR_len L f2 hp
    · simp at h
theorem rdR_small (l : List UInt8) : (rdR l).2.fs.length ≤ l.length := by
  have hsm := (linesL_small _ (l.drop 2) (Nat.le_refl _)).1
  rw [List.length_drop] at hsm
  by_cases h2 : l.length < 2
  · rw [rdR_short h2]; simp [Msg.zero]
  by_cases o1 : opL l = 1
  · rw [rdR_1 h2 o1]
    unfold rd1
    split
    · split
      · rename_i n m t hL
        rw [hL] at hsm
        simp only [List.length_cons] at hsm
        split
        · cases hf : fldsS t with
          | none => simp [Msg.zero]
          | some fs =>
            have := fldsS_len t fs hf
            simp only; omega
        · simp [Msg.zero]
      · simp [Msg.zero]
    · simp [Msg.zero]
  by_cases o6 : opL l = 6
  · rw [rdR_6 h2 o6]
    unfold rd6
    split
    · cases hf : fldsS (linesL (l.drop 2)) with
      | none => simp [Msg.zero]
      | some fs =>
        have := fldsS_len _ fs hf
        simp only; omega
    · simp [Msg.zero]
  by_cases o345 : opL l = 3 ∨ opL l = 4 ∨ opL l = 5
  · by_cases h4 : l.length < 4
    · rw [rdR_few h2 h4 o345]; simp [Msg.zero]
    · rcases o345 with o | o | o
      · rw [rdR_3 h4 o]; split <;> simp [Msg.zero]
      · rw [rdR_4 h4 o]; split <;> simp [Msg.zero]
      · rw [rdR_5 h4 o]
        unfold rd5
        split
        · split <;> simp [Msg.zero]
        · simp [Msg.zero]
  · rw [rdR_no h2 ⟨o1, fun h => o345 (Or.inl h), fun h => o345 (Or.inr (Or.inl h)), fun h => o345 (Or.inr (Or.inr h)), o6⟩]; simp [Msg.zero]

set_option maxHeartbeats 1000000 in
theorem walk (s : ByteArray) (hm : s.size ≤ maxLen) (w : World) :
    Calls Try.prog 13 #[.string s] w fun ee w' => ee = .returned (.bool true) ∧ Below w.heap.size w w' := by
  obtain ⟨l, hsl⟩ : ∃ l, s.data.toList = l := ⟨_, rfl⟩
  have hz : s.size = l.length := by rw [← hsl, Array.length_toList]; rfl
  by_cases h3 : s.size ≤ 16384
  · have hC := fun u => TfR.boot_any s l u hsl (by omega)
    have hR := fun u => ref_any s l u hsl (by omega)
    have hfl := rdR_small l
    generalize rdR l = p at hC hR hfl
    obtain ⟨k, m⟩ := p
    by_cases h0 : k = 0
    · subst h0
      refine law_ok s m.op m.block ⟨m.text.toArray⟩ ⟨m.data.toArray⟩ m.fs w h3 (by simp only at hfl; omega) (fun u => (hC u).mono ?_) (fun u => (hR u).mono ?_)
      · rintro ee w' (⟨h, _⟩ | ⟨_, h⟩)
        · exact absurd rfl h
        · exact h
      · intro ee w' h
        unfold RfP at h
        rw [if_pos rfl] at h
        exact h
    · refine law_no s k w h3 (fun u => (hC u).mono ?_) (fun u => (hR u).mono ?_)
      · rintro ee w' (⟨_, h⟩ | ⟨h, _⟩)
        · exact h
        · exact absurd h h0
      · intro ee w' h
        unfold RfP at h
        rw [if_neg h0] at h
        exact h
  · have hgt : (16384 : Int) < (s.size : Int) := by omega
    go_enter Try.func13, Try.ntmps13
    go_wp2
    go_ret
    exact ⟨rfl, Below.refl _ _⟩
set_option maxRecDepth 100000 in
theorem lifted (os : Os) (started : os.Started) (H : Type) (enc : TypeId × Value → H) :
    ReturnsInHanded {} Try.checked os 13 .any (Rows.tFTPReadsSpec.pre6 enc Try.prog Try.f13 Rows.tFTPReadsRow.domain false) (Rows.tFTPReadsSpec.post enc Try.prog Try.f13 false true false false) := by
  refine returnsInHanded_of_change (C := Try.checked) Op.own started (by kernel_rfl) Try.func13
    (ChangeSpec.witness6 (enc := enc) (C := Try.checked) false ⟨#[], #[.string ByteArray.empty], []⟩ 8 (by kernel_rfl) (by kernel_rfl) (by kernel_rfl) (by kernel_rfl)) ?_
  intro W base args ds gs before hval0 hW hcnd _
  have hval : ∀ (j : Nat) t v, Try.f13.params[j]? = some t → args[j]? = some v → Value.okWide Try.prog W .any base t v := hval0
  have hW' := hW
  obtain ⟨p, q, hA0, hV, rfl, hfz, hnd⟩ := hW
  have hA : DataW.TrodAll enc Try.prog W 0 (fun _ => true) true Try.f13.params.toList args.toList ds p := hA0
  rw [Try.params13] at hA hval
  obtain ⟨v0, vs0, d0, ds0, p0, q0, hargs, rfl, rfl, h0, r0⟩ := trodAll_cons hA
  obtain ⟨rfl, rfl, rfl⟩ := trodAll_nil r0
  obtain rfl : args = #[v0] := by cases args; simp_all
  obtain ⟨rfl, rfl⟩ := trodVars_none hV
  clear hA0 hval0
  simp only [List.append_nil] at hW'
  have h0k := h0
  obtain ⟨a0, rfl, rfl, rfl, w0⟩ := open_string Try.underlying9 (hval 0 9 v0 rfl rfl) h0
  refine (walk a0 w0 W).mono fun ee W' ⟨he, hg⟩ => ?_
  subst he
  exact ⟨_, rfl, Op.close1 hW' rfl rfl rfl ⟨rfl, rfl, rfl⟩ (by kernel_rfl) (of_decide_eq_true (by kernel_rfl)) h0k hg⟩

theorem over : Rows.tFTPReadsRow.holds Try.pinned (OpenSpec.ofChange Rows.tFTPReadsSpec) :=
  OpenClaim.holds_of_wide 13 Try.f13 rfl rfl rfl rfl rfl rfl rfl ⟨rfl, rfl, rfl, rfl, rfl⟩ rfl rfl rfl rfl rfl (by kernel_rfl) Try.func13 (by kernel_rfl)
    (of_decide_eq_true (by kernel_rfl)) (by unfold Func.isWrapper; first | (rw [if_pos (by decide +kernel)]; kernel_rfl) | (rw [if_neg (by decide +kernel)]; exact ⟨rfl, rfl⟩))
    (fun os started H enc _ => lifted os started H enc)

end Go.Proofs.Ytadkcdcdgphhpaa.tFTPReads
namespace Go.Proofs.Ytadkcdcdgphhpaa
theorem tFTPReads_holds : Rows.TFTPReadsSaid := tFTPReads.over
end Go.Proofs.Ytadkcdcdgphhpaa

import Derived.Test.YtadkcdcdgphhpaaTFRdR
namespace Go.Proofs.Ytadkcdcdgphhpaa.Tf
open Go.ChangeShapes Go.WideShapes Go.ChangeAt Go.RowKit Bs
open Rr (of_any ofL)
set_option linter.unusedVariables false

theorem ext_at (s : ByteArray) (l : List UInt8) (hs : s.data.toList = l) (a : Nat) : (s.extract a s.size).data.toList = l.drop a := by
  have hz : s.size = l.length := by rw [← hs, Array.length_toList]; rfl
  rw [ByteArray.data_extract, Array.toList_extract, hs, List.extract_eq_take_drop, List.take_of_length_le (by rw [List.length_drop]; omega)]
theorem ext_two (s : ByteArray) (l : List UInt8) (hs : s.data.toList = l) (a : Nat) (h : a + 2 ≤ l.length) : (s.extract a (a + 2)).data.toList = [l.getD a 0, l.getD (a + 1) 0] := by
  rw [ByteArray.data_extract, Array.toList_extract, hs, List.extract_eq_take_drop, show a + 2 - a = 2 by omega, List.drop_eq_getElem_cons (by omega), List.drop_eq_getElem_cons (by omega)]
  simp only [List.take_succ_cons, List.take_zero]
  rw [List.getD_eq_getElem?_getD, List.getD_eq_getElem?_getD, List.getElem?_eq_getElem (by omega), List.getElem?_eq_getElem (by omega)]
  rfl
/-- what the reference's reader answers -/
def RfP (p : Nat × Msg) (w : World) (ee : Ending) (w' : World) : Prop :=
  if p.1 = 0 then Good p.2.op p.2.block ⟨p.2.text.toArray⟩ ⟨p.2.data.toArray⟩ p.2.fs w ee w' else Bad p.1 w ee w'
theorem RfP.bad {k : Nat} {m : Msg} {w w' : World} {ee : Ending} (hk : k ≠ 0) (h : Bad k w ee w') : RfP (k, m) w ee w' := by unfold RfP; rw [if_neg hk]; exact h
theorem RfP.good {m : Msg} {w w' : World} {ee : Ending} (h : Good m.op m.block ⟨m.text.toArray⟩ ⟨m.data.toArray⟩ m.fs w ee w') : RfP (0, m) w ee w' := by unfold RfP; rw [if_pos rfl]; exact h
def pick (fo : Option Flds) (o : Nat) (t : List UInt8) : Nat × Msg := match fo with
  | none => (2, .zero)
  | some fs => (0, ⟨o, 0, t, [], fs⟩)
theorem RfP.fin {fo : Option Flds} {o : Nat} {t : List UInt8} {w w' : World} {ee : Ending} (h : Fin fo o ⟨t.toArray⟩ w ee w') : RfP (pick fo o t) w ee w' := by
  cases fo with
  | none => exact RfP.bad (by decide) h
  | some fs => exact RfP.good h
theorem two_lt (l : List UInt8) (a : Nat) : (l.getD a 0).toNat * 256 + (l.getD (a + 1) 0).toNat < 65536 := by
  have h1 := (l.getD a 0).toNat_lt
  have h2 := (l.getD (a + 1) 0).toNat_lt
  omega
theorem wrap16 (n : Nat) (h : n < 65536) : IntKind.u16.wrap (n : Int) = (n : Int) := by
  simp [IntKind.wrap, IntKind.bits, IntKind.signed]; omega
theorem of_two (s : ByteArray) (l : List UInt8) (hs : s.data.toList = l) (a b : Nat) (hb : b = a + 2) (h : a + 2 ≤ l.length) (n : Nat) (hn : n = (l.getD a 0).toNat * 256 + (l.getD (a + 1) 0).toNat) (u : World) :
    Calls Try.prog 45 #[.string (s.extract a b)] u fun ee w' => ee = .returned (.int .i64 n) ∧ w' = u := by
  subst hb
  have q := of_any (s.extract a (a + 2)) u (by
    have := congrArg List.length (ext_two s l hs a h)
    rw [Array.length_toList] at this
    show (s.extract a (a + 2)).data.size ≤ 4
    rw [this]; show 2 ≤ 4; omega)
  rw [ext_two s l hs a h] at q
  rw [show (n : Int) = ofL [l.getD a 0, l.getD (a + 1) 0] by rw [hn]; simp [ofL]; omega]
  exact q

theorem ref_any (s : ByteArray) (l : List UInt8) (w : World) (hsl : s.data.toList = l) (hl : l.length ≤ 16384) :
    Calls Try.prog 39 #[.string s] w fun ee w' => RfP (rdR l) w ee w' := by
  have hz : s.size = l.length := by rw [← hsl, Array.length_toList]; rfl
  by_cases h2 : l.length < 2
  · rw [rdR_short h2]
    exact (ref_short s w (by omega)).mono fun _ _ h => RfP.bad (by decide) h
  have hO := fun u => of_two s l hsl 0 2 rfl (by omega) (opL l) rfl u
  have hs2 : 2 ≤ s.size := by omega
  have hm : s.size ≤ 16384 := by omega
  have hlt := two_lt l 0
  have hLN := fun (a : Nat) (u : World) => lines_any (s.extract a s.size) (l.drop a) u (ext_at s l hsl a) (by rw [List.length_drop]; omega)
  have hsm := fun (a : Nat) => linesL_small _ (l.drop a) (Nat.le_refl _)
  have hdl : ∀ a, (l.drop a).length ≤ 16384 := fun a => by rw [List.length_drop]; omega
  by_cases o1 : opL l = 1
  · rw [rdR_1 h2 o1]
    rw [o1] at hO
    unfold rd1
    by_cases he : endedB (l.drop 2) = true
    · rw [if_pos he]
      have hLN2 := hLN 2
      rw [he] at hLN2
      obtain ⟨b1, b2⟩ := hsm 2
      have hd := hdl 2
      obtain ⟨L, hL⟩ : ∃ L, L = linesL (l.drop 2) := ⟨_, rfl⟩
      rw [← hL] at hLN2 b1 b2 ⊢
      match L, hLN2, b1, b2 with
      | [], hLN2, b1, b2 => exact (ref_1s s w [] hs2 hm hO hLN2 (by simp)).mono fun _ _ h => RfP.bad (by decide) h
      | [n], hLN2, b1, b2 => exact (ref_1s s w [n] hs2 hm hO hLN2 (by simp)).mono fun _ _ h => RfP.bad (by decide) h
      | n :: m :: t, hLN2, b1, b2 =>
        have bn := b2 n (by simp)
        have bm := b2 m (by simp)
        simp only
        cases hn : nameB n with
        | false =>
          simp only [Bool.false_and]
          exact (ref_1w s w (n :: m :: t) hs2 hm hO hLN2 n (by simp) rfl (by omega) hn).mono fun _ _ h => RfP.bad (by decide) h
        | true =>
          simp only [Bool.true_and]
          cases ho : (lowL m == octet) with
          | false =>
            exact (ref_1m s w (n :: m :: t) hs2 hm hO hLN2 n m (by simp) rfl rfl (by omega) (by omega) hn ho).mono fun _ _ h => RfP.bad (by decide) h
          | true =>
            rw [if_pos rfl]
            exact (ref_1f s w (n :: m :: t) hs2 hm hO hLN2 n m t rfl (by omega) (fun x hx => by have := b2 x hx; omega) hn (by simpa using ho)).mono fun _ _ h => RfP.fin (o := 1) h
    · rw [if_neg he]
      have hLN2 := hLN 2
      rw [Bool.not_eq_true] at he
      rw [he] at hLN2
      exact (ref_1e s w _ hs2 hm hO hLN2).mono fun _ _ h => RfP.bad (by decide) h
  by_cases o6 : opL l = 6
  · rw [rdR_6 h2 o6]
    rw [o6] at hO
    unfold rd6
    obtain ⟨b1, b2⟩ := hsm 2
    have hd := hdl 2
    have hLN2 := hLN 2
    by_cases he : endedB (l.drop 2) = true
    · rw [if_pos he]
      rw [he] at hLN2
      exact (ref_6 s w _ hs2 hm hO (by omega) (fun x hx => by have := b2 x hx; omega) hLN2).mono fun _ _ h => RfP.fin (o := 6) (t := []) h
    · rw [if_neg he]
      rw [Bool.not_eq_true] at he
      rw [he] at hLN2
      exact (ref_6e s w _ hs2 hm hO hLN2).mono fun _ _ h => RfP.bad (by decide) h
  by_cases o345 : opL l = 3 ∨ opL l = 4 ∨ opL l = 5
  · by_cases h4 : l.length < 4
    · rw [rdR_few h2 h4 o345]
      rcases o345 with o | o | o
      · rw [o] at hO; exact (ref_few3 s w hs2 (by omega) hO).mono fun _ _ h => RfP.bad (by decide) h
      · rw [o] at hO; exact (ref_few4 s w hs2 (by omega) hO).mono fun _ _ h => RfP.bad (by decide) h
      · rw [o] at hO; exact (ref_few5 s w hs2 (by omega) hO).mono fun _ _ h => RfP.bad (by decide) h
    · have hO2 := fun u => of_two s l hsl 2 4 rfl (by omega) (blL l) rfl u
      have hy := wrap16 (blL l) (two_lt l 2)
      have hLN4 := hLN 4
      obtain ⟨rs, hrs⟩ : ∃ rs, s.extract 4 s.size = rs := ⟨_, rfl⟩
      have hrl : rs.data.toList = l.drop 4 := by rw [← hrs]; exact ext_at s l hsl 4
      have hrz : rs.size = (l.drop 4).length := by rw [← hrl, Array.length_toList]; rfl
      have hre : rs = ⟨(l.drop 4).toArray⟩ := by rw [← hrl]
      rw [hrs] at hLN4
      rcases o345 with o | o | o
      · rw [rdR_3 h4 o]
        rw [o] at hO
        by_cases h1 : 1024 < (l.drop 4).length
        · rw [if_pos h1]
          exact (ref_3l s w _ _ _ rs (by omega) hm hy hO hO2 hrs hLN4 (by omega)).mono fun _ _ h => RfP.bad (by decide) h
        · rw [if_neg h1]
          exact (ref_3g s w _ _ _ rs (by omega) hm hy hO hO2 hrs hLN4 (by omega)).mono fun _ _ h => RfP.good (by rw [hre] at h; exact h)
      · rw [rdR_4 h4 o]
        rw [o] at hO
        by_cases h1 : l.drop 4 = []
        · rw [if_pos h1]
          exact (ref_4g s w _ _ _ rs (by omega) hm hy hO hO2 hrs hLN4 (by rw [ByteArray.toList_eq, hrl, h1]; rfl)).mono fun _ _ h => RfP.good h
        · rw [if_neg h1]
          exact (ref_4b s w _ _ _ rs (by omega) hm hy hO hO2 hrs hLN4 (by rw [ByteArray.toList_eq, hrl, List.isEmpty_eq_false_iff]; exact h1)).mono fun _ _ h => RfP.bad (by decide) h
      · rw [rdR_5 h4 o]
        rw [o] at hO
        unfold rd5
        by_cases he : endedB (l.drop 4) = true
        · rw [if_pos he]
          rw [he] at hLN4
          obtain ⟨L, hL⟩ : ∃ L, L = linesL (l.drop 4) := ⟨_, rfl⟩
          rw [← hL] at hLN4 ⊢
          match L, hLN4 with
          | [], hLN4 => exact (ref_5b s w _ _ rs (by omega) hm hy hO hO2 hrs hLN4 rfl).mono fun _ _ h => RfP.bad (by decide) h
          | [t], hLN4 => exact (ref_5g s w _ _ rs (by omega) hm hy hO hO2 hrs hLN4 t rfl (by simp) rfl).mono fun _ _ h => RfP.good h
          | a :: b :: r, hLN4 => exact (ref_5b s w _ _ rs (by omega) hm hy hO hO2 hrs hLN4 (by simp; omega)).mono fun _ _ h => RfP.bad (by decide) h
        · rw [if_neg he]
          rw [Bool.not_eq_true] at he
          rw [he] at hLN4
          exact (ref_5a s w _ _ rs (by omega) hm hy hO hO2 hrs hLN4).mono fun _ _ h => RfP.bad (by decide) h
  · rw [rdR_no h2 ⟨o1, fun h => o345 (Or.inl h), fun h => o345 (Or.inr (Or.inl h)), fun h => o345 (Or.inr (Or.inr h)), o6⟩]
    refine (ref_no s w (opL l) hs2 hm (wrap16 _ hlt) ?_ ?_ ?_ ?_ ?_ hO).mono fun _ _ h => RfP.bad (by decide) h
    · simp; omega
    · simp; omega
    · simp; omega
    · simp; omega
    · simp; omega
end Go.Proofs.Ytadkcdcdgphhpaa.Tf

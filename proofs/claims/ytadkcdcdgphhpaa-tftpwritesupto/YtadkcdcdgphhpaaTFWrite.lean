import Derived.Test.YtadkcdcdgphhpaaTFMay
namespace Go.Proofs.Ytadkcdcdgphhpaa.Tf
open Go.ChangeShapes Go.WideShapes Go.ChangeAt Go.RowKit Bs Wt
set_option linter.unusedVariables false
set_option linter.unusedSimpArgs false

theorem wr_drew {w : World} {B : Nat} {L : List UInt8} (h : Wr w B L) : Wr w.drew B L := h
/-- texts, each with its end -/
def endsL (ss : List ByteArray) : List UInt8 := ss.flatMap fun s => s.data.toList ++ [0]
theorem endsL_take (ss : List ByteArray) (k : Nat) (h : k < ss.length) : endsL (ss.take (k + 1)) = endsL (ss.take k) ++ (ss[k].data.toList ++ [0]) := by
  rw [endsL, List.take_succ_eq_append_getElem h, List.flatMap_append]
  simp [endsL]
theorem endsL_take_le (ss : List ByteArray) (k : Nat) : (endsL (ss.take k)).length ≤ (endsL ss).length := by
  have e : endsL ss = endsL (ss.take k) ++ endsL (ss.drop k) := by
    rw [endsL, endsL, endsL, ← List.flatMap_append, List.take_append_drop]
  rw [e, List.length_append]; omega
theorem texts_two (B bs : Nat) (s t : ByteArray) (L : List UInt8) (w : World) (hW : Wr w B L) (hbs : bs = w.heap.size) (hsz : L.length + (s.size + t.size) ≤ 1099511627776) :
    Calls Try.prog 77 #[.pointer (some ⟨B, 0, none⟩), .slice (some ⟨bs, 0, none⟩) 2 2] (w.alloc (.cells #[.string s, .string t] 9)) fun e w' =>
      e = .returned (.tuple #[]) ∧ Wr w' B (L ++ (s.data.toList ++ t.data.toList)) ∧ Kept B w w' := by
  subst hbs
  have eF : flat [s, t] = s.data.toList ++ t.data.toList := by simp [flat]
  have h := texts_any B w.heap.size 2 [s, t] L _ (hW.alloc (.cells #[.string s, .string t] 9)) hW.lt (heap_alloc_new w _) (by rw [eF, List.length_append, len_str, len_str]; exact hsz) (by simp)
  refine h.mono ?_
  rintro e w1 ⟨rfl, h1, h2⟩
  refine ⟨rfl, ?_, kept_new hW h2⟩
  rw [← eF]; exact h1

set_option maxHeartbeats 1000000 in
theorem ended_any (B bs cap : Nat) (ss : List ByteArray) (L : List UInt8) (w : World) (hW : Wr w B L) (hb : B < bs)
    (hsrc : w.heap[bs]? = some (.cells (ss.map Value.string).toArray 9 (0, 0))) (hsz : L.length + (endsL ss).length ≤ 1099511627776) (hn : ss.length ≤ 1099511627776) :
    Calls Try.prog 137 #[.pointer (some ⟨B, 0, none⟩), .slice (some ⟨bs, 0, none⟩) ss.length cap] w fun e w' =>
      e = .returned (.tuple #[]) ∧ Wr w' B (L ++ endsL ss) ∧ Kept B w w' := by
  have HS := hide hsrc
  clear hsrc
  go_enter Try.func137, Try.ntmps137
  go_wp2
  go_loopw [8] (fun i wr => ∃ k : Nat, k ≤ ss.length ∧ i = .int .i64 k ∧ Hid (Wr wr B (L ++ endsL (ss.take k))) ∧ Hid (Kept B w wr)) (fun i _ => ss.length - (intOf i).toNat)
  case atStart => exact ⟨0, Nat.zero_le _, rfl, hide (by simpa [endsL] using hW), hide (Kept.refl _ _)⟩
  case round =>
    obtain ⟨k, hk, rfl, H1, H2⟩ := hrel
    rename World => wr
    by_cases hlt : k < ss.length
    · have hsr := (unhide H2).others _ _ _ _ hb (unhide HS) (by decide)
      have hcs : wr.cell? ⟨bs, k, none⟩ = some (.string ss[k]) := by
        rw [cell_of_row wr bs k _ _ _ hsr]; simp [hlt]
      have hlt' : (k : Int) < (ss.length : Int) := by omega
      have HT := hide (endsL_take ss k hlt)
      have hle := endsL_take_le ss (k + 1)
      rw [unhide HT, List.length_append, List.length_append, len_str] at hle
      obtain ⟨s, hs⟩ : ∃ s, s = ss[k] := ⟨_, rfl⟩
      rw [← hs] at hcs HT hle
      simp only [List.length_cons, List.length_nil] at hle
      have HC := hide (texts_two B wr.heap.size s ⟨#[0]⟩ _ wr (unhide H1) rfl (by rw [List.length_append]; show _ + (_ + 1) ≤ _; omega))
      clear hsr hs hle
      go_wp2_with fail
      refine (unhide HC).mono ?_
      rintro e w1 ⟨rfl, h1, h2⟩
      have K1 := hide h1
      have K2 := hide ((unhide H2).trans h2)
      clear h1 h2 HC hcs
      go_wp2
      go_roundw
      case rel => exact ⟨k + 1, by omega, by go_num, hide (by rw [unhide HT, ← List.append_assoc]; exact unhide K1), K2⟩
      case measure => simp [intOf]; omega
    · have e : k = ss.length := by omega
      subst e
      have h1 := unhide H1
      rw [List.take_length] at h1
      have HF := hide h1
      clear h1
      go_wp2
      go_end0
      exact ⟨rfl, unhide HF, unhide H2⟩
theorem ended_one (B bs : Nat) (s : ByteArray) (L : List UInt8) (w : World) (hW : Wr w B L) (hbs : bs = w.heap.size) (hsz : L.length + s.size ≤ 1099511620000) :
    Calls Try.prog 137 #[.pointer (some ⟨B, 0, none⟩), .slice (some ⟨bs, 0, none⟩) 1 1] (w.alloc (.cells #[.string s] 9)) fun e w' =>
      e = .returned (.tuple #[]) ∧ Wr w' B (L ++ (s.data.toList ++ [0])) ∧ Kept B w w' := by
  subst hbs
  have eF : endsL [s] = s.data.toList ++ [0] := by simp [endsL]
  have h := ended_any B w.heap.size 1 [s] L _ (hW.alloc (.cells #[.string s] 9)) hW.lt (heap_alloc_new w _) (by rw [eF, List.length_append, len_str]; simp; omega) (by simp)
  refine h.mono ?_
  rintro e w1 ⟨rfl, h1, h2⟩
  refine ⟨rfl, ?_, kept_new hW h2⟩
  rw [← eF]; exact h1
theorem ended_two (B bs : Nat) (s t : ByteArray) (L : List UInt8) (w : World) (hW : Wr w B L) (hbs : bs = w.heap.size) (hsz : L.length + (s.size + t.size) ≤ 1099511620000) :
    Calls Try.prog 137 #[.pointer (some ⟨B, 0, none⟩), .slice (some ⟨bs, 0, none⟩) 2 2] (w.alloc (.cells #[.string s, .string t] 9)) fun e w' =>
      e = .returned (.tuple #[]) ∧ Wr w' B (L ++ (s.data.toList ++ [0] ++ (t.data.toList ++ [0]))) ∧ Kept B w w' := by
  subst hbs
  have eF : endsL [s, t] = s.data.toList ++ [0] ++ (t.data.toList ++ [0]) := by simp [endsL]
  have h := ended_any B w.heap.size 2 [s, t] L _ (hW.alloc (.cells #[.string s, .string t] 9)) hW.lt (heap_alloc_new w _) (by rw [eF]; simp only [List.length_append, len_str, List.length_cons, List.length_nil]; omega) (by simp)
  refine h.mono ?_
  rintro e w1 ⟨rfl, h1, h2⟩
  refine ⟨rfl, ?_, kept_new hW h2⟩
  rw [← eF]; exact h1

set_option maxHeartbeats 1000000 in
/-- what is written of fields: all of them, or more than can be said -/
theorem fields_any (B : Nat) (a : Option Addr) (cap : Nat) (fs : Flds) (L : List UInt8) (w : World) (hW : Wr w B L) (hA : AtF w a fs) (hB : ∀ ad, a = some ad → 0 < fs.length → ad.block < B) (hl : heavyF fs ≤ 2097152) (hL : L.length ≤ 2097152) :
    Calls Try.prog 138 #[.pointer (some ⟨B, 0, none⟩), .slice a fs.length cap, .int .i64 1472] w fun e w' =>
      e = .returned (.tuple #[]) ∧ Kept B w w' ∧ ∃ M, Wr w' B M ∧ M.length ≤ 8388608 ∧ (M = L ++ flds8 fs ∨ (1472 < M.length ∧ 1472 < (L ++ flds8 fs).length)) := by
  have HA := hide hA
  have HB := hide hB
  have hBl := hW.lt
  have hlen : fs.length ≤ heavyF fs := by unfold heavyF; omega
  have HW := hide hW
  clear hA hB hW
  go_enter Try.func138, Try.ntmps138
  go_wp2
  go_loopw [10] (fun i wr => ∃ k : Nat, k ≤ fs.length ∧ i = .int .i64 k ∧ Hid (Wr wr B (L ++ flds8 (fs.take k))) ∧ Hid (Kept B w wr)) (fun i _ => fs.length - (intOf i).toNat)
  case atStart => exact ⟨0, Nat.zero_le _, rfl, hide (by simpa [flds8] using unhide HW), hide (Kept.refl _ _)⟩
  case round =>
    obtain ⟨k, hk, rfl, H1, H2⟩ := hrel
    rename World => wr
    obtain ⟨v, hv, hown⟩ := unhide H1
    obtain ⟨ao, cp, hv'⟩ := own_len hown
    have hB2 := lt_of_block hv
    have hc := cell_of_one hv
    rw [hv'] at hc
    have hMl : (L ++ flds8 (fs.take k)).length ≤ 6291456 := by
      have h1 := flds8_le fs k
      have h2 := flds8_heavy fs
      rw [List.length_append]; omega
    by_cases hlt : k < fs.length
    · obtain ⟨ad, rfl, c0, c1⟩ := (unhide HA).lower (unhide H2).below (unhide HB) k hlt
      have hlt' : (k : Int) < (fs.length : Int) := by omega
      obtain ⟨n, x, hnx⟩ : ∃ n x, fs[k] = (n, x) := ⟨_, _, rfl⟩
      rw [hnx] at c0 c1
      have hd : n.length + x.length ≤ 2097152 := by have := heavyF_one fs k hlt; rw [hnx] at this; simp only at this; omega
      have HT := hide (flds8_take fs k hlt)
      rw [hnx] at HT
      obtain ⟨X, hX⟩ : ∃ X, L ++ flds8 (fs.take k) = X := ⟨_, rfl⟩
      rw [hX] at hc hMl
      have HX := hide hX
      have H1' : Hid (Wr wr B X) := hide (by rw [← unhide HX]; exact unhide H1)
      obtain ⟨ns, hns⟩ : ∃ s : ByteArray, s = ⟨n.toArray⟩ := ⟨_, rfl⟩
      obtain ⟨xs, hxs⟩ : ∃ s : ByteArray, s = ⟨x.toArray⟩ := ⟨_, rfl⟩
      have hnz : ns.size = n.length := by rw [hns, str_size]
      have hxz : xs.size = x.length := by rw [hxs, str_size]
      rw [← hns] at c0
      rw [← hxs] at c1
      have HF : Hid (ns.data.toList ++ [0] ++ (xs.data.toList ++ [0]) = fd8 (n, x)) := hide (by rw [hns, hxs]; rfl)
      have HP := hide (fun (u : World) (hu : Wr u B X) (b : Nat) (hb : b = u.heap.size) => ended_two B b ns xs X u hu hb (by omega))
      clear hv hown hv' hX hnx v H1 hns hxs hnz hxz
      by_cases hbig : 1472 < X.length
      · have hgt : (1472 : Int) < (X.length : Int) := by omega
        go_wp2
        go_end0
        refine ⟨rfl, (unhide H2).trans ((Kept.refl B wr).alloc (by omega) _), X, (unhide H1').alloc _, by omega, Or.inr ⟨hbig, ?_⟩⟩
        have h1 := flds8_le fs k
        rw [← unhide HX, List.length_append] at hbig
        simp only [List.length_append]; omega
      · have hgt : ¬ (1472 : Int) < (X.length : Int) := by omega
        go_wp2_with fail
        refine (unhide HP _ ((unhide H1').alloc _) _ (by simp)).mono ?_
        rintro e u ⟨rfl, k1, q1⟩
        have K1 := hide k1
        have Q1 := hide q1
        clear k1 q1
        go_wp2
        go_roundw
        case rel => exact ⟨k + 1, by omega, by go_num, hide (by rw [unhide HT, ← List.append_assoc, unhide HX, ← unhide HF]; exact unhide K1), hide ((unhide H2).trans (((Kept.refl B wr).alloc (by omega) _).trans (unhide Q1)))⟩
        case measure => simp [intOf]; omega
    · have e : k = fs.length := by omega
      subst e
      rw [List.take_length] at hMl
      have h1' := unhide H1
      rw [List.take_length] at h1'
      have HE := hide h1'
      clear hv hown hv' hc v h1'
      go_wp2
      go_end0
      exact ⟨rfl, unhide H2, _, unhide HE, by omega, Or.inl rfl⟩
end Go.Proofs.Ytadkcdcdgphhpaa.Tf

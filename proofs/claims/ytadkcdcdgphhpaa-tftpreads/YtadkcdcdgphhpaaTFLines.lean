import Derived.Test.YtadkcdcdgphhpaaTFReadF
import Derived.Test.YtadkcdcdgphhpaaTFRef
namespace Go.Proofs.Ytadkcdcdgphhpaa.Tf
open Go.ChangeShapes Go.WideShapes Go.ChangeAt Go.RowKit Bs
open Go.Sort (Holds)
set_option linter.unusedVariables false
set_option linter.unusedSimpArgs false

theorem encS_one (L : List (List UInt8)) : ∀ u ∈ L.map encStr, u.oneCell' = true := by
  intro u hu
  simp only [List.mem_map] at hu
  obtain ⟨x, _, rfl⟩ := hu
  rfl
theorem extract_mid (s : ByteArray) (l : List UInt8) (hsl : s.data.toList = l) (f i : Nat) (hi : i ≤ l.length) : s.extract f i = ⟨((l.drop f).take (i - f)).toArray⟩ := by
  apply ByteArray.ext
  rw [ByteArray.data_extract]
  apply Array.ext'
  rw [Array.toList_extract, hsl]
/-- where the lines of a text are, i bytes looked at, the last line's beginning f -/
def LineI (l : List UInt8) (f i : Nat) (L : List (List UInt8)) : Prop :=
  f ≤ i ∧ (0 : UInt8) ∉ (l.drop f).take (i - f) ∧ linesL l = L ++ linesL (l.drop f) ∧ endedB l = endedB (l.drop f)
theorem LineI.start (l : List UInt8) : LineI l 0 0 [] := ⟨Nat.le_refl _, by simp, by simp, by simp⟩
theorem drop_split (l : List UInt8) (f i : Nat) (hf : f ≤ i) (hi : i < l.length) : l.drop f = (l.drop f).take (i - f) ++ l.getD i 0 :: l.drop (i + 1) := by
  have h1 : l.drop f = (l.drop f).take (i - f) ++ (l.drop f).drop (i - f) := (List.take_append_drop _ _).symm
  rw [List.drop_drop, show f + (i - f) = i by omega, List.drop_eq_getElem_cons hi] at h1
  rw [List.getD_eq_getElem?_getD, List.getElem?_eq_getElem hi]
  exact h1
theorem LineI.zero {l : List UInt8} {f i : Nat} {L : List (List UInt8)} (h : LineI l f i L) (hi : i < l.length) (h0 : l.getD i 0 = 0) : LineI l (i + 1) (i + 1) (L ++ [(l.drop f).take (i - f)]) := by
  obtain ⟨h1, h2, h3, h4⟩ := h
  have hc : cut (l.drop f) = some ((l.drop f).take (i - f), l.drop (i + 1)) := by
    have e := drop_split l f i h1 hi
    rw [h0] at e
    generalize (l.drop f).take (i - f) = x at *
    rw [e]
    exact cut_mk _ _ h2
  refine ⟨Nat.le_refl _, by simp, ?_, ?_⟩
  · rw [h3, linesL_some hc]; simp
  · rw [h4, endedB_some hc]
theorem LineI.other {l : List UInt8} {f i : Nat} {L : List (List UInt8)} (h : LineI l f i L) (hi : i < l.length) (h0 : l.getD i 0 ≠ 0) : LineI l f (i + 1) L := by
  obtain ⟨h1, h2, h3, h4⟩ := h
  refine ⟨by omega, ?_, h3, h4⟩
  have hl : i - f < (l.drop f).length := by rw [List.length_drop]; omega
  rw [show i + 1 - f = (i - f) + 1 by omega, List.take_succ_eq_append_getElem hl, List.mem_append]
  rintro (h | h)
  · exact h2 h
  · simp only [List.mem_cons, List.not_mem_nil, or_false, List.getElem_drop] at h
    apply h0
    rw [List.getD_eq_getElem?_getD, List.getElem?_eq_getElem hi]
    simp only [show f + (i - f) = i by omega] at h
    simpa using h.symm
theorem LineI.fin {l : List UInt8} {f : Nat} {L : List (List UInt8)} (h : LineI l f l.length L) : linesL l = L ∧ endedB l = decide (f = l.length) := by
  obtain ⟨h1, h2, h3, h4⟩ := h
  rw [List.take_of_length_le (by simp)] at h2
  have hc := cut_none.2 h2
  rw [linesL_none hc] at h3
  rw [endedB_none hc] at h4
  refine ⟨by simpa using h3, ?_⟩
  rw [h4, Bool.eq_iff_iff, decide_eq_true_iff, List.isEmpty_iff_length_eq_zero, List.length_drop]
  omega

set_option maxHeartbeats 1000000 in
theorem lines_any (s : ByteArray) (l : List UInt8) (w : World) (hsl : s.data.toList = l) (hl : l.length ≤ 1048576) :
    Calls Try.prog 65 #[.string s] w fun e w' => ∃ v, e = .returned (.tuple #[v, .bool (endedB l)]) ∧ w'.ownsRow w.heap.size 9 1 v (linesL l).length ((linesL l).map encStr) ∧ Below w.heap.size w w' := by
  obtain ⟨i0, hi, hz0, hz1, hz2⟩ := info_parts infoS
  have hz : s.size = l.length := by rw [← hsl, Array.length_toList]; rfl
  have HIX := hide (fun k hk u => idx_get s l hsl k hk u)
  have HEX := hide (fun f i hi => extract_mid s l hsl f i hi)
  clear hsl
  go_enter Try.func65, Try.ntmps65
  go_wp2
  go_loopw [4, 5, 6] (fun v4 f i wr => ∃ (k g : Nat) (L : List (List UInt8)), k ≤ l.length ∧ g ≤ k ∧ L.length ≤ k ∧ i = .int .i64 k ∧ f = .int .i64 g ∧ Hid (LineI l g k L) ∧ Hid (wr.ownsRow w.heap.size 9 1 v4 L.length (L.map encStr)) ∧ Hid (Below w.heap.size w wr)) (fun _ _ i _ => l.length - (intOf i).toNat)
  case atStart => exact ⟨0, 0, [], Nat.zero_le _, Nat.le_refl _, by simp, rfl, rfl, hide (LineI.start l), hide (World.ownsRow_nil _ _ _ _), hide (Below.refl _ _)⟩
  case round =>
    obtain ⟨k, g, L, hk, hgk, hLk, rfl, rfl, HI, HO, HW⟩ := hrel
    rename World => wr
    have hwz := (unhide HW).size
    by_cases hlt : k < l.length
    · have x0 := unhide HIX k hlt
      have hlt' : (k : Int) < (l.length : Int) := by omega
      have HZ := hide (fun h => LineI.zero (unhide HI) hlt h)
      have HN := hide (fun h => LineI.other (unhide HI) hlt h)
      obtain ⟨c, hc⟩ : ∃ c, c = l.getD k 0 := ⟨_, rfl⟩
      rw [← hc] at x0 HZ HN
      clear hc
      by_cases hc0 : c = 0
      · subst hc0
        have x1 : ∀ u, (Instr.index 9 (.string s) (.int .i64 (k : Int))).run Try.prog u = .ok (.int .u8 0) u := x0
        have HI2 := hide (unhide HZ rfl)
        have hex := unhide HEX g k hk
        obtain ⟨sx, hsx⟩ : ∃ sx : ByteArray, sx = ⟨((l.drop g).take (k - g)).toArray⟩ := ⟨_, rfl⟩
        rw [← hsx] at hex
        have HSX : Hid ([Value.string sx] = [(l.drop g).take (k - g)].map encStr) := hide (by rw [hsx]; rfl)
        have hg0 : (0 : Int) ≤ (g : Int) := by omega
        have hgk' : (g : Int) ≤ (k : Int) := by omega
        have hks : (k : Int) ≤ (s.size : Int) := by omega
        obtain ⟨a4, n4, c4, hv4⟩ := Wt.own_shape (unhide HO)
        clear x0 HZ HN hsx
        subst hv4
        go_wp2_with (at_builtin; refine wpList_append_own _ rfl (.tmp 17) (.tmp 22) 90 rfl w.heap.size 9 i0 (.string ⟨#[]⟩) 1 16 Try.underlying90 hi hz0 hz1 hz2 rfl (by decide) _ L.length (L.map encStr) rfl ((unhide HO).alloc _) ⟨wr.heap.size, 0, none⟩ 1 1 [.string sx] ?ad rfl ?c1 ?one ?h63 ?hby ?hba ?_)
        case ad => rfl
        case c1 => exact cell_new wr [.string sx] 9
        case one => intro u hu; simp at hu; subst hu; rfl
        case h63 => simp only [maxLen]; omega
        case hby => omega
        case hba => simp; omega
        intro v' w2 hown hg2 _
        have hB2 : Below w.heap.size w w2 := ((unhide HW).alloc hwz _).grown hg2 (by simp; omega) (fun k hk => ((unhide HO).lt k hk).1)
        have hO2 : w2.ownsRow w.heap.size 9 1 v' (L ++ [(l.drop g).take (k - g)]).length ((L ++ [(l.drop g).take (k - g)]).map encStr) := by
          rw [List.length_append, List.map_append, ← unhide HSX]; exact hown
        obtain ⟨ao, cp, hv'⟩ := own_slice hO2
        have HB2 := hide hB2
        have HO2 := hide hO2
        clear hown hg2 hB2 hO2 HO HW x1 hex
        subst hv'
        go_wp2
        go_roundw
        case rel => exact ⟨k + 1, k + 1, L ++ [(l.drop g).take (k - g)], by omega, Nat.le_refl _, by rw [List.length_append]; simp; omega, by go_num, by go_num, HI2, HO2, HB2⟩
        case measure => simp [intOf]; omega
      · have hq : (((c.toNat : Nat) : Int) == 0) = false := by
          have : c.toNat ≠ 0 := fun h => hc0 (UInt8.toNat_inj.1 h)
          simp; omega
        have HI2 := hide (unhide HN hc0)
        clear HZ HN hc0
        go_wp2
        go_roundw
        case rel => exact ⟨k + 1, g, L, by omega, by omega, by omega, by go_num, rfl, HI2, HO, HW⟩
        case measure => simp [intOf]; omega
    · have hlt' : ¬ (k : Int) < (l.length : Int) := by omega
      have e : k = l.length := by omega
      obtain ⟨f1, f2⟩ := LineI.fin (l := l) (f := g) (L := L) (by rw [← e]; exact unhide HI)
      have HF1 := hide f1
      have HF2 : Hid (endedB l = ((g : Int) == (l.length : Int))) := hide (by
        rw [f2, Bool.eq_iff_iff, decide_eq_true_iff, beq_iff_eq]; omega)
      obtain ⟨ao, cp, hv4⟩ := own_slice (unhide HO)
      clear e f1 f2
      subst hv4
      go_wp2
      go_ret2
      refine ⟨_, ?_, by rw [unhide HF1]; exact unhide HO, unhide HW⟩
      rw [unhide HF2]
      rfl
end Go.Proofs.Ytadkcdcdgphhpaa.Tf

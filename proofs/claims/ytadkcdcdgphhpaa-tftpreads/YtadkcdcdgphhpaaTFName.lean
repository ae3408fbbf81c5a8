import Derived.Test.YtadkcdcdgphhpaaWriterAt
import Derived.Test.YtadkcdcdgphhpaaTFSpec
import Derived.Test.YtadkcdcdgphhpaaShelf
namespace Go.Proofs.Ytadkcdcdgphhpaa.Tf
open Go.ChangeShapes Go.WideShapes Go.ChangeAt Go.RowKit Bs
set_option linter.unusedVariables false
set_option linter.unusedSimpArgs false

theorem str_size (l : List UInt8) : (⟨l.toArray⟩ : ByteArray).size = l.length := by show l.toArray.size = _; simp
theorem str_of {s : ByteArray} {l : List UInt8} (h : s.data.toList = l) : s = ⟨l.toArray⟩ := by rw [← h]
/-- index of a text, byte by byte -/
theorem idx_get (s : ByteArray) (l : List UInt8) (hsl : s.data.toList = l) (k : Nat) (hk : k < l.length) (u : World) : (Instr.index 9 (.string s) (.int .i64 (k : Int))).run Try.prog u = .ok (.int .u8 (l.getD k 0).toNat) u := by
  have hz : s.size = l.length := by rw [← hsl, Array.length_toList]; rfl
  have h2 : (k : Int) < (s.size : Int) := by omega
  have hk' : k < s.size := by omega
  have h3 : s[k] = l.getD k 0 := by
    have hk2 : k < s.data.size := hk'
    have q : s.data[k]? = l[k]? := by rw [← hsl, Array.getElem?_toList]
    rw [Array.getElem?_eq_getElem hk2, List.getElem?_eq_getElem hk] at q
    rw [List.getD_eq_getElem?_getD, List.getElem?_eq_getElem hk]
    exact Option.some.inj q
  simp [Instr.index, run_underlying Try.underlying9, asIntOf, h2, hk', go_sem, h3]
theorem all_take {l : List UInt8} {k : Nat} (h : k < l.length) (h0 : (l.take k).all okC = true) (h1 : okC (l.getD k 0) = true) : (l.take (k + 1)).all okC = true := by
  rw [List.take_succ_eq_append_getElem h, List.all_append, h0]
  rw [List.getD_eq_getElem?_getD, List.getElem?_eq_getElem h] at h1
  simpa using h1
theorem all_bad {l : List UInt8} {k : Nat} (h : k < l.length) (h1 : okC (l.getD k 0) = false) : nameB l = false := by
  rw [List.getD_eq_getElem?_getD, List.getElem?_eq_getElem h] at h1
  unfold nameB
  have : l.all okC = false := by
    rw [← Bool.not_eq_true, List.all_eq_true]
    intro hh
    have := hh l[k] (List.getElem_mem h)
    simp at h1
    rw [h1] at this; cases this
  rw [this, Bool.and_false]
theorem empty_str (s : ByteArray) (l : List UInt8) (hsl : s.data.toList = l) : s.toList.isEmpty = l.isEmpty := by rw [ByteArray.toList_eq, hsl]

set_option maxHeartbeats 1000000 in
theorem isName_any (s : ByteArray) (l : List UInt8) (w : World) (hsl : s.data.toList = l) (hl : l.length ≤ 9223372036854775807) :
    Calls Try.prog 132 #[.string s] w fun e w' => e = .returned (.bool (nameB l)) ∧ w' = w := by
  have hz : s.size = l.length := by rw [← hsl, Array.length_toList]; rfl
  have hie := empty_str s l hsl
  have HIX := hide (fun k hk u => idx_get s l hsl k hk u)
  have HZ := hide hz
  clear hsl hz
  go_enter Try.func132, Try.ntmps132
  go_wp2
  go_loop [6] (fun i => ∃ k : Nat, k ≤ l.length ∧ i = .int .i64 k ∧ Hid ((l.take k).all okC = true)) (fun i => l.length - (intOf i).toNat)
  case atStart => exact ⟨0, Nat.zero_le _, rfl, hide rfl⟩
  case round =>
    obtain ⟨k, hk, rfl, HA⟩ := hrel
    have hz := unhide HZ
    by_cases hlt : k < l.length
    · have x0 := unhide HIX k hlt
      have hlt' : (k : Int) < (s.size : Int) := by omega
      have l0 := (l.getD k 0).toNat_lt
      have hcd : okC (l.getD k 0) = decide (33 ≤ (l.getD k 0).toNat ∧ (l.getD k 0).toNat ≤ 126) := rfl
      have HBAD := hide (fun h => all_bad (l := l) hlt h)
      have HOK := hide (fun h => all_take (l := l) hlt (unhide HA) h)
      obtain ⟨c, hc⟩ : ∃ c, c = l.getD k 0 := ⟨_, rfl⟩
      rw [← hc] at x0 l0 hcd HBAD HOK
      obtain ⟨y, hy⟩ : ∃ y : Nat, y = c.toNat := ⟨_, rfl⟩
      rw [← hy] at x0 l0 hcd
      have HC := hide hcd
      clear hc hcd hz
      by_cases h33 : y < 33
      · have g0 : (y : Int) < 33 := by omega
        have HN : Hid (nameB l = false) := hide (unhide HBAD (by rw [unhide HC, decide_eq_false_iff_not]; omega))
        clear HBAD HOK hy
        go_wp2
        go_ret
        exact ⟨by rw [unhide HN]; rfl, rfl⟩
      · have g0 : ¬ (y : Int) < 33 := by omega
        by_cases h126 : 126 < y
        · have g1 : (126 : Int) < (y : Int) := by omega
          have HN : Hid (nameB l = false) := hide (unhide HBAD (by rw [unhide HC, decide_eq_false_iff_not]; omega))
          clear HBAD HOK hy
          go_wp2
          go_ret
          exact ⟨by rw [unhide HN]; rfl, rfl⟩
        · have g1 : ¬ (126 : Int) < (y : Int) := by omega
          have HN : Hid ((l.take (k + 1)).all okC = true) := hide (unhide HOK (by rw [unhide HC, decide_eq_true_eq]; omega))
          clear HBAD HOK hy
          go_wp2
          go_round
          case rel => exact ⟨k + 1, by omega, by go_num, HN⟩
          case measure => simp [intOf]; omega
    · have hlt' : ¬ (k : Int) < (s.size : Int) := by omega
      have HN : Hid (nameB l = !l.isEmpty) := hide (by
        have q := unhide HA
        rw [List.take_of_length_le (by omega)] at q
        unfold nameB; rw [q, Bool.and_true])
      clear hz
      go_wp2
      go_ret
      exact ⟨by rw [unhide HN]; rfl, rfl⟩

/-- bytes that lie in a block and may be written -/
def Bt (w : World) (g : Nat) (L : List UInt8) : Prop :=
  ∃ cur t fz, w.heap[g]? = some (.cells cur t fz) ∧ (L.length ≤ fz.1 ∨ fz.2 = 0) ∧ ∀ j (h : j < L.length), cur[j]? = some (.int .u8 L[j].toNat)
theorem Bt.cell {w : World} {g : Nat} {L : List UInt8} (h : Bt w g L) (j : Nat) (hj : j < L.length) : w.cell? ⟨g, j, none⟩ = some (.int .u8 (L.getD j 0).toNat) := by
  obtain ⟨cur, t, fz, hg, _, hc⟩ := h
  rw [cell_of_row w g j _ _ _ hg, hc j hj, List.getD_eq_getElem?_getD, List.getElem?_eq_getElem hj]; rfl
theorem Bt.free {w : World} {g : Nat} {L : List UInt8} (h : Bt w g L) (j : Nat) (hj : j < L.length) : w.frozen? ⟨g, j, none⟩ = false := by
  obtain ⟨cur, t, fz, hg, hf, hc⟩ := h
  obtain ⟨lo, hi⟩ := fz
  simp only [World.frozen?, hg, Bool.and_eq_false_iff, decide_eq_false_iff_not]
  simp only at hf
  omega
theorem Bt.set {w : World} {g : Nat} {L : List UInt8} (h : Bt w g L) (j : Nat) (hj : j < L.length) (x : UInt8) : Bt (w.setCell ⟨g, j, none⟩ (.int .u8 x.toNat)) g (L.set j x) := by
  obtain ⟨cur, t, fz, hg, hf, hc⟩ := h
  refine ⟨cur.setIfInBounds j (.int .u8 x.toNat), t, fz, ?_, by rw [List.length_set]; exact hf, fun i hi => ?_⟩
  · rw [setCell_eq_setRow w g j cur t fz _ hg]; exact setRow_heap w g cur _ t _ hg
  · rw [List.length_set] at hi
    have hz : j < cur.size := (Array.getElem?_eq_some_iff.1 (hc j hj)).1
    rw [Array.getElem?_setIfInBounds]
    by_cases e : j = i
    · subst e
      rw [if_pos rfl, if_pos hz, List.getElem_set_self]
    · rw [if_neg e, hc i hi, List.getElem_set_ne e]
theorem Bt.new (w : World) (s : ByteArray) (l : List UInt8) (hsl : s.data.toList = l) : Bt (w.drew.alloc (.cells (bytesRow s (grownCap w s.size 0 5)) 5 ((bytesRow s (grownCap w s.size 0 5)).size, (bytesRow s (grownCap w s.size 0 5)).size + 1))) w.heap.size l := by
  have hz : s.size = l.length := by rw [← hsl, Array.length_toList]; rfl
  have hge := grownCap_ge w s.size 0 5
  have hrz : (bytesRow s (grownCap w s.size 0 5)).size = grownCap w s.size 0 5 := by
    simp only [bytesRow, Array.size_append, Array.size_map, Array.size_replicate]
    have : s.data.size = s.size := rfl
    omega
  refine ⟨_, _, _, heap_alloc_new w.drew _, Or.inl ?_, fun j hj => ?_⟩
  · show l.length ≤ (bytesRow s (grownCap w s.size 0 5)).size
    rw [hrz]; omega
  · have hj2 : j < s.data.size := by show j < s.size; omega
    rw [bytesRow, Array.getElem?_append_left (by rw [Array.size_map]; exact hj2), Array.getElem?_map, Array.getElem?_eq_getElem hj2]
    subst hsl
    rfl
/-- the first k bytes with small letters -/
def lowTo (l : List UInt8) (k : Nat) : List UInt8 := lowL (l.take k) ++ l.drop k
theorem lowTo_length (l : List UInt8) (k : Nat) : (lowTo l k).length = l.length := by
  unfold lowTo; rw [List.length_append, lowL_length, List.length_take, List.length_drop]; omega
theorem lowTo_get (l : List UInt8) (k : Nat) (h : k < l.length) : (lowTo l k).getD k 0 = l.getD k 0 := by
  unfold lowTo
  rw [List.getD_eq_getElem?_getD, List.getElem?_append_right (by rw [lowL_length, List.length_take]; omega), lowL_length, List.length_take, Nat.min_eq_left (by omega), Nat.sub_self, List.getElem?_drop, Nat.add_zero, List.getD_eq_getElem?_getD]
theorem lowTo_next (l : List UInt8) (k : Nat) (h : k < l.length) : (lowTo l k).set k (lowC (l.getD k 0)) = lowTo l (k + 1) := by
  unfold lowTo
  rw [List.set_append_right _ _ (by rw [lowL_length, List.length_take]; omega), lowL_length, List.length_take, Nat.min_eq_left (by omega), Nat.sub_self, List.take_succ_eq_append_getElem h, List.drop_eq_getElem_cons h, List.set_cons_zero]
  rw [List.getD_eq_getElem?_getD, List.getElem?_eq_getElem h, lowL, lowL, List.map_append, List.append_assoc]
  rfl
theorem lowTo_same (l : List UInt8) (k : Nat) (h : k < l.length) (hc : lowC (l.getD k 0) = l.getD k 0) : lowTo l k = lowTo l (k + 1) := by
  have q := lowTo_next l k h
  rw [hc] at q
  rw [← q]
  have hz : k < (lowTo l k).length := by rw [lowTo_length]; exact h
  have e := lowTo_get l k h
  rw [List.getD_eq_getElem?_getD, List.getElem?_eq_getElem hz] at e
  simp only [Option.getD_some] at e
  rw [← e, List.set_getElem_self]
theorem lowTo_zero (l : List UInt8) : lowTo l 0 = l := by simp [lowTo, lowL]
theorem lowTo_all (l : List UInt8) : lowTo l l.length = lowL l := by simp [lowTo]

set_option maxHeartbeats 1000000 in
theorem small_any (s : ByteArray) (l : List UInt8) (w : World) (hsl : s.data.toList = l) (hl : l.length ≤ 1099511627776) :
    Calls Try.prog 147 #[.string s] w fun e w' => e = .returned (.string ⟨(lowL l).toArray⟩) ∧ Below w.heap.size w w' := by
  have hz : s.size = l.length := by rw [← hsl, Array.length_toList]; rfl
  have hcv := fun (w : World) => run_bytes_of_string (P := Try.prog) w 9 80 5 s Try.underlying9 Try.underlying80 Try.underlying5
  have HB0 := hide (Bt.new w s l hsl)
  have HZ := hide hz
  clear hsl
  go_enter Try.func147, Try.ntmps147
  rw [hz] at HB0
  go_wp2
  go_loopw [10] (fun i wr => ∃ k : Nat, k ≤ l.length ∧ i = .int .i64 k ∧ Hid (Bt wr w.heap.size (lowTo l k)) ∧ Hid (Below w.heap.size w wr)) (fun i _ => l.length - (intOf i).toNat)
  case atStart => exact ⟨0, Nat.zero_le _, rfl, hide (by rw [lowTo_zero]; exact unhide HB0), hide (((Below.refl _ w).alloc (Nat.le_refl _) _).drew)⟩
  case round =>
    obtain ⟨k, hk, rfl, HB, HW⟩ := hrel
    rename World => wr
    by_cases hlt : k < l.length
    · have c0 := (unhide HB).cell k (by rw [lowTo_length]; exact hlt)
      have f0 := (unhide HB).free k (by rw [lowTo_length]; exact hlt)
      rw [lowTo_get l k hlt] at c0
      have HS := hide (fun x => (unhide HB).set k (by rw [lowTo_length]; exact hlt) x)
      have hlt' : (k : Int) < (l.length : Int) := by omega
      have HN := hide (lowTo_next l k hlt)
      have HM := hide (lowTo_same l k hlt)
      have hlc := lowC_nat (l.getD k 0)
      obtain ⟨c, hc⟩ : ∃ c, c = l.getD k 0 := ⟨_, rfl⟩
      rw [← hc] at c0 HN HM hlc
      have l0 := c.toNat_lt
      obtain ⟨y, hy⟩ : ∃ y : Nat, y = c.toNat := ⟨_, rfl⟩
      rw [← hy] at c0 l0 hlc
      have HLC := hide hlc
      have HY := hide hy
      clear hc hy hlc
      by_cases hup : 65 ≤ y ∧ y ≤ 90
      · obtain ⟨g0, g1⟩ := hup
        have g0' : (65 : Int) ≤ (y : Int) := by omega
        have g1' : (y : Int) ≤ 90 := by omega
        have q1 : IntKind.u8.wrap ((y : Int) - 65) = (y : Int) - 65 := by rw [IntKind.wrap_u8]; omega
        have q2 : IntKind.u8.wrap ((y : Int) - 65 + 97) = ((lowC c).toNat : Int) := by rw [IntKind.wrap_u8, unhide HLC, if_pos ⟨g0, g1⟩]; omega
        go_wp2
        go_roundw
        case rel => exact ⟨k + 1, by omega, by go_num, hide (by rw [← unhide HN]; exact unhide HS _), hide ((unhide HW).setCell (Nat.le_refl _) _)⟩
        case measure => simp [intOf]; omega
      · have HE : Hid (lowTo l k = lowTo l (k + 1)) := hide (unhide HM (by
          apply UInt8.toNat_inj.1
          rw [unhide HLC, if_neg hup, unhide HY]))
        by_cases g0 : 65 ≤ y
        · have g0' : (65 : Int) ≤ (y : Int) := by omega
          have g1' : ¬ (y : Int) ≤ 90 := by omega
          clear hup
          go_wp2
          go_roundw
          case rel => exact ⟨k + 1, by omega, by go_num, hide (by rw [← unhide HE]; exact unhide HB), HW⟩
          case measure => simp [intOf]; omega
        · have g0' : ¬ (65 : Int) ≤ (y : Int) := by omega
          clear hup
          go_wp2
          go_roundw
          case rel => exact ⟨k + 1, by omega, by go_num, hide (by rw [← unhide HE]; exact unhide HB), HW⟩
          case measure => simp [intOf]; omega
    · have e : k = l.length := by omega
      have HF : Hid (Bt wr w.heap.size (lowL l)) := hide (by rw [← lowTo_all, ← e]; exact unhide HB)
      have hlt' : ¬ (k : Int) < (l.length : Int) := by omega
      have hcb := run_convert_bytes_back (P := Try.prog) wr 80 9 5 ⟨w.heap.size, 0, none⟩ (grownCap w l.length 0 5) (lowL l) Try.underlying80 Try.underlying5 Try.underlying9 (fun j hj => by
        rw [add_lit', (unhide HF).cell j hj, List.getD_eq_getElem?_getD, List.getElem?_eq_getElem hj]; rfl)
      rw [lowL_length] at hcb
      clear e hcv
      go_wp2
      go_ret
      exact ⟨rfl, unhide HW⟩
end Go.Proofs.Ytadkcdcdgphhpaa.Tf

import Derived.Test.YtoifihhmneldeaaGreatDoorBase
namespace Go.Proofs.YtoifihhmneldeaaGreatDoor.Wt
open Go.ChangeShapes Go.WideShapes Go.ChangeAt Go.RowKit Bs
set_option linter.unusedVariables false

/-- a writer: its one cell lies in block B and owns the bytes L -/
def Wr (w : World) (B : Nat) (L : List UInt8) : Prop :=
  ∃ v, w.heap[B]? = some (.cells #[v] 73 (0, 0)) ∧ w.ownsRow (B + 1) 5 1 v L.length (cells8 L)

/-- what a writer's method leaves as it was -/
structure Kept (B : Nat) (w w' : World) : Prop where
  below : Below B w w'
  others : ∀ k cs t z, B < k → w.heap[k]? = some (.cells cs t z) → t ≠ 5 → w'.heap[k]? = some (.cells cs t z)

theorem Kept.refl (B : Nat) (w : World) : Kept B w w := ⟨Below.refl _ _, fun _ _ _ _ _ h _ => h⟩
theorem Kept.trans {B : Nat} {a b c : World} (h : Kept B a b) (k : Kept B b c) : Kept B a c :=
  ⟨h.below.trans k.below, fun i cs t z hi h0 ht => k.others i cs t z hi (h.others i cs t z hi h0 ht) ht⟩
theorem Kept.alloc {B : Nat} {a w : World} (h : Kept B a w) (hB : B ≤ w.heap.size) (o : Obj) : Kept B a (w.alloc o) :=
  ⟨h.below.alloc hB o, fun i cs t z hi h0 ht => by
    have h1 := h.others i cs t z hi h0 ht
    rw [Below.heap_alloc _ _ _ (lt_of_block h1)]; exact h1⟩
theorem Kept.drew {B : Nat} {a w : World} (h : Kept B a w) : Kept B a w.drew := ⟨h.below.drew, h.others⟩
theorem Wr.alloc {w : World} {B : Nat} {L : List UInt8} (h : Wr w B L) (o : Obj) : Wr (w.alloc o) B L := by
  obtain ⟨v, hv, hown⟩ := h
  exact ⟨v, by rw [Below.heap_alloc _ _ _ (lt_of_block hv)]; exact hv, hown.alloc o⟩
theorem Wr.lt {w : World} {B : Nat} {L : List UInt8} (h : Wr w B L) : B < w.heap.size := by
  obtain ⟨v, hv, _⟩ := h
  exact lt_of_block hv

/-- behind an append (the world w1) and the store of what it gave -/
theorem step {w w1 : World} {B : Nat} {v v' : Value} {L N : List UInt8} (hv : w.heap[B]? = some (.cells #[v] 73 (0, 0)))
    (hown : w.ownsRow (B + 1) 5 1 v L.length (cells8 L)) (hown' : w1.ownsRow (B + 1) 5 1 v' (L.length + N.length) (cells8 L ++ cells8 N)) (hg : w.grownBy w1 v.ownBlock) :
    Wr (w1.setCell ⟨B, 0, none⟩ v') B (L ++ N) ∧ Kept B w (w1.setCell ⟨B, 0, none⟩ v') := by
  have hlt := lt_of_block hv
  have hne : some B ≠ v.ownBlock := fun e => by have := hown.lt B e.symm; omega
  have hB1 : w1.heap[B]? = some (.cells #[v] 73 (0, 0)) := (hg.block B hlt hne).trans hv
  refine ⟨⟨v', one_setCell hB1, ?_⟩, ?_, ?_⟩
  · have h := ownsRow_setCell_below (a := ⟨B, 0, none⟩) hown' (by simp) v'
    rw [List.length_append, cells8_append]
    exact h
  · exact ((Below.refl B w).grown hg (by omega) (fun k hk => by have := hown.lt k hk; omega)).setCell (Nat.le_refl _) _
  · intro k cs t z hk h0 ht
    have hkl := lt_of_block h0
    rw [Below.heap_setCell _ _ _ _ (by simp; omega), hg.block k hkl ?_]
    · exact h0
    · intro e
      rcases hown.2 with ⟨rfl, _⟩ | ⟨g, cap, cur, rfl, _, hgg, _⟩
      · simp [Value.ownBlock] at e
      · simp [Value.ownBlock] at e
        subst e
        rw [h0] at hgg
        simp at hgg
        exact ht hgg.2.1
/-- the cell behind the append alone -/
theorem mid {w w1 : World} {B : Nat} {v : Value} {L : List UInt8} (hv : w.heap[B]? = some (.cells #[v] 73 (0, 0)))
    (hown : w.ownsRow (B + 1) 5 1 v L.length (cells8 L)) (hg : w.grownBy w1 v.ownBlock) : w1.heap[B]? = some (.cells #[v] 73 (0, 0)) :=
  (hg.block B (lt_of_block hv) (fun e => by have := hown.lt B e.symm; omega)).trans hv

theorem own_shape {w : World} {b e z : Nat} {v : Value} {n : Nat} {xs : List Value} (h : w.ownsRow b e z v n xs) : ∃ ao m cp, v = .slice ao m cp := by
  rcases h.2 with ⟨rfl, _⟩ | ⟨g, cap, cur, rfl, _⟩
  · exact ⟨_, _, _, rfl⟩
  · exact ⟨_, _, _, rfl⟩

theorem own_len {w : World} {b e z : Nat} {v : Value} {n : Nat} {xs : List Value} (h : w.ownsRow b e z v n xs) : ∃ ao cp, v = .slice ao n cp := by
  rcases h.2 with ⟨rfl, rfl⟩ | ⟨g, cap, cur, rfl, _⟩
  · exact ⟨_, _, rfl⟩
  · exact ⟨_, _, rfl⟩

/-- all that the walk wants behind an append -/
theorem step_all {w w1 : World} {B : Nat} {v v' : Value} {L N : List UInt8} {M : Nat} (hv : w.heap[B]? = some (.cells #[v] 73 (0, 0)))
    (hown : w.ownsRow (B + 1) 5 1 v L.length (cells8 L)) (hown' : w1.ownsRow (B + 1) 5 1 v' M (cells8 L ++ cells8 N)) (hM : M = L.length + N.length) (hg : w.grownBy w1 v.ownBlock) :
    (∃ ao m cp, v' = .slice ao m cp) ∧ w1.cell? ⟨B, 0, none⟩ = some v ∧ w1.frozen? ⟨B, 0, none⟩ = false ∧ Hid (Wr (w1.setCell ⟨B, 0, none⟩ v') B (L ++ N)) ∧ Hid (Kept B w (w1.setCell ⟨B, 0, none⟩ v')) := by
  subst hM
  have hm := mid hv hown hg
  obtain ⟨s1, s2⟩ := step hv hown hown' hg
  exact ⟨own_shape hown', cell_of_one hm, free_of_one hm, s1, s2⟩

def flat (ss : List ByteArray) : List UInt8 := ss.flatMap fun s => s.data.toList
theorem flat_take (ss : List ByteArray) (k : Nat) (h : k < ss.length) : flat (ss.take (k + 1)) = flat (ss.take k) ++ ss[k].data.toList := by
  rw [flat, List.take_succ_eq_append_getElem h, List.flatMap_append]
  simp [flat]
theorem flat_take_le (ss : List ByteArray) (k : Nat) : (flat (ss.take k)).length ≤ (flat ss).length := by
  have e : flat ss = flat (ss.take k) ++ flat (ss.drop k) := by
    rw [flat, flat, flat, ← List.flatMap_append, List.take_append_drop]
  rw [e, List.length_append]; omega

set_option maxHeartbeats 1000000 in
theorem texts_any (B bs cap : Nat) (ss : List ByteArray) (L : List UInt8) (w : World) (hW : Wr w B L) (hb : B < bs)
    (hsrc : w.heap[bs]? = some (.cells (ss.map Value.string).toArray 9 (0, 0))) (hsz : L.length + (flat ss).length ≤ 1099511627776) (hn : ss.length ≤ 1099511627776) :
    Calls Tryz.prog 31 #[.pointer (some ⟨B, 0, none⟩), .slice (some ⟨bs, 0, none⟩) ss.length cap] w fun e w' =>
      e = .returned (.tuple #[]) ∧ Wr w' B (L ++ flat ss) ∧ Kept B w w' := by
  obtain ⟨i0, hi, hz0, hz1, hz2⟩ := info_parts info8
  have HS := hide hsrc
  clear hsrc
  go_enter Tryz.func31, Tryz.ntmps31
  go_wp2
  go_loopw [8] (fun i wr => ∃ k : Nat, k ≤ ss.length ∧ i = .int .i64 k ∧ Wr wr B (L ++ flat (ss.take k)) ∧ Kept B w wr) (fun i _ => ss.length - (intOf i).toNat)
  case atStart => exact ⟨0, Nat.zero_le _, rfl, by simpa [flat] using hW, Kept.refl _ _⟩
  case round =>
    obtain ⟨k, hk, rfl, hWr, hK⟩ := hrel
    rename World => wr
    by_cases hlt : k < ss.length
    · obtain ⟨v, hv, hown⟩ := hWr
      have hsr := hK.others _ _ _ _ hb (unhide HS) (by decide)
      have hcs : wr.cell? ⟨bs, k, none⟩ = some (.string ss[k]) := by
        rw [cell_of_row wr bs k _ _ _ hsr]; simp [hlt]
      have hc := cell_of_one hv
      have hf := free_of_one hv
      have HV := hide hv
      have HO := hide hown
      clear hv hown hsr
      have hlen := flat_take_le ss (k + 1)
      have HT := hide (flat_take ss k hlt)
      have hle : (flat (ss.take k)).length + ss[k].size ≤ (flat ss).length := by
        rw [unhide HT, List.length_append, len_str] at hlen; exact hlen
      clear hlen
      have hB := lt_of_block (unhide HV)
      go_wp2_with (at_builtin; refine Lib.wpList_append_own_string _ rfl (.tmp 16) (.tmp 17) 71 9 rfl (B + 1) 5 i0 Tryz.underlying71 Tryz.underlying9 hi hz0 hz1 hz2 v _ _ rfl (unhide HO) ss[k] rfl ?h63 ?hby ?hba ?_)
      case h63 => simp only [List.length_append, maxLen]; omega
      case hby => simp only [List.length_append]; omega
      case hba => omega
      · intro v' w1 hown' hg _
        have hm := mid (unhide HV) (unhide HO) hg
        have hc1 := cell_of_one hm
        have hf1 := free_of_one hm
        obtain ⟨s1, s2⟩ := step (N := ss[k].data.toList) (unhide HV) (unhide HO) (by rw [len_str, List.length_append]; exact hown') hg
        obtain ⟨ao, nn, cp, hv'⟩ := own_shape hown'
        have S1 := hide s1
        have S2 := hide s2
        clear hown' hg hm s1 s2 hc hf hcs
        subst hv'
        go_wp2
        go_roundw
        case rel => exact ⟨k + 1, by omega, by go_num, by rw [unhide HT, ← List.append_assoc]; exact unhide S1, hK.trans (unhide S2)⟩
        case measure => simp [intOf]; omega
    · have e : k = ss.length := by omega
      subst e
      rw [List.take_length] at hWr
      go_wp2
      go_end0
      exact ⟨rfl, hWr, hK⟩
end Go.Proofs.YtoifihhmneldeaaGreatDoor.Wt

import Derived.Test.YtonlmklkikbeiaaGreatDoorMgBase
namespace Go.Proofs.YtonlmklkikbeiaaGreatDoor.Wt
open Go.ChangeShapes Go.WideShapes Go.ChangeAt Go.RowKit Bs
set_option linter.unusedVariables false

/-- a writer: its one cell lies in block B and owns the bytes L -/
def Wr (w : World) (B : Nat) (L : List UInt8) : Prop :=
  ∃ v, w.heap[B]? = some (.cells #[v] 166 (0, 0)) ∧ w.ownsRow (B + 1) 5 1 v L.length (cells8 L)

/-- what a writer's method leaves as it was -/
structure Kept (B : Nat) (w w' : World) : Prop where
  below : Below B w w'
  others : ∀ k cs t z, B < k → w.heap[k]? = some (.cells cs t z) → t ≠ 5 → w'.heap[k]? = some (.cells cs t z)

theorem Kept.refl (B : Nat) (w : World) : Kept B w w := ⟨Below.refl _ _, fun _ _ _ _ _ h _ => h⟩
theorem Kept.trans {B : Nat} {a b c : World} (h : Kept B a b) (k : Kept B b c) : Kept B a c :=
  ⟨h.below.trans k.below, fun i cs t z hi h0 ht => k.others i cs t z hi (h.others i cs t z hi h0 ht) ht⟩
theorem Kept.alloc {B : Nat} {a w : World} (h : Kept B a w) (hB : B ≤ w.heap.size) (o : Obj) : Kept B a (w.alloc o) :=
  ⟨h.below.alloc hB o, fun i cs t z hi h0 ht => by
    have h1 := h.others i cs t z hi h0 ht
    rw [Below.heap_alloc _ _ _ (lt_of_block h1)]; exact h1⟩
theorem Kept.drew {B : Nat} {a w : World} (h : Kept B a w) : Kept B a w.drew := ⟨h.below.drew, h.others⟩
theorem Wr.alloc {w : World} {B : Nat} {L : List UInt8} (h : Wr w B L) (o : Obj) : Wr (w.alloc o) B L := by
  obtain ⟨v, hv, hown⟩ := h
  exact ⟨v, by rw [Below.heap_alloc _ _ _ (lt_of_block hv)]; exact hv, hown.alloc o⟩
theorem Wr.lt {w : World} {B : Nat} {L : List UInt8} (h : Wr w B L) : B < w.heap.size := by
  obtain ⟨v, hv, _⟩ := h
  exact lt_of_block hv

/-- behind an append (the world w1) and the store of what it gave -/
theorem step {w w1 : World} {B : Nat} {v v' : Value} {L N : List UInt8} (hv : w.heap[B]? = some (.cells #[v] 166 (0, 0)))
    (hown : w.ownsRow (B + 1) 5 1 v L.length (cells8 L)) (hown' : w1.ownsRow (B + 1) 5 1 v' (L.length + N.length) (cells8 L ++ cells8 N)) (hg : w.grownBy w1 v.ownBlock) :
    Wr (w1.setCell ⟨B, 0, none⟩ v') B (L ++ N) ∧ Kept B w (w1.setCell ⟨B, 0, none⟩ v') := by
  have hlt := lt_of_block hv
  have hne : some B ≠ v.ownBlock := fun e => by have := hown.lt B e.symm; omega
  have hB1 : w1.heap[B]? = some (.cells #[v] 166 (0, 0)) := (hg.block B hlt hne).trans hv
  refine ⟨⟨v', one_setCell hB1, ?_⟩, ?_, ?_⟩
  · have h := ownsRow_setCell_below (a := ⟨B, 0, none⟩) hown' (by simp) v'
    rw [List.length_append, cells8_append]
    exact h
  · exact ((Below.refl B w).grown hg (by omega) (fun k hk => by have := hown.lt k hk; omega)).setCell (Nat.le_refl _) _
  · intro k cs t z hk h0 ht
    have hkl := lt_of_block h0
    rw [Below.heap_setCell _ _ _ _ (by simp; omega), hg.block k hkl ?_]
    · exact h0
    · intro e
      rcases hown.2 with ⟨rfl, _⟩ | ⟨g, cap, cur, rfl, _, hgg, _⟩
      · simp [Value.ownBlock] at e
      · simp [Value.ownBlock] at e
        subst e
        rw [h0] at hgg
        simp at hgg
        exact ht hgg.2.1
/-- the cell behind the append alone -/
theorem mid {w w1 : World} {B : Nat} {v : Value} {L : List UInt8} (hv : w.heap[B]? = some (.cells #[v] 166 (0, 0)))
    (hown : w.ownsRow (B + 1) 5 1 v L.length (cells8 L)) (hg : w.grownBy w1 v.ownBlock) : w1.heap[B]? = some (.cells #[v] 166 (0, 0)) :=
  (hg.block B (lt_of_block hv) (fun e => by have := hown.lt B e.symm; omega)).trans hv

theorem own_shape {w : World} {b e z : Nat} {v : Value} {n : Nat} {xs : List Value} (h : w.ownsRow b e z v n xs) : ∃ ao m cp, v = .slice ao m cp := by
  rcases h.2 with ⟨rfl, _⟩ | ⟨g, cap, cur, rfl, _⟩
  · exact ⟨_, _, _, rfl⟩
  · exact ⟨_, _, _, rfl⟩

theorem own_len {w : World} {b e z : Nat} {v : Value} {n : Nat} {xs : List Value} (h : w.ownsRow b e z v n xs) : ∃ ao cp, v = .slice ao n cp := by
  rcases h.2 with ⟨rfl, rfl⟩ | ⟨g, cap, cur, rfl, _⟩
  · exact ⟨_, _, rfl⟩
  · exact ⟨_, _, rfl⟩

/-- all that the walk wants behind an append -/
theorem step_all {w w1 : World} {B : Nat} {v v' : Value} {L N : List UInt8} {M : Nat} (hv : w.heap[B]? = some (.cells #[v] 166 (0, 0)))
    (hown : w.ownsRow (B + 1) 5 1 v L.length (cells8 L)) (hown' : w1.ownsRow (B + 1) 5 1 v' M (cells8 L ++ cells8 N)) (hM : M = L.length + N.length) (hg : w.grownBy w1 v.ownBlock) :
    (∃ ao m cp, v' = .slice ao m cp) ∧ w1.cell? ⟨B, 0, none⟩ = some v ∧ w1.frozen? ⟨B, 0, none⟩ = false ∧ Hid (Wr (w1.setCell ⟨B, 0, none⟩ v') B (L ++ N)) ∧ Hid (Kept B w (w1.setCell ⟨B, 0, none⟩ v')) := by
  subst hM
  have hm := mid hv hown hg
  obtain ⟨s1, s2⟩ := step hv hown hown' hg
  exact ⟨own_shape hown', cell_of_one hm, free_of_one hm, s1, s2⟩

def flat (ss : List ByteArray) : List UInt8 := ss.flatMap fun s => s.data.toList
theorem flat_take (ss : List ByteArray) (k : Nat) (h : k < ss.length) : flat (ss.take (k + 1)) = flat (ss.take k) ++ ss[k].data.toList := by
  rw [flat, List.take_succ_eq_append_getElem h, List.flatMap_append]
  simp [flat]
theorem flat_take_le (ss : List ByteArray) (k : Nat) : (flat (ss.take k)).length ≤ (flat ss).length := by
  have e : flat ss = flat (ss.take k) ++ flat (ss.drop k) := by
    rw [flat, flat, flat, ← List.flatMap_append, List.take_append_drop]
  rw [e, List.length_append]; omega

set_option maxHeartbeats 1000000 in
theorem texts_any (B bs cap : Nat) (ss : List ByteArray) (L : List UInt8) (w : World) (hW : Wr w B L) (hb : B < bs)
    (hsrc : w.heap[bs]? = some (.cells (ss.map Value.string).toArray 9 (0, 0))) (hsz : L.length + (flat ss).length ≤ 1099511627776) (hn : ss.length ≤ 1099511627776) :
    Calls Tryz.prog 116 #[.pointer (some ⟨B, 0, none⟩), .slice (some ⟨bs, 0, none⟩) ss.length cap] w fun e w' =>
      e = .returned (.tuple #[]) ∧ Wr w' B (L ++ flat ss) ∧ Kept B w w' := by
  obtain ⟨i0, hi, hz0, hz1, hz2⟩ := info_parts info8
  have HS := hide hsrc
  clear hsrc
  go_enter Tryz.func116, Tryz.ntmps116
  go_wp2
  go_loopw [8] (fun i wr => ∃ k : Nat, k ≤ ss.length ∧ i = .int .i64 k ∧ Wr wr B (L ++ flat (ss.take k)) ∧ Kept B w wr) (fun i _ => ss.length - (intOf i).toNat)
  case atStart => exact ⟨0, Nat.zero_le _, rfl, by simpa [flat] using hW, Kept.refl _ _⟩
  case round =>
    obtain ⟨k, hk, rfl, hWr, hK⟩ := hrel
    rename World => wr
    by_cases hlt : k < ss.length
    · obtain ⟨v, hv, hown⟩ := hWr
      have hsr := hK.others _ _ _ _ hb (unhide HS) (by decide)
      have hcs : wr.cell? ⟨bs, k, none⟩ = some (.string ss[k]) := by
        rw [cell_of_row wr bs k _ _ _ hsr]; simp [hlt]
      have hc := cell_of_one hv
      have hf := free_of_one hv
      have HV := hide hv
      have HO := hide hown
      clear hv hown hsr
      have hlen := flat_take_le ss (k + 1)
      have HT := hide (flat_take ss k hlt)
      have hle : (flat (ss.take k)).length + ss[k].size ≤ (flat ss).length := by
        rw [unhide HT, List.length_append, len_str] at hlen; exact hlen
      clear hlen
      have hB := lt_of_block (unhide HV)
      go_wp2_with (at_builtin; refine Lib.wpList_append_own_string _ rfl (.tmp 16) (.tmp 17) 78 9 rfl (B + 1) 5 i0 Tryz.underlying78 Tryz.underlying9 hi hz0 hz1 hz2 v _ _ rfl (unhide HO) ss[k] rfl ?h63 ?hby ?hba ?_)
      case h63 => simp only [List.length_append, maxLen]; omega
      case hby => simp only [List.length_append]; omega
      case hba => omega
      · intro v' w1 hown' hg _
        have hm := mid (unhide HV) (unhide HO) hg
        have hc1 := cell_of_one hm
        have hf1 := free_of_one hm
        obtain ⟨s1, s2⟩ := step (N := ss[k].data.toList) (unhide HV) (unhide HO) (by rw [len_str, List.length_append]; exact hown') hg
        obtain ⟨ao, nn, cp, hv'⟩ := own_shape hown'
        have S1 := hide s1
        have S2 := hide s2
        clear hown' hg hm s1 s2 hc hf hcs
        subst hv'
        go_wp2
        go_roundw
        case rel => exact ⟨k + 1, by omega, by go_num, by rw [unhide HT, ← List.append_assoc]; exact unhide S1, hK.trans (unhide S2)⟩
        case measure => simp [intOf]; omega
    · have e : k = ss.length := by omega
      subst e
      rw [List.take_length] at hWr
      go_wp2
      go_end0
      exact ⟨rfl, hWr, hK⟩
end Go.Proofs.YtonlmklkikbeiaaGreatDoor.Wt

namespace Go.Proofs.YtonlmklkikbeiaaGreatDoor.Wt
open Go.ChangeShapes Go.WideShapes Go.ChangeAt Go.RowKit Bs
set_option linter.unusedVariables false

set_option maxHeartbeats 1000000 in
theorem words_any (B bs cap : Nat) (ns : List Int) (L : List UInt8) (w : World) (hW : Wr w B L) (hb : B < bs)
    (hsrc : w.heap[bs]? = some (.cells (ns.map (Value.int .u16)).toArray 48 (0, 0))) (hnr : ∀ n ∈ ns, 0 ≤ n ∧ n ≤ 65535) (hsz : L.length + 2 * ns.length ≤ 1099511627776) :
    Calls Tryz.prog 115 #[.pointer (some ⟨B, 0, none⟩), .slice (some ⟨bs, 0, none⟩) ns.length cap] w fun e w' =>
      e = .returned (.tuple #[]) ∧ Wr w' B (L ++ words8 ns) ∧ Kept B w w' := by
  obtain ⟨i0, hi, hz0, hz1, hz2⟩ := info_parts info8
  have HS := hide hsrc
  have HN := hide hnr
  clear hsrc hnr
  go_enter Tryz.func115, Tryz.ntmps115
  go_wp2
  go_loopw [8] (fun i wr => ∃ k : Nat, k ≤ ns.length ∧ i = .int .i64 k ∧ Wr wr B (L ++ words8 (ns.take k)) ∧ Kept B w wr) (fun i _ => ns.length - (intOf i).toNat)
  case atStart => exact ⟨0, Nat.zero_le _, rfl, by simpa [words8] using hW, Kept.refl _ _⟩
  case round =>
    obtain ⟨k, hk, rfl, hWr, hK⟩ := hrel
    rename World => wr
    by_cases hlt : k < ns.length
    · obtain ⟨v, hv, hown⟩ := hWr
      have hsr := hK.others _ _ _ _ hb (unhide HS) (by decide)
      obtain ⟨n, hn⟩ : ∃ n, ns[k] = n := ⟨_, rfl⟩
      obtain ⟨hn0, hn1⟩ := unhide HN ns[k] (List.getElem_mem hlt)
      rw [hn] at hn0 hn1
      have hcs : wr.cell? ⟨bs, k, none⟩ = some (.int .u16 n) := by
        rw [cell_of_row wr bs k _ _ _ hsr]; simp [hlt, hn]
      have hc := cell_of_one hv
      have hf := free_of_one hv
      have HV := hide hv
      have HO := hide hown
      have HT := hide (words8_take ns k hlt)
      rw [hn] at HT
      have hlw : (words8 (ns.take k)).length ≤ 2 * k := by rw [words8_length, List.length_take]; omega
      have hB := lt_of_block (unhide HV)
      have HC := hide (cells_word8 n)
      clear hv hown hsr hn
      go_wp2_with (at_builtin; refine wpList_append_own _ rfl (.tmp 16) (.tmp 22) 78 rfl (B + 1) 5 i0 (.int .u8 0) 1 1 Tryz.underlying78 hi hz0 hz1 hz2 rfl (by decide) v _ _ rfl ((unhide HO).alloc _) ⟨wr.heap.size, 0, none⟩ 2 2 (cells8 (word8 n)) rfl rfl ?c1 (cells8_one _) ?h63 ?hby ?hba ?_)
      case c1 =>
        rw [unhide HC]
        have e : n / 256 % 256 = n / 256 := by omega
        rw [e]
        exact cell_new wr [.int .u8 (n / 256), .int .u8 (n % 256)] 5
      case h63 => simp only [List.length_append, maxLen]; omega
      case hby => simp only [List.length_append]; omega
      case hba => simp; omega
      · intro v' w1 hown' hg _
        have hv1 : (wr.alloc (.cells #[.int .u8 (n / 256), .int .u8 (n % 256)] 5)).heap[B]? = some (.cells #[v] 166 (0, 0)) := by rw [Below.heap_alloc _ _ _ hB]; exact unhide HV
        have hm := mid hv1 ((unhide HO).alloc _) hg
        have hc1 := cell_of_one hm
        have hf1 := free_of_one hm
        obtain ⟨s1, s2⟩ := step (N := word8 n) hv1 ((unhide HO).alloc _) (by rw [List.length_append]; exact hown') hg
        obtain ⟨ao, nn, cp, hv'⟩ := own_shape hown'
        have S1 := hide s1
        have S2 := hide (((Kept.refl B wr).alloc (by omega) _).trans s2)
        clear hown' hg hm s1 s2 hc hf hcs hv1
        subst hv'
        go_wp2
        go_roundw
        case rel => exact ⟨k + 1, by omega, by go_num, by rw [unhide HT, ← List.append_assoc]; exact unhide S1, hK.trans (unhide S2)⟩
        case measure => simp [intOf]; omega
    · have e : k = ns.length := by omega
      subst e
      rw [List.take_length] at hWr
      go_wp2
      go_end0
      exact ⟨rfl, hWr, hK⟩
end Go.Proofs.YtonlmklkikbeiaaGreatDoor.Wt

namespace Go.Proofs.YtonlmklkikbeiaaGreatDoor.Wt
open Go.ChangeShapes Go.WideShapes Go.ChangeAt Go.RowKit Bs
set_option linter.unusedVariables false

set_option maxHeartbeats 1000000 in
theorem text_any (B : Nat) (L : List UInt8) (w : World) (hW : Wr w B L) :
    Calls Tryz.prog 117 #[.pointer (some ⟨B, 0, none⟩)] w fun e w' => e = .returned (.string ⟨L.toArray⟩) ∧ w' = w := by
  obtain ⟨v, hv, hown⟩ := hW
  have hc := cell_of_one hv
  have hcv := run_own_string w _ v L hown
  clear hv hown
  go_enter Tryz.func117, Tryz.ntmps117
  go_wp2
  go_ret
  exact ⟨rfl, rfl⟩

set_option maxHeartbeats 1000000 in
theorem longs_any (B bs cap : Nat) (ns : List Int) (L : List UInt8) (w : World) (hW : Wr w B L) (hb : B < bs)
    (hsrc : w.heap[bs]? = some (.cells (ns.map (Value.int .u32)).toArray 31 (0, 0))) (hnr : ∀ n ∈ ns, 0 ≤ n ∧ n ≤ 4294967295) (hsz : L.length + 4 * ns.length ≤ 1099511627776) :
    Calls Tryz.prog 147 #[.pointer (some ⟨B, 0, none⟩), .slice (some ⟨bs, 0, none⟩) ns.length cap] w fun e w' =>
      e = .returned (.tuple #[]) ∧ Wr w' B (L ++ dwords8 ns) ∧ Kept B w w' := by
  have HS := hide hsrc
  have HN := hide hnr
  clear hsrc hnr
  go_enter Tryz.func147, Tryz.ntmps147
  go_wp2
  go_loopw [8] (fun i wr => ∃ k : Nat, k ≤ ns.length ∧ i = .int .i64 k ∧ Wr wr B (L ++ dwords8 (ns.take k)) ∧ Kept B w wr) (fun i _ => ns.length - (intOf i).toNat)
  case atStart => exact ⟨0, Nat.zero_le _, rfl, by simpa [dwords8] using hW, Kept.refl _ _⟩
  case round =>
    obtain ⟨k, hk, rfl, hWr, hK⟩ := hrel
    rename World => wr
    by_cases hlt : k < ns.length
    · have hsr := hK.others _ _ _ _ hb (unhide HS) (by decide)
      obtain ⟨n, hn⟩ : ∃ n, ns[k] = n := ⟨_, rfl⟩
      obtain ⟨hn0, hn1⟩ := unhide HN ns[k] (List.getElem_mem hlt)
      rw [hn] at hn0 hn1
      have hcs : wr.cell? ⟨bs, k, none⟩ = some (.int .u32 n) := by
        rw [cell_of_row wr bs k _ _ _ hsr]; simp [hlt, hn]
      have HT := hide (dwords8_take ns k hlt)
      rw [hn] at HT
      have hlw : (dwords8 (ns.take k)).length ≤ 4 * k := by rw [dwords8_length, List.length_take]; omega
      have hB := hWr.lt
      clear hsr hn
      have hcall := words_any B wr.heap.size 2 [n / 65536, n % 65536] _ _ (hWr.alloc (.cells #[.int .u16 (n / 65536), .int .u16 (n % 65536)] 48)) hB (heap_alloc_new wr _)
        (by intro x hx; simp at hx; omega) (by simp only [List.length_append, List.length_cons, List.length_nil]; omega)
      simp only [List.length_cons, List.length_nil, Nat.zero_add] at hcall
      have HC := hide hcall
      clear hcall
      go_wp2_with fail
      rw [IntKind.wrap_u16]
      refine (unhide HC).mono ?_
      rintro e w1 ⟨rfl, h1, h2⟩
      have H1 := hide h1
      have H2 := hide (((Kept.refl B wr).alloc (by omega) _).trans h2)
      clear h1 h2 HC hcs hWr
      go_wp2
      go_roundw
      case rel => exact ⟨k + 1, by omega, by go_num, by rw [unhide HT, ← List.append_assoc]; exact unhide H1, hK.trans (unhide H2)⟩
      case measure => simp [intOf]; omega
    · have e : k = ns.length := by omega
      subst e
      rw [List.take_length] at hWr
      go_wp2
      go_end0
      exact ⟨rfl, hWr, hK⟩

set_option maxHeartbeats 1000000 in
theorem addresses_any (B bs cap : Nat) (ns : List Int) (L : List UInt8) (w : World) (hW : Wr w B L) (hb : B < bs)
    (hsrc : w.heap[bs]? = some (.cells (ns.map (Value.int .u32)).toArray 38 (0, 0))) (hnr : ∀ n ∈ ns, 0 ≤ n ∧ n ≤ 4294967295) (hsz : L.length + 4 * ns.length ≤ 1099511627776) :
    Calls Tryz.prog 113 #[.pointer (some ⟨B, 0, none⟩), .slice (some ⟨bs, 0, none⟩) ns.length cap] w fun e w' =>
      e = .returned (.tuple #[]) ∧ Wr w' B (L ++ dwords8 ns) ∧ Kept B w w' := by
  have HS := hide hsrc
  have HN := hide hnr
  clear hsrc hnr
  go_enter Tryz.func113, Tryz.ntmps113
  go_wp2
  go_loopw [8] (fun i wr => ∃ k : Nat, k ≤ ns.length ∧ i = .int .i64 k ∧ Wr wr B (L ++ dwords8 (ns.take k)) ∧ Kept B w wr) (fun i _ => ns.length - (intOf i).toNat)
  case atStart => exact ⟨0, Nat.zero_le _, rfl, by simpa [dwords8] using hW, Kept.refl _ _⟩
  case round =>
    obtain ⟨k, hk, rfl, hWr, hK⟩ := hrel
    rename World => wr
    by_cases hlt : k < ns.length
    · have hsr := hK.others _ _ _ _ hb (unhide HS) (by decide)
      obtain ⟨n, hn⟩ : ∃ n, ns[k] = n := ⟨_, rfl⟩
      obtain ⟨hn0, hn1⟩ := unhide HN ns[k] (List.getElem_mem hlt)
      rw [hn] at hn0 hn1
      have hcs : wr.cell? ⟨bs, k, none⟩ = some (.int .u32 n) := by
        rw [cell_of_row wr bs k _ _ _ hsr]; simp [hlt, hn]
      have HT := hide (dwords8_take ns k hlt)
      rw [hn] at HT
      have hlw : (dwords8 (ns.take k)).length ≤ 4 * k := by rw [dwords8_length, List.length_take]; omega
      have hB := hWr.lt
      clear hsr hn
      have hcall := longs_any B wr.heap.size 1 [n] _ _ (hWr.alloc (.cells #[.int .u32 n] 31)) hB (heap_alloc_new wr _)
        (by intro x hx; simp at hx; omega) (by simp only [List.length_append, List.length_cons, List.length_nil]; omega)
      rw [show dwords8 [n] = dword8 n by simp [dwords8]] at hcall
      simp only [List.length_cons, List.length_nil, Nat.zero_add] at hcall
      have HC := hide hcall
      clear hcall
      go_wp2_with fail
      refine (unhide HC).mono ?_
      rintro e w1 ⟨rfl, h1, h2⟩
      have H1 := hide h1
      have H2 := hide (((Kept.refl B wr).alloc (by omega) _).trans h2)
      clear h1 h2 HC hcs hWr
      go_wp2
      go_roundw
      case rel => exact ⟨k + 1, by omega, by go_num, by rw [unhide HT, ← List.append_assoc]; exact unhide H1, hK.trans (unhide H2)⟩
      case measure => simp [intOf]; omega
    · have e : k = ns.length := by omega
      subst e
      rw [List.take_length] at hWr
      go_wp2
      go_end0
      exact ⟨rfl, hWr, hK⟩

set_option maxHeartbeats 1000000 in
set_option maxRecDepth 10000 in
theorem fill_any (B : Nat) (n : Nat) (L : List UInt8) (w : World) (hW : Wr w B L) (hL : L.length ≤ 1099511627776) (hn : n ≤ 1099511627776) :
    Calls Tryz.prog 187 #[.pointer (some ⟨B, 0, none⟩), .int .i64 n] w fun e w' =>
      e = .returned (.tuple #[]) ∧ Wr w' B (L ++ List.replicate (n - L.length) 0) ∧ Kept B w w' := by
  obtain ⟨i0, hi, hz0, hz1, hz2⟩ := info_parts info8
  go_enter Tryz.func187, Tryz.ntmps187
  go_wp2
  go_loopg [] (n - L.length) (fun g wr => g ≤ n - L.length ∧ Wr wr B (L ++ List.replicate (n - L.length - g) 0) ∧ Kept B w wr)
  case atStart => exact ⟨Nat.le_refl _, by simpa using hW, Kept.refl _ _⟩
  case round =>
    obtain ⟨hg, hWr, hK⟩ := hrel
    obtain ⟨v, hv, hown⟩ := hWr
    obtain ⟨ao, cp, hv'⟩ := own_len hown
    have hl : (L ++ List.replicate (n - L.length - gk) (0 : UInt8)).length = L.length + (n - L.length - gk) := by simp
    rw [hl] at hown hv'
    have hB := lt_of_block hv
    by_cases hlt : 0 < gk
    · have hlt1 : ((L.length + (n - L.length - gk) : Nat) : Int) < (n : Int) := by omega
      have hc := cell_of_one hv
      have hf := free_of_one hv
      rw [hv'] at hc
      have HV := hide hv
      have HO := hide hown
      have HE := hide hv'
      have HL := hide hl
      have hM : L.length + (n - L.length - gk) ≤ 2199023255552 := by omega
      obtain ⟨M, hM'⟩ : ∃ M, L.length + (n - L.length - gk) = M := ⟨_, rfl⟩
      rw [hM'] at hc hlt1 HO HE HL hM
      clear hv hown hv' hl hM'
      go_wp2_with (at_builtin; refine wpList_append_own _ rfl (.tmp 15) (.tmp 16) 78 rfl (B + 1) 5 i0 (.int .u8 0) 1 1 Tryz.underlying78 hi hz0 hz1 hz2 rfl (by decide) v _ _ (unhide HE).symm ((unhide HO).alloc _) ⟨wr.heap.size, 0, none⟩ 1 1 (cells8 [0]) rfl rfl ?c1 (cells8_one _) ?h63 ?hby ?hba ?_)
      case c1 => exact cell_new wr [.int .u8 0] 5
      case h63 => simp only [maxLen]; omega
      case hby => omega
      case hba => simp; omega
      · intro v' w1 hown' hgr _
        have hv1 : (wr.alloc (.cells #[.int .u8 0] 5)).heap[B]? = some (.cells #[v] 166 (0, 0)) := by rw [Below.heap_alloc _ _ _ hB]; exact unhide HV
        have ho1 : (wr.alloc (.cells #[.int .u8 0] 5)).ownsRow (B + 1) 5 1 v (L ++ List.replicate (n - L.length - gk) (0 : UInt8)).length (cells8 (L ++ List.replicate (n - L.length - gk) (0 : UInt8))) := by
          rw [unhide HL]; exact (unhide HO).alloc _
        have hm := mid hv1 ho1 hgr
        have hc1 := cell_of_one hm
        have hf1 := free_of_one hm
        obtain ⟨s1, s2⟩ := step (N := [0]) hv1 ho1 (by rw [unhide HL]; exact hown') hgr
        obtain ⟨ao', nn', cp', hv''⟩ := own_shape hown'
        have S1 := hide s1
        have S2 := hide (((Kept.refl B wr).alloc (by omega) _).trans s2)
        clear hown' hgr hm s1 s2 hc hf hv1 ho1 HO HV HE
        subst hv''
        go_wp2
        go_roundg (gk - 1)
        case rel =>
          refine ⟨by omega, ?_, hK.trans (unhide S2)⟩
          have e : n - L.length - (gk - 1) = (n - L.length - gk) + 1 := by omega
          rw [e, List.replicate_succ', ← List.append_assoc]
          exact unhide S1
        case measure => omega
    · have e : gk = 0 := by omega
      subst e
      have hge : (n : Int) ≤ ((L.length + (n - L.length - 0) : Nat) : Int) := by omega
      have hc := cell_of_one hv
      have HV := hide (show Wr wr B (L ++ List.replicate (n - L.length - 0) 0) from ⟨v, hv, by rw [hl]; exact hown⟩)
      rw [hv'] at hc
      obtain ⟨M, hM'⟩ : ∃ M, L.length + (n - L.length - 0) = M := ⟨_, rfl⟩
      rw [hM'] at hc hge
      clear hv hown hv' hl hM'
      go_wp2
      go_end0
      exact ⟨rfl, unhide HV, hK⟩
end Go.Proofs.YtonlmklkikbeiaaGreatDoor.Wt

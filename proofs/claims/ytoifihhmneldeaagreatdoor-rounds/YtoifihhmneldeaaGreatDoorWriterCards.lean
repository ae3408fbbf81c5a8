import Derived.Test.YtoifihhmneldeaaGreatDoorWriterMore
namespace Go.Proofs.YtoifihhmneldeaaGreatDoor.Wt
open Go.ChangeShapes Go.WideShapes Go.ChangeAt Go.RowKit Bs
set_option linter.unusedVariables false

theorem six (m : List UInt8) (h : m.length = 6) : ∃ a b c d e f, m = [a, b, c, d, e, f] := by
  match m, h with
  | [a, b, c, d, e, f], _ => exact ⟨a, b, c, d, e, f, rfl⟩
theorem flatten6_get (ms : List (List UInt8)) (h6 : ∀ m ∈ ms, m.length = 6) (k j : Nat) (hk : k < ms.length) (hj : j < 6) :
    ms.flatten[k * 6 + j]? = (ms[k])[j]? := by
  induction ms generalizing k with
  | nil => simp at hk
  | cons m r ih =>
    have hm := h6 m (by simp)
    rw [List.flatten_cons]
    cases k with
    | zero => rw [List.getElem?_append_left (by omega)]; simp
    | succ k =>
      rw [List.getElem?_append_right (by omega)]
      have e : (k + 1) * 6 + j - m.length = k * 6 + j := by omega
      rw [e, ih (fun m hm => h6 m (by simp [hm])) k (by simpa using hk)]
      simp
theorem flatten6_length (ms : List (List UInt8)) (h6 : ∀ m ∈ ms, m.length = 6) : ms.flatten.length = 6 * ms.length := by
  induction ms with
  | nil => rfl
  | cons m r ih =>
    rw [List.flatten_cons, List.length_append, h6 m (by simp), ih (fun m hm => h6 m (by simp [hm]))]
    simp; omega
theorem flatten_take (ms : List (List UInt8)) (k : Nat) (h : k < ms.length) : (ms.take (k + 1)).flatten = (ms.take k).flatten ++ ms[k] := by
  rw [List.take_succ_eq_append_getElem h, List.flatten_append]; simp only [List.flatten_cons, List.flatten_nil, List.append_nil]

set_option maxHeartbeats 1000000 in
theorem cards_any (B bs cap : Nat) (ms : List (List UInt8)) (L : List UInt8) (w : World) (hW : Wr w B L) (hb : B < bs)
    (hsrc : w.heap[bs]? = some (.cells (cells8 ms.flatten).toArray 23 (0, 0))) (h6 : ∀ m ∈ ms, m.length = 6) (hsz : L.length + 6 * ms.length ≤ 1099511627776) :
    Calls Tryz.prog 29 #[.pointer (some ⟨B, 0, none⟩), .slice (some ⟨bs, 0, none⟩) ms.length cap] w fun e w' =>
      e = .returned (.tuple #[]) ∧ Wr w' B (L ++ ms.flatten) ∧ Kept B w w' := by
  obtain ⟨i0, hi, hz0, hz1, hz2⟩ := info_parts info8
  have HS := hide hsrc
  have HN := hide h6
  clear hsrc h6
  go_enter Tryz.func29, Tryz.ntmps29
  go_wp2
  go_loopw [8] (fun i wr => ∃ k : Nat, k ≤ ms.length ∧ i = .int .i64 k ∧ Wr wr B (L ++ (ms.take k).flatten) ∧ Kept B w wr) (fun i _ => ms.length - (intOf i).toNat)
  case atStart => exact ⟨0, Nat.zero_le _, rfl, by simpa using hW, Kept.refl _ _⟩
  case round =>
    obtain ⟨k, hk, rfl, hWr, hK⟩ := hrel
    rename World => wr
    by_cases hlt : k < ms.length
    · obtain ⟨v, hv, hown⟩ := hWr
      have hsr := hK.others _ _ _ _ hb (unhide HS) (by decide)
      obtain ⟨a, b, c, d, e, f, hm⟩ := six ms[k] (unhide HN ms[k] (List.getElem_mem hlt))
      have hcell : ∀ j, j < 6 → wr.cell? ⟨bs, k * 6 + j, none⟩ = ((cells8 [a, b, c, d, e, f])[j]?) := by
        intro j hj
        rw [cell_of_row wr bs _ _ _ _ hsr, ← hm]
        rw [cells8, cells8, List.getElem?_toArray, List.getElem?_map, List.getElem?_map, flatten6_get ms (unhide HN) k j hlt hj]
      have c0 : wr.cell? ⟨bs, k * 6, none⟩ = some (.int .u8 a.toNat) := hcell 0 (by omega)
      have c1 : wr.cell? ⟨bs, k * 6 + 1, none⟩ = some (.int .u8 b.toNat) := hcell 1 (by omega)
      have c2 : wr.cell? ⟨bs, k * 6 + 2, none⟩ = some (.int .u8 c.toNat) := hcell 2 (by omega)
      have c3 : wr.cell? ⟨bs, k * 6 + 3, none⟩ = some (.int .u8 d.toNat) := hcell 3 (by omega)
      have c4 : wr.cell? ⟨bs, k * 6 + 4, none⟩ = some (.int .u8 e.toNat) := hcell 4 (by omega)
      have c5 : wr.cell? ⟨bs, k * 6 + 5, none⟩ = some (.int .u8 f.toNat) := hcell 5 (by omega)
      have hc := cell_of_one hv
      have hf := free_of_one hv
      have HV := hide hv
      have HO := hide hown
      have HT := hide (flatten_take ms k hlt)
      rw [hm] at HT
      have hlw : (ms.take k).flatten.length ≤ 6 * k := by rw [flatten6_length _ (fun m h => unhide HN m (List.mem_of_mem_take h)), List.length_take]; omega
      have hB := lt_of_block (unhide HV)
      clear hv hown hsr hm hcell
      have HA := hide (show (wr.alloc (.cells (cells8 [a, b, c, d, e, f]).toArray 23)).drew.heap[B]? = some (.cells #[v] 73 (0, 0)) by
        show (wr.alloc _).heap[B]? = _; rw [Below.heap_alloc _ _ _ hB]; exact unhide HV)
      have HB := hide (((unhide HO).alloc (.cells (cells8 [a, b, c, d, e, f]).toArray 23)).drew)
      have HC := hide (fun j u h => cell_new wr (cells8 [a, b, c, d, e, f]) 23 j u h)
      go_wp2_with fail
      go_region_law (refine step_append_own rfl (.tmp 16) (.tmp 17) 71 rfl (B + 1) 5 i0 (.int .u8 0) 1 1 Tryz.underlying71 hi hz0 hz1 hz2 rfl (by decide) v _ _ (by simp [Act.eval]) (unhide HB) ⟨wr.heap.size, 0, none⟩ 6 6 (cells8 [a, b, c, d, e, f]) (by simp [Act.eval]) rfl (unhide HC) (cells8_one _) (by simp only [List.length_append, maxLen]; omega) (by simp only [List.length_append]; omega) (by simp; omega) ?_; intro v' w1 hown' hg; obtain ⟨⟨ao, nn, cp, hv'⟩, hc1, hf1, S1, S2⟩ := step_all (N := [a, b, c, d, e, f]) (unhide HA) (unhide HB) hown' rfl hg; clear hown' hg hc hf; subst hv')
      go_wp2
      refine ⟨⟨k + 1, by omega, by go_num, by rw [unhide HT, ← List.append_assoc]; exact unhide S1, hK.trans ((((Kept.refl B wr).alloc (by omega) _).drew).trans (unhide S2))⟩, by simp [intOf]; omega⟩
    · have e : k = ms.length := by omega
      subst e
      rw [List.take_length] at hWr
      go_wp2
      go_end0
      exact ⟨rfl, hWr, hK⟩
end Go.Proofs.YtoifihhmneldeaaGreatDoor.Wt

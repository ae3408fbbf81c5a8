import Derived.Test.YtoifihhmneldeaaGreatDoorWriter
namespace Go.Proofs.YtoifihhmneldeaaGreatDoor.Wt
open Go.ChangeShapes Go.WideShapes Go.ChangeAt Go.RowKit Bs
set_option linter.unusedVariables false

set_option maxHeartbeats 1000000 in
theorem words_any (B bs cap : Nat) (ns : List Int) (L : List UInt8) (w : World) (hW : Wr w B L) (hb : B < bs)
    (hsrc : w.heap[bs]? = some (.cells (ns.map (Value.int .u16)).toArray 24 (0, 0))) (hnr : ∀ n ∈ ns, 0 ≤ n ∧ n ≤ 65535) (hsz : L.length + 2 * ns.length ≤ 1099511627776) :
    Calls Tryz.prog 30 #[.pointer (some ⟨B, 0, none⟩), .slice (some ⟨bs, 0, none⟩) ns.length cap] w fun e w' =>
      e = .returned (.tuple #[]) ∧ Wr w' B (L ++ words8 ns) ∧ Kept B w w' := by
  obtain ⟨i0, hi, hz0, hz1, hz2⟩ := info_parts info8
  have HS := hide hsrc
  have HN := hide hnr
  clear hsrc hnr
  go_enter Tryz.func30, Tryz.ntmps30
  go_wp2
  go_loopw [8] (fun i wr => ∃ k : Nat, k ≤ ns.length ∧ i = .int .i64 k ∧ Wr wr B (L ++ words8 (ns.take k)) ∧ Kept B w wr) (fun i _ => ns.length - (intOf i).toNat)
  case atStart => exact ⟨0, Nat.zero_le _, rfl, by simpa [words8] using hW, Kept.refl _ _⟩
  case round =>
    obtain ⟨k, hk, rfl, hWr, hK⟩ := hrel
    rename World => wr
    by_cases hlt : k < ns.length
    · obtain ⟨v, hv, hown⟩ := hWr
      have hsr := hK.others _ _ _ _ hb (unhide HS) (by decide)
      obtain ⟨n, hn⟩ : ∃ n, ns[k] = n := ⟨_, rfl⟩
      obtain ⟨hn0, hn1⟩ := unhide HN ns[k] (List.getElem_mem hlt)
      rw [hn] at hn0 hn1
      have hcs : wr.cell? ⟨bs, k, none⟩ = some (.int .u16 n) := by
        rw [cell_of_row wr bs k _ _ _ hsr]; simp [hlt, hn]
      have hc := cell_of_one hv
      have hf := free_of_one hv
      have HV := hide hv
      have HO := hide hown
      have HT := hide (words8_take ns k hlt)
      rw [hn] at HT
      have hlw : (words8 (ns.take k)).length ≤ 2 * k := by rw [words8_length, List.length_take]; omega
      have hB := lt_of_block (unhide HV)
      have HC := hide (cells_word8 n)
      clear hv hown hsr hn
      go_wp2_with (at_builtin; refine wpList_append_own _ rfl (.tmp 16) (.tmp 22) 71 rfl (B + 1) 5 i0 (.int .u8 0) 1 1 Tryz.underlying71 hi hz0 hz1 hz2 rfl (by decide) v _ _ rfl ((unhide HO).alloc _) ⟨wr.heap.size, 0, none⟩ 2 2 (cells8 (word8 n)) rfl rfl ?c1 (cells8_one _) ?h63 ?hby ?hba ?_)
      case c1 =>
        rw [unhide HC]
        have e : n / 256 % 256 = n / 256 := by omega
        rw [e]
        exact cell_new wr [.int .u8 (n / 256), .int .u8 (n % 256)] 5
      case h63 => simp only [List.length_append, maxLen]; omega
      case hby => simp only [List.length_append]; omega
      case hba => simp; omega
      · intro v' w1 hown' hg _
        have hv1 : (wr.alloc (.cells #[.int .u8 (n / 256), .int .u8 (n % 256)] 5)).heap[B]? = some (.cells #[v] 73 (0, 0)) := by rw [Below.heap_alloc _ _ _ hB]; exact unhide HV
        have hm := mid hv1 ((unhide HO).alloc _) hg
        have hc1 := cell_of_one hm
        have hf1 := free_of_one hm
        obtain ⟨s1, s2⟩ := step (N := word8 n) hv1 ((unhide HO).alloc _) (by rw [List.length_append]; exact hown') hg
        obtain ⟨ao, nn, cp, hv'⟩ := own_shape hown'
        have S1 := hide s1
        have S2 := hide (((Kept.refl B wr).alloc (by omega) _).trans s2)
        clear hown' hg hm s1 s2 hc hf hcs hv1
        subst hv'
        go_wp2
        go_roundw
        case rel => exact ⟨k + 1, by omega, by go_num, by rw [unhide HT, ← List.append_assoc]; exact unhide S1, hK.trans (unhide S2)⟩
        case measure => simp [intOf]; omega
    · have e : k = ns.length := by omega
      subst e
      rw [List.take_length] at hWr
      go_wp2
      go_end0
      exact ⟨rfl, hWr, hK⟩
end Go.Proofs.YtoifihhmneldeaaGreatDoor.Wt

import Derived.Test.YtoifihhmneldeaaGreatDoorWriterWords
namespace Go.Proofs.YtoifihhmneldeaaGreatDoor.Wt
open Go.ChangeShapes Go.WideShapes Go.ChangeAt Go.RowKit Bs
set_option linter.unusedVariables false

set_option maxHeartbeats 1000000 in
theorem text_any (B : Nat) (L : List UInt8) (w : World) (hW : Wr w B L) :
    Calls Tryz.prog 33 #[.pointer (some ⟨B, 0, none⟩)] w fun e w' => e = .returned (.string ⟨L.toArray⟩) ∧ w' = w := by
  obtain ⟨v, hv, hown⟩ := hW
  have hc := cell_of_one hv
  have hcv := run_own_string w _ v L hown
  clear hv hown
  go_enter Tryz.func33, Tryz.ntmps33
  go_wp2
  go_ret
  exact ⟨rfl, rfl⟩

set_option maxHeartbeats 1000000 in
theorem longs_any (B bs cap : Nat) (ns : List Int) (L : List UInt8) (w : World) (hW : Wr w B L) (hb : B < bs)
    (hsrc : w.heap[bs]? = some (.cells (ns.map (Value.int .u32)).toArray 33 (0, 0))) (hnr : ∀ n ∈ ns, 0 ≤ n ∧ n ≤ 4294967295) (hsz : L.length + 4 * ns.length ≤ 1099511627776) :
    Calls Tryz.prog 57 #[.pointer (some ⟨B, 0, none⟩), .slice (some ⟨bs, 0, none⟩) ns.length cap] w fun e w' =>
      e = .returned (.tuple #[]) ∧ Wr w' B (L ++ dwords8 ns) ∧ Kept B w w' := by
  have HS := hide hsrc
  have HN := hide hnr
  clear hsrc hnr
  go_enter Tryz.func57, Tryz.ntmps57
  go_wp2
  go_loopw [8] (fun i wr => ∃ k : Nat, k ≤ ns.length ∧ i = .int .i64 k ∧ Wr wr B (L ++ dwords8 (ns.take k)) ∧ Kept B w wr) (fun i _ => ns.length - (intOf i).toNat)
  case atStart => exact ⟨0, Nat.zero_le _, rfl, by simpa [dwords8] using hW, Kept.refl _ _⟩
  case round =>
    obtain ⟨k, hk, rfl, hWr, hK⟩ := hrel
    rename World => wr
    by_cases hlt : k < ns.length
    · have hsr := hK.others _ _ _ _ hb (unhide HS) (by decide)
      obtain ⟨n, hn⟩ : ∃ n, ns[k] = n := ⟨_, rfl⟩
      obtain ⟨hn0, hn1⟩ := unhide HN ns[k] (List.getElem_mem hlt)
      rw [hn] at hn0 hn1
      have hcs : wr.cell? ⟨bs, k, none⟩ = some (.int .u32 n) := by
        rw [cell_of_row wr bs k _ _ _ hsr]; simp [hlt, hn]
      have HT := hide (dwords8_take ns k hlt)
      rw [hn] at HT
      have hlw : (dwords8 (ns.take k)).length ≤ 4 * k := by rw [dwords8_length, List.length_take]; omega
      have hB := hWr.lt
      clear hsr hn
      have hcall := words_any B wr.heap.size 2 [n / 65536, n % 65536] _ _ (hWr.alloc (.cells #[.int .u16 (n / 65536), .int .u16 (n % 65536)] 24)) hB (heap_alloc_new wr _)
        (by intro x hx; simp at hx; omega) (by simp only [List.length_append, List.length_cons, List.length_nil]; omega)
      simp only [List.length_cons, List.length_nil, Nat.zero_add] at hcall
      have HC := hide hcall
      clear hcall
      go_wp2_with fail
      rw [IntKind.wrap_u16]
      refine (unhide HC).mono ?_
      rintro e w1 ⟨rfl, h1, h2⟩
      have H1 := hide h1
      have H2 := hide (((Kept.refl B wr).alloc (by omega) _).trans h2)
      clear h1 h2 HC hcs hWr
      go_wp2
      go_roundw
      case rel => exact ⟨k + 1, by omega, by go_num, by rw [unhide HT, ← List.append_assoc]; exact unhide H1, hK.trans (unhide H2)⟩
      case measure => simp [intOf]; omega
    · have e : k = ns.length := by omega
      subst e
      rw [List.take_length] at hWr
      go_wp2
      go_end0
      exact ⟨rfl, hWr, hK⟩

set_option maxHeartbeats 1000000 in
theorem addresses_any (B bs cap : Nat) (ns : List Int) (L : List UInt8) (w : World) (hW : Wr w B L) (hb : B < bs)
    (hsrc : w.heap[bs]? = some (.cells (ns.map (Value.int .u32)).toArray 34 (0, 0))) (hnr : ∀ n ∈ ns, 0 ≤ n ∧ n ≤ 4294967295) (hsz : L.length + 4 * ns.length ≤ 1099511627776) :
    Calls Tryz.prog 37 #[.pointer (some ⟨B, 0, none⟩), .slice (some ⟨bs, 0, none⟩) ns.length cap] w fun e w' =>
      e = .returned (.tuple #[]) ∧ Wr w' B (L ++ dwords8 ns) ∧ Kept B w w' := by
  have HS := hide hsrc
  have HN := hide hnr
  clear hsrc hnr
  go_enter Tryz.func37, Tryz.ntmps37
  go_wp2
  go_loopw [8] (fun i wr => ∃ k : Nat, k ≤ ns.length ∧ i = .int .i64 k ∧ Wr wr B (L ++ dwords8 (ns.take k)) ∧ Kept B w wr) (fun i _ => ns.length - (intOf i).toNat)
  case atStart => exact ⟨0, Nat.zero_le _, rfl, by simpa [dwords8] using hW, Kept.refl _ _⟩
  case round =>
    obtain ⟨k, hk, rfl, hWr, hK⟩ := hrel
    rename World => wr
    by_cases hlt : k < ns.length
    · have hsr := hK.others _ _ _ _ hb (unhide HS) (by decide)
      obtain ⟨n, hn⟩ : ∃ n, ns[k] = n := ⟨_, rfl⟩
      obtain ⟨hn0, hn1⟩ := unhide HN ns[k] (List.getElem_mem hlt)
      rw [hn] at hn0 hn1
      have hcs : wr.cell? ⟨bs, k, none⟩ = some (.int .u32 n) := by
        rw [cell_of_row wr bs k _ _ _ hsr]; simp [hlt, hn]
      have HT := hide (dwords8_take ns k hlt)
      rw [hn] at HT
      have hlw : (dwords8 (ns.take k)).length ≤ 4 * k := by rw [dwords8_length, List.length_take]; omega
      have hB := hWr.lt
      clear hsr hn
      have hcall := longs_any B wr.heap.size 1 [n] _ _ (hWr.alloc (.cells #[.int .u32 n] 33)) hB (heap_alloc_new wr _)
        (by intro x hx; simp at hx; omega) (by simp only [List.length_append, List.length_cons, List.length_nil]; omega)
      rw [show dwords8 [n] = dword8 n by simp [dwords8]] at hcall
      simp only [List.length_cons, List.length_nil, Nat.zero_add] at hcall
      have HC := hide hcall
      clear hcall
      go_wp2_with fail
      refine (unhide HC).mono ?_
      rintro e w1 ⟨rfl, h1, h2⟩
      have H1 := hide h1
      have H2 := hide (((Kept.refl B wr).alloc (by omega) _).trans h2)
      clear h1 h2 HC hcs hWr
      go_wp2
      go_roundw
      case rel => exact ⟨k + 1, by omega, by go_num, by rw [unhide HT, ← List.append_assoc]; exact unhide H1, hK.trans (unhide H2)⟩
      case measure => simp [intOf]; omega
    · have e : k = ns.length := by omega
      subst e
      rw [List.take_length] at hWr
      go_wp2
      go_end0
      exact ⟨rfl, hWr, hK⟩

set_option maxHeartbeats 1000000 in
set_option maxRecDepth 10000 in
theorem fill_any (B : Nat) (n : Nat) (L : List UInt8) (w : World) (hW : Wr w B L) (hL : L.length ≤ 1099511627776) (hn : n ≤ 1099511627776) :
    Calls Tryz.prog 32 #[.pointer (some ⟨B, 0, none⟩), .int .i64 n] w fun e w' =>
      e = .returned (.tuple #[]) ∧ Wr w' B (L ++ List.replicate (n - L.length) 0) ∧ Kept B w w' := by
  obtain ⟨i0, hi, hz0, hz1, hz2⟩ := info_parts info8
  go_enter Tryz.func32, Tryz.ntmps32
  go_wp2
  go_loopg [] (n - L.length) (fun g wr => g ≤ n - L.length ∧ Wr wr B (L ++ List.replicate (n - L.length - g) 0) ∧ Kept B w wr)
  case atStart => exact ⟨Nat.le_refl _, by simpa using hW, Kept.refl _ _⟩
  case round =>
    obtain ⟨hg, hWr, hK⟩ := hrel
    obtain ⟨v, hv, hown⟩ := hWr
    obtain ⟨ao, cp, hv'⟩ := own_len hown
    have hl : (L ++ List.replicate (n - L.length - gk) (0 : UInt8)).length = L.length + (n - L.length - gk) := by simp
    rw [hl] at hown hv'
    have hB := lt_of_block hv
    by_cases hlt : 0 < gk
    · have hlt1 : ((L.length + (n - L.length - gk) : Nat) : Int) < (n : Int) := by omega
      have hc := cell_of_one hv
      have hf := free_of_one hv
      rw [hv'] at hc
      have HV := hide hv
      have HO := hide hown
      have HE := hide hv'
      have HL := hide hl
      have hM : L.length + (n - L.length - gk) ≤ 2199023255552 := by omega
      obtain ⟨M, hM'⟩ : ∃ M, L.length + (n - L.length - gk) = M := ⟨_, rfl⟩
      rw [hM'] at hc hlt1 HO HE HL hM
      clear hv hown hv' hl hM'
      go_wp2_with (at_builtin; refine wpList_append_own _ rfl (.tmp 15) (.tmp 16) 71 rfl (B + 1) 5 i0 (.int .u8 0) 1 1 Tryz.underlying71 hi hz0 hz1 hz2 rfl (by decide) v _ _ (unhide HE).symm ((unhide HO).alloc _) ⟨wr.heap.size, 0, none⟩ 1 1 (cells8 [0]) rfl rfl ?c1 (cells8_one _) ?h63 ?hby ?hba ?_)
      case c1 => exact cell_new wr [.int .u8 0] 5
      case h63 => simp only [maxLen]; omega
      case hby => omega
      case hba => simp; omega
      · intro v' w1 hown' hgr _
        have hv1 : (wr.alloc (.cells #[.int .u8 0] 5)).heap[B]? = some (.cells #[v] 73 (0, 0)) := by rw [Below.heap_alloc _ _ _ hB]; exact unhide HV
        have ho1 : (wr.alloc (.cells #[.int .u8 0] 5)).ownsRow (B + 1) 5 1 v (L ++ List.replicate (n - L.length - gk) (0 : UInt8)).length (cells8 (L ++ List.replicate (n - L.length - gk) (0 : UInt8))) := by
          rw [unhide HL]; exact (unhide HO).alloc _
        have hm := mid hv1 ho1 hgr
        have hc1 := cell_of_one hm
        have hf1 := free_of_one hm
        obtain ⟨s1, s2⟩ := step (N := [0]) hv1 ho1 (by rw [unhide HL]; exact hown') hgr
        obtain ⟨ao', nn', cp', hv''⟩ := own_shape hown'
        have S1 := hide s1
        have S2 := hide (((Kept.refl B wr).alloc (by omega) _).trans s2)
        clear hown' hgr hm s1 s2 hc hf hv1 ho1 HO HV HE
        subst hv''
        go_wp2
        go_roundg (gk - 1)
        case rel =>
          refine ⟨by omega, ?_, hK.trans (unhide S2)⟩
          have e : n - L.length - (gk - 1) = (n - L.length - gk) + 1 := by omega
          rw [e, List.replicate_succ', ← List.append_assoc]
          exact unhide S1
        case measure => omega
    · have e : gk = 0 := by omega
      subst e
      have hge : (n : Int) ≤ ((L.length + (n - L.length - 0) : Nat) : Int) := by omega
      have hc := cell_of_one hv
      have HV := hide (show Wr wr B (L ++ List.replicate (n - L.length - 0) 0) from ⟨v, hv, by rw [hl]; exact hown⟩)
      rw [hv'] at hc
      obtain ⟨M, hM'⟩ : ∃ M, L.length + (n - L.length - 0) = M := ⟨_, rfl⟩
      rw [hM'] at hc hge
      clear hv hown hv' hl hM'
      go_wp2
      go_end0
      exact ⟨rfl, unhide HV, hK⟩
end Go.Proofs.YtoifihhmneldeaaGreatDoor.Wt

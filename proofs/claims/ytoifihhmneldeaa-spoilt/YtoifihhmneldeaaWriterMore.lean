import Derived.Test.YtoifihhmneldeaaWriterWords
namespace Go.Proofs.Ytoifihhmneldeaa.Wt
open Go.ChangeShapes Go.WideShapes Go.ChangeAt Go.RowKit Bs
set_option linter.unusedVariables false

set_option maxHeartbeats 1000000 in
theorem text_any (B : Nat) (L : List UInt8) (w : World) (hW : Wr w B L) :
    Calls Try.prog 21 #[.pointer (some ⟨B, 0, none⟩)] w fun e w' => e = .returned (.string ⟨L.toArray⟩) ∧ w' = w := by
  obtain ⟨v, hv, hown⟩ := hW
  have hc := cell_of_one hv
  have hcv := run_own_string w _ v L hown
  clear hv hown
  go_enter Try.func21, Try.ntmps21
  go_wp2
  go_ret
  exact ⟨rfl, rfl⟩

set_option maxHeartbeats 1000000 in
theorem longs_any (B bs cap : Nat) (ns : List Int) (L : List UInt8) (w : World) (hW : Wr w B L) (hb : B < bs)
    (hsrc : w.heap[bs]? = some (.cells (ns.map (Value.int .u32)).toArray 29 (0, 0))) (hnr : ∀ n ∈ ns, 0 ≤ n ∧ n ≤ 4294967295) (hsz : L.length + 4 * ns.length ≤ 1099511627776) :
    Calls Try.prog 29 #[.pointer (some ⟨B, 0, none⟩), .slice (some ⟨bs, 0, none⟩) ns.length cap] w fun e w' =>
      e = .returned (.tuple #[]) ∧ Wr w' B (L ++ dwords8 ns) ∧ Kept B w w' := by
  have HS := hide hsrc
  have HN := hide hnr
  clear hsrc hnr
  go_enter Try.func29, Try.ntmps29
  go_wp2
  go_loopw [8] (fun i wr => ∃ k : Nat, k ≤ ns.length ∧ i = .int .i64 k ∧ Wr wr B (L ++ dwords8 (ns.take k)) ∧ Kept B w wr) (fun i _ => ns.length - (intOf i).toNat)
  case atStart => exact ⟨0, Nat.zero_le _, rfl, by simpa [dwords8] using hW, Kept.refl _ _⟩
  case round =>
    obtain ⟨k, hk, rfl, hWr, hK⟩ := hrel
    rename World => wr
    by_cases hlt : k < ns.length
    · have hsr := hK.others _ _ _ _ hb (unhide HS) (by decide)
      obtain ⟨n, hn⟩ : ∃ n, ns[k] = n := ⟨_, rfl⟩
      obtain ⟨hn0, hn1⟩ := unhide HN ns[k] (List.getElem_mem hlt)
      rw [hn] at hn0 hn1
      have hcs : wr.cell? ⟨bs, k, none⟩ = some (.int .u32 n) := by
        rw [cell_of_row wr bs k _ _ _ hsr]; simp [hlt, hn]
      have HT := hide (dwords8_take ns k hlt)
      rw [hn] at HT
      have hlw : (dwords8 (ns.take k)).length ≤ 4 * k := by rw [dwords8_length, List.length_take]; omega
      have hB := hWr.lt
      clear hsr hn
      have hcall := words_any B wr.heap.size 2 [n / 65536, n % 65536] _ _ (hWr.alloc (.cells #[.int .u16 (n / 65536), .int .u16 (n % 65536)] 22)) hB (heap_alloc_new wr _)
        (by intro x hx; simp at hx; omega) (by simp only [List.length_append, List.length_cons, List.length_nil]; omega)
      simp only [List.length_cons, List.length_nil, Nat.zero_add] at hcall
      have HC := hide hcall
      clear hcall
      go_wp2_with fail
      rw [IntKind.wrap_u16]
      refine (unhide HC).mono ?_
      rintro e w1 ⟨rfl, h1, h2⟩
      have H1 := hide h1
      have H2 := hide (((Kept.refl B wr).alloc (by omega) _).trans h2)
      clear h1 h2 HC hcs hWr
      go_wp2
      go_roundw
      case rel => exact ⟨k + 1, by omega, by go_num, by rw [unhide HT, ← List.append_assoc]; exact unhide H1, hK.trans (unhide H2)⟩
      case measure => simp [intOf]; omega
    · have e : k = ns.length := by omega
      subst e
      rw [List.take_length] at hWr
      go_wp2
      go_end0
      exact ⟨rfl, hWr, hK⟩

set_option maxHeartbeats 1000000 in
theorem addresses_any (B bs cap : Nat) (ns : List Int) (L : List UInt8) (w : World) (hW : Wr w B L) (hb : B < bs)
    (hsrc : w.heap[bs]? = some (.cells (ns.map (Value.int .u32)).toArray 30 (0, 0))) (hnr : ∀ n ∈ ns, 0 ≤ n ∧ n ≤ 4294967295) (hsz : L.length + 4 * ns.length ≤ 1099511627776) :
    Calls Try.prog 19 #[.pointer (some ⟨B, 0, none⟩), .slice (some ⟨bs, 0, none⟩) ns.length cap] w fun e w' =>
      e = .returned (.tuple #[]) ∧ Wr w' B (L ++ dwords8 ns) ∧ Kept B w w' := by
  have HS := hide hsrc
  have HN := hide hnr
  clear hsrc hnr
  go_enter Try.func19, Try.ntmps19
  go_wp2
  go_loopw [8] (fun i wr => ∃ k : Nat, k ≤ ns.length ∧ i = .int .i64 k ∧ Wr wr B (L ++ dwords8 (ns.take k)) ∧ Kept B w wr) (fun i _ => ns.length - (intOf i).toNat)
  case atStart => exact ⟨0, Nat.zero_le _, rfl, by simpa [dwords8] using hW, Kept.refl _ _⟩
  case round =>
    obtain ⟨k, hk, rfl, hWr, hK⟩ := hrel
    rename World => wr
    by_cases hlt : k < ns.length
    · have hsr := hK.others _ _ _ _ hb (unhide HS) (by decide)
      obtain ⟨n, hn⟩ : ∃ n, ns[k] = n := ⟨_, rfl⟩
      obtain ⟨hn0, hn1⟩ := unhide HN ns[k] (List.getElem_mem hlt)
      rw [hn] at hn0 hn1
      have hcs : wr.cell? ⟨bs, k, none⟩ = some (.int .u32 n) := by
        rw [cell_of_row wr bs k _ _ _ hsr]; simp [hlt, hn]
      have HT := hide (dwords8_take ns k hlt)
      rw [hn] at HT
      have hlw : (dwords8 (ns.take k)).length ≤ 4 * k := by rw [dwords8_length, List.length_take]; omega
      have hB := hWr.lt
      clear hsr hn
      have hcall := longs_any B wr.heap.size 1 [n] _ _ (hWr.alloc (.cells #[.int .u32 n] 29)) hB (heap_alloc_new wr _)
        (by intro x hx; simp at hx; omega) (by simp only [List.length_append, List.length_cons, List.length_nil]; omega)
      rw [show dwords8 [n] = dword8 n by simp [dwords8]] at hcall
      simp only [List.length_cons, List.length_nil, Nat.zero_add] at hcall
      have HC := hide hcall
      clear hcall
      go_wp2_with fail
      refine (unhide HC).mono ?_
      rintro e w1 ⟨rfl, h1, h2⟩
      have H1 := hide h1
      have H2 := hide (((Kept.refl B wr).alloc (by omega) _).trans h2)
      clear h1 h2 HC hcs hWr
      go_wp2
      go_roundw
      case rel => exact ⟨k + 1, by omega, by go_num, by rw [unhide HT, ← List.append_assoc]; exact unhide H1, hK.trans (unhide H2)⟩
      case measure => simp [intOf]; omega
    · have e : k = ns.length := by omega
      subst e
      rw [List.take_length] at hWr
      go_wp2
      go_end0
      exact ⟨rfl, hWr, hK⟩

end Go.Proofs.Ytoifihhmneldeaa.Wt

import Derived.Test.YtbhbbeebncmaiaaGreatDoorMgZ01
namespace Go.Proofs.YtbhbbeebncmaiaaGreatDoor.Wt
open Go.ChangeShapes Go.WideShapes Go.ChangeAt Go.RowKit Bs
set_option linter.unusedVariables false
set_option maxHeartbeats 1000000 in
theorem text_any (B : Nat) (L : List UInt8) (w : World) (hW : Wr w B L) :
    Calls Tryz.prog 195 #[.pointer (some ⟨B, 0, none⟩)] w fun e w' => e = .returned (.string ⟨L.toArray⟩) ∧ w' = w := by
  obtain ⟨v, hv, hown⟩ := hW
  have hc := cell_of_one hv
  have hcv := run_own_string w _ v L hown
  clear hv hown
  go_enter Tryz.func195, Tryz.ntmps195
  go_wp2
  go_ret
  exact ⟨rfl, rfl⟩

set_option maxHeartbeats 1000000 in
theorem longs_any (B bs cap : Nat) (ns : List Int) (L : List UInt8) (w : World) (hW : Wr w B L) (hb : B < bs)
    (hsrc : w.heap[bs]? = some (.cells (ns.map (Value.int .u32)).toArray 50 (0, 0))) (hnr : ∀ n ∈ ns, 0 ≤ n ∧ n ≤ 4294967295) (hsz : L.length + 4 * ns.length ≤ 1099511627776) :
    Calls Tryz.prog 229 #[.pointer (some ⟨B, 0, none⟩), .slice (some ⟨bs, 0, none⟩) ns.length cap] w fun e w' =>
      e = .returned (.tuple #[]) ∧ Wr w' B (L ++ dwords8 ns) ∧ Kept B w w' := by
  have HS := hide hsrc
  have HN := hide hnr
  clear hsrc hnr
  go_enter Tryz.func229, Tryz.ntmps229
  go_wp2
  go_loopw [8] (fun i wr => ∃ k : Nat, k ≤ ns.length ∧ i = .int .i64 k ∧ Wr wr B (L ++ dwords8 (ns.take k)) ∧ Kept B w wr) (fun i _ => ns.length - (intOf i).toNat)
  case atStart => exact ⟨0, Nat.zero_le _, rfl, by simpa [dwords8] using hW, Kept.refl _ _⟩
  case round =>
    obtain ⟨k, hk, rfl, hWr, hK⟩ := hrel
    rename World => wr
    by_cases hlt : k < ns.length
    · have hsr := hK.others _ _ _ _ hb (unhide HS) (by decide)
      obtain ⟨n, hn⟩ : ∃ n, ns[k] = n := ⟨_, rfl⟩
      obtain ⟨hn0, hn1⟩ := unhide HN ns[k] (List.getElem_mem hlt)
      rw [hn] at hn0 hn1
      have hcs : wr.cell? ⟨bs, k, none⟩ = some (.int .u32 n) := by
        rw [cell_of_row wr bs k _ _ _ hsr]; simp [hlt, hn]
      have HT := hide (dwords8_take ns k hlt)
      rw [hn] at HT
      have hlw : (dwords8 (ns.take k)).length ≤ 4 * k := by rw [dwords8_length, List.length_take]; omega
      have hB := hWr.lt
      clear hsr hn
      have hcall := words_any B wr.heap.size 2 [n / 65536, n % 65536] _ _ (hWr.alloc (.cells #[.int .u16 (n / 65536), .int .u16 (n % 65536)] 90)) hB (heap_alloc_new wr _)
        (by intro x hx; simp at hx; omega) (by simp only [List.length_append, List.length_cons, List.length_nil]; omega)
      simp only [List.length_cons, List.length_nil, Nat.zero_add] at hcall
      have HC := hide hcall
      clear hcall
      go_wp2_with fail
      rw [IntKind.wrap_u16]
      refine (unhide HC).mono ?_
      rintro e w1 ⟨rfl, h1, h2⟩
      have H1 := hide h1
      have H2 := hide (((Kept.refl B wr).alloc (by omega) _).trans h2)
      clear h1 h2 HC hcs hWr
      go_wp2
      go_roundw
      case rel => exact ⟨k + 1, by omega, by go_num, by rw [unhide HT, ← List.append_assoc]; exact unhide H1, hK.trans (unhide H2)⟩
      case measure => simp [intOf]; omega
    · have e : k = ns.length := by omega
      subst e
      rw [List.take_length] at hWr
      go_wp2
      go_end0
      exact ⟨rfl, hWr, hK⟩

set_option maxHeartbeats 1000000 in
theorem addresses_any (B bs cap : Nat) (ns : List Int) (L : List UInt8) (w : World) (hW : Wr w B L) (hb : B < bs)
    (hsrc : w.heap[bs]? = some (.cells (ns.map (Value.int .u32)).toArray 53 (0, 0))) (hnr : ∀ n ∈ ns, 0 ≤ n ∧ n ≤ 4294967295) (hsz : L.length + 4 * ns.length ≤ 1099511627776) :
    Calls Tryz.prog 194 #[.pointer (some ⟨B, 0, none⟩), .slice (some ⟨bs, 0, none⟩) ns.length cap] w fun e w' =>
      e = .returned (.tuple #[]) ∧ Wr w' B (L ++ dwords8 ns) ∧ Kept B w w' := by
  have HS := hide hsrc
  have HN := hide hnr
  clear hsrc hnr
  go_enter Tryz.func194, Tryz.ntmps194
  go_wp2
  go_loopw [8] (fun i wr => ∃ k : Nat, k ≤ ns.length ∧ i = .int .i64 k ∧ Wr wr B (L ++ dwords8 (ns.take k)) ∧ Kept B w wr) (fun i _ => ns.length - (intOf i).toNat)
  case atStart => exact ⟨0, Nat.zero_le _, rfl, by simpa [dwords8] using hW, Kept.refl _ _⟩
  case round =>
    obtain ⟨k, hk, rfl, hWr, hK⟩ := hrel
    rename World => wr
    by_cases hlt : k < ns.length
    · have hsr := hK.others _ _ _ _ hb (unhide HS) (by decide)
      obtain ⟨n, hn⟩ : ∃ n, ns[k] = n := ⟨_, rfl⟩
      obtain ⟨hn0, hn1⟩ := unhide HN ns[k] (List.getElem_mem hlt)
      rw [hn] at hn0 hn1
      have hcs : wr.cell? ⟨bs, k, none⟩ = some (.int .u32 n) := by
        rw [cell_of_row wr bs k _ _ _ hsr]; simp [hlt, hn]
      have HT := hide (dwords8_take ns k hlt)
      rw [hn] at HT
      have hlw : (dwords8 (ns.take k)).length ≤ 4 * k := by rw [dwords8_length, List.length_take]; omega
      have hB := hWr.lt
      clear hsr hn
      have hcall := longs_any B wr.heap.size 1 [n] _ _ (hWr.alloc (.cells #[.int .u32 n] 50)) hB (heap_alloc_new wr _)
        (by intro x hx; simp at hx; omega) (by simp only [List.length_append, List.length_cons, List.length_nil]; omega)
      rw [show dwords8 [n] = dword8 n by simp [dwords8]] at hcall
      simp only [List.length_cons, List.length_nil, Nat.zero_add] at hcall
      have HC := hide hcall
      clear hcall
      go_wp2_with fail
      refine (unhide HC).mono ?_
      rintro e w1 ⟨rfl, h1, h2⟩
      have H1 := hide h1
      have H2 := hide (((Kept.refl B wr).alloc (by omega) _).trans h2)
      clear h1 h2 HC hcs hWr
      go_wp2
      go_roundw
      case rel => exact ⟨k + 1, by omega, by go_num, by rw [unhide HT, ← List.append_assoc]; exact unhide H1, hK.trans (unhide H2)⟩
      case measure => simp [intOf]; omega
    · have e : k = ns.length := by omega
      subst e
      rw [List.take_length] at hWr
      go_wp2
      go_end0
      exact ⟨rfl, hWr, hK⟩

set_option maxHeartbeats 1000000 in
set_option maxRecDepth 10000 in
theorem fill_any (B : Nat) (n : Nat) (L : List UInt8) (w : World) (hW : Wr w B L) (hL : L.length ≤ 1099511627776) (hn : n ≤ 1099511627776) :
    Calls Tryz.prog 228 #[.pointer (some ⟨B, 0, none⟩), .int .i64 n] w fun e w' =>
      e = .returned (.tuple #[]) ∧ Wr w' B (L ++ List.replicate (n - L.length) 0) ∧ Kept B w w' := by
  obtain ⟨i0, hi, hz0, hz1, hz2⟩ := info_parts info8
  go_enter Tryz.func228, Tryz.ntmps228
  go_wp2
  go_loopg [] (n - L.length) (fun g wr => g ≤ n - L.length ∧ Wr wr B (L ++ List.replicate (n - L.length - g) 0) ∧ Kept B w wr)
  case atStart => exact ⟨Nat.le_refl _, by simpa using hW, Kept.refl _ _⟩
  case round =>
    obtain ⟨hg, hWr, hK⟩ := hrel
    obtain ⟨v, hv, hown⟩ := hWr
    obtain ⟨ao, cp, hv'⟩ := own_len hown
    have hl : (L ++ List.replicate (n - L.length - gk) (0 : UInt8)).length = L.length + (n - L.length - gk) := by simp
    rw [hl] at hown hv'
    have hB := lt_of_block hv
    by_cases hlt : 0 < gk
    · have hlt1 : ((L.length + (n - L.length - gk) : Nat) : Int) < (n : Int) := by omega
      have hc := cell_of_one hv
      have hf := free_of_one hv
      rw [hv'] at hc
      have HV := hide hv
      have HO := hide hown
      have HE := hide hv'
      have HL := hide hl
      have hM : L.length + (n - L.length - gk) ≤ 2199023255552 := by omega
      obtain ⟨M, hM'⟩ : ∃ M, L.length + (n - L.length - gk) = M := ⟨_, rfl⟩
      rw [hM'] at hc hlt1 HO HE HL hM
      clear hv hown hv' hl hM'
      go_wp2_with (at_builtin; refine wpList_append_own _ rfl (.tmp 15) (.tmp 16) 55 rfl (B + 1) 5 i0 (.int .u8 0) 1 1 Tryz.underlying55 hi hz0 hz1 hz2 rfl (by decide) v _ _ (unhide HE).symm ((unhide HO).alloc _) ⟨wr.heap.size, 0, none⟩ 1 1 (cells8 [0]) rfl rfl ?c1 (cells8_one _) ?h63 ?hby ?hba ?_)
      case c1 => exact cell_new wr [.int .u8 0] 5
      case h63 => simp only [maxLen]; omega
      case hby => omega
      case hba => simp; omega
      · intro v' w1 hown' hgr _
        have hv1 : (wr.alloc (.cells #[.int .u8 0] 5)).heap[B]? = some (.cells #[v] 240 (0, 0)) := by rw [Below.heap_alloc _ _ _ hB]; exact unhide HV
        have ho1 : (wr.alloc (.cells #[.int .u8 0] 5)).ownsRow (B + 1) 5 1 v (L ++ List.replicate (n - L.length - gk) (0 : UInt8)).length (cells8 (L ++ List.replicate (n - L.length - gk) (0 : UInt8))) := by
          rw [unhide HL]; exact (unhide HO).alloc _
        have hm := mid hv1 ho1 hgr
        have hc1 := cell_of_one hm
        have hf1 := free_of_one hm
        obtain ⟨s1, s2⟩ := step (N := [0]) hv1 ho1 (by rw [unhide HL]; exact hown') hgr
        obtain ⟨ao', nn', cp', hv''⟩ := own_shape hown'
        have S1 := hide s1
        have S2 := hide (((Kept.refl B wr).alloc (by omega) _).trans s2)
        clear hown' hgr hm s1 s2 hc hf hv1 ho1 HO HV HE
        subst hv''
        go_wp2
        go_roundg (gk - 1)
        case rel =>
          refine ⟨by omega, ?_, hK.trans (unhide S2)⟩
          have e : n - L.length - (gk - 1) = (n - L.length - gk) + 1 := by omega
          rw [e, List.replicate_succ', ← List.append_assoc]
          exact unhide S1
        case measure => omega
    · have e : gk = 0 := by omega
      subst e
      have hge : (n : Int) ≤ ((L.length + (n - L.length - 0) : Nat) : Int) := by omega
      have hc := cell_of_one hv
      have HV := hide (show Wr wr B (L ++ List.replicate (n - L.length - 0) 0) from ⟨v, hv, by rw [hl]; exact hown⟩)
      rw [hv'] at hc
      obtain ⟨M, hM'⟩ : ∃ M, L.length + (n - L.length - 0) = M := ⟨_, rfl⟩
      rw [hM'] at hc hge
      clear hv hown hv' hl hM'
      go_wp2
      go_end0
      exact ⟨rfl, unhide HV, hK⟩
end Go.Proofs.YtbhbbeebncmaiaaGreatDoor.Wt
namespace Go.Proofs.YtbhbbeebncmaiaaGreatDoor.Wt
open Go.ChangeShapes Go.WideShapes Go.ChangeAt Go.RowKit Bs
set_option linter.unusedVariables false
theorem six (m : List UInt8) (h : m.length = 6) : ∃ a b c d e f, m = [a, b, c, d, e, f] := by
  match m, h with
  | [a, b, c, d, e, f], _ => exact ⟨a, b, c, d, e, f, rfl⟩
theorem flatten6_get (ms : List (List UInt8)) (h6 : ∀ m ∈ ms, m.length = 6) (k j : Nat) (hk : k < ms.length) (hj : j < 6) :
    ms.flatten[k * 6 + j]? = (ms[k])[j]? := by
  induction ms generalizing k with
  | nil => simp at hk
  | cons m r ih =>
    have hm := h6 m (by simp)
    rw [List.flatten_cons]
    cases k with
    | zero => rw [List.getElem?_append_left (by omega)]; simp
    | succ k =>
      rw [List.getElem?_append_right (by omega)]
      have e : (k + 1) * 6 + j - m.length = k * 6 + j := by omega
      rw [e, ih (fun m hm => h6 m (by simp [hm])) k (by simpa using hk)]
      simp
theorem flatten6_length (ms : List (List UInt8)) (h6 : ∀ m ∈ ms, m.length = 6) : ms.flatten.length = 6 * ms.length := by
  induction ms with
  | nil => rfl
  | cons m r ih =>
    rw [List.flatten_cons, List.length_append, h6 m (by simp), ih (fun m hm => h6 m (by simp [hm]))]
    simp; omega
theorem flatten_take (ms : List (List UInt8)) (k : Nat) (h : k < ms.length) : (ms.take (k + 1)).flatten = (ms.take k).flatten ++ ms[k] := by
  rw [List.take_succ_eq_append_getElem h, List.flatten_append]; simp only [List.flatten_cons, List.flatten_nil, List.append_nil]

set_option maxHeartbeats 1000000 in
theorem cards_any (B bs cap : Nat) (ms : List (List UInt8)) (L : List UInt8) (w : World) (hW : Wr w B L) (hb : B < bs)
    (hsrc : w.heap[bs]? = some (.cells (cells8 ms.flatten).toArray 26 (0, 0))) (h6 : ∀ m ∈ ms, m.length = 6) (hsz : L.length + 6 * ms.length ≤ 1099511627776) :
    Calls Tryz.prog 193 #[.pointer (some ⟨B, 0, none⟩), .slice (some ⟨bs, 0, none⟩) ms.length cap] w fun e w' =>
      e = .returned (.tuple #[]) ∧ Wr w' B (L ++ ms.flatten) ∧ Kept B w w' := by
  obtain ⟨i0, hi, hz0, hz1, hz2⟩ := info_parts info8
  have HS := hide hsrc
  have HN := hide h6
  clear hsrc h6
  go_enter Tryz.func193, Tryz.ntmps193
  go_wp2
  go_loopw [8] (fun i wr => ∃ k : Nat, k ≤ ms.length ∧ i = .int .i64 k ∧ Wr wr B (L ++ (ms.take k).flatten) ∧ Kept B w wr) (fun i _ => ms.length - (intOf i).toNat)
  case atStart => exact ⟨0, Nat.zero_le _, rfl, by simpa using hW, Kept.refl _ _⟩
  case round =>
    obtain ⟨k, hk, rfl, hWr, hK⟩ := hrel
    rename World => wr
    by_cases hlt : k < ms.length
    · obtain ⟨v, hv, hown⟩ := hWr
      have hsr := hK.others _ _ _ _ hb (unhide HS) (by decide)
      obtain ⟨a, b, c, d, e, f, hm⟩ := six ms[k] (unhide HN ms[k] (List.getElem_mem hlt))
      have hcell : ∀ j, j < 6 → wr.cell? ⟨bs, k * 6 + j, none⟩ = ((cells8 [a, b, c, d, e, f])[j]?) := by
        intro j hj
        rw [cell_of_row wr bs _ _ _ _ hsr, ← hm]
        rw [cells8, cells8, List.getElem?_toArray, List.getElem?_map, List.getElem?_map, flatten6_get ms (unhide HN) k j hlt hj]
      have c0 : wr.cell? ⟨bs, k * 6, none⟩ = some (.int .u8 a.toNat) := hcell 0 (by omega)
      have c1 : wr.cell? ⟨bs, k * 6 + 1, none⟩ = some (.int .u8 b.toNat) := hcell 1 (by omega)
      have c2 : wr.cell? ⟨bs, k * 6 + 2, none⟩ = some (.int .u8 c.toNat) := hcell 2 (by omega)
      have c3 : wr.cell? ⟨bs, k * 6 + 3, none⟩ = some (.int .u8 d.toNat) := hcell 3 (by omega)
      have c4 : wr.cell? ⟨bs, k * 6 + 4, none⟩ = some (.int .u8 e.toNat) := hcell 4 (by omega)
      have c5 : wr.cell? ⟨bs, k * 6 + 5, none⟩ = some (.int .u8 f.toNat) := hcell 5 (by omega)
      have hc := cell_of_one hv
      have hf := free_of_one hv
      have HV := hide hv
      have HO := hide hown
      have HT := hide (flatten_take ms k hlt)
      rw [hm] at HT
      have hlw : (ms.take k).flatten.length ≤ 6 * k := by rw [flatten6_length _ (fun m h => unhide HN m (List.mem_of_mem_take h)), List.length_take]; omega
      have hB := lt_of_block (unhide HV)
      clear hv hown hsr hm hcell
      have HA := hide (show (wr.alloc (.cells (cells8 [a, b, c, d, e, f]).toArray 26)).drew.heap[B]? = some (.cells #[v] 240 (0, 0)) by
        show (wr.alloc _).heap[B]? = _; rw [Below.heap_alloc _ _ _ hB]; exact unhide HV)
      have HB := hide (((unhide HO).alloc (.cells (cells8 [a, b, c, d, e, f]).toArray 26)).drew)
      have HC := hide (fun j u h => cell_new wr (cells8 [a, b, c, d, e, f]) 26 j u h)
      go_wp2_with fail
      go_region_law (refine step_append_own rfl (.tmp 16) (.tmp 17) 55 rfl (B + 1) 5 i0 (.int .u8 0) 1 1 Tryz.underlying55 hi hz0 hz1 hz2 rfl (by decide) v _ _ (by simp [Act.eval]) (unhide HB) ⟨wr.heap.size, 0, none⟩ 6 6 (cells8 [a, b, c, d, e, f]) (by simp [Act.eval]) rfl (unhide HC) (cells8_one _) (by simp only [List.length_append, maxLen]; omega) (by simp only [List.length_append]; omega) (by simp; omega) ?_; intro v' w1 hown' hg; obtain ⟨⟨ao, nn, cp, hv'⟩, hc1, hf1, S1, S2⟩ := step_all (N := [a, b, c, d, e, f]) (unhide HA) (unhide HB) hown' rfl hg; clear hown' hg hc hf; subst hv')
      go_wp2
      refine ⟨⟨k + 1, by omega, by go_num, by rw [unhide HT, ← List.append_assoc]; exact unhide S1, hK.trans ((((Kept.refl B wr).alloc (by omega) _).drew).trans (unhide S2))⟩, by simp [intOf]; omega⟩
    · have e : k = ms.length := by omega
      subst e
      rw [List.take_length] at hWr
      go_wp2
      go_end0
      exact ⟨rfl, hWr, hK⟩
end Go.Proofs.YtbhbbeebncmaiaaGreatDoor.Wt
namespace Go.Proofs.YtbhbbeebncmaiaaGreatDoor.Wt
open Go.ChangeShapes Go.WideShapes Go.ChangeAt Go.RowKit Bs
set_option linter.unusedVariables false
theorem kept_new {B : Nat} {w w' : World} {o : Obj} {L : List UInt8} (hW : Wr w B L) (h : Kept B (w.alloc o) w') : Kept B w w' :=
  ((Kept.refl B w).alloc (Nat.le_of_lt hW.lt) o).trans h

theorem texts_one (B bs : Nat) (s : ByteArray) (L : List UInt8) (w : World) (hW : Wr w B L) (hbs : bs = w.heap.size) (hsz : L.length + s.size ≤ 1099511627776) :
    Calls Tryz.prog 191 #[.pointer (some ⟨B, 0, none⟩), .slice (some ⟨bs, 0, none⟩) 1 1] (w.alloc (.cells #[.string s] 9)) fun e w' =>
      e = .returned (.tuple #[]) ∧ Wr w' B (L ++ s.data.toList) ∧ Kept B w w' := by
  subst hbs
  have h := texts_any B w.heap.size 1 [s] L _ (hW.alloc (.cells #[.string s] 9)) hW.lt (heap_alloc_new w _) (by simp only [flat, List.flatMap_cons, List.flatMap_nil, List.append_nil, len_str]; exact hsz) (by simp)
  refine h.mono ?_
  rintro e w1 ⟨rfl, h1, h2⟩
  refine ⟨rfl, ?_, kept_new hW h2⟩
  have e : flat [s] = s.data.toList := by simp [flat]
  rw [← e]; exact h1

theorem words_one (B bs : Nat) (n : Int) (L : List UInt8) (w : World) (hW : Wr w B L) (hbs : bs = w.heap.size) (h0 : 0 ≤ n) (h1 : n ≤ 65535) (hsz : L.length ≤ 1099511627000) :
    Calls Tryz.prog 192 #[.pointer (some ⟨B, 0, none⟩), .slice (some ⟨bs, 0, none⟩) 1 1] (w.alloc (.cells #[.int .u16 n] 90)) fun e w' =>
      e = .returned (.tuple #[]) ∧ Wr w' B (L ++ word8 n) ∧ Kept B w w' := by
  subst hbs
  have h := words_any B w.heap.size 1 [n] L _ (hW.alloc (.cells #[.int .u16 n] 90)) hW.lt (heap_alloc_new w _) (by intro x hx; simp at hx; omega) (by simp only [List.length_cons, List.length_nil]; omega)
  refine h.mono ?_
  rintro e w1 ⟨rfl, h1, h2⟩
  refine ⟨rfl, ?_, kept_new hW h2⟩
  have e : words8 [n] = word8 n := by simp [words8]
  rw [← e]; exact h1

theorem cards_one (B bs : Nat) (a b c d e f : UInt8) (L : List UInt8) (w : World) (hW : Wr w B L) (hbs : bs = w.heap.size) (hsz : L.length ≤ 1099511627000) :
    Calls Tryz.prog 193 #[.pointer (some ⟨B, 0, none⟩), .slice (some ⟨bs, 0, none⟩) 1 1] (w.alloc (.cells #[.int .u8 a.toNat, .int .u8 b.toNat, .int .u8 c.toNat, .int .u8 d.toNat, .int .u8 e.toNat, .int .u8 f.toNat] 26)) fun ee w' =>
      ee = .returned (.tuple #[]) ∧ Wr w' B (L ++ [a, b, c, d, e, f]) ∧ Kept B w w' := by
  subst hbs
  have h := cards_any B w.heap.size 1 [[a, b, c, d, e, f]] L _ (hW.alloc (.cells #[.int .u8 a.toNat, .int .u8 b.toNat, .int .u8 c.toNat, .int .u8 d.toNat, .int .u8 e.toNat, .int .u8 f.toNat] 26)) hW.lt (heap_alloc_new w _) (by intro x hx; simp at hx; subst hx; rfl) (by simp only [List.length_cons, List.length_nil]; omega)
  refine h.mono ?_
  rintro e w1 ⟨rfl, h1, h2⟩
  exact ⟨rfl, h1, kept_new hW h2⟩

theorem cards_two (B bs : Nat) (a b c d e f a' b' c' d' e' f' : UInt8) (L : List UInt8) (w : World) (hW : Wr w B L) (hbs : bs = w.heap.size) (hsz : L.length ≤ 1099511627000) :
    Calls Tryz.prog 193 #[.pointer (some ⟨B, 0, none⟩), .slice (some ⟨bs, 0, none⟩) 2 2] (w.alloc (.cells #[.int .u8 a.toNat, .int .u8 b.toNat, .int .u8 c.toNat, .int .u8 d.toNat, .int .u8 e.toNat, .int .u8 f.toNat, .int .u8 a'.toNat, .int .u8 b'.toNat, .int .u8 c'.toNat, .int .u8 d'.toNat, .int .u8 e'.toNat, .int .u8 f'.toNat] 26)) fun ee w' =>
      ee = .returned (.tuple #[]) ∧ Wr w' B (L ++ [a, b, c, d, e, f, a', b', c', d', e', f']) ∧ Kept B w w' := by
  subst hbs
  have h := cards_any B w.heap.size 2 [[a, b, c, d, e, f], [a', b', c', d', e', f']] L _ (hW.alloc (.cells #[.int .u8 a.toNat, .int .u8 b.toNat, .int .u8 c.toNat, .int .u8 d.toNat, .int .u8 e.toNat, .int .u8 f.toNat, .int .u8 a'.toNat, .int .u8 b'.toNat, .int .u8 c'.toNat, .int .u8 d'.toNat, .int .u8 e'.toNat, .int .u8 f'.toNat] 26)) hW.lt (heap_alloc_new w _) (by intro x hx; simp at hx; rcases hx with hx | hx <;> subst hx <;> rfl) (by simp only [List.length_cons, List.length_nil]; omega)
  refine h.mono ?_
  rintro e w1 ⟨rfl, h1, h2⟩
  exact ⟨rfl, h1, kept_new hW h2⟩
end Go.Proofs.YtbhbbeebncmaiaaGreatDoor.Wt

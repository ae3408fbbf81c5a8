import Derived.Test.YtonlmklkikbeiaaGreatDoorMgWa
import Derived.Test.YtonlmklkikbeiaaGreatDoorMgRefBytes
namespace Go.Proofs.YtonlmklkikbeiaaGreatDoor.Wt
open Go.ChangeShapes Go.WideShapes Go.ChangeAt Go.RowKit Bs
set_option linter.unusedVariables false

theorem six (m : List UInt8) (h : m.length = 6) : ∃ a b c d e f, m = [a, b, c, d, e, f] := by
  match m, h with
  | [a, b, c, d, e, f], _ => exact ⟨a, b, c, d, e, f, rfl⟩
theorem flatten6_get (ms : List (List UInt8)) (h6 : ∀ m ∈ ms, m.length = 6) (k j : Nat) (hk : k < ms.length) (hj : j < 6) :
    ms.flatten[k * 6 + j]? = (ms[k])[j]? := by
  induction ms generalizing k with
  | nil => simp at hk
  | cons m r ih =>
    have hm := h6 m (by simp)
    rw [List.flatten_cons]
    cases k with
    | zero => rw [List.getElem?_append_left (by omega)]; simp
    | succ k =>
      rw [List.getElem?_append_right (by omega)]
      have e : (k + 1) * 6 + j - m.length = k * 6 + j := by omega
      rw [e, ih (fun m hm => h6 m (by simp [hm])) k (by simpa using hk)]
      simp
theorem flatten6_length (ms : List (List UInt8)) (h6 : ∀ m ∈ ms, m.length = 6) : ms.flatten.length = 6 * ms.length := by
  induction ms with
  | nil => rfl
  | cons m r ih =>
    rw [List.flatten_cons, List.length_append, h6 m (by simp), ih (fun m hm => h6 m (by simp [hm]))]
    simp; omega
theorem flatten_take (ms : List (List UInt8)) (k : Nat) (h : k < ms.length) : (ms.take (k + 1)).flatten = (ms.take k).flatten ++ ms[k] := by
  rw [List.take_succ_eq_append_getElem h, List.flatten_append]; simp only [List.flatten_cons, List.flatten_nil, List.append_nil]

set_option maxHeartbeats 1000000 in
theorem cards_any (B bs cap : Nat) (ms : List (List UInt8)) (L : List UInt8) (w : World) (hW : Wr w B L) (hb : B < bs)
    (hsrc : w.heap[bs]? = some (.cells (cells8 ms.flatten).toArray 23 (0, 0))) (h6 : ∀ m ∈ ms, m.length = 6) (hsz : L.length + 6 * ms.length ≤ 1099511627776) :
    Calls Tryz.prog 162 #[.pointer (some ⟨B, 0, none⟩), .slice (some ⟨bs, 0, none⟩) ms.length cap] w fun e w' =>
      e = .returned (.tuple #[]) ∧ Wr w' B (L ++ ms.flatten) ∧ Kept B w w' := by
  obtain ⟨i0, hi, hz0, hz1, hz2⟩ := info_parts info8
  have HS := hide hsrc
  have HN := hide h6
  clear hsrc h6
  go_enter Tryz.func162, Tryz.ntmps162
  go_wp2
  go_loopw [8] (fun i wr => ∃ k : Nat, k ≤ ms.length ∧ i = .int .i64 k ∧ Wr wr B (L ++ (ms.take k).flatten) ∧ Kept B w wr) (fun i _ => ms.length - (intOf i).toNat)
  case atStart => exact ⟨0, Nat.zero_le _, rfl, by simpa using hW, Kept.refl _ _⟩
  case round =>
    obtain ⟨k, hk, rfl, hWr, hK⟩ := hrel
    rename World => wr
    by_cases hlt : k < ms.length
    · obtain ⟨v, hv, hown⟩ := hWr
      have hsr := hK.others _ _ _ _ hb (unhide HS) (by decide)
      obtain ⟨a, b, c, d, e, f, hm⟩ := six ms[k] (unhide HN ms[k] (List.getElem_mem hlt))
      have hcell : ∀ j, j < 6 → wr.cell? ⟨bs, k * 6 + j, none⟩ = ((cells8 [a, b, c, d, e, f])[j]?) := by
        intro j hj
        rw [cell_of_row wr bs _ _ _ _ hsr, ← hm]
        rw [cells8, cells8, List.getElem?_toArray, List.getElem?_map, List.getElem?_map, flatten6_get ms (unhide HN) k j hlt hj]
      have c0 : wr.cell? ⟨bs, k * 6, none⟩ = some (.int .u8 a.toNat) := hcell 0 (by omega)
      have c1 : wr.cell? ⟨bs, k * 6 + 1, none⟩ = some (.int .u8 b.toNat) := hcell 1 (by omega)
      have c2 : wr.cell? ⟨bs, k * 6 + 2, none⟩ = some (.int .u8 c.toNat) := hcell 2 (by omega)
      have c3 : wr.cell? ⟨bs, k * 6 + 3, none⟩ = some (.int .u8 d.toNat) := hcell 3 (by omega)
      have c4 : wr.cell? ⟨bs, k * 6 + 4, none⟩ = some (.int .u8 e.toNat) := hcell 4 (by omega)
      have c5 : wr.cell? ⟨bs, k * 6 + 5, none⟩ = some (.int .u8 f.toNat) := hcell 5 (by omega)
      have hc := cell_of_one hv
      have hf := free_of_one hv
      have HV := hide hv
      have HO := hide hown
      have HT := hide (flatten_take ms k hlt)
      rw [hm] at HT
      have hlw : (ms.take k).flatten.length ≤ 6 * k := by rw [flatten6_length _ (fun m h => unhide HN m (List.mem_of_mem_take h)), List.length_take]; omega
      have hB := lt_of_block (unhide HV)
      clear hv hown hsr hm hcell
      have HA := hide (show (wr.alloc (.cells (cells8 [a, b, c, d, e, f]).toArray 23)).drew.heap[B]? = some (.cells #[v] 166 (0, 0)) by
        show (wr.alloc _).heap[B]? = _; rw [Below.heap_alloc _ _ _ hB]; exact unhide HV)
      have HB := hide (((unhide HO).alloc (.cells (cells8 [a, b, c, d, e, f]).toArray 23)).drew)
      have HC := hide (fun j u h => cell_new wr (cells8 [a, b, c, d, e, f]) 23 j u h)
      go_wp2_with fail
      go_region_law (refine step_append_own rfl (.tmp 16) (.tmp 17) 78 rfl (B + 1) 5 i0 (.int .u8 0) 1 1 Tryz.underlying78 hi hz0 hz1 hz2 rfl (by decide) v _ _ (by simp [Act.eval]) (unhide HB) ⟨wr.heap.size, 0, none⟩ 6 6 (cells8 [a, b, c, d, e, f]) (by simp [Act.eval]) rfl (unhide HC) (cells8_one _) (by simp only [List.length_append, maxLen]; omega) (by simp only [List.length_append]; omega) (by simp; omega) ?_; intro v' w1 hown' hg; obtain ⟨⟨ao, nn, cp, hv'⟩, hc1, hf1, S1, S2⟩ := step_all (N := [a, b, c, d, e, f]) (unhide HA) (unhide HB) hown' rfl hg; clear hown' hg hc hf; subst hv')
      go_wp2
      refine ⟨⟨k + 1, by omega, by go_num, by rw [unhide HT, ← List.append_assoc]; exact unhide S1, hK.trans ((((Kept.refl B wr).alloc (by omega) _).drew).trans (unhide S2))⟩, by simp [intOf]; omega⟩
    · have e : k = ms.length := by omega
      subst e
      rw [List.take_length] at hWr
      go_wp2
      go_end0
      exact ⟨rfl, hWr, hK⟩
end Go.Proofs.YtonlmklkikbeiaaGreatDoor.Wt

namespace Go.Proofs.YtonlmklkikbeiaaGreatDoor.Wt
open Go.ChangeShapes Go.WideShapes Go.ChangeAt Go.RowKit Bs
set_option linter.unusedVariables false

theorem kept_new {B : Nat} {w w' : World} {o : Obj} {L : List UInt8} (hW : Wr w B L) (h : Kept B (w.alloc o) w') : Kept B w w' :=
  ((Kept.refl B w).alloc (Nat.le_of_lt hW.lt) o).trans h

theorem texts_one (B bs : Nat) (s : ByteArray) (L : List UInt8) (w : World) (hW : Wr w B L) (hbs : bs = w.heap.size) (hsz : L.length + s.size ≤ 1099511627776) :
    Calls Tryz.prog 116 #[.pointer (some ⟨B, 0, none⟩), .slice (some ⟨bs, 0, none⟩) 1 1] (w.alloc (.cells #[.string s] 9)) fun e w' =>
      e = .returned (.tuple #[]) ∧ Wr w' B (L ++ s.data.toList) ∧ Kept B w w' := by
  subst hbs
  have h := texts_any B w.heap.size 1 [s] L _ (hW.alloc (.cells #[.string s] 9)) hW.lt (heap_alloc_new w _) (by simp only [flat, List.flatMap_cons, List.flatMap_nil, List.append_nil, len_str]; exact hsz) (by simp)
  refine h.mono ?_
  rintro e w1 ⟨rfl, h1, h2⟩
  refine ⟨rfl, ?_, kept_new hW h2⟩
  have e : flat [s] = s.data.toList := by simp [flat]
  rw [← e]; exact h1

theorem words_one (B bs : Nat) (n : Int) (L : List UInt8) (w : World) (hW : Wr w B L) (hbs : bs = w.heap.size) (h0 : 0 ≤ n) (h1 : n ≤ 65535) (hsz : L.length ≤ 1099511627000) :
    Calls Tryz.prog 115 #[.pointer (some ⟨B, 0, none⟩), .slice (some ⟨bs, 0, none⟩) 1 1] (w.alloc (.cells #[.int .u16 n] 48)) fun e w' =>
      e = .returned (.tuple #[]) ∧ Wr w' B (L ++ word8 n) ∧ Kept B w w' := by
  subst hbs
  have h := words_any B w.heap.size 1 [n] L _ (hW.alloc (.cells #[.int .u16 n] 48)) hW.lt (heap_alloc_new w _) (by intro x hx; simp at hx; omega) (by simp only [List.length_cons, List.length_nil]; omega)
  refine h.mono ?_
  rintro e w1 ⟨rfl, h1, h2⟩
  refine ⟨rfl, ?_, kept_new hW h2⟩
  have e : words8 [n] = word8 n := by simp [words8]
  rw [← e]; exact h1

theorem addresses_one (B bs : Nat) (n : Int) (L : List UInt8) (w : World) (hW : Wr w B L) (hbs : bs = w.heap.size) (h0 : 0 ≤ n) (h1 : n ≤ 4294967295) (hsz : L.length ≤ 1099511627000) :
    Calls Tryz.prog 113 #[.pointer (some ⟨B, 0, none⟩), .slice (some ⟨bs, 0, none⟩) 1 1] (w.alloc (.cells #[.int .u32 n] 38)) fun e w' =>
      e = .returned (.tuple #[]) ∧ Wr w' B (L ++ dword8 n) ∧ Kept B w w' := by
  subst hbs
  have h := addresses_any B w.heap.size 1 [n] L _ (hW.alloc (.cells #[.int .u32 n] 38)) hW.lt (heap_alloc_new w _) (by intro x hx; simp at hx; omega) (by simp only [List.length_cons, List.length_nil]; omega)
  refine h.mono ?_
  rintro e w1 ⟨rfl, h1, h2⟩
  refine ⟨rfl, ?_, kept_new hW h2⟩
  have e : dwords8 [n] = dword8 n := by simp [dwords8]
  rw [← e]; exact h1

theorem cards_one (B bs : Nat) (a b c d e f : UInt8) (L : List UInt8) (w : World) (hW : Wr w B L) (hbs : bs = w.heap.size) (hsz : L.length ≤ 1099511627000) :
    Calls Tryz.prog 162 #[.pointer (some ⟨B, 0, none⟩), .slice (some ⟨bs, 0, none⟩) 1 1] (w.alloc (.cells #[.int .u8 a.toNat, .int .u8 b.toNat, .int .u8 c.toNat, .int .u8 d.toNat, .int .u8 e.toNat, .int .u8 f.toNat] 23)) fun ee w' =>
      ee = .returned (.tuple #[]) ∧ Wr w' B (L ++ [a, b, c, d, e, f]) ∧ Kept B w w' := by
  subst hbs
  have h := cards_any B w.heap.size 1 [[a, b, c, d, e, f]] L _ (hW.alloc (.cells #[.int .u8 a.toNat, .int .u8 b.toNat, .int .u8 c.toNat, .int .u8 d.toNat, .int .u8 e.toNat, .int .u8 f.toNat] 23)) hW.lt (heap_alloc_new w _) (by intro x hx; simp at hx; subst hx; rfl) (by simp only [List.length_cons, List.length_nil]; omega)
  refine h.mono ?_
  rintro e w1 ⟨rfl, h1, h2⟩
  exact ⟨rfl, h1, kept_new hW h2⟩

theorem cards_two (B bs : Nat) (a b c d e f a' b' c' d' e' f' : UInt8) (L : List UInt8) (w : World) (hW : Wr w B L) (hbs : bs = w.heap.size) (hsz : L.length ≤ 1099511627000) :
    Calls Tryz.prog 162 #[.pointer (some ⟨B, 0, none⟩), .slice (some ⟨bs, 0, none⟩) 2 2] (w.alloc (.cells #[.int .u8 a.toNat, .int .u8 b.toNat, .int .u8 c.toNat, .int .u8 d.toNat, .int .u8 e.toNat, .int .u8 f.toNat, .int .u8 a'.toNat, .int .u8 b'.toNat, .int .u8 c'.toNat, .int .u8 d'.toNat, .int .u8 e'.toNat, .int .u8 f'.toNat] 23)) fun ee w' =>
      ee = .returned (.tuple #[]) ∧ Wr w' B (L ++ [a, b, c, d, e, f, a', b', c', d', e', f']) ∧ Kept B w w' := by
  subst hbs
  have h := cards_any B w.heap.size 2 [[a, b, c, d, e, f], [a', b', c', d', e', f']] L _ (hW.alloc (.cells #[.int .u8 a.toNat, .int .u8 b.toNat, .int .u8 c.toNat, .int .u8 d.toNat, .int .u8 e.toNat, .int .u8 f.toNat, .int .u8 a'.toNat, .int .u8 b'.toNat, .int .u8 c'.toNat, .int .u8 d'.toNat, .int .u8 e'.toNat, .int .u8 f'.toNat] 23)) hW.lt (heap_alloc_new w _) (by intro x hx; simp at hx; rcases hx with hx | hx <;> subst hx <;> rfl) (by simp only [List.length_cons, List.length_nil]; omega)
  refine h.mono ?_
  rintro e w1 ⟨rfl, h1, h2⟩
  exact ⟨rfl, h1, kept_new hW h2⟩
end Go.Proofs.YtonlmklkikbeiaaGreatDoor.Wt

namespace Go.Proofs.YtonlmklkikbeiaaGreatDoor.Arp
open Go.ChangeShapes Go.WideShapes Go.ChangeAt Go.RowKit Bs Rb Wt
set_option linter.unusedVariables false

theorem by8_congr {a b : Int} (h : a % 256 = b % 256) : by8 a = by8 b := by simp only [by8, h]
theorem big2 (x : Int) : bigL x 2 = word8 x := rfl
theorem big4 (x : Int) : bigL x 4 = dword8 x := by
  have e1 : by8 (x / 256 / 256 / 256) = by8 (x / 65536 / 256) := by8_congr (by omega)
  have e2 : by8 (x / 256 / 256) = by8 (x / 65536) := by8_congr (by omega)
  have e3 : by8 (x / 256) = by8 (x % 65536 / 256) := by8_congr (by omega)
  have e4 : by8 x = by8 (x % 65536) := by8_congr (by omega)
  show [by8 (x / 256 / 256 / 256), by8 (x / 256 / 256), by8 (x / 256), by8 x] = [by8 (x / 65536 / 256), by8 (x / 65536), by8 (x % 65536 / 256), by8 (x % 65536)]
  rw [e1, e2, e3, e4]

/-- the bytes of an ARP -/
def arpL (op : Int) (fm : List UInt8) (fi : Int) (tm : List UInt8) (ti : Int) : List UInt8 :=
  [0, 1, 8, 0, 6, 4] ++ word8 op ++ fm ++ dword8 fi ++ tm ++ dword8 ti

theorem isOp_any (n : Int) (w : World) :
    Calls Tryz.prog 161 #[.int .u16 n] w fun e w' => e = .returned (.bool (n == 1 || n == 2)) ∧ w' = w := by
  by_cases h1 : (n == 1) = true
  · go_enter Tryz.func161, Tryz.ntmps161
    go_wp2
    go_ret
    exact ⟨by simp [h1], rfl⟩
  · have h1' : (n == 1) = false := by simpa using h1
    go_enter Tryz.func161, Tryz.ntmps161
    go_wp2
    go_ret
    exact ⟨by simp [h1'], rfl⟩

/-- a new writer -/
theorem wr_new (w : World) : Wr (w.alloc (.cells #[.slice none 0 0] 166)) w.heap.size [] :=
  ⟨_, heap_alloc_new w _, World.ownsRow_nil _ _ _ _⟩
theorem kept_cells {B : Nat} {w w' : World} (h : Kept B w w') {b : Nat} (hb : b < B) : ∀ o, w'.cell? ⟨b, o, none⟩ = w.cell? ⟨b, o, none⟩ := fun o => h.below.cell (p := ⟨b, o, none⟩) hb
theorem below_cells {w w' : World} (h : Below w.heap.size w w') : ∀ b o, b < w.heap.size → w'.cell? ⟨b, o, none⟩ = w.cell? ⟨b, o, none⟩ := fun b o hb => h.cell (p := ⟨b, o, none⟩) hb
end Go.Proofs.YtonlmklkikbeiaaGreatDoor.Arp

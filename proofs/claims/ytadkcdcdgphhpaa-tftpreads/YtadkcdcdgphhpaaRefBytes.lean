import Derived.Test.YtadkcdcdgphhpaaBase
namespace Go.Proofs.Ytadkcdcdgphhpaa.Rb
open Go.ChangeShapes Go.WideShapes Go.ChangeAt Go.RowKit Bs
set_option linter.unusedVariables false

/-- a number in n bytes, the highest first -/
def bigL (x : Int) : Nat → List UInt8
  | 0 => []
  | n + 1 => bigL (x / 256) n ++ [by8 x]

theorem byte_string (w : World) (y : Int) : (convert 80 9 (.slice (some ⟨w.heap.size, 0, none⟩) 1 1)).run Try.prog (w.alloc (.cells #[.int .u8 (y % 256)] 5)) = .ok (.string ⟨#[by8 y]⟩) (w.alloc (.cells #[.int .u8 (y % 256)] 5)) := by
  refine run_convert_bytes_back _ _ _ 5 ⟨w.heap.size, 0, none⟩ 1 [by8 y] Try.underlying80 Try.underlying5 Try.underlying9 (fun j hj => ?_)
  have e : j = 0 := by simp at hj; exact hj
  subst e
  rw [cell_new w [.int .u8 (y % 256)] 5 0 (.int .u8 (y % 256)) rfl]
  simp only [List.getElem_cons_zero, by8_toNat]

theorem byte_string' (w : World) (x : UInt8) (c : Nat) : (convert 80 9 (.slice (some ⟨w.heap.size, 0, none⟩) 1 c)).run Try.prog (w.alloc (.cells #[.int .u8 x.toNat] 5)) = .ok (.string ⟨#[x]⟩) (w.alloc (.cells #[.int .u8 x.toNat] 5)) := by
  refine run_convert_bytes_back _ _ _ 5 ⟨w.heap.size, 0, none⟩ c [x] Try.underlying80 Try.underlying5 Try.underlying9 (fun j hj => ?_)
  have e : j = 0 := by simp at hj; exact hj
  subst e
  exact cell_new w [.int .u8 x.toNat] 5 0 (.int .u8 x.toNat) rfl
theorem add_str (a b : List UInt8) : (⟨a.toArray⟩ : ByteArray) ++ (⟨b.toArray⟩ : ByteArray) = ⟨(a ++ b).toArray⟩ := by
  apply ByteArray.ext; rw [ByteArray.data_append]; simp

set_option maxHeartbeats 1000000 in
theorem big_any (x : Int) (n : Nat) (w : World) (h0 : 0 ≤ x) (h1 : x ≤ 9223372036854775807) (hn : n ≤ 8) :
    Calls Try.prog 49 #[.int .i64 x, .int .i64 n] w fun e w' => e = .returned (.string ⟨(bigL x n).toArray⟩) ∧ Below w.heap.size w w' := by
  go_enter Try.func49, Try.ntmps49
  go_wp2
  go_loopw [0, 1, 5] (fun vx vn vs wr => ∃ (y : Int) (m : Nat) (t : List UInt8), m ≤ n ∧ 0 ≤ y ∧ y ≤ 9223372036854775807 ∧ vx = .int .i64 y ∧ vn = .int .i64 m ∧ vs = .string ⟨t.toArray⟩ ∧ t.length ≤ n - m ∧ Hid (bigL y m ++ t = bigL x n) ∧ Below w.heap.size w wr) (fun _ vn _ _ => (intOf vn).toNat)
  case atStart => exact ⟨x, n, [], Nat.le_refl _, h0, h1, rfl, rfl, rfl, by simp, hide (by simp), Below.refl _ _⟩
  case round =>
    obtain ⟨y, m, t, hm, hy0, hy1, rfl, rfl, rfl, ht, HE, hb⟩ := hrel
    rename World => wr
    by_cases hlt : 0 < m
    · have hcv : (convert 80 9 (.slice (some ⟨wr.heap.size, 0, none⟩) 1 1)).run Try.prog (wr.alloc (.cells #[.int .u8 (y % 256)] 5)) = .ok (.string ⟨#[by8 y]⟩) (wr.alloc (.cells #[.int .u8 (y % 256)] 5)) := byte_string wr y
      obtain ⟨m, rfl⟩ : ∃ p, m = p + 1 := ⟨m - 1, by omega⟩
      go_wp2
      go_roundw
      case rel =>
        refine ⟨y / 256, m, by8 y :: t, by omega, by omega, by omega, rfl, by go_num, ?_, by simp; omega, hide ?_, hb.alloc hb.size _⟩
        · rw [add_str]; rfl
        · rw [← unhide HE, bigL, List.append_assoc]; rfl
      case measure => simp [intOf]
    · have e : m = 0 := by omega
      subst e
      go_wp2
      go_ret
      refine ⟨ret_str ?_, hb⟩
      rw [← unhide HE]
      rfl

set_option maxHeartbeats 1000000 in
theorem ip_any (x : Int) (w : World) (h0 : 0 ≤ x) (h1 : x ≤ 4294967295) :
    Calls Try.prog 53 #[.int .u32 x] w fun e w' => e = .returned (.string ⟨(bigL x 4).toArray⟩) ∧ Below w.heap.size w w' := by
  have hc := hide (big_any x 4 w h0 (by omega) (by omega))
  go_enter Try.func53, Try.ntmps53
  go_wp2_with fail
  refine (unhide hc).mono ?_
  rintro e w1 ⟨rfl, hb⟩
  go_wp2
  go_ret
  exact ⟨rfl, hb⟩

set_option maxHeartbeats 1000000 in
theorem mac_any (a b c d e f : UInt8) (w : World) :
    Calls Try.prog 48 #[.agg #[.int .u8 a.toNat, .int .u8 b.toNat, .int .u8 c.toNat, .int .u8 d.toNat, .int .u8 e.toNat, .int .u8 f.toNat]] w fun e' w' => e' = .returned (.string ⟨#[a, b, c, d, e, f]⟩) ∧ Below w.heap.size w w' := by
  obtain ⟨W1, hW1⟩ : ∃ W1, W1 = w.alloc (.cells (cells8 [a, b, c, d, e, f]).toArray 23) := ⟨_, rfl⟩
  have HC : ∀ j (h : j < 6), W1.cell? ⟨w.heap.size, j, none⟩ = some (.int .u8 (([a, b, c, d, e, f] : List UInt8)[j]).toNat) := by
    intro j h
    have := cell_new w (cells8 [a, b, c, d, e, f]) 23 j (.int .u8 (([a, b, c, d, e, f] : List UInt8)[j]).toNat) (cells8_get [a, b, c, d, e, f] j h)
    rw [add_lit'] at this
    rw [hW1]; exact this
  have hb1 : Below w.heap.size w W1 := by rw [hW1]; exact (Below.refl _ _).alloc (Nat.le_refl _) _
  have hz : W1.heap.size = w.heap.size + 1 := by rw [hW1]; simp
  obtain ⟨m, hm, hl⟩ : ∃ m : List UInt8, m = [a, b, c, d, e, f] ∧ m.length = 6 := ⟨_, rfl, rfl⟩
  have HM := hide hm
  have HL := hide hl
  have HZ := hide hz
  have HW := hide hW1
  have HCC := hide HC
  clear hm hl HC hz hW1
  go_enter Try.func48, Try.ntmps48
  go_wp2
  go_loopw [3, 4] (fun vs vi wr => ∃ (k : Nat), k ≤ 6 ∧ vi = .int .i64 k ∧ vs = .string ⟨(m.take k).toArray⟩ ∧ Below W1.heap.size W1 wr) (fun _ vi _ => 6 - (intOf vi).toNat)
  case atStart => exact ⟨0, by omega, rfl, by simp, by rw [unhide HW]; exact Below.refl _ _⟩
  case round =>
    obtain ⟨k, hk, rfl, rfl, hb⟩ := hrel
    rename World => wr
    by_cases hlt : k < 6
    · obtain ⟨x, hx⟩ : ∃ x, m[k]'(by rw [unhide HL]; exact hlt) = x := ⟨_, rfl⟩
      have hc : wr.cell? ⟨w.heap.size, k, none⟩ = some (.int .u8 x.toNat) := by
        rw [hb.cell (by show w.heap.size < W1.heap.size; rw [unhide HZ]; omega), unhide HCC k hlt, ← hx]
        simp [unhide HM]
      have HX := hide hx
      clear hx
      have hcv := fun c => byte_string' wr x c
      have hsz := hb.size
      go_wp2
      go_roundw
      case rel =>
        refine ⟨k + 1, by omega, by go_num, ?_, hb.alloc hb.size _⟩
        rw [show (⟨#[x]⟩ : ByteArray) = ⟨([x] : List UInt8).toArray⟩ from rfl, add_str, List.take_succ_eq_append_getElem (by rw [unhide HL]; exact hlt), unhide HX]
      case measure => simp [intOf]; omega
    · have e : k = 6 := by omega
      subst e
      have HF : Hid (m.take 6 = [a, b, c, d, e, f]) := hide (by rw [unhide HM]; rfl)
      go_wp2
      go_ret
      refine ⟨ret_str ?_, hb1.trans (hb.mono (by rw [unhide HZ]; omega))⟩
      rw [unhide HF]

/-- bytes 0 behind, till there are n -/
def zeroS (s : ByteArray) (n : Nat) : ByteArray := if n ≤ s.size then s else s ++ ⟨(List.replicate (n - s.size) 0).toArray⟩
theorem made_string (w : World) (n c : Nat) : (convert 80 9 (.slice (some ⟨w.heap.size, 0, none⟩) n c)).run Try.prog (w.alloc (.cells (madeCells #[.int .u8 0] n) 5)) = .ok (.string ⟨(List.replicate n 0).toArray⟩) (w.alloc (.cells (madeCells #[.int .u8 0] n) 5)) := by
  have h := run_convert_bytes_back (w.alloc (.cells (madeCells #[.int .u8 0] n) 5)) 80 9 5 ⟨w.heap.size, 0, none⟩ c (List.replicate n 0) Try.underlying80 Try.underlying5 Try.underlying9 (fun j hj => by
    have e : madeCells #[Value.int .u8 0] n = (List.replicate n (Value.int .u8 0)).toArray := by
      apply Array.ext'; rw [toList_madeCells_one]
    rw [e]
    have hj' : j < n := by simpa using hj
    exact cell_new w (List.replicate n (.int .u8 0)) 5 j _ (by simp [hj']))
  rw [List.length_replicate] at h
  exact h

set_option maxHeartbeats 1000000 in
set_option maxRecDepth 10000 in
theorem zero_any (s : ByteArray) (n : Nat) (w : World) (hs : s.size ≤ 1099511627776) (hn : n ≤ 1099511627776) :
    Calls Try.prog 47 #[.string s, .int .i64 n] w fun e w' => e = .returned (.string (zeroS s n)) ∧ Below w.heap.size w w' := by
  by_cases hge : n ≤ s.size
  · rw [zeroS, if_pos hge]
    go_enter Try.func47, Try.ntmps47
    go_wp2
    go_ret
    exact ⟨rfl, Below.refl _ _⟩
  · rw [zeroS, if_neg hge]
    obtain ⟨i0, hi, hz0, hz1, hz2⟩ := info_parts info8
    obtain ⟨m, hm⟩ : ∃ m, n = s.size + m := ⟨n - s.size, by omega⟩
    subst hm
    have hmk : ∀ u : World, (Instr.makeSlice 80 (.int .i64 ((s.size : Int) + (m : Int) - (s.size : Int))) (.int .i64 ((s.size : Int) + (m : Int) - (s.size : Int)))).run Try.prog u =
        .ok (.slice (some ⟨u.heap.size, 0, none⟩) m m) (u.alloc (.cells (madeCells #[.int .u8 0] m) 5)) := fun u => by
      have h := run_make (P := Try.prog) u 80 5 i0 (.int .u8 0) Try.underlying80 hi hz0 .i64 .i64 (m : Int) (m : Int) (by omega) (Int.le_refl _) (by rw [hz2]; omega) (by omega)
      rw [show (s.size : Int) + (m : Int) - (s.size : Int) = (m : Int) by omega]
      simpa [hz1, Value.cells] using h
    have hcv := fun u => made_string u m m
    have e : s.size + m - s.size = m := by omega
    rw [e]
    have hlt : ¬ ((s.size + m : Nat) : Int) ≤ (s.size : Int) := by omega
    go_enter Try.func47, Try.ntmps47
    go_wp2
    go_ret
    exact ⟨rfl, (Below.refl _ _).alloc (Nat.le_refl _) _⟩
end Go.Proofs.Ytadkcdcdgphhpaa.Rb

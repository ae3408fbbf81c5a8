import Derived.Test.YtoifihhmneldeaaDoorVecHex
import Derived.Test.YtoifihhmneldeaaDoorReaderText
namespace Go.Proofs.YtoifihhmneldeaaDoor.Kp
open Go.ChangeShapes Go.WideShapes Go.ChangeAt Go.RowKit Bs
set_option linter.unusedVariables false
set_option linter.unusedSimpArgs false

/-- a byte of the text that a number lays -/
def vB (seed : Int) (j : Nat) : UInt8 := UInt8.ofNat ((seed * ((j : Int) + 3) + (j : Int) * (j : Int) / 7 + (j : Int) / 251) % 256).toNat
def bytesK (n : Nat) (seed : Int) (k : Nat) : List UInt8 := (List.range n).map fun j => if j < k then vB seed j else 0
def bytesL (n : Nat) (seed : Int) : List UInt8 := (List.range n).map fun j => vB seed j
theorem bytesK_length (n : Nat) (seed : Int) (k : Nat) : (bytesK n seed k).length = n := by simp [bytesK]
theorem bytesL_length (n : Nat) (seed : Int) : (bytesL n seed).length = n := by simp [bytesL]
theorem bytesK_zero (n : Nat) (seed : Int) : bytesK n seed 0 = List.replicate n 0 := by
  apply List.ext_getElem
  · simp [bytesK]
  · intro i h1 h2; simp [bytesK]
theorem bytesK_all (n : Nat) (seed : Int) : bytesK n seed n = bytesL n seed := by
  apply List.ext_getElem
  · simp [bytesK, bytesL]
  · intro i h1 h2
    simp only [bytesK, List.length_map, List.length_range] at h1
    simp [bytesK, bytesL, h1]
theorem bytesK_set (n : Nat) (seed : Int) (k : Nat) (h : k < n) : (bytesK n seed k).set k (vB seed k) = bytesK n seed (k + 1) := by
  apply List.ext_getElem
  · simp [bytesK]
  · intro i h1 h2
    rw [List.getElem_set]
    by_cases e : k = i
    · subst e; simp [bytesK]
    · simp only [e, if_false, bytesK, List.getElem_map, List.getElem_range]
      have : (i < k) = (i < k + 1) := by simp only [eq_iff_iff]; omega
      simp only [this]
/-- a row of bytes in memory -/
def RB (w : World) (g : Nat) (L : List UInt8) : Prop := w.heap[g]? = some (.cells (cells8 L).toArray 5 (0, 0))
theorem RB.cell {w : World} {g : Nat} {L : List UInt8} (h : RB w g L) (j : Nat) (hj : j < L.length) : w.cell? ⟨g, j, none⟩ = some (.int .u8 L[j].toNat) := by
  rw [cell_of_row w g j _ _ _ h]; simpa using cells8_get L j hj
theorem RB.free {w : World} {g : Nat} {L : List UInt8} (h : RB w g L) (j : Nat) : w.frozen? ⟨g, j, none⟩ = false := EtR.row_free h j
theorem RB.set {w : World} {g : Nat} {L : List UInt8} (h : RB w g L) (j : Nat) (x : UInt8) (y : Int) (hy : ((x.toNat : Nat) : Int) = y) : RB (w.setCell ⟨g, j, none⟩ (.int .u8 y)) g (L.set j x) := by
  subst hy
  have q := EtR.row_set h j (.int .u8 x.toNat)
  unfold RB
  rw [q]
  congr 2
  rw [List.setIfInBounds_toArray]
  congr 1
  simp [cells8, List.map_set]
theorem RB.made (w : World) (n : Nat) : RB (w.alloc (.cells (madeCells #[.int .u8 0] n) 5)) w.heap.size (List.replicate n 0) := by
  unfold RB
  rw [heap_alloc_new]
  congr 2
  apply Array.ext'
  rw [toList_madeCells_one]
  simp [cells8]

set_option maxHeartbeats 2000000 in
theorem bytes_any (n : Nat) (seed : Int) (w : World) (hn : n ≤ 65536) (h0 : -4294967296 ≤ seed) (h1 : seed ≤ 4294967296) :
    Calls Tryd.prog 11 #[.int .i64 n, .int .i64 seed] w fun e w' => e = .returned (.string ⟨(bytesL n seed).toArray⟩) ∧ Below w.heap.size w w' := by
  obtain ⟨i0, hi, hz0, hz1, hz2⟩ := info_parts info8
  have hmk : ∀ u : World, (Instr.makeSlice 46 (.int .i64 (n : Int)) (.int .i64 (n : Int))).run Tryd.prog u = .ok (.slice (some ⟨u.heap.size, 0, none⟩) n n) (u.alloc (.cells (madeCells #[.int .u8 0] n) 5)) := fun u => by
    have h := run_make (P := Tryd.prog) u 46 5 i0 (.int .u8 0) Tryd.underlying46 hi hz0 .i64 .i64 (n : Int) (n : Int) (by omega) (Int.le_refl _) (by rw [hz2]; omega) (by omega)
    simpa [hz1, Value.cells] using h
  have HR0 : Hid (RB (w.alloc (.cells (madeCells #[.int .u8 0] n) 5)) w.heap.size (bytesK n seed 0)) := hide (by rw [bytesK_zero]; exact RB.made w n)
  have HB0 : Hid (Below w.heap.size w (w.alloc (.cells (madeCells #[.int .u8 0] n) 5))) := hide ((Below.refl _ w).alloc (Nat.le_refl _) _)
  go_enter Tryd.func11, Tryd.ntmps11
  go_wp2
  go_loopw [11] (fun i wr => ∃ k : Nat, k ≤ n ∧ i = .int .i64 k ∧ Hid (RB wr w.heap.size (bytesK n seed k)) ∧ Hid (Below w.heap.size w wr)) (fun i _ => n - (intOf i).toNat)
  case atStart => exact ⟨0, Nat.zero_le _, rfl, HR0, HB0⟩
  case round =>
    obtain ⟨k, hk, rfl, HR, HW⟩ := hrel
    rename World => wr
    by_cases hlt : k < n
    · have hlt' : (k : Int) < (n : Int) := by omega
      obtain ⟨m, hm⟩ : ∃ m : Int, m = seed * ((k : Int) + 3) := ⟨_, rfl⟩
      obtain ⟨q, hq⟩ : ∃ q : Int, q = (k : Int) * (k : Int) := ⟨_, rfl⟩
      have hk2 : (k : Int) ≤ 65536 := by omega
      have hq0 : 0 ≤ q := by rw [hq]; exact Int.mul_nonneg (by omega) (by omega)
      have hq1 : q ≤ 4294967296 := by
        rw [hq]
        have := Int.mul_le_mul hk2 hk2 (by omega) (by omega)
        omega
      have hm0 : -(4294967296 * 65539) ≤ m ∧ m ≤ 4294967296 * 65539 := by
        rw [hm]
        have a1 : (0 : Int) ≤ (k : Int) + 3 := by omega
        have a2 : (k : Int) + 3 ≤ 65539 := by omega
        have b1 := Int.mul_le_mul_of_nonneg_right h1 a1
        have b2 := Int.mul_le_mul_of_nonneg_right h0 a1
        have b3 := Int.mul_le_mul_of_nonneg_left a2 (show (0 : Int) ≤ 4294967296 by omega)
        omega
      have w1 : IntKind.i64.wrap ((k : Int) + 3) = (k : Int) + 3 := wrap64s _ (by omega) (by omega)
      have w2 : IntKind.i64.wrap (seed * ((k : Int) + 3)) = m := by rw [← hm]; exact wrap64s _ (by omega) (by omega)
      have w3 : IntKind.i64.wrap ((k : Int) * (k : Int)) = q := by rw [← hq]; exact wrap64s _ (by omega) (by omega)
      have d1 : q.tdiv 7 = q / 7 := Int.tdiv_eq_ediv_of_nonneg hq0
      have d2 : (k : Int).tdiv 251 = (k : Int) / 251 := Int.tdiv_eq_ediv_of_nonneg (by omega)
      have w4 : IntKind.i64.wrap (q / 7) = q / 7 := wrap64s _ (by omega) (by omega)
      have w5 : IntKind.i64.wrap ((k : Int) / 251) = (k : Int) / 251 := wrap64s _ (by omega) (by omega)
      have w6 : IntKind.i64.wrap (m + q / 7) = m + q / 7 := wrap64s _ (by omega) (by omega)
      have w7 : IntKind.i64.wrap (m + q / 7 + (k : Int) / 251) = m + q / 7 + (k : Int) / 251 := wrap64s _ (by omega) (by omega)
      have w8 : IntKind.u8.wrap (m + q / 7 + (k : Int) / 251) = (m + q / 7 + (k : Int) / 251) % 256 := by simp [IntKind.wrap, IntKind.bits, IntKind.signed]
      have w9 : IntKind.i64.wrap ((k : Int) + 1) = (k : Int) + 1 := wrap64s _ (by omega) (by omega)
      have HY : Hid ((((vB seed k).toNat : Nat) : Int) = (m + q / 7 + (k : Int) / 251) % 256) := hide (by rw [hm, hq]; exact u8_num _)
      have c0 := (unhide HR).cell k (by rw [bytesK_length]; exact hlt)
      have cf := (unhide HR).free k
      have HN := hide (bytesK_set n seed k hlt)
      clear hm hq
      go_wp2
      refine ⟨⟨k + 1, by omega, by go_num, hide ?_, hide ((unhide HW).setCell (p := ⟨w.heap.size, k, none⟩) (Nat.le_refl _) _)⟩, by simp [intOf]; omega⟩
      rw [← unhide HN]
      exact (unhide HR).set k _ _ (unhide HY)
    · have hlt' : ¬ (k : Int) < (n : Int) := by omega
      have e : k = n := by omega
      have hcv := run_convert_bytes_back (P := Tryd.prog) wr 46 9 5 ⟨w.heap.size, 0, none⟩ n (bytesL n seed) Tryd.underlying46 Tryd.underlying5 Tryd.underlying9 (fun j hj => by
        rw [add_lit']
        have q := (unhide HR).cell j (by rw [bytesK_length]; rw [bytesL_length] at hj; exact hj)
        rw [q]
        have e2 : bytesK n seed k = bytesL n seed := by rw [e, bytesK_all]
        simp only [e2])
      rw [bytesL_length] at hcv
      clear e
      go_wp2
      go_ret
      exact ⟨rfl, unhide HW⟩
end Go.Proofs.YtoifihhmneldeaaDoor.Kp

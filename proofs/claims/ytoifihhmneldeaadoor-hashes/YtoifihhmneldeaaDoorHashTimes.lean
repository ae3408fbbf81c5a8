import Derived.Test.YtoifihhmneldeaaDoorHashBase
namespace Go.Proofs.YtoifihhmneldeaaDoor.Ht
open Go.ChangeShapes Go.WideShapes Go.ChangeAt Go.RowKit Hb
set_option linter.unusedVariables false

/-- one digit's row of a product, so far -/
def inF (i : Nat) (x : Int) (b : List Int) (O : List Int) : Nat → List Int × Int
  | 0 => (O, 0)
  | j + 1 =>
    let p := inF i x b O j
    (p.1.set (i + j) ((p.1.getD (i + j) 0 + x * b.getD j 0 + p.2) % 65536), (p.1.getD (i + j) 0 + x * b.getD j 0 + p.2) / 65536)
/-- a product, so far -/
def outF (a b : List Int) : Nat → List Int
  | 0 => List.replicate (a.length + b.length) 0
  | i + 1 =>
    let p := inF i (a.getD i 0) b (outF a b i) b.length
    p.1.set (i + b.length) (p.1.getD (i + b.length) 0 + p.2)
def timesF (a b : List Int) : List Int := outF a b a.length

theorem inF_len (i : Nat) (x : Int) (b O : List Int) (j : Nat) : (inF i x b O j).1.length = O.length := by
  induction j with
  | zero => rfl
  | succ j ih => simp only [inF, List.length_set]; exact ih
theorem outF_len (a b : List Int) (i : Nat) : (outF a b i).length = a.length + b.length := by
  induction i with
  | zero => simp [outF]
  | succ i ih => simp only [outF, List.length_set, inF_len]; exact ih

/-- all numbers of a list lie between 0 and M -/
def In (M : Int) (L : List Int) : Prop := ∀ j, 0 ≤ L.getD j 0 ∧ L.getD j 0 ≤ M
theorem In.set {M : Int} {L : List Int} (h : In M L) (k : Nat) (x : Int) (h0 : 0 ≤ x) (h1 : x ≤ M) : In M (L.set k x) := by
  intro j
  by_cases e : k = j
  · subst e
    by_cases hk : k < L.length
    · simp [List.getD_eq_getElem?_getD, hk]; exact ⟨h0, h1⟩
    · have : (L.set k x).getD k 0 = L.getD k 0 := by rw [List.set_eq_of_length_le (by omega)]
      rw [this]; exact h k
  · have : (L.set k x).getD j 0 = L.getD j 0 := by simp [List.getD_eq_getElem?_getD, List.getElem?_set_ne e]
    rw [this]; exact h j
theorem In.mono {M N : Int} {L : List Int} (h : In M L) (hN : M ≤ N) : In N L := fun j => ⟨(h j).1, Int.le_trans (h j).2 hN⟩

theorem mul_bd (x y : Int) (hx0 : 0 ≤ x) (hx1 : x ≤ 16777216) (hy0 : 0 ≤ y) (hy1 : y ≤ 16777216) : 0 ≤ x * y ∧ x * y ≤ 281474976710656 := by
  refine ⟨Int.mul_nonneg hx0 hy0, ?_⟩
  have h1 : x * y ≤ 16777216 * y := Int.mul_le_mul_of_nonneg_right hx1 hy0
  omega
theorem inF_in (i : Nat) (x : Int) (b O : List Int) (M : Int) (hx0 : 0 ≤ x) (hx1 : x ≤ 16777216) (hb : In 16777216 b) (hO : In M O) (hM0 : 65535 ≤ M) (hM1 : M ≤ 1099511627776) (j : Nat) :
    In M (inF i x b O j).1 ∧ 0 ≤ (inF i x b O j).2 ∧ (inF i x b O j).2 ≤ 8589934592 := by
  induction j with
  | zero => exact ⟨hO, by simp [inF], by simp [inF]⟩
  | succ j ih =>
    obtain ⟨h1, h2, h3⟩ := ih
    have p := mul_bd x (b.getD j 0) hx0 hx1 (hb j).1 (hb j).2
    have q := h1 (i + j)
    simp only [inF]
    refine ⟨h1.set _ _ ?_ ?_, ?_, ?_⟩ <;> omega
theorem outF_in (a b : List Int) (ha : In 16777216 a) (hb : In 16777216 b) (i : Nat) (hi : i ≤ 16) : In (65535 + 8589934592 * i) (outF a b i) := by
  induction i with
  | zero =>
    intro j
    have : (outF a b 0).getD j 0 = 0 := by
      simp only [outF, List.getD_eq_getElem?_getD, List.getElem?_replicate]
      split <;> rfl
    rw [this]; omega
  | succ i ih =>
    have h := inF_in i (a.getD i 0) b (outF a b i) (65535 + 8589934592 * i) (ha i).1 (ha i).2 hb (ih (by omega)) (by omega) (by omega) b.length
    have q := h.1 (i + b.length)
    simp only [outF]
    refine In.set (h.1.mono (by omega)) _ _ ?_ ?_ <;> omega

theorem made_row (w : World) (n : Nat) : (w.alloc (.cells (madeCells #[.int .i64 0] n) 3)).heap[w.heap.size]? = some (.cells (c64 (List.replicate n 0)).toArray 3 (0, 0)) := by
  have e : madeCells #[Value.int .i64 0] n = (c64 (List.replicate n 0)).toArray := by
    apply Array.ext'; rw [toList_madeCells_one]; simp [c64]
  rw [e]; exact heap_alloc_new w _

set_option maxHeartbeats 2000000 in
theorem times_any (ga gb ca cb : Nat) (a b : List Int) (w : World) (hA : Row w ga a) (hB : Row w gb b) (hla : a.length ≤ 16) (hlb : b.length ≤ 16) (ha : In 16777216 a) (hb : In 16777216 b) :
    Calls Tryd.prog 27 #[.slice (some ⟨ga, 0, none⟩) a.length ca, .slice (some ⟨gb, 0, none⟩) b.length cb] w fun e w' =>
      e = .returned (.slice (some ⟨w.heap.size, 0, none⟩) (a.length + b.length) (a.length + b.length)) ∧ Row w' w.heap.size (timesF a b) ∧ Below w.heap.size w w' := by
  obtain ⟨i0, hi, hz0, hz1, hz2⟩ := info_parts info64
  have hmk : ∀ u : World, (Instr.makeSlice 50 (.int .i64 ((a.length : Int) + (b.length : Int))) (.int .i64 ((a.length : Int) + (b.length : Int)))).run Tryd.prog u =
      .ok (.slice (some ⟨u.heap.size, 0, none⟩) (a.length + b.length) (a.length + b.length)) (u.alloc (.cells (madeCells #[.int .i64 0] (a.length + b.length)) 3)) := fun u => by
    have h := run_make (P := Tryd.prog) u 50 3 i0 (.int .i64 0) Tryd.underlying50 hi hz0 .i64 .i64 ((a.length : Int) + (b.length : Int)) ((a.length : Int) + (b.length : Int)) (by omega) (Int.le_refl _) (by rw [hz2]; omega) (by omega)
    have e : ((a.length : Int) + (b.length : Int)).toNat = a.length + b.length := by omega
    rw [e] at h
    simpa [hz1, Value.cells] using h
  have HA := hide hA
  have HB := hide hB
  have hga := hA.lt
  have hgb := hB.lt
  have IA := hide ha
  have IB := hide hb
  have HM := hide (made_row w (a.length + b.length))
  have HBel : Hid (Below w.heap.size w (w.alloc (.cells (madeCells #[.int .i64 0] (a.length + b.length)) 3))) := hide ((Below.refl _ _).alloc (Nat.le_refl _) _)
  clear hA hB ha hb
  go_enter Tryd.func27, Tryd.ntmps27
  go_wp2
  go_loopw [20] (fun vi wr => ∃ i : Nat, i ≤ a.length ∧ vi = .int .i64 i ∧ Row wr w.heap.size (outF a b i) ∧ Below w.heap.size w wr) (fun vi _ => a.length - (intOf vi).toNat)
  case atStart => exact ⟨0, Nat.zero_le _, rfl, Row.of (unhide HM), unhide HBel⟩
  case round =>
    obtain ⟨i, hi1, rfl, hR, hbel⟩ := hrel
    rename World => wr
    by_cases hlt : i < a.length
    · have hca := ((unhide HA).below hbel hga).cell i hlt
      have hO := outF_in a b (unhide IA) (unhide IB) i (by omega)
      have hx := unhide IA i
      obtain ⟨x, hxe⟩ : ∃ x, x = a.getD i 0 := ⟨_, rfl⟩
      obtain ⟨O, hOe⟩ : ∃ O, O = outF a b i := ⟨_, rfl⟩
      have hol := outF_len a b i
      rw [← hxe] at hca hx
      rw [← hOe] at hR hO hol
      have HX := hide hxe
      have HO := hide hOe
      have HI := hide hO
      have HL := hide hol
      obtain ⟨hx0, hx1⟩ := hx
      have HR := hide hR
      have hgr : w.heap.size < wr.heap.size := hR.lt
      clear hxe hOe hO hol hR
      go_wp2
      go_loopw [8, 27] (fun vc vj wq => ∃ j : Nat, j ≤ b.length ∧ vj = .int .i64 j ∧ vc = .int .i64 (inF i x b O j).2 ∧ Row wq w.heap.size (inF i x b O j).1 ∧ Below w.heap.size w wq) (fun _ vj _ => b.length - (intOf vj).toNat)
      case atStart => exact ⟨0, Nat.zero_le _, rfl, rfl, unhide HR, hbel⟩
      case round =>
        clear hca HR hbel
        obtain ⟨j, hj, rfl, rfl, hRq, hbq⟩ := hrel
        rename World => wq
        have hin := inF_in i x b O (65535 + 8589934592 * i) hx0 hx1 (unhide IB) (unhide HI) (by omega) (by omega) j
        have hil := inF_len i x b O j
        by_cases hjt : j < b.length
        · have hcb := ((unhide HB).below hbq hgb).cell j hjt
          have hy := unhide IB j
          have hq := hin.1 (i + j)
          have hco := hRq.cell (i + j) (by rw [hil, unhide HL]; omega)
          have hfo := hRq.free (i + j)
          have hset := fun v => hRq.set (i + j) v (by rw [hil, unhide HL]; omega)
          have hnx1 : (inF i x b O (j + 1)).1 = (inF i x b O j).1.set (i + j) (((inF i x b O j).1.getD (i + j) 0 + x * b.getD j 0 + (inF i x b O j).2) % 65536) := rfl
          have hnx2 : (inF i x b O (j + 1)).2 = ((inF i x b O j).1.getD (i + j) 0 + x * b.getD j 0 + (inF i x b O j).2) / 65536 := rfl
          obtain ⟨y, hye⟩ : ∃ y, y = b.getD j 0 := ⟨_, rfl⟩
          obtain ⟨q, hqe⟩ : ∃ q, q = (inF i x b O j).1.getD (i + j) 0 := ⟨_, rfl⟩
          obtain ⟨c, hce⟩ : ∃ c, c = (inF i x b O j).2 := ⟨_, rfl⟩
          rw [← hye] at hcb hy hnx1 hnx2
          rw [← hqe] at hco hq hnx1 hnx2
          obtain ⟨_, hc0, hc1⟩ := hin
          rw [← hce] at hc0 hc1 hnx1 hnx2 ⊢
          obtain ⟨hq0, hq1⟩ := hq
          obtain ⟨hy0, hy1⟩ := hy
          obtain ⟨hp0, hp1⟩ := mul_bd x y hx0 hx1 hy0 hy1
          have hi16 : (i : Int) ≤ 16 := by omega
          have hq2 : q ≤ 1099511627776 := by omega
          have N1 := hide hnx1
          have N2 := hide hnx2
          have HS := hide hset
          have hij : i + j < a.length + b.length := by omega
          have hij2 : (i : Int) + (j : Int) < (a.length : Int) + (b.length : Int) := by omega
          clear hye hqe hce hnx1 hnx2 hset hRq hil hq1
          go_wp2
          refine ⟨⟨j + 1, by omega, by go_num, by rw [unhide N2], by rw [unhide N1]; exact unhide HS _, hbq.setCell (Nat.le_refl _) _⟩, by simp [intOf]; omega⟩
        · have e : j = b.length := by omega
          subst e
          have hq := hin.1 (i + b.length)
          have hco := hRq.cell (i + b.length) (by rw [hil, unhide HL]; omega)
          have hfo := hRq.free (i + b.length)
          have hset := fun v => hRq.set (i + b.length) v (by rw [hil, unhide HL]; omega)
          have hnx : outF a b (i + 1) = (inF i x b O b.length).1.set (i + b.length) ((inF i x b O b.length).1.getD (i + b.length) 0 + (inF i x b O b.length).2) := by
            rw [unhide HO, unhide HX]; rfl
          obtain ⟨q, hqe⟩ : ∃ q, q = (inF i x b O b.length).1.getD (i + b.length) 0 := ⟨_, rfl⟩
          obtain ⟨c, hce⟩ : ∃ c, c = (inF i x b O b.length).2 := ⟨_, rfl⟩
          rw [← hqe] at hco hq hnx
          obtain ⟨_, hc0, hc1⟩ := hin
          rw [← hce] at hc0 hc1 hnx ⊢
          obtain ⟨hq0, hq1⟩ := hq
          have hi16 : (i : Int) ≤ 16 := by omega
          have hq2 : q ≤ 1099511627776 := by omega
          have N1 := hide hnx
          have HS := hide hset
          have hij : i + b.length < a.length + b.length := by omega
          have hij2 : (i : Int) + (b.length : Int) < (a.length : Int) + (b.length : Int) := by omega
          clear hqe hce hnx hset hRq hil hq1
          go_wp2
          refine ⟨⟨i + 1, by omega, by go_num, by rw [unhide N1]; exact unhide HS _, hbq.setCell (Nat.le_refl _) _⟩, by simp [intOf]; omega⟩
    · have e : i = a.length := by omega
      subst e
      go_wp2
      go_ret
      exact ⟨rfl, hR, hbel⟩
end Go.Proofs.YtoifihhmneldeaaDoor.Ht

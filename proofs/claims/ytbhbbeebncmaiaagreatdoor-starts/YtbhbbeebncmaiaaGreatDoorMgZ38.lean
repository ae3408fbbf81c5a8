import Derived.Test.YtbhbbeebncmaiaaGreatDoorMgZ48
import Derived.Test.YtbhbbeebncmaiaaGreatDoorMgZ26
import Derived.Test.YtbhbbeebncmaiaaGreatDoorMgZ27
namespace Go.Proofs.YtbhbbeebncmaiaaGreatDoor.Ht
open Go.ChangeShapes Go.WideShapes Go.ChangeAt Go.RowKit Hb
set_option linter.unusedVariables false
def inF (i : Nat) (x : Int) (b : List Int) (O : List Int) : Nat → List Int × Int
  | 0 => (O, 0)
  | j + 1 =>
    let p := inF i x b O j
    (p.1.set (i + j) ((p.1.getD (i + j) 0 + x * b.getD j 0 + p.2) % 65536), (p.1.getD (i + j) 0 + x * b.getD j 0 + p.2) / 65536)
def outF (a b : List Int) : Nat → List Int
  | 0 => List.replicate (a.length + b.length) 0
  | i + 1 =>
    let p := inF i (a.getD i 0) b (outF a b i) b.length
    p.1.set (i + b.length) (p.1.getD (i + b.length) 0 + p.2)
def timesF (a b : List Int) : List Int := outF a b a.length

theorem inF_len (i : Nat) (x : Int) (b O : List Int) (j : Nat) : (inF i x b O j).1.length = O.length := by
  induction j with
  | zero => rfl
  | succ j ih => simp only [inF, List.length_set]; exact ih
theorem outF_len (a b : List Int) (i : Nat) : (outF a b i).length = a.length + b.length := by
  induction i with
  | zero => simp [outF]
  | succ i ih => simp only [outF, List.length_set, inF_len]; exact ih

def In (M : Int) (L : List Int) : Prop := ∀ j, 0 ≤ L.getD j 0 ∧ L.getD j 0 ≤ M
theorem In.set {M : Int} {L : List Int} (h : In M L) (k : Nat) (x : Int) (h0 : 0 ≤ x) (h1 : x ≤ M) : In M (L.set k x) := by
  intro j
  by_cases e : k = j
  · subst e
    by_cases hk : k < L.length
    · simp [List.getD_eq_getElem?_getD, hk]; exact ⟨h0, h1⟩
    · have : (L.set k x).getD k 0 = L.getD k 0 := by rw [List.set_eq_of_length_le (by omega)]
      rw [this]; exact h k
  · have : (L.set k x).getD j 0 = L.getD j 0 := by simp [List.getD_eq_getElem?_getD, List.getElem?_set_ne e]
    rw [this]; exact h j
theorem In.mono {M N : Int} {L : List Int} (h : In M L) (hN : M ≤ N) : In N L := fun j => ⟨(h j).1, Int.le_trans (h j).2 hN⟩

theorem mul_bd (x y : Int) (hx0 : 0 ≤ x) (hx1 : x ≤ 16777216) (hy0 : 0 ≤ y) (hy1 : y ≤ 16777216) : 0 ≤ x * y ∧ x * y ≤ 281474976710656 := by
  refine ⟨Int.mul_nonneg hx0 hy0, ?_⟩
  have h1 : x * y ≤ 16777216 * y := Int.mul_le_mul_of_nonneg_right hx1 hy0
  omega
theorem inF_in (i : Nat) (x : Int) (b O : List Int) (M : Int) (hx0 : 0 ≤ x) (hx1 : x ≤ 16777216) (hb : In 16777216 b) (hO : In M O) (hM0 : 65535 ≤ M) (hM1 : M ≤ 1099511627776) (j : Nat) :
    In M (inF i x b O j).1 ∧ 0 ≤ (inF i x b O j).2 ∧ (inF i x b O j).2 ≤ 8589934592 := by
  induction j with
  | zero => exact ⟨hO, by simp [inF], by simp [inF]⟩
  | succ j ih =>
    obtain ⟨h1, h2, h3⟩ := ih
    have p := mul_bd x (b.getD j 0) hx0 hx1 (hb j).1 (hb j).2
    have q := h1 (i + j)
    simp only [inF]
    refine ⟨h1.set _ _ ?_ ?_, ?_, ?_⟩ <;> omega
theorem outF_in (a b : List Int) (ha : In 16777216 a) (hb : In 16777216 b) (i : Nat) (hi : i ≤ 16) : In (65535 + 8589934592 * i) (outF a b i) := by
  induction i with
  | zero =>
    intro j
    have : (outF a b 0).getD j 0 = 0 := by
      simp only [outF, List.getD_eq_getElem?_getD, List.getElem?_replicate]
      split <;> rfl
    rw [this]; omega
  | succ i ih =>
    have h := inF_in i (a.getD i 0) b (outF a b i) (65535 + 8589934592 * i) (ha i).1 (ha i).2 hb (ih (by omega)) (by omega) (by omega) b.length
    have q := h.1 (i + b.length)
    simp only [outF]
    refine In.set (h.1.mono (by omega)) _ _ ?_ ?_ <;> omega

theorem made_row (w : World) (n : Nat) : (w.alloc (.cells (madeCells #[.int .i64 0] n) 3)).heap[w.heap.size]? = some (.cells (c64 (List.replicate n 0)).toArray 3 (0, 0)) := by
  have e : madeCells #[Value.int .i64 0] n = (c64 (List.replicate n 0)).toArray := by
    apply Array.ext'; rw [toList_madeCells_one]; simp [c64]
  rw [e]; exact heap_alloc_new w _

set_option maxHeartbeats 2000000 in
theorem times_any (ga gb ca cb : Nat) (a b : List Int) (w : World) (hA : Row w ga a) (hB : Row w gb b) (hla : a.length ≤ 16) (hlb : b.length ≤ 16) (ha : In 16777216 a) (hb : In 16777216 b) :
    Calls Tryz.prog 28 #[.slice (some ⟨ga, 0, none⟩) a.length ca, .slice (some ⟨gb, 0, none⟩) b.length cb] w fun e w' =>
      e = .returned (.slice (some ⟨w.heap.size, 0, none⟩) (a.length + b.length) (a.length + b.length)) ∧ Row w' w.heap.size (timesF a b) ∧ Below w.heap.size w w' := by
  obtain ⟨i0, hi, hz0, hz1, hz2⟩ := info_parts info64
  have hmk : ∀ u : World, (Instr.makeSlice 40 (.int .i64 ((a.length : Int) + (b.length : Int))) (.int .i64 ((a.length : Int) + (b.length : Int)))).run Tryz.prog u =
      .ok (.slice (some ⟨u.heap.size, 0, none⟩) (a.length + b.length) (a.length + b.length)) (u.alloc (.cells (madeCells #[.int .i64 0] (a.length + b.length)) 3)) := fun u => by
    have h := run_make (P := Tryz.prog) u 40 3 i0 (.int .i64 0) Tryz.underlying40 hi hz0 .i64 .i64 ((a.length : Int) + (b.length : Int)) ((a.length : Int) + (b.length : Int)) (by omega) (Int.le_refl _) (by rw [hz2]; omega) (by omega)
    have e : ((a.length : Int) + (b.length : Int)).toNat = a.length + b.length := by omega
    rw [e] at h
    simpa [hz1, Value.cells] using h
  have HA := hide hA
  have HB := hide hB
  have hga := hA.lt
  have hgb := hB.lt
  have IA := hide ha
  have IB := hide hb
  have HM := hide (made_row w (a.length + b.length))
  have HBel : Hid (Below w.heap.size w (w.alloc (.cells (madeCells #[.int .i64 0] (a.length + b.length)) 3))) := hide ((Below.refl _ _).alloc (Nat.le_refl _) _)
  clear hA hB ha hb
  go_enter Tryz.func28, Tryz.ntmps28
  go_wp2
  go_loopw [20] (fun vi wr => ∃ i : Nat, i ≤ a.length ∧ vi = .int .i64 i ∧ Row wr w.heap.size (outF a b i) ∧ Below w.heap.size w wr) (fun vi _ => a.length - (intOf vi).toNat)
  case atStart => exact ⟨0, Nat.zero_le _, rfl, Row.of (unhide HM), unhide HBel⟩
  case round =>
    obtain ⟨i, hi1, rfl, hR, hbel⟩ := hrel
    rename World => wr
    by_cases hlt : i < a.length
    · have hca := ((unhide HA).below hbel hga).cell i hlt
      have hO := outF_in a b (unhide IA) (unhide IB) i (by omega)
      have hx := unhide IA i
      obtain ⟨x, hxe⟩ : ∃ x, x = a.getD i 0 := ⟨_, rfl⟩
      obtain ⟨O, hOe⟩ : ∃ O, O = outF a b i := ⟨_, rfl⟩
      have hol := outF_len a b i
      rw [← hxe] at hca hx
      rw [← hOe] at hR hO hol
      have HX := hide hxe
      have HO := hide hOe
      have HI := hide hO
      have HL := hide hol
      obtain ⟨hx0, hx1⟩ := hx
      have HR := hide hR
      have hgr : w.heap.size < wr.heap.size := hR.lt
      clear hxe hOe hO hol hR
      go_wp2
      go_loopw [8, 27] (fun vc vj wq => ∃ j : Nat, j ≤ b.length ∧ vj = .int .i64 j ∧ vc = .int .i64 (inF i x b O j).2 ∧ Row wq w.heap.size (inF i x b O j).1 ∧ Below w.heap.size w wq) (fun _ vj _ => b.length - (intOf vj).toNat)
      case atStart => exact ⟨0, Nat.zero_le _, rfl, rfl, unhide HR, hbel⟩
      case round =>
        clear hca HR hbel
        obtain ⟨j, hj, rfl, rfl, hRq, hbq⟩ := hrel
        rename World => wq
        have hin := inF_in i x b O (65535 + 8589934592 * i) hx0 hx1 (unhide IB) (unhide HI) (by omega) (by omega) j
        have hil := inF_len i x b O j
        by_cases hjt : j < b.length
        · have hcb := ((unhide HB).below hbq hgb).cell j hjt
          have hy := unhide IB j
          have hq := hin.1 (i + j)
          have hco := hRq.cell (i + j) (by rw [hil, unhide HL]; omega)
          have hfo := hRq.free (i + j)
          have hset := fun v => hRq.set (i + j) v (by rw [hil, unhide HL]; omega)
          have hnx1 : (inF i x b O (j + 1)).1 = (inF i x b O j).1.set (i + j) (((inF i x b O j).1.getD (i + j) 0 + x * b.getD j 0 + (inF i x b O j).2) % 65536) := rfl
          have hnx2 : (inF i x b O (j + 1)).2 = ((inF i x b O j).1.getD (i + j) 0 + x * b.getD j 0 + (inF i x b O j).2) / 65536 := rfl
          obtain ⟨y, hye⟩ : ∃ y, y = b.getD j 0 := ⟨_, rfl⟩
          obtain ⟨q, hqe⟩ : ∃ q, q = (inF i x b O j).1.getD (i + j) 0 := ⟨_, rfl⟩
          obtain ⟨c, hce⟩ : ∃ c, c = (inF i x b O j).2 := ⟨_, rfl⟩
          rw [← hye] at hcb hy hnx1 hnx2
          rw [← hqe] at hco hq hnx1 hnx2
          obtain ⟨_, hc0, hc1⟩ := hin
          rw [← hce] at hc0 hc1 hnx1 hnx2 ⊢
          obtain ⟨hq0, hq1⟩ := hq
          obtain ⟨hy0, hy1⟩ := hy
          obtain ⟨hp0, hp1⟩ := mul_bd x y hx0 hx1 hy0 hy1
          have hi16 : (i : Int) ≤ 16 := by omega
          have hq2 : q ≤ 1099511627776 := by omega
          have N1 := hide hnx1
          have N2 := hide hnx2
          have HS := hide hset
          have hij : i + j < a.length + b.length := by omega
          have hij2 : (i : Int) + (j : Int) < (a.length : Int) + (b.length : Int) := by omega
          clear hye hqe hce hnx1 hnx2 hset hRq hil hq1
          go_wp2
          refine ⟨⟨j + 1, by omega, by go_num, by rw [unhide N2], by rw [unhide N1]; exact unhide HS _, hbq.setCell (Nat.le_refl _) _⟩, by simp [intOf]; omega⟩
        · have e : j = b.length := by omega
          subst e
          have hq := hin.1 (i + b.length)
          have hco := hRq.cell (i + b.length) (by rw [hil, unhide HL]; omega)
          have hfo := hRq.free (i + b.length)
          have hset := fun v => hRq.set (i + b.length) v (by rw [hil, unhide HL]; omega)
          have hnx : outF a b (i + 1) = (inF i x b O b.length).1.set (i + b.length) ((inF i x b O b.length).1.getD (i + b.length) 0 + (inF i x b O b.length).2) := by
            rw [unhide HO, unhide HX]; rfl
          obtain ⟨q, hqe⟩ : ∃ q, q = (inF i x b O b.length).1.getD (i + b.length) 0 := ⟨_, rfl⟩
          obtain ⟨c, hce⟩ : ∃ c, c = (inF i x b O b.length).2 := ⟨_, rfl⟩
          rw [← hqe] at hco hq hnx
          obtain ⟨_, hc0, hc1⟩ := hin
          rw [← hce] at hc0 hc1 hnx ⊢
          obtain ⟨hq0, hq1⟩ := hq
          have hi16 : (i : Int) ≤ 16 := by omega
          have hq2 : q ≤ 1099511627776 := by omega
          have N1 := hide hnx
          have HS := hide hset
          have hij : i + b.length < a.length + b.length := by omega
          have hij2 : (i : Int) + (b.length : Int) < (a.length : Int) + (b.length : Int) := by omega
          clear hqe hce hnx hset hRq hil hq1
          go_wp2
          refine ⟨⟨i + 1, by omega, by go_num, by rw [unhide N1]; exact unhide HS _, hbq.setCell (Nat.le_refl _) _⟩, by simp [intOf]; omega⟩
    · have e : i = a.length := by omega
      subst e
      go_wp2
      go_ret
      exact ⟨rfl, hR, hbel⟩
end Go.Proofs.YtbhbbeebncmaiaaGreatDoor.Ht
namespace Go.Proofs.YtbhbbeebncmaiaaGreatDoor.Ip
open Go.ChangeShapes Go.WideShapes Go.ChangeAt Go.RowKit Bs Rb Wt Arp
set_option linter.unusedVariables false
set_option linter.unusedSimpArgs false
theorem lt_ce {w : World} {b o : Nat} {v : Value} (h : w.cell? ⟨b, o, none⟩ = some v) : b < w.heap.size := by
  by_cases hlt : b < w.heap.size
  · exact hlt
  · have hn : w.heap[b]? = none := by simp; omega
    simp [World.cell?, hn] at h
theorem new2 (u : World) (g : Nat) (a b : Int) (h : g = u.heap.size) : (u.alloc (.cells #[.int .u8 a, .int .u8 b] 5)).cell? ⟨g, 0, none⟩ = some (.int .u8 a) := by
  subst h; rw [cell_of_row _ u.heap.size 0 _ _ (0, 0) (heap_alloc_new u _)]; rfl
theorem new2b (u : World) (g : Nat) (a b : Int) (h : g = u.heap.size) : (u.alloc (.cells #[.int .u8 a, .int .u8 b] 5)).cell? ⟨g, 1, none⟩ = some (.int .u8 b) := by
  subst h; rw [cell_of_row _ u.heap.size 1 _ _ (0, 0) (heap_alloc_new u _)]; rfl

set_option maxHeartbeats 8000000 in
set_option maxRecDepth 10000 in
theorem ref_ok (id ttl pr fr ta : Int) (load : ByteArray) (w : World) (hi : 0 ≤ id ∧ id ≤ 65535) (ht : 0 < ttl ∧ ttl ≤ 255) (hp : 0 ≤ pr ∧ pr ≤ 255) (hf : 0 ≤ fr ∧ fr ≤ 4294967295) (ho : 0 ≤ ta ∧ ta ≤ 4294967295) (hl : load.size ≤ 1480) :
    Calls Tryz.prog 137 #[.agg #[.int .u16 id, .int .u8 ttl, .int .u8 pr, .int .u32 fr, .int .u32 ta, .string load]] w fun ee w' =>
      ee = .returned (.tuple #[.string ⟨(ipL id ttl pr fr ta load).toArray⟩, .int .i64 0]) ∧ Below w.heap.size w w' := by
  have hne : (ttl == 0) = false := by simp; omega
  have hgt : ¬ (1480 : Int) < (load.size : Int) := by omega
  have hq1 : IntKind.i64.wrap (20 + (load.size : Int)) = 20 + (load.size : Int) := wrap_i64 _ (by omega) (by omega)
  have hq2 : IntKind.i64.wrap id = id := wrap_i64 _ (by omega) (by omega)
  have ht' : 0 ≤ ttl ∧ ttl ≤ 255 := by omega
  obtain ⟨hi0, hi1⟩ := hi
  obtain ⟨hf0, hf1⟩ := hf
  obtain ⟨ho0, ho1⟩ := ho
  obtain ⟨a, ha⟩ : ∃ a : ByteArray, a = ⟨#[69, 0, by8 ((20 + (load.size : Int)) / 256), by8 (20 + (load.size : Int)), by8 (id / 256), by8 id, 64, 0, by8 ttl, by8 pr]⟩ := ⟨_, rfl⟩
  obtain ⟨b, hb⟩ : ∃ b : ByteArray, b = ⟨#[by8 (fr / 256 / 256 / 256), by8 (fr / 256 / 256), by8 (fr / 256), by8 fr]⟩ ++ ⟨#[by8 (ta / 256 / 256 / 256), by8 (ta / 256 / 256), by8 (ta / 256), by8 ta]⟩ := ⟨_, rfl⟩
  have haz : a.size = 10 := by rw [ha]; rfl
  have hbz : b.size = 8 := by rw [hb]; rfl
  have hs1 : (a ++ ⟨#[0, 0]⟩).size = 12 := by rw [ByteArray.size_append, haz]; rfl
  have hs2 : (a ++ ⟨#[0, 0]⟩ ++ b).size = 20 := by rw [ByteArray.size_append, hs1, hbz]
  obtain ⟨c, hc⟩ : ∃ c, c = chk (headL (20 + load.size) id ttl pr fr ta 0) := ⟨_, rfl⟩
  have hcb := chk_bd (headL (20 + load.size) id ttl pr fr ta 0)
  rw [← hc] at hcb
  obtain ⟨hcb0, hcb1⟩ := hcb
  have hs3 : (a ++ ⟨#[by8 (c / 256), by8 c]⟩).size = 12 := by rw [ByteArray.size_append, haz]; rfl
  have hs4 : (a ++ ⟨#[by8 (c / 256), by8 c]⟩ ++ b).size = 20 := by rw [ByteArray.size_append, hs3, hbz]
  have hadd1 := fun u => run_string_add_sum (P := Tryz.prog) u a ⟨#[0, 0]⟩ (by rw [haz]; show 10 + 2 ≤ _; omega)
  have hadd2 := fun u => run_string_add_sum (P := Tryz.prog) u (a ++ ⟨#[0, 0]⟩) b (by rw [hs1, hbz]; omega)
  have hadd3 := fun u => run_string_add_sum (P := Tryz.prog) u a ⟨#[by8 (c / 256), by8 c]⟩ (by rw [haz]; show 10 + 2 ≤ _; omega)
  have hadd4 := fun u => run_string_add_sum (P := Tryz.prog) u (a ++ ⟨#[by8 (c / 256), by8 c]⟩) b (by rw [hs3, hbz]; omega)
  have hadd5 := fun u => run_string_add_sum (P := Tryz.prog) u (a ++ ⟨#[by8 (c / 256), by8 c]⟩ ++ b) load (by rw [hs4]; omega)
  have HCk : Hid (∀ u : World, Calls Tryz.prog 104 #[.string (a ++ ⟨#[0, 0]⟩ ++ b)] u fun ee w' => ee = .returned (.int .i64 c) ∧ ∃ n, w' = u.drewN n) := hide (fun u => by
    have h := Chk.ref_check (a ++ ⟨#[0, 0]⟩ ++ b) u (by rw [hs2]; omega)
    have e : 65535 - Chk.fold (Chk.wsum (a ++ ⟨#[0, 0]⟩ ++ b).data.toList) = c := by
      have e2 : (a ++ ⟨#[0, 0]⟩ ++ b).data.toList = headL (20 + load.size) id ttl pr fr ta 0 := by
        rw [ha, hb, headL, ← big4 fr, ← big4 ta]; simp [ByteArray.data_append, word8, bigL]; decide
      rw [e2, hc]; rfl
    rw [e] at h
    exact h)
  have HFin : Hid (a ++ ⟨#[by8 (c / 256), by8 c]⟩ ++ b ++ load = ⟨(ipL id ttl pr fr ta load).toArray⟩) := hide (by
    rw [ipL, ← hc, ha, hb, headL, ← big4 fr, ← big4 ta]
    apply ByteArray.ext
    apply Array.ext'
    simp [ByteArray.data_append, word8, bigL]
    decide)
  have HA := hide ha
  have HBB := hide hb
  clear hs1 hs2 hs3 hs4 hc ha hb
  go_enter Tryz.func137, Tryz.ntmps137
  go_wp2
  go_cut [4] (fun s4 wc => s4 = .string ⟨#[69, 0, by8 ((20 + (load.size : Int)) / 256), by8 (20 + (load.size : Int)), by8 (id / 256), by8 id, 64, 0, by8 ttl, by8 pr]⟩ ∧ Below (w.heap.size + 1) (w.alloc (.cells #[.int .u16 id, .int .u8 ttl, .int .u8 pr, .int .u32 fr, .int .u32 ta, .string load] 120)) wc)
  case first =>
    clear hadd1 hadd2 hadd3 hadd4 hadd5 HCk HFin
    refine wp_region_held_drew (S := fun u => Below (w.heap.size + 1) (w.alloc (.cells #[.int .u16 id, .int .u8 ttl, .int .u8 pr, .int .u32 fr, .int .u32 ta, .string load] 120)) u) (by kernel_rfl) ((Below.refl _ _).drew) (fun hB0 => ?_)
    refine wpAnyH_take (i := 0) (v := .pointer (some ⟨w.heap.size, 5, none⟩)) rfl (by kernel_rfl) (by kernel_rfl) (by kernel_rfl) (fun _ _ _ h => h) (Or.inl ⟨by rfl, ?_⟩) hB0 ?_
    · intro u hu; go_simp
    try simp only [Act.put, List.setIfInBounds_toArray, List.set_cons_zero, List.set_cons_succ]
    refine wpAnyH_take (i := 1) (v := .string load) rfl (by kernel_rfl) (by kernel_rfl) (by kernel_rfl) (fun _ _ _ h => h) (Or.inl ⟨by rfl, ?_⟩) hB0 ?_
    · intro u hu; have hcc := six_cells hu; go_simp
    try simp only [Act.put, List.setIfInBounds_toArray, List.set_cons_zero, List.set_cons_succ]
    refine wpAnyH_take (i := 2) (v := .int .i64 load.size) rfl (by kernel_rfl) (by kernel_rfl) (by kernel_rfl) (fun _ _ _ h => h) (Or.inl ⟨by rfl, ?_⟩) hB0 ?_
    · intro u hu; go_simp
    try simp only [Act.put, List.setIfInBounds_toArray, List.set_cons_zero, List.set_cons_succ]
    refine wpAnyH_take (i := 3) (v := .int .i64 (20 + (load.size : Int))) rfl (by kernel_rfl) (by kernel_rfl) (by kernel_rfl) (fun _ _ _ h => h) (Or.inl ⟨by rfl, ?_⟩) hB0 ?_
    · intro u hu; go_simp
    try simp only [Act.put, List.setIfInBounds_toArray, List.set_cons_zero, List.set_cons_succ]
    refine wpAnyH_take (i := 6) (v := .pointer (some ⟨w.heap.size, 0, none⟩)) rfl (by kernel_rfl) (by kernel_rfl) (by kernel_rfl) (fun _ _ _ h => h) (Or.inl ⟨by rfl, ?_⟩) hB0 ?_
    · intro u hu; go_simp
    try simp only [Act.put, List.setIfInBounds_toArray, List.set_cons_zero, List.set_cons_succ]
    refine wpAnyH_take (i := 7) (v := .int .u16 id) rfl (by kernel_rfl) (by kernel_rfl) (by kernel_rfl) (fun _ _ _ h => h) (Or.inl ⟨by rfl, ?_⟩) hB0 ?_
    · intro u hu; have hcc := six_cells hu; go_simp
    try simp only [Act.put, List.setIfInBounds_toArray, List.set_cons_zero, List.set_cons_succ]
    refine wpAnyH_take (i := 8) (v := .int .i64 id) rfl (by kernel_rfl) (by kernel_rfl) (by kernel_rfl) (fun _ _ _ h => h) (Or.inl ⟨by rfl, ?_⟩) hB0 ?_
    · intro u hu; go_simp
    try simp only [Act.put, List.setIfInBounds_toArray, List.set_cons_zero, List.set_cons_succ]
    refine wpAnyH_take (i := 12) (v := .pointer (some ⟨w.heap.size, 1, none⟩)) rfl (by kernel_rfl) (by kernel_rfl) (by kernel_rfl) (fun _ _ _ h => h) (Or.inl ⟨by rfl, ?_⟩) hB0 ?_
    · intro u hu; go_simp
    try simp only [Act.put, List.setIfInBounds_toArray, List.set_cons_zero, List.set_cons_succ]
    refine wpAnyH_take (i := 13) (v := .int .u8 ttl) rfl (by kernel_rfl) (by kernel_rfl) (by kernel_rfl) (fun _ _ _ h => h) (Or.inl ⟨by rfl, ?_⟩) hB0 ?_
    · intro u hu; have hcc := six_cells hu; go_simp
    try simp only [Act.put, List.setIfInBounds_toArray, List.set_cons_zero, List.set_cons_succ]
    refine wpAnyH_take (i := 14) (v := .pointer (some ⟨w.heap.size, 2, none⟩)) rfl (by kernel_rfl) (by kernel_rfl) (by kernel_rfl) (fun _ _ _ h => h) (Or.inl ⟨by rfl, ?_⟩) hB0 ?_
    · intro u hu; go_simp
    try simp only [Act.put, List.setIfInBounds_toArray, List.set_cons_zero, List.set_cons_succ]
    refine wpAnyH_take (i := 15) (v := .int .u8 pr) rfl (by kernel_rfl) (by kernel_rfl) (by kernel_rfl) (fun _ _ _ h => h) (Or.inl ⟨by rfl, ?_⟩) hB0 ?_
    · intro u hu; have hcc := six_cells hu; go_simp
    try simp only [Act.put, List.setIfInBounds_toArray, List.set_cons_zero, List.set_cons_succ]
    refine wpAnyH_ready (rs := [4, 16]) (by kernel_rfl) (by simp) ?_
    refine AllReadyH.cons rfl (fun K hK => ?_) (AllReadyH.cons rfl (fun K hK => ?_) AllReadyH.nil)
    · go_simp
      refine (big2_lit _ _ (by omega) (by omega)).mono ?_
      rintro ee u1 ⟨rfl, hb1⟩
      have hB1 : Below (w.heap.size + 1) (w.alloc (.cells #[.int .u16 id, .int .u8 ttl, .int .u8 pr, .int .u32 fr, .int .u32 ta, .string load] 120)) u1 := hB0.trans (hb1.mono (sizes hB0))
      refine hK.out _ _ hB1 (fun _ => ?_)
      clear hK K hb1
      try simp only [Act.put, List.setIfInBounds_toArray, List.set_cons_zero, List.set_cons_succ]
      refine wpAnyH_take (i := 5) (v := .string ({ data := #[69, 0] } ++ ⟨#[by8 ((20 + (load.size : Int)) / 256), by8 (20 + (load.size : Int))]⟩ : ByteArray)) rfl (by kernel_rfl) (by kernel_rfl) (by kernel_rfl) (fun _ _ _ h => h) (Or.inl ⟨by rfl, ?_⟩) hB1 ?_
      · intro u hu; go_simp
      try simp only [Act.put, List.setIfInBounds_toArray, List.set_cons_zero, List.set_cons_succ]
      refine wpAnyH_ready (rs := [9, 16]) (by kernel_rfl) (by simp) ?_
      refine AllReadyH.cons rfl (fun K hK => ?_) (AllReadyH.cons rfl (fun K hK => ?_) AllReadyH.nil)
      · go_simp
        refine (big2_lit _ _ (by omega) (by omega)).mono ?_
        rintro ee u2 ⟨rfl, hb2⟩
        have hB2 : Below (w.heap.size + 1) (w.alloc (.cells #[.int .u16 id, .int .u8 ttl, .int .u8 pr, .int .u32 fr, .int .u32 ta, .string load] 120)) u2 := hB1.trans (hb2.mono (sizes hB1))
        refine hK.out _ _ hB2 (fun _ => ?_)
        clear hK K hb2
        try simp only [Act.put, List.setIfInBounds_toArray, List.set_cons_zero, List.set_cons_succ]
        refine wpAnyH_take (i := 10) (v := .string (({ data := #[69, 0] } ++ ⟨#[by8 ((20 + (load.size : Int)) / 256), by8 (20 + (load.size : Int))]⟩ : ByteArray) ++ ⟨#[by8 (id / 256), by8 id]⟩ : ByteArray)) rfl (by kernel_rfl) (by kernel_rfl) (by kernel_rfl) (fun _ _ _ h => h) (Or.inl ⟨by rfl, ?_⟩) hB2 ?_
        · intro u hu; go_simp
        try simp only [Act.put, List.setIfInBounds_toArray, List.set_cons_zero, List.set_cons_succ]
        refine wpAnyH_take (i := 11) (v := .string ((({ data := #[69, 0] } ++ ⟨#[by8 ((20 + (load.size : Int)) / 256), by8 (20 + (load.size : Int))]⟩ : ByteArray) ++ ⟨#[by8 (id / 256), by8 id]⟩ : ByteArray) ++ { data := #[64, 0] } : ByteArray)) rfl (by kernel_rfl) (by kernel_rfl) (by kernel_rfl) (fun _ _ _ h => h) (Or.inl ⟨by rfl, ?_⟩) hB2 ?_
        · intro u hu; go_simp
        try simp only [Act.put, List.setIfInBounds_toArray, List.set_cons_zero, List.set_cons_succ]
        refine wpAnyH_ready (rs := [16]) (by kernel_rfl) (by simp) ?_
        refine AllReadyH.cons rfl (fun K hK => ?_) AllReadyH.nil
        · go_simp
          have hB3 : Below (w.heap.size + 1) (w.alloc (.cells #[.int .u16 id, .int .u8 ttl, .int .u8 pr, .int .u32 fr, .int .u32 ta, .string load] 120)) (u2.alloc (.cells #[.int .u8 ttl, .int .u8 pr] 5)) := hB2.alloc (sizes hB2) _
          have ca3 : (u2.alloc (.cells #[.int .u8 ttl, .int .u8 pr] 5)).cell? ⟨u2.heap.size, 0, none⟩ = some (.int .u8 ttl) := new2 _ _ _ _ rfl
          have cb3 : (u2.alloc (.cells #[.int .u8 ttl, .int .u8 pr] 5)).cell? ⟨u2.heap.size, 1, none⟩ = some (.int .u8 pr) := new2b _ _ _ _ rfl
          refine hK.out _ _ hB3 (fun _ => ?_)
          clear hK K
          try simp only [Act.put, List.setIfInBounds_toArray, List.set_cons_zero, List.set_cons_succ]
          refine wpAnyH_ready (rs := [17]) (by kernel_rfl) (by simp) ?_
          refine AllReadyH.cons rfl (fun K hK => ?_) AllReadyH.nil
          · have hv4 := conv2 _ (u2.heap.size) ttl pr ht' hp ca3 cb3
            go_simp
            refine hK.out _ _ hB3 (fun _ => ?_)
            clear hK K hv4
            try simp only [Act.put, List.setIfInBounds_toArray, List.set_cons_zero, List.set_cons_succ]
            refine wpAnyH_take (i := 18) (v := .string (((({ data := #[69, 0] } ++ ⟨#[by8 ((20 + (load.size : Int)) / 256), by8 (20 + (load.size : Int))]⟩ : ByteArray) ++ ⟨#[by8 (id / 256), by8 id]⟩ : ByteArray) ++ { data := #[64, 0] } : ByteArray) ++ { data := #[by8 ttl, by8 pr] } : ByteArray)) rfl (by kernel_rfl) (by kernel_rfl) (by kernel_rfl) (fun _ _ _ h => h) (Or.inl ⟨by rfl, ?_⟩) hB3 ?_
            · intro u hu; go_simp
            try simp only [Act.put, List.setIfInBounds_toArray, List.set_cons_zero, List.set_cons_succ]
            refine wpAnyH_ready (rs := [19]) (by kernel_rfl) (by simp) ?_
            refine AllReadyH.cons rfl (fun K hK => ?_) AllReadyH.nil
            · go_simp
              refine hK.out _ _ hB3 (fun _ => ?_)
              clear hK K
              try simp only [Act.put, List.setIfInBounds_toArray, List.set_cons_zero, List.set_cons_succ]
              refine wpAnyH_done (by kernel_rfl) ?_ _
              go_wp2
              go_meet
              exact ⟨congrArg Value.string (ByteArray.ext (Array.ext' (by simp [ByteArray.data_append]))), hB3⟩
      · go_simp
        have hB6 : Below (w.heap.size + 1) (w.alloc (.cells #[.int .u16 id, .int .u8 ttl, .int .u8 pr, .int .u32 fr, .int .u32 ta, .string load] 120)) (u1.alloc (.cells #[.int .u8 ttl, .int .u8 pr] 5)) := hB1.alloc (sizes hB1) _
        have ca6 : (u1.alloc (.cells #[.int .u8 ttl, .int .u8 pr] 5)).cell? ⟨u1.heap.size, 0, none⟩ = some (.int .u8 ttl) := new2 _ _ _ _ rfl
        have cb6 : (u1.alloc (.cells #[.int .u8 ttl, .int .u8 pr] 5)).cell? ⟨u1.heap.size, 1, none⟩ = some (.int .u8 pr) := new2b _ _ _ _ rfl
        refine hK.out _ _ hB6 (fun _ => ?_)
        clear hK K
        try simp only [Act.put, List.setIfInBounds_toArray, List.set_cons_zero, List.set_cons_succ]
        refine wpAnyH_ready (rs := [9, 17]) (by kernel_rfl) (by simp) ?_
        refine AllReadyH.cons rfl (fun K hK => ?_) (AllReadyH.cons rfl (fun K hK => ?_) AllReadyH.nil)
        · go_simp
          refine (big2_lit _ _ (by omega) (by omega)).mono ?_
          rintro ee u7 ⟨rfl, hb7⟩
          have hB7 : Below (w.heap.size + 1) (w.alloc (.cells #[.int .u16 id, .int .u8 ttl, .int .u8 pr, .int .u32 fr, .int .u32 ta, .string load] 120)) u7 := hB6.trans (hb7.mono (sizes hB6))
          have ca7 := (hb7.cell (p := ⟨u1.heap.size, 0, none⟩) (lt_ce ca6)).trans ca6
          have cb7 := (hb7.cell (p := ⟨u1.heap.size, 1, none⟩) (lt_ce cb6)).trans cb6
          refine hK.out _ _ hB7 (fun _ => ?_)
          clear hK K hb7
          try simp only [Act.put, List.setIfInBounds_toArray, List.set_cons_zero, List.set_cons_succ]
          refine wpAnyH_take (i := 10) (v := .string (({ data := #[69, 0] } ++ ⟨#[by8 ((20 + (load.size : Int)) / 256), by8 (20 + (load.size : Int))]⟩ : ByteArray) ++ ⟨#[by8 (id / 256), by8 id]⟩ : ByteArray)) rfl (by kernel_rfl) (by kernel_rfl) (by kernel_rfl) (fun _ _ _ h => h) (Or.inl ⟨by rfl, ?_⟩) hB7 ?_
          · intro u hu; go_simp
          try simp only [Act.put, List.setIfInBounds_toArray, List.set_cons_zero, List.set_cons_succ]
          refine wpAnyH_take (i := 11) (v := .string ((({ data := #[69, 0] } ++ ⟨#[by8 ((20 + (load.size : Int)) / 256), by8 (20 + (load.size : Int))]⟩ : ByteArray) ++ ⟨#[by8 (id / 256), by8 id]⟩ : ByteArray) ++ { data := #[64, 0] } : ByteArray)) rfl (by kernel_rfl) (by kernel_rfl) (by kernel_rfl) (fun _ _ _ h => h) (Or.inl ⟨by rfl, ?_⟩) hB7 ?_
          · intro u hu; go_simp
          try simp only [Act.put, List.setIfInBounds_toArray, List.set_cons_zero, List.set_cons_succ]
          refine wpAnyH_ready (rs := [17]) (by kernel_rfl) (by simp) ?_
          refine AllReadyH.cons rfl (fun K hK => ?_) AllReadyH.nil
          · have hv8 := conv2 _ (u1.heap.size) ttl pr ht' hp ca7 cb7
            go_simp
            refine hK.out _ _ hB7 (fun _ => ?_)
            clear hK K hv8
            try simp only [Act.put, List.setIfInBounds_toArray, List.set_cons_zero, List.set_cons_succ]
            refine wpAnyH_take (i := 18) (v := .string (((({ data := #[69, 0] } ++ ⟨#[by8 ((20 + (load.size : Int)) / 256), by8 (20 + (load.size : Int))]⟩ : ByteArray) ++ ⟨#[by8 (id / 256), by8 id]⟩ : ByteArray) ++ { data := #[64, 0] } : ByteArray) ++ { data := #[by8 ttl, by8 pr] } : ByteArray)) rfl (by kernel_rfl) (by kernel_rfl) (by kernel_rfl) (fun _ _ _ h => h) (Or.inl ⟨by rfl, ?_⟩) hB7 ?_
            · intro u hu; go_simp
            try simp only [Act.put, List.setIfInBounds_toArray, List.set_cons_zero, List.set_cons_succ]
            refine wpAnyH_ready (rs := [19]) (by kernel_rfl) (by simp) ?_
            refine AllReadyH.cons rfl (fun K hK => ?_) AllReadyH.nil
            · go_simp
              refine hK.out _ _ hB7 (fun _ => ?_)
              clear hK K
              try simp only [Act.put, List.setIfInBounds_toArray, List.set_cons_zero, List.set_cons_succ]
              refine wpAnyH_done (by kernel_rfl) ?_ _
              go_wp2
              go_meet
              exact ⟨congrArg Value.string (ByteArray.ext (Array.ext' (by simp [ByteArray.data_append]))), hB7⟩
        · have hv10 := conv2 _ (u1.heap.size) ttl pr ht' hp ca6 cb6
          go_simp
          refine hK.out _ _ hB6 (fun _ => ?_)
          clear hK K hv10
          try simp only [Act.put, List.setIfInBounds_toArray, List.set_cons_zero, List.set_cons_succ]
          refine wpAnyH_ready (rs := [9]) (by kernel_rfl) (by simp) ?_
          refine AllReadyH.cons rfl (fun K hK => ?_) AllReadyH.nil
          · go_simp
            refine (big2_lit _ _ (by omega) (by omega)).mono ?_
            rintro ee u11 ⟨rfl, hb11⟩
            have hB11 : Below (w.heap.size + 1) (w.alloc (.cells #[.int .u16 id, .int .u8 ttl, .int .u8 pr, .int .u32 fr, .int .u32 ta, .string load] 120)) u11 := hB6.trans (hb11.mono (sizes hB6))
            have ca11 := (hb11.cell (p := ⟨u1.heap.size, 0, none⟩) (lt_ce ca6)).trans ca6
            have cb11 := (hb11.cell (p := ⟨u1.heap.size, 1, none⟩) (lt_ce cb6)).trans cb6
            refine hK.out _ _ hB11 (fun _ => ?_)
            clear hK K hb11
            try simp only [Act.put, List.setIfInBounds_toArray, List.set_cons_zero, List.set_cons_succ]
            refine wpAnyH_take (i := 10) (v := .string (({ data := #[69, 0] } ++ ⟨#[by8 ((20 + (load.size : Int)) / 256), by8 (20 + (load.size : Int))]⟩ : ByteArray) ++ ⟨#[by8 (id / 256), by8 id]⟩ : ByteArray)) rfl (by kernel_rfl) (by kernel_rfl) (by kernel_rfl) (fun _ _ _ h => h) (Or.inl ⟨by rfl, ?_⟩) hB11 ?_
            · intro u hu; go_simp
            try simp only [Act.put, List.setIfInBounds_toArray, List.set_cons_zero, List.set_cons_succ]
            refine wpAnyH_take (i := 11) (v := .string ((({ data := #[69, 0] } ++ ⟨#[by8 ((20 + (load.size : Int)) / 256), by8 (20 + (load.size : Int))]⟩ : ByteArray) ++ ⟨#[by8 (id / 256), by8 id]⟩ : ByteArray) ++ { data := #[64, 0] } : ByteArray)) rfl (by kernel_rfl) (by kernel_rfl) (by kernel_rfl) (fun _ _ _ h => h) (Or.inl ⟨by rfl, ?_⟩) hB11 ?_
            · intro u hu; go_simp
            try simp only [Act.put, List.setIfInBounds_toArray, List.set_cons_zero, List.set_cons_succ]
            refine wpAnyH_take (i := 18) (v := .string (((({ data := #[69, 0] } ++ ⟨#[by8 ((20 + (load.size : Int)) / 256), by8 (20 + (load.size : Int))]⟩ : ByteArray) ++ ⟨#[by8 (id / 256), by8 id]⟩ : ByteArray) ++ { data := #[64, 0] } : ByteArray) ++ { data := #[by8 ttl, by8 pr] } : ByteArray)) rfl (by kernel_rfl) (by kernel_rfl) (by kernel_rfl) (fun _ _ _ h => h) (Or.inl ⟨by rfl, ?_⟩) hB11 ?_
            · intro u hu; go_simp
            try simp only [Act.put, List.setIfInBounds_toArray, List.set_cons_zero, List.set_cons_succ]
            refine wpAnyH_ready (rs := [19]) (by kernel_rfl) (by simp) ?_
            refine AllReadyH.cons rfl (fun K hK => ?_) AllReadyH.nil
            · go_simp
              refine hK.out _ _ hB11 (fun _ => ?_)
              clear hK K
              try simp only [Act.put, List.setIfInBounds_toArray, List.set_cons_zero, List.set_cons_succ]
              refine wpAnyH_done (by kernel_rfl) ?_ _
              go_wp2
              go_meet
              exact ⟨congrArg Value.string (ByteArray.ext (Array.ext' (by simp [ByteArray.data_append]))), hB11⟩
    · go_simp
      have hB13 : Below (w.heap.size + 1) (w.alloc (.cells #[.int .u16 id, .int .u8 ttl, .int .u8 pr, .int .u32 fr, .int .u32 ta, .string load] 120)) (((w.alloc (.cells #[.int .u16 id, .int .u8 ttl, .int .u8 pr, .int .u32 fr, .int .u32 ta, .string load] 120)).alloc (.cells #[.int .u8 ttl, .int .u8 pr] 5)).drew) := ((Below.refl _ _).alloc (by simp) _).drew
      have ca13 : (((w.alloc (.cells #[.int .u16 id, .int .u8 ttl, .int .u8 pr, .int .u32 fr, .int .u32 ta, .string load] 120)).alloc (.cells #[.int .u8 ttl, .int .u8 pr] 5)).drew).cell? ⟨w.heap.size + 1, 0, none⟩ = some (.int .u8 ttl) := new2 _ _ _ _ (by simp)
      have cb13 : (((w.alloc (.cells #[.int .u16 id, .int .u8 ttl, .int .u8 pr, .int .u32 fr, .int .u32 ta, .string load] 120)).alloc (.cells #[.int .u8 ttl, .int .u8 pr] 5)).drew).cell? ⟨w.heap.size + 1, 1, none⟩ = some (.int .u8 pr) := new2b _ _ _ _ (by simp)
      refine hK.out _ _ hB13 (fun _ => ?_)
      clear hK K
      try simp only [Act.put, List.setIfInBounds_toArray, List.set_cons_zero, List.set_cons_succ]
      refine wpAnyH_ready (rs := [4, 17]) (by kernel_rfl) (by simp) ?_
      refine AllReadyH.cons rfl (fun K hK => ?_) (AllReadyH.cons rfl (fun K hK => ?_) AllReadyH.nil)
      · go_simp
        refine (big2_lit _ _ (by omega) (by omega)).mono ?_
        rintro ee u14 ⟨rfl, hb14⟩
        have hB14 : Below (w.heap.size + 1) (w.alloc (.cells #[.int .u16 id, .int .u8 ttl, .int .u8 pr, .int .u32 fr, .int .u32 ta, .string load] 120)) u14 := hB13.trans (hb14.mono (sizes hB13))
        have ca14 := (hb14.cell (p := ⟨w.heap.size + 1, 0, none⟩) (lt_ce ca13)).trans ca13
        have cb14 := (hb14.cell (p := ⟨w.heap.size + 1, 1, none⟩) (lt_ce cb13)).trans cb13
        refine hK.out _ _ hB14 (fun _ => ?_)
        clear hK K hb14
        try simp only [Act.put, List.setIfInBounds_toArray, List.set_cons_zero, List.set_cons_succ]
        refine wpAnyH_take (i := 5) (v := .string ({ data := #[69, 0] } ++ ⟨#[by8 ((20 + (load.size : Int)) / 256), by8 (20 + (load.size : Int))]⟩ : ByteArray)) rfl (by kernel_rfl) (by kernel_rfl) (by kernel_rfl) (fun _ _ _ h => h) (Or.inl ⟨by rfl, ?_⟩) hB14 ?_
        · intro u hu; go_simp
        try simp only [Act.put, List.setIfInBounds_toArray, List.set_cons_zero, List.set_cons_succ]
        refine wpAnyH_ready (rs := [9, 17]) (by kernel_rfl) (by simp) ?_
        refine AllReadyH.cons rfl (fun K hK => ?_) (AllReadyH.cons rfl (fun K hK => ?_) AllReadyH.nil)
        · go_simp
          refine (big2_lit _ _ (by omega) (by omega)).mono ?_
          rintro ee u15 ⟨rfl, hb15⟩
          have hB15 : Below (w.heap.size + 1) (w.alloc (.cells #[.int .u16 id, .int .u8 ttl, .int .u8 pr, .int .u32 fr, .int .u32 ta, .string load] 120)) u15 := hB14.trans (hb15.mono (sizes hB14))
          have ca15 := (hb15.cell (p := ⟨w.heap.size + 1, 0, none⟩) (lt_ce ca14)).trans ca14
          have cb15 := (hb15.cell (p := ⟨w.heap.size + 1, 1, none⟩) (lt_ce cb14)).trans cb14
          refine hK.out _ _ hB15 (fun _ => ?_)
          clear hK K hb15
          try simp only [Act.put, List.setIfInBounds_toArray, List.set_cons_zero, List.set_cons_succ]
          refine wpAnyH_take (i := 10) (v := .string (({ data := #[69, 0] } ++ ⟨#[by8 ((20 + (load.size : Int)) / 256), by8 (20 + (load.size : Int))]⟩ : ByteArray) ++ ⟨#[by8 (id / 256), by8 id]⟩ : ByteArray)) rfl (by kernel_rfl) (by kernel_rfl) (by kernel_rfl) (fun _ _ _ h => h) (Or.inl ⟨by rfl, ?_⟩) hB15 ?_
          · intro u hu; go_simp
          try simp only [Act.put, List.setIfInBounds_toArray, List.set_cons_zero, List.set_cons_succ]
          refine wpAnyH_take (i := 11) (v := .string ((({ data := #[69, 0] } ++ ⟨#[by8 ((20 + (load.size : Int)) / 256), by8 (20 + (load.size : Int))]⟩ : ByteArray) ++ ⟨#[by8 (id / 256), by8 id]⟩ : ByteArray) ++ { data := #[64, 0] } : ByteArray)) rfl (by kernel_rfl) (by kernel_rfl) (by kernel_rfl) (fun _ _ _ h => h) (Or.inl ⟨by rfl, ?_⟩) hB15 ?_
          · intro u hu; go_simp
          try simp only [Act.put, List.setIfInBounds_toArray, List.set_cons_zero, List.set_cons_succ]
          refine wpAnyH_ready (rs := [17]) (by kernel_rfl) (by simp) ?_
          refine AllReadyH.cons rfl (fun K hK => ?_) AllReadyH.nil
          · have hv16 := conv2 _ (w.heap.size + 1) ttl pr ht' hp ca15 cb15
            go_simp
            refine hK.out _ _ hB15 (fun _ => ?_)
            clear hK K hv16
            try simp only [Act.put, List.setIfInBounds_toArray, List.set_cons_zero, List.set_cons_succ]
            refine wpAnyH_take (i := 18) (v := .string (((({ data := #[69, 0] } ++ ⟨#[by8 ((20 + (load.size : Int)) / 256), by8 (20 + (load.size : Int))]⟩ : ByteArray) ++ ⟨#[by8 (id / 256), by8 id]⟩ : ByteArray) ++ { data := #[64, 0] } : ByteArray) ++ { data := #[by8 ttl, by8 pr] } : ByteArray)) rfl (by kernel_rfl) (by kernel_rfl) (by kernel_rfl) (fun _ _ _ h => h) (Or.inl ⟨by rfl, ?_⟩) hB15 ?_
            · intro u hu; go_simp
            try simp only [Act.put, List.setIfInBounds_toArray, List.set_cons_zero, List.set_cons_succ]
            refine wpAnyH_ready (rs := [19]) (by kernel_rfl) (by simp) ?_
            refine AllReadyH.cons rfl (fun K hK => ?_) AllReadyH.nil
            · go_simp
              refine hK.out _ _ hB15 (fun _ => ?_)
              clear hK K
              try simp only [Act.put, List.setIfInBounds_toArray, List.set_cons_zero, List.set_cons_succ]
              refine wpAnyH_done (by kernel_rfl) ?_ _
              go_wp2
              go_meet
              exact ⟨congrArg Value.string (ByteArray.ext (Array.ext' (by simp [ByteArray.data_append]))), hB15⟩
        · have hv18 := conv2 _ (w.heap.size + 1) ttl pr ht' hp ca14 cb14
          go_simp
          refine hK.out _ _ hB14 (fun _ => ?_)
          clear hK K hv18
          try simp only [Act.put, List.setIfInBounds_toArray, List.set_cons_zero, List.set_cons_succ]
          refine wpAnyH_ready (rs := [9]) (by kernel_rfl) (by simp) ?_
          refine AllReadyH.cons rfl (fun K hK => ?_) AllReadyH.nil
          · go_simp
            refine (big2_lit _ _ (by omega) (by omega)).mono ?_
            rintro ee u19 ⟨rfl, hb19⟩
            have hB19 : Below (w.heap.size + 1) (w.alloc (.cells #[.int .u16 id, .int .u8 ttl, .int .u8 pr, .int .u32 fr, .int .u32 ta, .string load] 120)) u19 := hB14.trans (hb19.mono (sizes hB14))
            have ca19 := (hb19.cell (p := ⟨w.heap.size + 1, 0, none⟩) (lt_ce ca14)).trans ca14
            have cb19 := (hb19.cell (p := ⟨w.heap.size + 1, 1, none⟩) (lt_ce cb14)).trans cb14
            refine hK.out _ _ hB19 (fun _ => ?_)
            clear hK K hb19
            try simp only [Act.put, List.setIfInBounds_toArray, List.set_cons_zero, List.set_cons_succ]
            refine wpAnyH_take (i := 10) (v := .string (({ data := #[69, 0] } ++ ⟨#[by8 ((20 + (load.size : Int)) / 256), by8 (20 + (load.size : Int))]⟩ : ByteArray) ++ ⟨#[by8 (id / 256), by8 id]⟩ : ByteArray)) rfl (by kernel_rfl) (by kernel_rfl) (by kernel_rfl) (fun _ _ _ h => h) (Or.inl ⟨by rfl, ?_⟩) hB19 ?_
            · intro u hu; go_simp
            try simp only [Act.put, List.setIfInBounds_toArray, List.set_cons_zero, List.set_cons_succ]
            refine wpAnyH_take (i := 11) (v := .string ((({ data := #[69, 0] } ++ ⟨#[by8 ((20 + (load.size : Int)) / 256), by8 (20 + (load.size : Int))]⟩ : ByteArray) ++ ⟨#[by8 (id / 256), by8 id]⟩ : ByteArray) ++ { data := #[64, 0] } : ByteArray)) rfl (by kernel_rfl) (by kernel_rfl) (by kernel_rfl) (fun _ _ _ h => h) (Or.inl ⟨by rfl, ?_⟩) hB19 ?_
            · intro u hu; go_simp
            try simp only [Act.put, List.setIfInBounds_toArray, List.set_cons_zero, List.set_cons_succ]
            refine wpAnyH_take (i := 18) (v := .string (((({ data := #[69, 0] } ++ ⟨#[by8 ((20 + (load.size : Int)) / 256), by8 (20 + (load.size : Int))]⟩ : ByteArray) ++ ⟨#[by8 (id / 256), by8 id]⟩ : ByteArray) ++ { data := #[64, 0] } : ByteArray) ++ { data := #[by8 ttl, by8 pr] } : ByteArray)) rfl (by kernel_rfl) (by kernel_rfl) (by kernel_rfl) (fun _ _ _ h => h) (Or.inl ⟨by rfl, ?_⟩) hB19 ?_
            · intro u hu; go_simp
            try simp only [Act.put, List.setIfInBounds_toArray, List.set_cons_zero, List.set_cons_succ]
            refine wpAnyH_ready (rs := [19]) (by kernel_rfl) (by simp) ?_
            refine AllReadyH.cons rfl (fun K hK => ?_) AllReadyH.nil
            · go_simp
              refine hK.out _ _ hB19 (fun _ => ?_)
              clear hK K
              try simp only [Act.put, List.setIfInBounds_toArray, List.set_cons_zero, List.set_cons_succ]
              refine wpAnyH_done (by kernel_rfl) ?_ _
              go_wp2
              go_meet
              exact ⟨congrArg Value.string (ByteArray.ext (Array.ext' (by simp [ByteArray.data_append]))), hB19⟩
      · have hv21 := conv2 _ (w.heap.size + 1) ttl pr ht' hp ca13 cb13
        go_simp
        refine hK.out _ _ hB13 (fun _ => ?_)
        clear hK K hv21
        try simp only [Act.put, List.setIfInBounds_toArray, List.set_cons_zero, List.set_cons_succ]
        refine wpAnyH_ready (rs := [4]) (by kernel_rfl) (by simp) ?_
        refine AllReadyH.cons rfl (fun K hK => ?_) AllReadyH.nil
        · go_simp
          refine (big2_lit _ _ (by omega) (by omega)).mono ?_
          rintro ee u22 ⟨rfl, hb22⟩
          have hB22 : Below (w.heap.size + 1) (w.alloc (.cells #[.int .u16 id, .int .u8 ttl, .int .u8 pr, .int .u32 fr, .int .u32 ta, .string load] 120)) u22 := hB13.trans (hb22.mono (sizes hB13))
          have ca22 := (hb22.cell (p := ⟨w.heap.size + 1, 0, none⟩) (lt_ce ca13)).trans ca13
          have cb22 := (hb22.cell (p := ⟨w.heap.size + 1, 1, none⟩) (lt_ce cb13)).trans cb13
          refine hK.out _ _ hB22 (fun _ => ?_)
          clear hK K hb22
          try simp only [Act.put, List.setIfInBounds_toArray, List.set_cons_zero, List.set_cons_succ]
          refine wpAnyH_take (i := 5) (v := .string ({ data := #[69, 0] } ++ ⟨#[by8 ((20 + (load.size : Int)) / 256), by8 (20 + (load.size : Int))]⟩ : ByteArray)) rfl (by kernel_rfl) (by kernel_rfl) (by kernel_rfl) (fun _ _ _ h => h) (Or.inl ⟨by rfl, ?_⟩) hB22 ?_
          · intro u hu; go_simp
          try simp only [Act.put, List.setIfInBounds_toArray, List.set_cons_zero, List.set_cons_succ]
          refine wpAnyH_ready (rs := [9]) (by kernel_rfl) (by simp) ?_
          refine AllReadyH.cons rfl (fun K hK => ?_) AllReadyH.nil
          · go_simp
            refine (big2_lit _ _ (by omega) (by omega)).mono ?_
            rintro ee u23 ⟨rfl, hb23⟩
            have hB23 : Below (w.heap.size + 1) (w.alloc (.cells #[.int .u16 id, .int .u8 ttl, .int .u8 pr, .int .u32 fr, .int .u32 ta, .string load] 120)) u23 := hB22.trans (hb23.mono (sizes hB22))
            have ca23 := (hb23.cell (p := ⟨w.heap.size + 1, 0, none⟩) (lt_ce ca22)).trans ca22
            have cb23 := (hb23.cell (p := ⟨w.heap.size + 1, 1, none⟩) (lt_ce cb22)).trans cb22
            refine hK.out _ _ hB23 (fun _ => ?_)
            clear hK K hb23
            try simp only [Act.put, List.setIfInBounds_toArray, List.set_cons_zero, List.set_cons_succ]
            refine wpAnyH_take (i := 10) (v := .string (({ data := #[69, 0] } ++ ⟨#[by8 ((20 + (load.size : Int)) / 256), by8 (20 + (load.size : Int))]⟩ : ByteArray) ++ ⟨#[by8 (id / 256), by8 id]⟩ : ByteArray)) rfl (by kernel_rfl) (by kernel_rfl) (by kernel_rfl) (fun _ _ _ h => h) (Or.inl ⟨by rfl, ?_⟩) hB23 ?_
            · intro u hu; go_simp
            try simp only [Act.put, List.setIfInBounds_toArray, List.set_cons_zero, List.set_cons_succ]
            refine wpAnyH_take (i := 11) (v := .string ((({ data := #[69, 0] } ++ ⟨#[by8 ((20 + (load.size : Int)) / 256), by8 (20 + (load.size : Int))]⟩ : ByteArray) ++ ⟨#[by8 (id / 256), by8 id]⟩ : ByteArray) ++ { data := #[64, 0] } : ByteArray)) rfl (by kernel_rfl) (by kernel_rfl) (by kernel_rfl) (fun _ _ _ h => h) (Or.inl ⟨by rfl, ?_⟩) hB23 ?_
            · intro u hu; go_simp
            try simp only [Act.put, List.setIfInBounds_toArray, List.set_cons_zero, List.set_cons_succ]
            refine wpAnyH_take (i := 18) (v := .string (((({ data := #[69, 0] } ++ ⟨#[by8 ((20 + (load.size : Int)) / 256), by8 (20 + (load.size : Int))]⟩ : ByteArray) ++ ⟨#[by8 (id / 256), by8 id]⟩ : ByteArray) ++ { data := #[64, 0] } : ByteArray) ++ { data := #[by8 ttl, by8 pr] } : ByteArray)) rfl (by kernel_rfl) (by kernel_rfl) (by kernel_rfl) (fun _ _ _ h => h) (Or.inl ⟨by rfl, ?_⟩) hB23 ?_
            · intro u hu; go_simp
            try simp only [Act.put, List.setIfInBounds_toArray, List.set_cons_zero, List.set_cons_succ]
            refine wpAnyH_ready (rs := [19]) (by kernel_rfl) (by simp) ?_
            refine AllReadyH.cons rfl (fun K hK => ?_) AllReadyH.nil
            · go_simp
              refine hK.out _ _ hB23 (fun _ => ?_)
              clear hK K
              try simp only [Act.put, List.setIfInBounds_toArray, List.set_cons_zero, List.set_cons_succ]
              refine wpAnyH_done (by kernel_rfl) ?_ _
              go_wp2
              go_meet
              exact ⟨congrArg Value.string (ByteArray.ext (Array.ext' (by simp [ByteArray.data_append]))), hB23⟩
  case rest =>
    obtain ⟨rfl, hB1⟩ := hcut
    rename World => wc
    rw [← unhide HA]
    have hcc1 := six_cells hB1
    have hzz1 := sizes hB1
    go_wp2
    go_region_held3 (fun u => u.cell? ⟨w.heap.size, 3, none⟩ = some (.int .u32 fr) ∧ u.cell? ⟨w.heap.size, 4, none⟩ = some (.int .u32 ta)) (go_keep)
      (first | (go_at_call 91; refine (ip_lit _ _ (by omega) (by omega)).mono ?_; rintro ee u1 ⟨rfl, hb1⟩; have hB1 : Below (w.heap.size + 1) (w.alloc (.cells #[.int .u16 id, .int .u8 ttl, .int .u8 pr, .int .u32 fr, .int .u32 ta, .string load] 120)) u1 := (by first | exact hB1.trans (hb1.mono (sizes hB1)) | exact hB1.drew.trans (hb1.mono (sizes hB1.drew))); have hcc1 := six_cells hB1; have hzz1 := sizes hB1; clear hb1))
    rw [← unhide HBB]
    go_wp2
    go_region_held3 (fun u => u.cell? ⟨w.heap.size, 5, none⟩ = some (.string load)) (go_keep)
      (first | (go_at_call 104; refine (unhide HCk _).mono ?_; rintro ee u1 ⟨rfl, nn, hu1⟩; have hB1 : Below (w.heap.size + 1) (w.alloc (.cells #[.int .u16 id, .int .u8 ttl, .int .u8 pr, .int .u32 fr, .int .u32 ta, .string load] 120)) u1 := (by rw [hu1]; exact Ud.below_drewN hB1.drew nn); have hcc1 := six_cells hB1; have hzz1 := sizes hB1; clear hu1) | (go_at_call 131; refine (big2_lit _ _ (by omega) (by omega)).mono ?_; rintro ee u1 ⟨rfl, hb1⟩; have hB1 : Below (w.heap.size + 1) (w.alloc (.cells #[.int .u16 id, .int .u8 ttl, .int .u8 pr, .int .u32 fr, .int .u32 ta, .string load] 120)) u1 := (by first | exact hB1.trans (hb1.mono (sizes hB1)) | exact hB1.drew.trans (hb1.mono (sizes hB1.drew))); have hcc1 := six_cells hB1; have hzz1 := sizes hB1; clear hb1))
    go_wp2
    go_ret2
    refine ⟨ret_pair (unhide HFin), ?_⟩
    exact ((Below.refl _ w).alloc (Nat.le_refl _) _).trans (hB1.mono (by omega))
end Go.Proofs.YtbhbbeebncmaiaaGreatDoor.Ip
namespace Go.Proofs.YtbhbbeebncmaiaaGreatDoor.Ip
open Go.ChangeShapes Go.WideShapes Go.ChangeAt Go.RowKit Bs Rb Wt Arp
set_option linter.unusedVariables false
set_option maxHeartbeats 1000000 in
theorem ref_any (id ttl pr fr ta : Int) (load : ByteArray) (w : World) (hi : 0 ≤ id ∧ id ≤ 65535) (ht : 0 ≤ ttl ∧ ttl ≤ 255) (hp : 0 ≤ pr ∧ pr ≤ 255) (hf : 0 ≤ fr ∧ fr ≤ 4294967295) (ho : 0 ≤ ta ∧ ta ≤ 4294967295) (h3 : load.size ≤ 262144) :
    Calls Tryz.prog 137 #[.agg #[.int .u16 id, .int .u8 ttl, .int .u8 pr, .int .u32 fr, .int .u32 ta, .string load]] w fun ee w' =>
      ee = .returned (.tuple #[.string (ipS id ttl pr fr ta load), .int .i64 (ipE ttl load)]) ∧ Below w.heap.size w w' := by
  by_cases h0 : ttl = 0
  · have e1 : ipS id ttl pr fr ta load = ⟨#[]⟩ := by simp [ipS, h0]
    have e2 : ipE ttl load = 2 := by simp [ipE, h0]
    rw [e1, e2]
    subst h0
    go_enter Tryz.func137, Tryz.ntmps137
    go_wp2
    go_ret2
    exact ⟨rfl, (Below.refl _ _).alloc (Nat.le_refl _) _⟩
  · have hne : (ttl == 0) = false := by simpa using h0
    by_cases hl : load.size ≤ 1480
    · have e1 : ipS id ttl pr fr ta load = ⟨(ipL id ttl pr fr ta load).toArray⟩ := by simp [ipS, h0, hl]
      have e2 : ipE ttl load = 0 := by simp [ipE, h0, hl]
      rw [e1, e2]
      exact ref_ok id ttl pr fr ta load w hi (by omega) hp hf ho hl
    · have e1 : ipS id ttl pr fr ta load = ⟨#[]⟩ := by simp [ipS, h0, hl]
      have e2 : ipE ttl load = 7 := by simp [ipE, h0, hl]
      rw [e1, e2]
      have hgt : (1480 : Int) < (load.size : Int) := by omega
      clear e1 e2 hl h0
      go_enter Tryz.func137, Tryz.ntmps137
      go_wp2
      go_ret2
      exact ⟨rfl, (Below.refl _ _).alloc (Nat.le_refl _) _⟩
end Go.Proofs.YtbhbbeebncmaiaaGreatDoor.Ip

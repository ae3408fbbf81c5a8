import Derived.Test.YtoifihhmneldeaaDoorHashMixA
import Derived.Deep.MidRow
namespace Go.Proofs.YtoifihhmneldeaaDoor.Hs
open Go.ChangeShapes Go.WideShapes Go.ChangeAt Go.RowKit Hb Ht Hm
set_option linter.unusedVariables false
set_option linter.unusedSimpArgs false

/-- a state's words by their place -/
def at8 (s : St) : Nat → Nat
  | 0 => s.a | 1 => s.b | 2 => s.c | 3 => s.d | 4 => s.e | 5 => s.f | 6 => s.g | _ => s.h
def plusR (s t : St) : St := s.plus t
def mixRow (s t : St) (k : Nat) : Array Value := ((List.range 8).map fun j => Value.int .u32 ((if j < k then (at8 s j + at8 t j) % 4294967296 else at8 s j : Nat) : Int)).toArray
theorem mixRow_zero (s t : St) : mixRow s t 0 = st8 s := by simp [mixRow, st8, at8, List.range, List.range.loop]
theorem mixRow_all (s t : St) : mixRow s t 8 = st8 (plusR s t) := by simp [mixRow, st8, at8, List.range, List.range.loop, plusR, St.plus]
theorem mixRow_get (s t : St) (k q : Nat) (hq : q < 8) : (mixRow s t k)[q]? = some (.int .u32 ((if q < k then (at8 s q + at8 t q) % 4294967296 else at8 s q : Nat) : Int)) := by simp [mixRow, hq]
theorem mixRow_set (s t : St) (k : Nat) (hk : k < 8) : (mixRow s t k).setIfInBounds k (.int .u32 (((at8 s k + at8 t k) % 4294967296 : Nat) : Int)) = mixRow s t (k + 1) := by
  apply Array.ext'
  simp only [mixRow, Array.toList_setIfInBounds]
  apply List.ext_getElem?
  intro i
  rw [List.getElem?_set]
  by_cases hi : i < 8
  · by_cases e : k = i
    · subst e; simp [hk]
    · simp only [if_neg e, List.getElem?_map, List.getElem?_range hi, Option.map_some]
      have : (i < k) = (i < k + 1) := by simp only [eq_iff_iff]; omega
      simp only [this]
  · by_cases e : k = i
    · omega
    · simp [e, hi]
structure Inv2 (w w2 : World) (s t : St) (k : Nat) (wq : World) : Prop where
  box : wq.heap[w.heap.size]? = some (.cells (mixRow s t k) 57 (0, 0))
  res : wq.heap[w.heap.size + 1]? = some (.cells #[.int .u32 0, .int .u32 0, .int .u32 0, .int .u32 0, .int .u32 0, .int .u32 0, .int .u32 0, .int .u32 0] 57 (0, 0))
  cur : wq.heap[w2.heap.size]? = some (.cells (st8 t) 57 (0, 0))
  below : Below w.heap.size w wq
theorem Inv2.boxc {w w2 wq : World} {s t : St} {k : Nat} (h : Inv2 w w2 s t k wq) (q : Nat) (hk : k < 8) (e : q = k) : wq.cell? ⟨w.heap.size, q, none⟩ = some (.int .u32 (at8 s q)) := by
  subst e
  rw [cell_of_row wq w.heap.size q _ _ _ h.box, mixRow_get s t q q hk, if_neg (by omega)]
theorem Inv2.curc {w w2 wq : World} {s t : St} {k : Nat} (h : Inv2 w w2 s t k wq) (q : Nat) (hq : q < 8) : wq.cell? ⟨w2.heap.size, q, none⟩ = some (.int .u32 (at8 t q)) := by
  rw [cell_of_row wq w2.heap.size q _ _ _ h.cur]
  match q, hq with
  | 0, _ => rfl
  | 1, _ => rfl
  | 2, _ => rfl
  | 3, _ => rfl
  | 4, _ => rfl
  | 5, _ => rfl
  | 6, _ => rfl
  | 7, _ => rfl
theorem Inv2.next {w w1 w2 wq : World} {s t : St} (q : Nat) (h : Inv2 w w2 s t q wq) (hq : q < 8) (z : Nat) (hz : z = (at8 s q + at8 t q) % 4294967296) (h2 : w1.heap.size + 1 ≤ w2.heap.size) (h1 : w.heap.size + 2 ≤ w1.heap.size) : Inv2 w w2 s t (q + 1) (wq.setCell ⟨w.heap.size, q, none⟩ (.int .u32 z)).drew := by
  refine ⟨?_, ?_, ?_, (h.below.setCell (Nat.le_refl _) _).drew⟩
  · show (wq.setCell ⟨w.heap.size, q, none⟩ (.int .u32 z)).heap[w.heap.size]? = _
    rw [heap_setCell_same _ w.heap.size q _ _ _ h.box, hz, mixRow_set s t q hq]
  · show (wq.setCell ⟨w.heap.size, q, none⟩ (.int .u32 z)).heap[w.heap.size + 1]? = _
    rw [Below.heap_setCell _ _ _ _ (by simp)]; exact h.res
  · show (wq.setCell ⟨w.heap.size, q, none⟩ (.int .u32 z)).heap[w2.heap.size]? = _
    rw [Below.heap_setCell _ _ _ _ (by simp; omega)]; exact h.cur

set_option maxHeartbeats 2500000 in
set_option maxRecDepth 10000 in
theorem mixed_any (blk : ByteArray) (b : List UInt8) (s : St) (K : Nat → Nat) (w : World) (hs : blk.size = 64) (hb : blk.data.toList = b) (hok : s.ok) (hG : RG w 2 K) (hK : ∀ j, K j < 4294967296) :
    Calls Tryd.prog 42 #[.agg #[.int .u32 s.a, .int .u32 s.b, .int .u32 s.c, .int .u32 s.d, .int .u32 s.e, .int .u32 s.f, .int .u32 s.g, .int .u32 s.h], .string blk] w fun en w' => en = .returned (.agg (st8 (s.mix K b))) ∧ Below w.heap.size w w' := by
  have HSC := hide (fun u => sched_any blk b u hs hb)
  have h0 := hG.lt
  obtain ⟨cs, hcs⟩ : ∃ cs, cs = rowF (wordF b) := ⟨_, rfl⟩
  have hl64 := rowF_length (wordF b)
  have hone := one_row (wordF b)
  rw [← hcs] at HSC hl64 hone
  have HG := hide hG
  have HLN := hide hl64
  have HON := hide hone
  have HCS := hide hcs
  have HK := hide hK
  clear hs hb hG hcs hl64 hone hK
  go_enter Tryd.func42, Tryd.ntmps42
  go_wp2_with fail
  refine (unhide HSC _).mono ?_
  rintro en w1 ⟨rfl, q1⟩
  obtain ⟨w2, hW2⟩ : ∃ w2, w2 = (w1.alloc (.cells #[Value.int .u32 0, Value.int .u32 0, Value.int .u32 0, Value.int .u32 0, Value.int .u32 0, Value.int .u32 0, Value.int .u32 0, Value.int .u32 0, Value.int .u32 0, Value.int .u32 0, Value.int .u32 0, Value.int .u32 0, Value.int .u32 0, Value.int .u32 0, Value.int .u32 0, Value.int .u32 0, Value.int .u32 0, Value.int .u32 0, Value.int .u32 0, Value.int .u32 0, Value.int .u32 0, Value.int .u32 0, Value.int .u32 0, Value.int .u32 0, Value.int .u32 0, Value.int .u32 0, Value.int .u32 0, Value.int .u32 0, Value.int .u32 0, Value.int .u32 0, Value.int .u32 0, Value.int .u32 0, Value.int .u32 0, Value.int .u32 0, Value.int .u32 0, Value.int .u32 0, Value.int .u32 0, Value.int .u32 0, Value.int .u32 0, Value.int .u32 0, Value.int .u32 0, Value.int .u32 0, Value.int .u32 0, Value.int .u32 0, Value.int .u32 0, Value.int .u32 0, Value.int .u32 0, Value.int .u32 0, Value.int .u32 0, Value.int .u32 0, Value.int .u32 0, Value.int .u32 0, Value.int .u32 0, Value.int .u32 0, Value.int .u32 0, Value.int .u32 0, Value.int .u32 0, Value.int .u32 0, Value.int .u32 0, Value.int .u32 0, Value.int .u32 0, Value.int .u32 0, Value.int .u32 0, Value.int .u32 0] 92)).setCells w1.heap.size 0 cs.toArray.toList := ⟨_, rfl⟩
  have hz1 := q1.size
  have hz1' : w.heap.size + 2 ≤ w1.heap.size := by simpa using hz1
  have hR2 : R w2 w1.heap.size (wordF b) := by rw [hW2, List.toList_toArray, unhide HCS]; exact new_row w1 _ _ rfl
  have q2 : Below w1.heap.size w1 w2 := by rw [hW2]; exact below_setCells (Nat.le_refl _) _ _ ((Below.refl _ _).alloc (Nat.le_refl _) _)
  have hbox1 : w1.heap[w.heap.size]? = some (.cells #[.int .u32 s.a, .int .u32 s.b, .int .u32 s.c, .int .u32 s.d, .int .u32 s.e, .int .u32 s.f, .int .u32 s.g, .int .u32 s.h] 57 (0, 0)) := by
    rw [q1.block _ (by simp; omega), Below.heap_alloc _ _ _ (by simp)]; exact heap_alloc_new w _
  have hres1 : w1.heap[w.heap.size + 1]? = some (.cells #[.int .u32 0, .int .u32 0, .int .u32 0, .int .u32 0, .int .u32 0, .int .u32 0, .int .u32 0, .int .u32 0] 57 (0, 0)) := by
    rw [q1.block _ (by simp)]
    have q := heap_alloc_new (w.alloc (.cells #[.int .u32 s.a, .int .u32 s.b, .int .u32 s.c, .int .u32 s.d, .int .u32 s.e, .int .u32 s.f, .int .u32 s.g, .int .u32 s.h] 57)) (.cells #[.int .u32 0, .int .u32 0, .int .u32 0, .int .u32 0, .int .u32 0, .int .u32 0, .int .u32 0, .int .u32 0] 57)
    rw [show (w.alloc (.cells #[.int .u32 s.a, .int .u32 s.b, .int .u32 s.c, .int .u32 s.d, .int .u32 s.e, .int .u32 s.f, .int .u32 s.g, .int .u32 s.h] 57)).heap.size = w.heap.size + 1 by simp] at q
    exact q
  have hbox2 := (q2.block _ (lt_of_block hbox1)).trans hbox1
  have hres2 := (q2.block _ (lt_of_block hres1)).trans hres1
  have hB2 : Below w.heap.size w w2 := ((((Below.refl _ w).alloc (Nat.le_refl _) _).alloc (by simp) _).trans (q1.mono (by simp; omega))).trans (q2.mono (by omega))
  have hG2 : RG w2 2 K := (unhide HG).below hB2 h0
  have bc0 : w2.cell? ⟨w.heap.size, 0, none⟩ = some (.int .u32 s.a) := by rw [cell_of_row w2 w.heap.size 0 _ _ _ hbox2]; rfl
  have bc1 : w2.cell? ⟨w.heap.size, 1, none⟩ = some (.int .u32 s.b) := by rw [cell_of_row w2 w.heap.size 1 _ _ _ hbox2]; rfl
  have bc2 : w2.cell? ⟨w.heap.size, 2, none⟩ = some (.int .u32 s.c) := by rw [cell_of_row w2 w.heap.size 2 _ _ _ hbox2]; rfl
  have bc3 : w2.cell? ⟨w.heap.size, 3, none⟩ = some (.int .u32 s.d) := by rw [cell_of_row w2 w.heap.size 3 _ _ _ hbox2]; rfl
  have bc4 : w2.cell? ⟨w.heap.size, 4, none⟩ = some (.int .u32 s.e) := by rw [cell_of_row w2 w.heap.size 4 _ _ _ hbox2]; rfl
  have bc5 : w2.cell? ⟨w.heap.size, 5, none⟩ = some (.int .u32 s.f) := by rw [cell_of_row w2 w.heap.size 5 _ _ _ hbox2]; rfl
  have bc6 : w2.cell? ⟨w.heap.size, 6, none⟩ = some (.int .u32 s.g) := by rw [cell_of_row w2 w.heap.size 6 _ _ _ hbox2]; rfl
  have bc7 : w2.cell? ⟨w.heap.size, 7, none⟩ = some (.int .u32 s.h) := by rw [cell_of_row w2 w.heap.size 7 _ _ _ hbox2]; rfl
  have HR2 := hide hR2
  have HBOX := hide hbox2
  have HRES := hide hres2
  have HB2 := hide hB2
  have HGR := hide hG2.range
  have HKL := hide (rowF_length K)
  have hz2 : w1.heap.size + 1 ≤ w2.heap.size := by have := hR2.lt; omega
  have HW2 := hide hW2
  clear hW2 HSC q1 q2 hR2 hbox1 hres1 hbox2 hres2 hB2 hG2 hz1
  go_wp2_with (first | (refine wpList_store_mid rfl 92 (.tmp 5) (.tmp 11) rfl w1.heap.size 0 cs.toArray (by simp [Act.eval, Act.put]) (by simp [Act.eval, Act.put]) (by simpa [unhide HLN] using new_there w1 #[Value.int .u32 0, Value.int .u32 0, Value.int .u32 0, Value.int .u32 0, Value.int .u32 0, Value.int .u32 0, Value.int .u32 0, Value.int .u32 0, Value.int .u32 0, Value.int .u32 0, Value.int .u32 0, Value.int .u32 0, Value.int .u32 0, Value.int .u32 0, Value.int .u32 0, Value.int .u32 0, Value.int .u32 0, Value.int .u32 0, Value.int .u32 0, Value.int .u32 0, Value.int .u32 0, Value.int .u32 0, Value.int .u32 0, Value.int .u32 0, Value.int .u32 0, Value.int .u32 0, Value.int .u32 0, Value.int .u32 0, Value.int .u32 0, Value.int .u32 0, Value.int .u32 0, Value.int .u32 0, Value.int .u32 0, Value.int .u32 0, Value.int .u32 0, Value.int .u32 0, Value.int .u32 0, Value.int .u32 0, Value.int .u32 0, Value.int .u32 0, Value.int .u32 0, Value.int .u32 0, Value.int .u32 0, Value.int .u32 0, Value.int .u32 0, Value.int .u32 0, Value.int .u32 0, Value.int .u32 0, Value.int .u32 0, Value.int .u32 0, Value.int .u32 0, Value.int .u32 0, Value.int .u32 0, Value.int .u32 0, Value.int .u32 0, Value.int .u32 0, Value.int .u32 0, Value.int .u32 0, Value.int .u32 0, Value.int .u32 0, Value.int .u32 0, Value.int .u32 0, Value.int .u32 0, Value.int .u32 0] rfl) (by simpa [unhide HLN] using info44) (unhide HON) ?_; rw [← unhide HW2]) | (refine wpList_load_mid rfl 92 (.global 2) rfl 2 0 rfl (rowF K) _ (range_alloc (unhide HGR) _) Tryd.underlying92 rfl (by rw [unhide HKL]; exact info44) ?_))
  go_loopw [14] (fun v14 wr => ∃ k : Nat, k ≤ 64 ∧ v14 = .int .i64 k ∧ Hid (Inv w w1 w2 s (s.rounds K (wordF b) k) (wordF b) wr)) (fun v14 _ => 64 - (intOf v14).toNat)
  case atStart =>
    refine ⟨0, by omega, rfl, hide ?_⟩
    exact inv_start (unhide HBOX) (unhide HRES) (unhide HR2) (unhide HB2)
  case round =>
    clear HW2 HLN HON HCS HBOX HRES HR2 HB2 HGR HKL bc0 bc1 bc2 bc3 bc4 bc5 bc6 bc7
    obtain ⟨k, hk, rfl, HI⟩ := hrel
    by_cases hlt : k < 64
    · have hix := fun u => idx64 K k hlt u
      obtain ⟨t, ht⟩ : ∃ t, t = s.rounds K (wordF b) k := ⟨_, rfl⟩
      have htok : t.ok := by rw [ht]; exact St.rounds_ok s K (wordF b) hok k
      obtain ⟨x, hx⟩ : ∃ x, x = wordF b k := ⟨_, rfl⟩
      obtain ⟨y, hy⟩ : ∃ y : Nat, y = (K k + x) % 4294967296 := ⟨_, rfl⟩
      have hyl : y < 4294967296 := by rw [hy]; exact Nat.mod_lt _ (by decide)
      have hadd : IntKind.u32.wrap ((K k : Int) + (x : Int)) = (y : Int) := by rw [IntKind.wrap_u32', hy]; omega
      have hstep : t.round y = s.rounds K (wordF b) (k + 1) := by rw [hy, hx, ht]; rfl
      have hk64 : (k : Int) < 64 := by omega
      rw [← ht] at HI
      have hwc : wr.cell? ⟨w1.heap.size, k, none⟩ = some (.int .u32 x) := by rw [hx]; exact (unhide HI).row.cell k hlt
      have tc0 : wr.cell? ⟨w2.heap.size, 0, none⟩ = some (.int .u32 t.a) := by rw [cell_of_row wr w2.heap.size 0 _ _ _ (unhide HI).cur]; rfl
      have tc1 : wr.cell? ⟨w2.heap.size, 1, none⟩ = some (.int .u32 t.b) := by rw [cell_of_row wr w2.heap.size 1 _ _ _ (unhide HI).cur]; rfl
      have tc2 : wr.cell? ⟨w2.heap.size, 2, none⟩ = some (.int .u32 t.c) := by rw [cell_of_row wr w2.heap.size 2 _ _ _ (unhide HI).cur]; rfl
      have tc3 : wr.cell? ⟨w2.heap.size, 3, none⟩ = some (.int .u32 t.d) := by rw [cell_of_row wr w2.heap.size 3 _ _ _ (unhide HI).cur]; rfl
      have tc4 : wr.cell? ⟨w2.heap.size, 4, none⟩ = some (.int .u32 t.e) := by rw [cell_of_row wr w2.heap.size 4 _ _ _ (unhide HI).cur]; rfl
      have tc5 : wr.cell? ⟨w2.heap.size, 5, none⟩ = some (.int .u32 t.f) := by rw [cell_of_row wr w2.heap.size 5 _ _ _ (unhide HI).cur]; rfl
      have tc6 : wr.cell? ⟨w2.heap.size, 6, none⟩ = some (.int .u32 t.g) := by rw [cell_of_row wr w2.heap.size 6 _ _ _ (unhide HI).cur]; rfl
      have tc7 : wr.cell? ⟨w2.heap.size, 7, none⟩ = some (.int .u32 t.h) := by rw [cell_of_row wr w2.heap.size 7 _ _ _ (unhide HI).cur]; rfl
      have HRD := hide (fun u => round_st t y u htok hyl)
      have HST := hide hstep
      clear ht hx hy hstep
      go_wp2
      go_region_with (first | (go_at_call 54; refine (unhide HRD _).mono ?_; rintro en u ⟨rfl, hbu⟩; have hI2 := inv_later (unhide HI) hbu; have uc0 : u.cell? ⟨w2.heap.size, 0, none⟩ = some (.int .u32 t.a) := (by rw [cell_of_row u w2.heap.size 0 _ _ _ hI2.cur]; rfl); have uc1 : u.cell? ⟨w2.heap.size, 1, none⟩ = some (.int .u32 t.b) := (by rw [cell_of_row u w2.heap.size 1 _ _ _ hI2.cur]; rfl); have uc2 : u.cell? ⟨w2.heap.size, 2, none⟩ = some (.int .u32 t.c) := (by rw [cell_of_row u w2.heap.size 2 _ _ _ hI2.cur]; rfl); have uc3 : u.cell? ⟨w2.heap.size, 3, none⟩ = some (.int .u32 t.d) := (by rw [cell_of_row u w2.heap.size 3 _ _ _ hI2.cur]; rfl); have uc4 : u.cell? ⟨w2.heap.size, 4, none⟩ = some (.int .u32 t.e) := (by rw [cell_of_row u w2.heap.size 4 _ _ _ hI2.cur]; rfl); have uc5 : u.cell? ⟨w2.heap.size, 5, none⟩ = some (.int .u32 t.f) := (by rw [cell_of_row u w2.heap.size 5 _ _ _ hI2.cur]; rfl); have uc6 : u.cell? ⟨w2.heap.size, 6, none⟩ = some (.int .u32 t.g) := (by rw [cell_of_row u w2.heap.size 6 _ _ _ hI2.cur]; rfl); have uc7 : u.cell? ⟨w2.heap.size, 7, none⟩ = some (.int .u32 t.h) := (by rw [cell_of_row u w2.heap.size 7 _ _ _ hI2.cur]; rfl); have uf := (fun j => frozen_of_row u w2.heap.size j _ _ hI2.cur); have HI2 := hide hI2; clear hbu hI2))
      all_goals go_wp2
      all_goals exact ⟨⟨k + 1, by omega, by go_num, hide (by rw [← unhide HST]; exact inv_next (t.round y) (unhide HI2) hz1' hz2)⟩, by simp [intOf]; omega⟩
    · have e : k = 64 := by omega
      obtain ⟨t, ht⟩ : ∃ t, t = s.rounds K (wordF b) 64 := ⟨_, rfl⟩
      rw [e, ← ht] at HI
      have tc0 : wr.cell? ⟨w2.heap.size, 0, none⟩ = some (.int .u32 t.a) := by rw [cell_of_row wr w2.heap.size 0 _ _ _ (unhide HI).cur]; rfl
      have tc1 : wr.cell? ⟨w2.heap.size, 1, none⟩ = some (.int .u32 t.b) := by rw [cell_of_row wr w2.heap.size 1 _ _ _ (unhide HI).cur]; rfl
      have tc2 : wr.cell? ⟨w2.heap.size, 2, none⟩ = some (.int .u32 t.c) := by rw [cell_of_row wr w2.heap.size 2 _ _ _ (unhide HI).cur]; rfl
      have tc3 : wr.cell? ⟨w2.heap.size, 3, none⟩ = some (.int .u32 t.d) := by rw [cell_of_row wr w2.heap.size 3 _ _ _ (unhide HI).cur]; rfl
      have tc4 : wr.cell? ⟨w2.heap.size, 4, none⟩ = some (.int .u32 t.e) := by rw [cell_of_row wr w2.heap.size 4 _ _ _ (unhide HI).cur]; rfl
      have tc5 : wr.cell? ⟨w2.heap.size, 5, none⟩ = some (.int .u32 t.f) := by rw [cell_of_row wr w2.heap.size 5 _ _ _ (unhide HI).cur]; rfl
      have tc6 : wr.cell? ⟨w2.heap.size, 6, none⟩ = some (.int .u32 t.g) := by rw [cell_of_row wr w2.heap.size 6 _ _ _ (unhide HI).cur]; rfl
      have tc7 : wr.cell? ⟨w2.heap.size, 7, none⟩ = some (.int .u32 t.h) := by rw [cell_of_row wr w2.heap.size 7 _ _ _ (unhide HI).cur]; rfl
      have bc0 : wr.cell? ⟨w.heap.size, 0, none⟩ = some (.int .u32 s.a) := by rw [cell_of_row wr w.heap.size 0 _ _ _ (unhide HI).box]; rfl
      have bc1 : wr.cell? ⟨w.heap.size, 1, none⟩ = some (.int .u32 s.b) := by rw [cell_of_row wr w.heap.size 1 _ _ _ (unhide HI).box]; rfl
      have bc2 : wr.cell? ⟨w.heap.size, 2, none⟩ = some (.int .u32 s.c) := by rw [cell_of_row wr w.heap.size 2 _ _ _ (unhide HI).box]; rfl
      have bc3 : wr.cell? ⟨w.heap.size, 3, none⟩ = some (.int .u32 s.d) := by rw [cell_of_row wr w.heap.size 3 _ _ _ (unhide HI).box]; rfl
      have bc4 : wr.cell? ⟨w.heap.size, 4, none⟩ = some (.int .u32 s.e) := by rw [cell_of_row wr w.heap.size 4 _ _ _ (unhide HI).box]; rfl
      have bc5 : wr.cell? ⟨w.heap.size, 5, none⟩ = some (.int .u32 s.f) := by rw [cell_of_row wr w.heap.size 5 _ _ _ (unhide HI).box]; rfl
      have bc6 : wr.cell? ⟨w.heap.size, 6, none⟩ = some (.int .u32 s.g) := by rw [cell_of_row wr w.heap.size 6 _ _ _ (unhide HI).box]; rfl
      have bc7 : wr.cell? ⟨w.heap.size, 7, none⟩ = some (.int .u32 s.h) := by rw [cell_of_row wr w.heap.size 7 _ _ _ (unhide HI).box]; rfl
      have rc0 : wr.cell? ⟨w.heap.size + 1, 0, none⟩ = some (.int .u32 0) := by rw [cell_of_row wr (w.heap.size + 1) 0 _ _ _ (unhide HI).res]; rfl
      have rc1 : wr.cell? ⟨w.heap.size + 1, 1, none⟩ = some (.int .u32 0) := by rw [cell_of_row wr (w.heap.size + 1) 1 _ _ _ (unhide HI).res]; rfl
      have rc2 : wr.cell? ⟨w.heap.size + 1, 2, none⟩ = some (.int .u32 0) := by rw [cell_of_row wr (w.heap.size + 1) 2 _ _ _ (unhide HI).res]; rfl
      have rc3 : wr.cell? ⟨w.heap.size + 1, 3, none⟩ = some (.int .u32 0) := by rw [cell_of_row wr (w.heap.size + 1) 3 _ _ _ (unhide HI).res]; rfl
      have rc4 : wr.cell? ⟨w.heap.size + 1, 4, none⟩ = some (.int .u32 0) := by rw [cell_of_row wr (w.heap.size + 1) 4 _ _ _ (unhide HI).res]; rfl
      have rc5 : wr.cell? ⟨w.heap.size + 1, 5, none⟩ = some (.int .u32 0) := by rw [cell_of_row wr (w.heap.size + 1) 5 _ _ _ (unhide HI).res]; rfl
      have rc6 : wr.cell? ⟨w.heap.size + 1, 6, none⟩ = some (.int .u32 0) := by rw [cell_of_row wr (w.heap.size + 1) 6 _ _ _ (unhide HI).res]; rfl
      have rc7 : wr.cell? ⟨w.heap.size + 1, 7, none⟩ = some (.int .u32 0) := by rw [cell_of_row wr (w.heap.size + 1) 7 _ _ _ (unhide HI).res]; rfl
      have HFIN : Hid (s.mix K b = (plusR s t)) := hide (by unfold St.mix; rw [← ht]; rfl)
      have e64 : ¬ (k : Int) < 64 := by omega
      have HI2 : Hid (Inv2 w w2 s t 0 wr) := hide ⟨by rw [mixRow_zero]; exact (unhide HI).box, (unhide HI).res, (unhide HI).cur, (unhide HI).below⟩
      clear e ht hk hlt HI tc0 tc1 tc2 tc3 tc4 tc5 tc6 tc7 bc0 bc1 bc2 bc3 bc4 bc5 bc6 bc7 rc0 rc1 rc2 rc3 rc4 rc5 rc6 rc7
      go_wp2
      clear e64
      go_loopw [26] (fun v26 wq => ∃ q : Nat, q ≤ 8 ∧ v26 = .int .i64 q ∧ Hid (Inv2 w w2 s t q wq)) (fun v26 _ => 8 - (intOf v26).toNat)
      case atStart => exact ⟨0, by omega, rfl, HI2⟩
      case round =>
        obtain ⟨q, hq, rfl, HQ⟩ := hrel
        rename World => wq
        by_cases hql : q < 8
        · obtain ⟨x, hx⟩ : ∃ x : Nat, x = at8 s q := ⟨_, rfl⟩
          obtain ⟨y, hy⟩ : ∃ y : Nat, y = at8 t q := ⟨_, rfl⟩
          obtain ⟨z, hz⟩ : ∃ z : Nat, z = (x + y) % 4294967296 := ⟨_, rfl⟩
          have b0 : wq.cell? ⟨w.heap.size, q, none⟩ = some (.int .u32 x) := by rw [hx]; exact (unhide HQ).boxc q hql rfl
          have t0 : wq.cell? ⟨w2.heap.size, q, none⟩ = some (.int .u32 y) := by rw [hy]; exact (unhide HQ).curc q hql
          have bf := frozen_of_row wq w.heap.size q _ _ (unhide HQ).box
          have hadd : IntKind.u32.wrap ((x : Int) + (y : Int)) = (z : Int) := by rw [IntKind.wrap_u32', hz]; omega
          have hq8 : (q : Int) < 8 := by omega
          have HN : Hid (Inv2 w w2 s t (q + 1) (wq.setCell ⟨w.heap.size, q, none⟩ (.int .u32 z)).drew) := hide (Inv2.next (w1 := w1) q (unhide HQ) hql z (by rw [hz, hx, hy]) hz2 hz1')
          clear hx hy hz HQ
          go_wp2
          go_region
          all_goals go_wp2
          all_goals exact ⟨⟨q + 1, by omega, by go_num, HN⟩, by simp [intOf]; omega⟩
        · have e8 : q = 8 := by omega
          subst e8
          obtain ⟨p, hp⟩ : ∃ p : St, p = plusR s t := ⟨_, rfl⟩
          have hbx : wq.heap[w.heap.size]? = some (.cells (st8 p) 57 (0, 0)) := by rw [hp, ← mixRow_all]; exact (unhide HQ).box
          have bx0 : wq.cell? ⟨w.heap.size, 0, none⟩ = some (.int .u32 p.a) := by rw [cell_of_row wq w.heap.size 0 _ _ _ hbx]; rfl
          have bx1 : wq.cell? ⟨w.heap.size, 1, none⟩ = some (.int .u32 p.b) := by rw [cell_of_row wq w.heap.size 1 _ _ _ hbx]; rfl
          have bx2 : wq.cell? ⟨w.heap.size, 2, none⟩ = some (.int .u32 p.c) := by rw [cell_of_row wq w.heap.size 2 _ _ _ hbx]; rfl
          have bx3 : wq.cell? ⟨w.heap.size, 3, none⟩ = some (.int .u32 p.d) := by rw [cell_of_row wq w.heap.size 3 _ _ _ hbx]; rfl
          have bx4 : wq.cell? ⟨w.heap.size, 4, none⟩ = some (.int .u32 p.e) := by rw [cell_of_row wq w.heap.size 4 _ _ _ hbx]; rfl
          have bx5 : wq.cell? ⟨w.heap.size, 5, none⟩ = some (.int .u32 p.f) := by rw [cell_of_row wq w.heap.size 5 _ _ _ hbx]; rfl
          have bx6 : wq.cell? ⟨w.heap.size, 6, none⟩ = some (.int .u32 p.g) := by rw [cell_of_row wq w.heap.size 6 _ _ _ hbx]; rfl
          have bx7 : wq.cell? ⟨w.heap.size, 7, none⟩ = some (.int .u32 p.h) := by rw [cell_of_row wq w.heap.size 7 _ _ _ hbx]; rfl
          have rx0 : wq.cell? ⟨w.heap.size + 1, 0, none⟩ = some (.int .u32 0) := by rw [cell_of_row wq (w.heap.size + 1) 0 _ _ _ (unhide HQ).res]; rfl
          have rx1 : wq.cell? ⟨w.heap.size + 1, 1, none⟩ = some (.int .u32 0) := by rw [cell_of_row wq (w.heap.size + 1) 1 _ _ _ (unhide HQ).res]; rfl
          have rx2 : wq.cell? ⟨w.heap.size + 1, 2, none⟩ = some (.int .u32 0) := by rw [cell_of_row wq (w.heap.size + 1) 2 _ _ _ (unhide HQ).res]; rfl
          have rx3 : wq.cell? ⟨w.heap.size + 1, 3, none⟩ = some (.int .u32 0) := by rw [cell_of_row wq (w.heap.size + 1) 3 _ _ _ (unhide HQ).res]; rfl
          have rx4 : wq.cell? ⟨w.heap.size + 1, 4, none⟩ = some (.int .u32 0) := by rw [cell_of_row wq (w.heap.size + 1) 4 _ _ _ (unhide HQ).res]; rfl
          have rx5 : wq.cell? ⟨w.heap.size + 1, 5, none⟩ = some (.int .u32 0) := by rw [cell_of_row wq (w.heap.size + 1) 5 _ _ _ (unhide HQ).res]; rfl
          have rx6 : wq.cell? ⟨w.heap.size + 1, 6, none⟩ = some (.int .u32 0) := by rw [cell_of_row wq (w.heap.size + 1) 6 _ _ _ (unhide HQ).res]; rfl
          have rx7 : wq.cell? ⟨w.heap.size + 1, 7, none⟩ = some (.int .u32 0) := by rw [cell_of_row wq (w.heap.size + 1) 7 _ _ _ (unhide HQ).res]; rfl
          have rf := fun j => frozen_of_row wq (w.heap.size + 1) j _ _ (unhide HQ).res
          have HBQ := hide (unhide HQ).below
          have HPP : Hid (st8 (s.mix K b) = st8 p) := hide (by rw [unhide HFIN, hp])
          clear hp hbx HQ HFIN
          go_wp2
          refine bodyPost_ret (v := .agg (st8 p)) (by simp [results, Tryd.results42, go_sem, st8, rx0, rx1, rx2, rx3, rx4, rx5, rx6, rx7]) rfl ⟨by rw [unhide HPP], ?_⟩
          iterate 8 refine Below.setCell ?_ (by simp) _
          exact unhide HBQ
end Go.Proofs.YtoifihhmneldeaaDoor.Hs

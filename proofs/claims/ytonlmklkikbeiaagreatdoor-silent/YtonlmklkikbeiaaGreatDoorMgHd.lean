import Derived.Test.YtonlmklkikbeiaaGreatDoorMgHc
import Derived.Deep.MidRow
namespace Go.Proofs.YtonlmklkikbeiaaGreatDoor.Hs
open Go.ChangeShapes Go.WideShapes Go.ChangeAt Go.RowKit Hb Ht Hm
set_option linter.unusedVariables false
set_option linter.unusedSimpArgs false

/-- a state's words by their place -/
def at8 (s : St) : Nat → Nat
  | 0 => s.a | 1 => s.b | 2 => s.c | 3 => s.d | 4 => s.e | 5 => s.f | 6 => s.g | _ => s.h
def plusR (s t : St) : St := s.plus t
def mixRow (s t : St) (k : Nat) : Array Value := ((List.range 8).map fun j => Value.int .u32 ((if j < k then (at8 s j + at8 t j) % 4294967296 else at8 s j : Nat) : Int)).toArray
theorem mixRow_zero (s t : St) : mixRow s t 0 = st8 s := by simp [mixRow, st8, at8, List.range, List.range.loop]
theorem mixRow_all (s t : St) : mixRow s t 8 = st8 (plusR s t) := by simp [mixRow, st8, at8, List.range, List.range.loop, plusR, St.plus]
theorem mixRow_get (s t : St) (k q : Nat) (hq : q < 8) : (mixRow s t k)[q]? = some (.int .u32 ((if q < k then (at8 s q + at8 t q) % 4294967296 else at8 s q : Nat) : Int)) := by simp [mixRow, hq]
theorem mixRow_set (s t : St) (k : Nat) (hk : k < 8) : (mixRow s t k).setIfInBounds k (.int .u32 (((at8 s k + at8 t k) % 4294967296 : Nat) : Int)) = mixRow s t (k + 1) := by
  apply Array.ext'
  simp only [mixRow, Array.toList_setIfInBounds]
  apply List.ext_getElem?
  intro i
  rw [List.getElem?_set]
  by_cases hi : i < 8
  · by_cases e : k = i
    · subst e; simp [hk]
    · simp only [if_neg e, List.getElem?_map, List.getElem?_range hi, Option.map_some]
      have : (i < k) = (i < k + 1) := by simp only [eq_iff_iff]; omega
      simp only [this]
  · by_cases e : k = i
    · omega
    · simp [e, hi]
structure Inv2 (w w2 : World) (s t : St) (k : Nat) (wq : World) : Prop where
  box : wq.heap[w.heap.size]? = some (.cells (mixRow s t k) 111 (0, 0))
  res : wq.heap[w.heap.size + 1]? = some (.cells #[.int .u32 0, .int .u32 0, .int .u32 0, .int .u32 0, .int .u32 0, .int .u32 0, .int .u32 0, .int .u32 0] 111 (0, 0))
  cur : wq.heap[w2.heap.size]? = some (.cells (st8 t) 111 (0, 0))
  below : Below w.heap.size w wq
theorem Inv2.boxc {w w2 wq : World} {s t : St} {k : Nat} (h : Inv2 w w2 s t k wq) (q : Nat) (hk : k < 8) (e : q = k) : wq.cell? ⟨w.heap.size, q, none⟩ = some (.int .u32 (at8 s q)) := by
  subst e
  rw [cell_of_row wq w.heap.size q _ _ _ h.box, mixRow_get s t q q hk, if_neg (by omega)]
theorem Inv2.curc {w w2 wq : World} {s t : St} {k : Nat} (h : Inv2 w w2 s t k wq) (q : Nat) (hq : q < 8) : wq.cell? ⟨w2.heap.size, q, none⟩ = some (.int .u32 (at8 t q)) := by
  rw [cell_of_row wq w2.heap.size q _ _ _ h.cur]
  match q, hq with
  | 0, _ => rfl
  | 1, _ => rfl
  | 2, _ => rfl
  | 3, _ => rfl
  | 4, _ => rfl
  | 5, _ => rfl
  | 6, _ => rfl
  | 7, _ => rfl
theorem Inv2.next {w w1 w2 wq : World} {s t : St} (q : Nat) (h : Inv2 w w2 s t q wq) (hq : q < 8) (z : Nat) (hz : z = (at8 s q + at8 t q) % 4294967296) (h2 : w1.heap.size + 1 ≤ w2.heap.size) (h1 : w.heap.size + 2 ≤ w1.heap.size) : Inv2 w w2 s t (q + 1) (wq.setCell ⟨w.heap.size, q, none⟩ (.int .u32 z)).drew := by
  refine ⟨?_, ?_, ?_, (h.below.setCell (Nat.le_refl _) _).drew⟩
  · show (wq.setCell ⟨w.heap.size, q, none⟩ (.int .u32 z)).heap[w.heap.size]? = _
    rw [heap_setCell_same _ w.heap.size q _ _ _ h.box, hz, mixRow_set s t q hq]
  · show (wq.setCell ⟨w.heap.size, q, none⟩ (.int .u32 z)).heap[w.heap.size + 1]? = _
    rw [Below.heap_setCell _ _ _ _ (by simp)]; exact h.res
  · show (wq.setCell ⟨w.heap.size, q, none⟩ (.int .u32 z)).heap[w2.heap.size]? = _
    rw [Below.heap_setCell _ _ _ _ (by simp; omega)]; exact h.cur

set_option maxHeartbeats 2500000 in
set_option maxRecDepth 10000 in
theorem mixed_any (blk : ByteArray) (b : List UInt8) (s : St) (K : Nat → Nat) (w : World) (hs : blk.size = 64) (hb : blk.data.toList = b) (hok : s.ok) (hG : RG w 2 K) (hK : ∀ j, K j < 4294967296) :
    Calls Tryz.prog 96 #[.agg #[.int .u32 s.a, .int .u32 s.b, .int .u32 s.c, .int .u32 s.d, .int .u32 s.e, .int .u32 s.f, .int .u32 s.g, .int .u32 s.h], .string blk] w fun en w' => en = .returned (.agg (st8 (s.mix K b))) ∧ Below w.heap.size w w' := by
  have HSC := hide (fun u => sched_any blk b u hs hb)
  have h0 := hG.lt
  obtain ⟨cs, hcs⟩ : ∃ cs, cs = rowF (wordF b) := ⟨_, rfl⟩
  have hl64 := rowF_length (wordF b)
  have hone := one_row (wordF b)
  rw [← hcs] at HSC hl64 hone
  have HG := hide hG
  have HLN := hide hl64
  have HON := hide hone
  have HCS := hide hcs
  have HK := hide hK
  clear hs hb hG hcs hl64 hone hK
  go_enter Tryz.func96, Tryz.ntmps96
  go_wp2_with fail
  refine (unhide HSC _).mono ?_
  rintro en w1 ⟨rfl, q1⟩
  obtain ⟨w2, hW2⟩ : ∃ w2, w2 = (w1.alloc (.cells #[Value.int .u32 0, Value.int .u32 0, Value.int .u32 0, Value.int .u32 0, Value.int .u32 0, Value.int .u32 0, Value.int .u32 0, Value.int .u32 0, Value.int .u32 0, Value.int .u32 0, Value.int .u32 0, Value.int .u32 0, Value.int .u32 0, Value.int .u32 0, Value.int .u32 0, Value.int .u32 0, Value.int .u32 0, Value.int .u32 0, Value.int .u32 0, Value.int .u32 0, Value.int .u32 0, Value.int .u32 0, Value.int .u32 0, Value.int .u32 0, Value.int .u32 0, Value.int .u32 0, Value.int .u32 0, Value.int .u32 0, Value.int .u32 0, Value.int .u32 0, Value.int .u32 0, Value.int .u32 0, Value.int .u32 0, Value.int .u32 0, Value.int .u32 0, Value.int .u32 0, Value.int .u32 0, Value.int .u32 0, Value.int .u32 0, Value.int .u32 0, Value.int .u32 0, Value.int .u32 0, Value.int .u32 0, Value.int .u32 0, Value.int .u32 0, Value.int .u32 0, Value.int .u32 0, Value.int .u32 0, Value.int .u32 0, Value.int .u32 0, Value.int .u32 0, Value.int .u32 0, Value.int .u32 0, Value.int .u32 0, Value.int .u32 0, Value.int .u32 0, Value.int .u32 0, Value.int .u32 0, Value.int .u32 0, Value.int .u32 0, Value.int .u32 0, Value.int .u32 0, Value.int .u32 0, Value.int .u32 0] 174)).setCells w1.heap.size 0 cs.toArray.toList := ⟨_, rfl⟩
  have hz1 := q1.size
  have hz1' : w.heap.size + 2 ≤ w1.heap.size := by simpa using hz1
  have hR2 : R w2 w1.heap.size (wordF b) := by rw [hW2, List.toList_toArray, unhide HCS]; exact new_row w1 _ _ rfl
  have q2 : Below w1.heap.size w1 w2 := by rw [hW2]; exact below_setCells (Nat.le_refl _) _ _ ((Below.refl _ _).alloc (Nat.le_refl _) _)
  have hbox1 : w1.heap[w.heap.size]? = some (.cells #[.int .u32 s.a, .int .u32 s.b, .int .u32 s.c, .int .u32 s.d, .int .u32 s.e, .int .u32 s.f, .int .u32 s.g, .int .u32 s.h] 111 (0, 0)) := by
    rw [q1.block _ (by simp; omega), Below.heap_alloc _ _ _ (by simp)]; exact heap_alloc_new w _
  have hres1 : w1.heap[w.heap.size + 1]? = some (.cells #[.int .u32 0, .int .u32 0, .int .u32 0, .int .u32 0, .int .u32 0, .int .u32 0, .int .u32 0, .int .u32 0] 111 (0, 0)) := by
    rw [q1.block _ (by simp)]
    have q := heap_alloc_new (w.alloc (.cells #[.int .u32 s.a, .int .u32 s.b, .int .u32 s.c, .int .u32 s.d, .int .u32 s.e, .int .u32 s.f, .int .u32 s.g, .int .u32 s.h] 111)) (.cells #[.int .u32 0, .int .u32 0, .int .u32 0, .int .u32 0, .int .u32 0, .int .u32 0, .int .u32 0, .int .u32 0] 111)
    rw [show (w.alloc (.cells #[.int .u32 s.a, .int .u32 s.b, .int .u32 s.c, .int .u32 s.d, .int .u32 s.e, .int .u32 s.f, .int .u32 s.g, .int .u32 s.h] 111)).heap.size = w.heap.size + 1 by simp] at q
    exact q
  have hbox2 := (q2.block _ (lt_of_block hbox1)).trans hbox1
  have hres2 := (q2.block _ (lt_of_block hres1)).trans hres1
  have hB2 : Below w.heap.size w w2 := ((((Below.refl _ w).alloc (Nat.le_refl _) _).alloc (by simp) _).trans (q1.mono (by simp; omega))).trans (q2.mono (by omega))
  have hG2 : RG w2 2 K := (unhide HG).below hB2 h0
  have bc0 : w2.cell? ⟨w.heap.size, 0, none⟩ = some (.int .u32 s.a) := by rw [cell_of_row w2 w.heap.size 0 _ _ _ hbox2]; rfl
  have bc1 : w2.cell? ⟨w.heap.size, 1, none⟩ = some (.int .u32 s.b) := by rw [cell_of_row w2 w.heap.size 1 _ _ _ hbox2]; rfl
  have bc2 : w2.cell? ⟨w.heap.size, 2, none⟩ = some (.int .u32 s.c) := by rw [cell_of_row w2 w.heap.size 2 _ _ _ hbox2]; rfl
  have bc3 : w2.cell? ⟨w.heap.size, 3, none⟩ = some (.int .u32 s.d) := by rw [cell_of_row w2 w.heap.size 3 _ _ _ hbox2]; rfl
  have bc4 : w2.cell? ⟨w.heap.size, 4, none⟩ = some (.int .u32 s.e) := by rw [cell_of_row w2 w.heap.size 4 _ _ _ hbox2]; rfl
  have bc5 : w2.cell? ⟨w.heap.size, 5, none⟩ = some (.int .u32 s.f) := by rw [cell_of_row w2 w.heap.size 5 _ _ _ hbox2]; rfl
  have bc6 : w2.cell? ⟨w.heap.size, 6, none⟩ = some (.int .u32 s.g) := by rw [cell_of_row w2 w.heap.size 6 _ _ _ hbox2]; rfl
  have bc7 : w2.cell? ⟨w.heap.size, 7, none⟩ = some (.int .u32 s.h) := by rw [cell_of_row w2 w.heap.size 7 _ _ _ hbox2]; rfl
  have HR2 := hide hR2
  have HBOX := hide hbox2
  have HRES := hide hres2
  have HB2 := hide hB2
  have HGR := hide hG2.range
  have HKL := hide (rowF_length K)
  have hz2 : w1.heap.size + 1 ≤ w2.heap.size := by have := hR2.lt; omega
  have HW2 := hide hW2
  clear hW2 HSC q1 q2 hR2 hbox1 hres1 hbox2 hres2 hB2 hG2 hz1
  go_wp2_with (first | (refine wpList_store_mid rfl 174 (.tmp 5) (.tmp 11) rfl w1.heap.size 0 cs.toArray (by simp [Act.eval, Act.put]) (by simp [Act.eval, Act.put]) (by simpa [unhide HLN] using new_there w1 #[Value.int .u32 0, Value.int .u32 0, Value.int .u32 0, Value.int .u32 0, Value.int .u32 0, Value.int .u32 0, Value.int .u32 0, Value.int .u32 0, Value.int .u32 0, Value.int .u32 0, Value.int .u32 0, Value.int .u32 0, Value.int .u32 0, Value.int .u32 0, Value.int .u32 0, Value.int .u32 0, Value.int .u32 0, Value.int .u32 0, Value.int .u32 0, Value.int .u32 0, Value.int .u32 0, Value.int .u32 0, Value.int .u32 0, Value.int .u32 0, Value.int .u32 0, Value.int .u32 0, Value.int .u32 0, Value.int .u32 0, Value.int .u32 0, Value.int .u32 0, Value.int .u32 0, Value.int .u32 0, Value.int .u32 0, Value.int .u32 0, Value.int .u32 0, Value.int .u32 0, Value.int .u32 0, Value.int .u32 0, Value.int .u32 0, Value.int .u32 0, Value.int .u32 0, Value.int .u32 0, Value.int .u32 0, Value.int .u32 0, Value.int .u32 0, Value.int .u32 0, Value.int .u32 0, Value.int .u32 0, Value.int .u32 0, Value.int .u32 0, Value.int .u32 0, Value.int .u32 0, Value.int .u32 0, Value.int .u32 0, Value.int .u32 0, Value.int .u32 0, Value.int .u32 0, Value.int .u32 0, Value.int .u32 0, Value.int .u32 0, Value.int .u32 0, Value.int .u32 0, Value.int .u32 0, Value.int .u32 0] rfl) (by simpa [unhide HLN] using info44) (unhide HON) ?_; rw [← unhide HW2]) | (refine wpList_load_mid rfl 174 (.global 2) rfl 2 0 rfl (rowF K) _ (range_alloc (unhide HGR) _) Tryz.underlying174 rfl (by rw [unhide HKL]; exact info44) ?_))
  go_loopw [14] (fun v14 wr => ∃ k : Nat, k ≤ 64 ∧ v14 = .int .i64 k ∧ Hid (Inv w w1 w2 s (s.rounds K (wordF b) k) (wordF b) wr)) (fun v14 _ => 64 - (intOf v14).toNat)
  case atStart =>
    refine ⟨0, by omega, rfl, hide ?_⟩
    exact inv_start (unhide HBOX) (unhide HRES) (unhide HR2) (unhide HB2)
  case round =>
    clear HW2 HLN HON HCS HBOX HRES HR2 HB2 HGR HKL bc0 bc1 bc2 bc3 bc4 bc5 bc6 bc7
    obtain ⟨k, hk, rfl, HI⟩ := hrel
    by_cases hlt : k < 64
    · have hix := fun u => idx64 K k hlt u
      obtain ⟨t, ht⟩ : ∃ t, t = s.rounds K (wordF b) k := ⟨_, rfl⟩
      have htok : t.ok := by rw [ht]; exact St.rounds_ok s K (wordF b) hok k
      obtain ⟨x, hx⟩ : ∃ x, x = wordF b k := ⟨_, rfl⟩
      obtain ⟨y, hy⟩ : ∃ y : Nat, y = (K k + x) % 4294967296 := ⟨_, rfl⟩
      have hyl : y < 4294967296 := by rw [hy]; exact Nat.mod_lt _ (by decide)
      have hadd : IntKind.u32.wrap ((K k : Int) + (x : Int)) = (y : Int) := by rw [IntKind.wrap_u32', hy]; omega
      have hstep : t.round y = s.rounds K (wordF b) (k + 1) := by rw [hy, hx, ht]; rfl
      have hk64 : (k : Int) < 64 := by omega
      rw [← ht] at HI
      have hwc : wr.cell? ⟨w1.heap.size, k, none⟩ = some (.int .u32 x) := by rw [hx]; exact (unhide HI).row.cell k hlt
      have tc0 : wr.cell? ⟨w2.heap.size, 0, none⟩ = some (.int .u32 t.a) := by rw [cell_of_row wr w2.heap.size 0 _ _ _ (unhide HI).cur]; rfl
      have tc1 : wr.cell? ⟨w2.heap.size, 1, none⟩ = some (.int .u32 t.b) := by rw [cell_of_row wr w2.heap.size 1 _ _ _ (unhide HI).cur]; rfl
      have tc2 : wr.cell? ⟨w2.heap.size, 2, none⟩ = some (.int .u32 t.c) := by rw [cell_of_row wr w2.heap.size 2 _ _ _ (unhide HI).cur]; rfl
      have tc3 : wr.cell? ⟨w2.heap.size, 3, none⟩ = some (.int .u32 t.d) := by rw [cell_of_row wr w2.heap.size 3 _ _ _ (unhide HI).cur]; rfl
      have tc4 : wr.cell? ⟨w2.heap.size, 4, none⟩ = some (.int .u32 t.e) := by rw [cell_of_row wr w2.heap.size 4 _ _ _ (unhide HI).cur]; rfl
      have tc5 : wr.cell? ⟨w2.heap.size, 5, none⟩ = some (.int .u32 t.f) := by rw [cell_of_row wr w2.heap.size 5 _ _ _ (unhide HI).cur]; rfl
      have tc6 : wr.cell? ⟨w2.heap.size, 6, none⟩ = some (.int .u32 t.g) := by rw [cell_of_row wr w2.heap.size 6 _ _ _ (unhide HI).cur]; rfl
      have tc7 : wr.cell? ⟨w2.heap.size, 7, none⟩ = some (.int .u32 t.h) := by rw [cell_of_row wr w2.heap.size 7 _ _ _ (unhide HI).cur]; rfl
      have HRD := hide (fun u => round_st t y u htok hyl)
      have HST := hide hstep
      clear ht hx hy hstep
      go_wp2
      go_region_with (first | (go_at_call 124; refine (unhide HRD _).mono ?_; rintro en u ⟨rfl, hbu⟩; have hI2 := inv_later (unhide HI) hbu; have uc0 : u.cell? ⟨w2.heap.size, 0, none⟩ = some (.int .u32 t.a) := (by rw [cell_of_row u w2.heap.size 0 _ _ _ hI2.cur]; rfl); have uc1 : u.cell? ⟨w2.heap.size, 1, none⟩ = some (.int .u32 t.b) := (by rw [cell_of_row u w2.heap.size 1 _ _ _ hI2.cur]; rfl); have uc2 : u.cell? ⟨w2.heap.size, 2, none⟩ = some (.int .u32 t.c) := (by rw [cell_of_row u w2.heap.size 2 _ _ _ hI2.cur]; rfl); have uc3 : u.cell? ⟨w2.heap.size, 3, none⟩ = some (.int .u32 t.d) := (by rw [cell_of_row u w2.heap.size 3 _ _ _ hI2.cur]; rfl); have uc4 : u.cell? ⟨w2.heap.size, 4, none⟩ = some (.int .u32 t.e) := (by rw [cell_of_row u w2.heap.size 4 _ _ _ hI2.cur]; rfl); have uc5 : u.cell? ⟨w2.heap.size, 5, none⟩ = some (.int .u32 t.f) := (by rw [cell_of_row u w2.heap.size 5 _ _ _ hI2.cur]; rfl); have uc6 : u.cell? ⟨w2.heap.size, 6, none⟩ = some (.int .u32 t.g) := (by rw [cell_of_row u w2.heap.size 6 _ _ _ hI2.cur]; rfl); have uc7 : u.cell? ⟨w2.heap.size, 7, none⟩ = some (.int .u32 t.h) := (by rw [cell_of_row u w2.heap.size 7 _ _ _ hI2.cur]; rfl); have uf := (fun j => frozen_of_row u w2.heap.size j _ _ hI2.cur); have HI2 := hide hI2; clear hbu hI2))
      all_goals go_wp2
      all_goals exact ⟨⟨k + 1, by omega, by go_num, hide (by rw [← unhide HST]; exact inv_next (t.round y) (unhide HI2) hz1' hz2)⟩, by simp [intOf]; omega⟩
    · have e : k = 64 := by omega
      obtain ⟨t, ht⟩ : ∃ t, t = s.rounds K (wordF b) 64 := ⟨_, rfl⟩
      rw [e, ← ht] at HI
      have tc0 : wr.cell? ⟨w2.heap.size, 0, none⟩ = some (.int .u32 t.a) := by rw [cell_of_row wr w2.heap.size 0 _ _ _ (unhide HI).cur]; rfl
      have tc1 : wr.cell? ⟨w2.heap.size, 1, none⟩ = some (.int .u32 t.b) := by rw [cell_of_row wr w2.heap.size 1 _ _ _ (unhide HI).cur]; rfl
      have tc2 : wr.cell? ⟨w2.heap.size, 2, none⟩ = some (.int .u32 t.c) := by rw [cell_of_row wr w2.heap.size 2 _ _ _ (unhide HI).cur]; rfl
      have tc3 : wr.cell? ⟨w2.heap.size, 3, none⟩ = some (.int .u32 t.d) := by rw [cell_of_row wr w2.heap.size 3 _ _ _ (unhide HI).cur]; rfl
      have tc4 : wr.cell? ⟨w2.heap.size, 4, none⟩ = some (.int .u32 t.e) := by rw [cell_of_row wr w2.heap.size 4 _ _ _ (unhide HI).cur]; rfl
      have tc5 : wr.cell? ⟨w2.heap.size, 5, none⟩ = some (.int .u32 t.f) := by rw [cell_of_row wr w2.heap.size 5 _ _ _ (unhide HI).cur]; rfl
      have tc6 : wr.cell? ⟨w2.heap.size, 6, none⟩ = some (.int .u32 t.g) := by rw [cell_of_row wr w2.heap.size 6 _ _ _ (unhide HI).cur]; rfl
      have tc7 : wr.cell? ⟨w2.heap.size, 7, none⟩ = some (.int .u32 t.h) := by rw [cell_of_row wr w2.heap.size 7 _ _ _ (unhide HI).cur]; rfl
      have bc0 : wr.cell? ⟨w.heap.size, 0, none⟩ = some (.int .u32 s.a) := by rw [cell_of_row wr w.heap.size 0 _ _ _ (unhide HI).box]; rfl
      have bc1 : wr.cell? ⟨w.heap.size, 1, none⟩ = some (.int .u32 s.b) := by rw [cell_of_row wr w.heap.size 1 _ _ _ (unhide HI).box]; rfl
      have bc2 : wr.cell? ⟨w.heap.size, 2, none⟩ = some (.int .u32 s.c) := by rw [cell_of_row wr w.heap.size 2 _ _ _ (unhide HI).box]; rfl
      have bc3 : wr.cell? ⟨w.heap.size, 3, none⟩ = some (.int .u32 s.d) := by rw [cell_of_row wr w.heap.size 3 _ _ _ (unhide HI).box]; rfl
      have bc4 : wr.cell? ⟨w.heap.size, 4, none⟩ = some (.int .u32 s.e) := by rw [cell_of_row wr w.heap.size 4 _ _ _ (unhide HI).box]; rfl
      have bc5 : wr.cell? ⟨w.heap.size, 5, none⟩ = some (.int .u32 s.f) := by rw [cell_of_row wr w.heap.size 5 _ _ _ (unhide HI).box]; rfl
      have bc6 : wr.cell? ⟨w.heap.size, 6, none⟩ = some (.int .u32 s.g) := by rw [cell_of_row wr w.heap.size 6 _ _ _ (unhide HI).box]; rfl
      have bc7 : wr.cell? ⟨w.heap.size, 7, none⟩ = some (.int .u32 s.h) := by rw [cell_of_row wr w.heap.size 7 _ _ _ (unhide HI).box]; rfl
      have rc0 : wr.cell? ⟨w.heap.size + 1, 0, none⟩ = some (.int .u32 0) := by rw [cell_of_row wr (w.heap.size + 1) 0 _ _ _ (unhide HI).res]; rfl
      have rc1 : wr.cell? ⟨w.heap.size + 1, 1, none⟩ = some (.int .u32 0) := by rw [cell_of_row wr (w.heap.size + 1) 1 _ _ _ (unhide HI).res]; rfl
      have rc2 : wr.cell? ⟨w.heap.size + 1, 2, none⟩ = some (.int .u32 0) := by rw [cell_of_row wr (w.heap.size + 1) 2 _ _ _ (unhide HI).res]; rfl
      have rc3 : wr.cell? ⟨w.heap.size + 1, 3, none⟩ = some (.int .u32 0) := by rw [cell_of_row wr (w.heap.size + 1) 3 _ _ _ (unhide HI).res]; rfl
      have rc4 : wr.cell? ⟨w.heap.size + 1, 4, none⟩ = some (.int .u32 0) := by rw [cell_of_row wr (w.heap.size + 1) 4 _ _ _ (unhide HI).res]; rfl
      have rc5 : wr.cell? ⟨w.heap.size + 1, 5, none⟩ = some (.int .u32 0) := by rw [cell_of_row wr (w.heap.size + 1) 5 _ _ _ (unhide HI).res]; rfl
      have rc6 : wr.cell? ⟨w.heap.size + 1, 6, none⟩ = some (.int .u32 0) := by rw [cell_of_row wr (w.heap.size + 1) 6 _ _ _ (unhide HI).res]; rfl
      have rc7 : wr.cell? ⟨w.heap.size + 1, 7, none⟩ = some (.int .u32 0) := by rw [cell_of_row wr (w.heap.size + 1) 7 _ _ _ (unhide HI).res]; rfl
      have HFIN : Hid (s.mix K b = (plusR s t)) := hide (by unfold St.mix; rw [← ht]; rfl)
      have e64 : ¬ (k : Int) < 64 := by omega
      have HI2 : Hid (Inv2 w w2 s t 0 wr) := hide ⟨by rw [mixRow_zero]; exact (unhide HI).box, (unhide HI).res, (unhide HI).cur, (unhide HI).below⟩
      clear e ht hk hlt HI tc0 tc1 tc2 tc3 tc4 tc5 tc6 tc7 bc0 bc1 bc2 bc3 bc4 bc5 bc6 bc7 rc0 rc1 rc2 rc3 rc4 rc5 rc6 rc7
      go_wp2
      clear e64
      go_loopw [26] (fun v26 wq => ∃ q : Nat, q ≤ 8 ∧ v26 = .int .i64 q ∧ Hid (Inv2 w w2 s t q wq)) (fun v26 _ => 8 - (intOf v26).toNat)
      case atStart => exact ⟨0, by omega, rfl, HI2⟩
      case round =>
        obtain ⟨q, hq, rfl, HQ⟩ := hrel
        rename World => wq
        by_cases hql : q < 8
        · obtain ⟨x, hx⟩ : ∃ x : Nat, x = at8 s q := ⟨_, rfl⟩
          obtain ⟨y, hy⟩ : ∃ y : Nat, y = at8 t q := ⟨_, rfl⟩
          obtain ⟨z, hz⟩ : ∃ z : Nat, z = (x + y) % 4294967296 := ⟨_, rfl⟩
          have b0 : wq.cell? ⟨w.heap.size, q, none⟩ = some (.int .u32 x) := by rw [hx]; exact (unhide HQ).boxc q hql rfl
          have t0 : wq.cell? ⟨w2.heap.size, q, none⟩ = some (.int .u32 y) := by rw [hy]; exact (unhide HQ).curc q hql
          have bf := frozen_of_row wq w.heap.size q _ _ (unhide HQ).box
          have hadd : IntKind.u32.wrap ((x : Int) + (y : Int)) = (z : Int) := by rw [IntKind.wrap_u32', hz]; omega
          have hq8 : (q : Int) < 8 := by omega
          have HN : Hid (Inv2 w w2 s t (q + 1) (wq.setCell ⟨w.heap.size, q, none⟩ (.int .u32 z)).drew) := hide (Inv2.next (w1 := w1) q (unhide HQ) hql z (by rw [hz, hx, hy]) hz2 hz1')
          clear hx hy hz HQ
          go_wp2
          go_region
          all_goals go_wp2
          all_goals exact ⟨⟨q + 1, by omega, by go_num, HN⟩, by simp [intOf]; omega⟩
        · have e8 : q = 8 := by omega
          subst e8
          obtain ⟨p, hp⟩ : ∃ p : St, p = plusR s t := ⟨_, rfl⟩
          have hbx : wq.heap[w.heap.size]? = some (.cells (st8 p) 111 (0, 0)) := by rw [hp, ← mixRow_all]; exact (unhide HQ).box
          have bx0 : wq.cell? ⟨w.heap.size, 0, none⟩ = some (.int .u32 p.a) := by rw [cell_of_row wq w.heap.size 0 _ _ _ hbx]; rfl
          have bx1 : wq.cell? ⟨w.heap.size, 1, none⟩ = some (.int .u32 p.b) := by rw [cell_of_row wq w.heap.size 1 _ _ _ hbx]; rfl
          have bx2 : wq.cell? ⟨w.heap.size, 2, none⟩ = some (.int .u32 p.c) := by rw [cell_of_row wq w.heap.size 2 _ _ _ hbx]; rfl
          have bx3 : wq.cell? ⟨w.heap.size, 3, none⟩ = some (.int .u32 p.d) := by rw [cell_of_row wq w.heap.size 3 _ _ _ hbx]; rfl
          have bx4 : wq.cell? ⟨w.heap.size, 4, none⟩ = some (.int .u32 p.e) := by rw [cell_of_row wq w.heap.size 4 _ _ _ hbx]; rfl
          have bx5 : wq.cell? ⟨w.heap.size, 5, none⟩ = some (.int .u32 p.f) := by rw [cell_of_row wq w.heap.size 5 _ _ _ hbx]; rfl
          have bx6 : wq.cell? ⟨w.heap.size, 6, none⟩ = some (.int .u32 p.g) := by rw [cell_of_row wq w.heap.size 6 _ _ _ hbx]; rfl
          have bx7 : wq.cell? ⟨w.heap.size, 7, none⟩ = some (.int .u32 p.h) := by rw [cell_of_row wq w.heap.size 7 _ _ _ hbx]; rfl
          have rx0 : wq.cell? ⟨w.heap.size + 1, 0, none⟩ = some (.int .u32 0) := by rw [cell_of_row wq (w.heap.size + 1) 0 _ _ _ (unhide HQ).res]; rfl
          have rx1 : wq.cell? ⟨w.heap.size + 1, 1, none⟩ = some (.int .u32 0) := by rw [cell_of_row wq (w.heap.size + 1) 1 _ _ _ (unhide HQ).res]; rfl
          have rx2 : wq.cell? ⟨w.heap.size + 1, 2, none⟩ = some (.int .u32 0) := by rw [cell_of_row wq (w.heap.size + 1) 2 _ _ _ (unhide HQ).res]; rfl
          have rx3 : wq.cell? ⟨w.heap.size + 1, 3, none⟩ = some (.int .u32 0) := by rw [cell_of_row wq (w.heap.size + 1) 3 _ _ _ (unhide HQ).res]; rfl
          have rx4 : wq.cell? ⟨w.heap.size + 1, 4, none⟩ = some (.int .u32 0) := by rw [cell_of_row wq (w.heap.size + 1) 4 _ _ _ (unhide HQ).res]; rfl
          have rx5 : wq.cell? ⟨w.heap.size + 1, 5, none⟩ = some (.int .u32 0) := by rw [cell_of_row wq (w.heap.size + 1) 5 _ _ _ (unhide HQ).res]; rfl
          have rx6 : wq.cell? ⟨w.heap.size + 1, 6, none⟩ = some (.int .u32 0) := by rw [cell_of_row wq (w.heap.size + 1) 6 _ _ _ (unhide HQ).res]; rfl
          have rx7 : wq.cell? ⟨w.heap.size + 1, 7, none⟩ = some (.int .u32 0) := by rw [cell_of_row wq (w.heap.size + 1) 7 _ _ _ (unhide HQ).res]; rfl
          have rf := fun j => frozen_of_row wq (w.heap.size + 1) j _ _ (unhide HQ).res
          have HBQ := hide (unhide HQ).below
          have HPP : Hid (st8 (s.mix K b) = st8 p) := hide (by rw [unhide HFIN, hp])
          clear hp hbx HQ HFIN
          go_wp2
          refine bodyPost_ret (v := .agg (st8 p)) (by simp [results, Tryz.results96, go_sem, st8, rx0, rx1, rx2, rx3, rx4, rx5, rx6, rx7]) rfl ⟨by rw [unhide HPP], ?_⟩
          iterate 8 refine Below.setCell ?_ (by simp) _
          exact unhide HBQ
end Go.Proofs.YtonlmklkikbeiaaGreatDoor.Hs

namespace Go.Proofs.YtonlmklkikbeiaaGreatDoor.Hs
open Go.ChangeShapes Go.WideShapes Go.ChangeAt Go.RowKit Hb Ht Hm
set_option linter.unusedVariables false
set_option linter.unusedSimpArgs false

theorem wrap64i (n : Int) (h0 : 0 ≤ n) (h1 : n ≤ 9223372036854775807) : IntKind.i64.wrap n = n := by
  simp [IntKind.wrap, IntKind.bits, IntKind.signed]; omega
/-- what lies in memory while blocks are mixed -/
structure Inv3 (w : World) (t : St) (wr : World) : Prop where
  box : wr.heap[w.heap.size]? = some (.cells (st8 t) 111 (0, 0))
  res : wr.heap[w.heap.size + 1]? = some (.cells #[.int .u32 0, .int .u32 0, .int .u32 0, .int .u32 0, .int .u32 0, .int .u32 0, .int .u32 0, .int .u32 0] 111 (0, 0))
  below : Below w.heap.size w wr
theorem Inv3.later {w wr u : World} {t : St} (h : Inv3 w t wr) (hb : Below wr.drew.heap.size wr.drew u) : Inv3 w t u :=
  have hb' : Below wr.heap.size wr u := ⟨hb.os, hb.tape, hb.output, hb.size, hb.block⟩
  ⟨(hb'.block _ (lt_of_block h.box)).trans h.box, (hb'.block _ (lt_of_block h.res)).trans h.res, h.below.trans (hb'.mono h.below.size)⟩
theorem Inv3.next {w u : World} {t0 : St} (t : St) (h : Inv3 w t0 u) : Inv3 w t ((((((((u.setCell ⟨w.heap.size, 0, none⟩ (.int .u32 t.a)).setCell ⟨w.heap.size, 1, none⟩ (.int .u32 t.b)).setCell ⟨w.heap.size, 2, none⟩ (.int .u32 t.c)).setCell ⟨w.heap.size, 3, none⟩ (.int .u32 t.d)).setCell ⟨w.heap.size, 4, none⟩ (.int .u32 t.e)).setCell ⟨w.heap.size, 5, none⟩ (.int .u32 t.f)).setCell ⟨w.heap.size, 6, none⟩ (.int .u32 t.g)).setCell ⟨w.heap.size, 7, none⟩ (.int .u32 t.h)) :=
  ⟨ch_same t h.box, (ch_other t (by omega)).trans h.res, ch_below t (Nat.le_refl _) h.below⟩
theorem ext64 (s : ByteArray) (l : List UInt8) (hs : s.data.toList = l) (k : Nat) : (s.extract (k * 64) ((k + 1) * 64)).data.toList = (l.drop (64 * k)).take 64 := by
  rw [ByteArray.data_extract, Array.toList_extract, hs]
  show (l.drop (k * 64)).take ((k + 1) * 64 - k * 64) = _
  rw [show (k + 1) * 64 - k * 64 = 64 by omega, Nat.mul_comm k 64]

set_option maxHeartbeats 2500000 in
set_option maxRecDepth 10000 in
theorem mixedAll_any (s : ByteArray) (l : List UInt8) (st : St) (K : Nat → Nat) (n : Nat) (w : World) (hsl : s.data.toList = l) (hn : l.length = 64 * n) (hn2 : n ≤ 1099511627776) (hok : st.ok) (hG : RG w 2 K) (hK : ∀ j, K j < 4294967296) :
    Calls Tryz.prog 52 #[.agg #[.int .u32 st.a, .int .u32 st.b, .int .u32 st.c, .int .u32 st.d, .int .u32 st.e, .int .u32 st.f, .int .u32 st.g, .int .u32 st.h], .string s] w fun en w' => en = .returned (.agg (st8 (st.mixN K l n))) ∧ Below w.heap.size w w' := by
  have hz : s.size = 64 * n := by rw [← hn, ← hsl, Array.length_toList]; rfl
  have HMX := hide (fun (k : Nat) (t : St) (u : World) (hk : k < n) (ht : t.ok) (hR : RG u 2 K) => mixed_any (s.extract (k * 64) ((k + 1) * 64)) _ t K u (by rw [ByteArray.size_extract]; omega) (ext64 s l hsl k) ht hR hK)
  have HG := hide hG
  have h0 := hG.lt
  have HZ := hide hz
  have hdiv : ((s.size : Int) / 64) = (n : Int) := by rw [hz]; omega
  have hdm : Int.tdiv (s.size : Int) 64 = (n : Int) := by rw [hz, Int.tdiv_eq_ediv_of_nonneg (by omega)]; omega
  clear hsl hn hG hz
  go_enter Tryz.func52, Tryz.ntmps52
  go_wp2
  go_loopw [9] (fun v9 wr => ∃ k : Nat, k ≤ n ∧ v9 = .int .i64 k ∧ Hid (Inv3 w (st.mixN K l k) wr)) (fun v9 _ => n - (intOf v9).toNat)
  case atStart =>
    refine ⟨0, by omega, rfl, hide ⟨?_, ?_, ((Below.refl _ w).alloc (Nat.le_refl _) _).alloc (by simp) _⟩⟩
    · rw [Below.heap_alloc _ _ _ (by simp)]; exact heap_alloc_new w _
    · have q := heap_alloc_new (w.alloc (.cells (st8 st) 111)) (.cells #[.int .u32 0, .int .u32 0, .int .u32 0, .int .u32 0, .int .u32 0, .int .u32 0, .int .u32 0, .int .u32 0] 111)
      rw [show (w.alloc (.cells (st8 st) 111)).heap.size = w.heap.size + 1 by simp] at q
      exact q
  case round =>
    obtain ⟨k, hk, rfl, HI⟩ := hrel
    rename World => wr
    by_cases hlt : k < n
    · obtain ⟨t, ht⟩ : ∃ t, t = st.mixN K l k := ⟨_, rfl⟩
      have htok : t.ok := by rw [ht]; exact St.mixN_ok st K l hok k
      rw [← ht] at HI
      have bc0 : wr.cell? ⟨w.heap.size, 0, none⟩ = some (.int .u32 t.a) := by rw [cell_of_row wr (w.heap.size) 0 _ _ _ (unhide HI).box]; rfl
      have bc1 : wr.cell? ⟨w.heap.size, 1, none⟩ = some (.int .u32 t.b) := by rw [cell_of_row wr (w.heap.size) 1 _ _ _ (unhide HI).box]; rfl
      have bc2 : wr.cell? ⟨w.heap.size, 2, none⟩ = some (.int .u32 t.c) := by rw [cell_of_row wr (w.heap.size) 2 _ _ _ (unhide HI).box]; rfl
      have bc3 : wr.cell? ⟨w.heap.size, 3, none⟩ = some (.int .u32 t.d) := by rw [cell_of_row wr (w.heap.size) 3 _ _ _ (unhide HI).box]; rfl
      have bc4 : wr.cell? ⟨w.heap.size, 4, none⟩ = some (.int .u32 t.e) := by rw [cell_of_row wr (w.heap.size) 4 _ _ _ (unhide HI).box]; rfl
      have bc5 : wr.cell? ⟨w.heap.size, 5, none⟩ = some (.int .u32 t.f) := by rw [cell_of_row wr (w.heap.size) 5 _ _ _ (unhide HI).box]; rfl
      have bc6 : wr.cell? ⟨w.heap.size, 6, none⟩ = some (.int .u32 t.g) := by rw [cell_of_row wr (w.heap.size) 6 _ _ _ (unhide HI).box]; rfl
      have bc7 : wr.cell? ⟨w.heap.size, 7, none⟩ = some (.int .u32 t.h) := by rw [cell_of_row wr (w.heap.size) 7 _ _ _ (unhide HI).box]; rfl
      have hrd := fun u hR => unhide HMX k t u hlt htok hR
      obtain ⟨t2, ht2⟩ : ∃ t2, t2 = st.mixN K l (k + 1) := ⟨_, rfl⟩
      have e2 : t.mix K ((l.drop (64 * k)).take 64) = t2 := by rw [ht2, ht]; rfl
      simp only [e2, st8] at hrd
      have HRD := hide hrd
      have HT2 := hide ht2
      have hsz : s.size = 64 * n := unhide HZ
      have q1 : IntKind.i64.wrap ((k : Int) * 64) = (k : Int) * 64 := wrap64i _ (by omega) (by omega)
      have q2 : IntKind.i64.wrap ((k : Int) + 1) = (k : Int) + 1 := wrap64i _ (by omega) (by omega)
      have q3 : IntKind.i64.wrap (((k : Int) + 1) * 64) = ((k : Int) + 1) * 64 := wrap64i _ (by omega) (by omega)
      have q4 : ((k : Int) + 1) * 64 ≤ (s.size : Int) := by omega
      have q5 : (k : Int) * 64 ≤ ((k : Int) + 1) * 64 := by omega
      have q6 : (0 : Int) ≤ (k : Int) * 64 := by omega
      have q7 : (0 : Int) ≤ ((k : Int) + 1) * 64 := by omega
      have n1 : ((k : Int) * 64).toNat = k * 64 := by omega
      have n2 : (((k : Int) + 1) * 64).toNat = (k + 1) * 64 := by omega
      have hkn : (k : Int) < (n : Int) := by omega
      have HGW : Hid (RG wr.drew 2 K) := hide ((unhide HG).below (unhide HI).below.drew h0)
      clear ht ht2 e2 hsz hrd
      go_wp2
      go_region_with (first | (go_at_call 96; refine (unhide HRD _ (unhide HGW)).mono ?_; rintro en u ⟨rfl, hbu⟩; have hI2 := Inv3.later (unhide HI) hbu; have uc0 : u.cell? ⟨w.heap.size, 0, none⟩ = some (.int .u32 t.a) := (by rw [cell_of_row u w.heap.size 0 _ _ _ hI2.box]; rfl); have uc1 : u.cell? ⟨w.heap.size, 1, none⟩ = some (.int .u32 t.b) := (by rw [cell_of_row u w.heap.size 1 _ _ _ hI2.box]; rfl); have uc2 : u.cell? ⟨w.heap.size, 2, none⟩ = some (.int .u32 t.c) := (by rw [cell_of_row u w.heap.size 2 _ _ _ hI2.box]; rfl); have uc3 : u.cell? ⟨w.heap.size, 3, none⟩ = some (.int .u32 t.d) := (by rw [cell_of_row u w.heap.size 3 _ _ _ hI2.box]; rfl); have uc4 : u.cell? ⟨w.heap.size, 4, none⟩ = some (.int .u32 t.e) := (by rw [cell_of_row u w.heap.size 4 _ _ _ hI2.box]; rfl); have uc5 : u.cell? ⟨w.heap.size, 5, none⟩ = some (.int .u32 t.f) := (by rw [cell_of_row u w.heap.size 5 _ _ _ hI2.box]; rfl); have uc6 : u.cell? ⟨w.heap.size, 6, none⟩ = some (.int .u32 t.g) := (by rw [cell_of_row u w.heap.size 6 _ _ _ hI2.box]; rfl); have uc7 : u.cell? ⟨w.heap.size, 7, none⟩ = some (.int .u32 t.h) := (by rw [cell_of_row u w.heap.size 7 _ _ _ hI2.box]; rfl);  have uf := (fun j => frozen_of_row u w.heap.size j _ _ hI2.box); have HI2 := hide hI2; clear hbu hI2))
      all_goals go_wp2
      all_goals exact ⟨⟨k + 1, by omega, by go_num, hide (by rw [← unhide HT2]; exact Inv3.next t2 (unhide HI2))⟩, by simp [intOf]; omega⟩
    · have e : k = n := by omega
      obtain ⟨t, ht⟩ : ∃ t, t = st.mixN K l n := ⟨_, rfl⟩
      rw [e, ← ht] at HI
      have hkn : ¬ (k : Int) < (n : Int) := by omega
      have bc0 : wr.cell? ⟨w.heap.size, 0, none⟩ = some (.int .u32 t.a) := by rw [cell_of_row wr (w.heap.size) 0 _ _ _ (unhide HI).box]; rfl
      have bc1 : wr.cell? ⟨w.heap.size, 1, none⟩ = some (.int .u32 t.b) := by rw [cell_of_row wr (w.heap.size) 1 _ _ _ (unhide HI).box]; rfl
      have bc2 : wr.cell? ⟨w.heap.size, 2, none⟩ = some (.int .u32 t.c) := by rw [cell_of_row wr (w.heap.size) 2 _ _ _ (unhide HI).box]; rfl
      have bc3 : wr.cell? ⟨w.heap.size, 3, none⟩ = some (.int .u32 t.d) := by rw [cell_of_row wr (w.heap.size) 3 _ _ _ (unhide HI).box]; rfl
      have bc4 : wr.cell? ⟨w.heap.size, 4, none⟩ = some (.int .u32 t.e) := by rw [cell_of_row wr (w.heap.size) 4 _ _ _ (unhide HI).box]; rfl
      have bc5 : wr.cell? ⟨w.heap.size, 5, none⟩ = some (.int .u32 t.f) := by rw [cell_of_row wr (w.heap.size) 5 _ _ _ (unhide HI).box]; rfl
      have bc6 : wr.cell? ⟨w.heap.size, 6, none⟩ = some (.int .u32 t.g) := by rw [cell_of_row wr (w.heap.size) 6 _ _ _ (unhide HI).box]; rfl
      have bc7 : wr.cell? ⟨w.heap.size, 7, none⟩ = some (.int .u32 t.h) := by rw [cell_of_row wr (w.heap.size) 7 _ _ _ (unhide HI).box]; rfl
      have rc0 : wr.cell? ⟨w.heap.size + 1, 0, none⟩ = some (.int .u32 0) := by rw [cell_of_row wr (w.heap.size + 1) 0 _ _ _ (unhide HI).res]; rfl
      have rc1 : wr.cell? ⟨w.heap.size + 1, 1, none⟩ = some (.int .u32 0) := by rw [cell_of_row wr (w.heap.size + 1) 1 _ _ _ (unhide HI).res]; rfl
      have rc2 : wr.cell? ⟨w.heap.size + 1, 2, none⟩ = some (.int .u32 0) := by rw [cell_of_row wr (w.heap.size + 1) 2 _ _ _ (unhide HI).res]; rfl
      have rc3 : wr.cell? ⟨w.heap.size + 1, 3, none⟩ = some (.int .u32 0) := by rw [cell_of_row wr (w.heap.size + 1) 3 _ _ _ (unhide HI).res]; rfl
      have rc4 : wr.cell? ⟨w.heap.size + 1, 4, none⟩ = some (.int .u32 0) := by rw [cell_of_row wr (w.heap.size + 1) 4 _ _ _ (unhide HI).res]; rfl
      have rc5 : wr.cell? ⟨w.heap.size + 1, 5, none⟩ = some (.int .u32 0) := by rw [cell_of_row wr (w.heap.size + 1) 5 _ _ _ (unhide HI).res]; rfl
      have rc6 : wr.cell? ⟨w.heap.size + 1, 6, none⟩ = some (.int .u32 0) := by rw [cell_of_row wr (w.heap.size + 1) 6 _ _ _ (unhide HI).res]; rfl
      have rc7 : wr.cell? ⟨w.heap.size + 1, 7, none⟩ = some (.int .u32 0) := by rw [cell_of_row wr (w.heap.size + 1) 7 _ _ _ (unhide HI).res]; rfl
      have rf := fun j => frozen_of_row wr (w.heap.size + 1) j _ _ (unhide HI).res
      have HBQ := hide (unhide HI).below
      have HT := hide ht
      clear e ht HI hk hlt
      go_wp2
      refine bodyPost_ret (v := .agg (st8 t)) (by simp [results, Tryz.results52, go_sem, st8, rc0, rc1, rc2, rc3, rc4, rc5, rc6, rc7]) rfl ⟨by rw [unhide HT], ?_⟩
      iterate 8 refine Below.setCell ?_ (by simp) _
      exact unhide HBQ
end Go.Proofs.YtonlmklkikbeiaaGreatDoor.Hs

namespace Go.Proofs.YtonlmklkikbeiaaGreatDoor.Hs
open Go.ChangeShapes Go.WideShapes Go.ChangeAt Go.RowKit Hb Ht Hm
set_option linter.unusedVariables false
set_option linter.unusedSimpArgs false

/-- thirty-two bytes -/
def rowB (f : Nat → Nat) : List Value := (List.range 32).map fun j => Value.int .u8 (f j)
theorem rowB_length (f : Nat → Nat) : (rowB f).length = 32 := by simp [rowB]
theorem rowB_get (f : Nat → Nat) (j : Nat) (h : j < 32) : (rowB f)[j]? = some (.int .u8 (f j)) := by simp [rowB, h]
theorem rowB_congr {f g : Nat → Nat} (h : ∀ j, j < 32 → f j = g j) : rowB f = rowB g := by
  unfold rowB
  apply List.map_congr_left
  intro j hj
  rw [h j (by simpa using hj)]
theorem rowB_set (f : Nat → Nat) (j v : Nat) : (rowB f).set j (.int .u8 v) = rowB (fun k => if k = j then v else f k) := by
  apply List.ext_getElem?
  intro k
  by_cases hk : k < 32
  · rw [rowB_get _ k hk]
    by_cases e : j = k
    · subst e
      rw [List.getElem?_set_self (by rw [rowB_length]; exact hk)]
      simp
    · rw [List.getElem?_set_ne e, rowB_get f k hk]
      have e' : ¬ k = j := fun q => e q.symm
      simp [e']
  · rw [List.getElem?_eq_none (by rw [List.length_set, rowB_length]; omega), List.getElem?_eq_none (by rw [rowB_length]; omega)]
def RB (w : World) (g : Nat) (f : Nat → Nat) : Prop := w.heap[g]? = some (.cells (rowB f).toArray 76 (0, 0))
theorem RB.cell {w : World} {g : Nat} {f : Nat → Nat} (h : RB w g f) (j : Nat) (hj : j < 32) : w.cell? ⟨g, j, none⟩ = some (.int .u8 (f j)) := by
  rw [cell_of_row w g j _ _ _ h]; simpa using rowB_get f j hj
theorem RB.free {w : World} {g : Nat} {f : Nat → Nat} (h : RB w g f) (j : Nat) : w.frozen? ⟨g, j, none⟩ = false := by
  simp [World.frozen?, show w.heap[g]? = _ from h]
theorem RB.lt {w : World} {g : Nat} {f : Nat → Nat} (h : RB w g f) : g < w.heap.size := lt_of_block h
theorem RB.congr {w : World} {g : Nat} {f f' : Nat → Nat} (h : RB w g f) (e : ∀ j, j < 32 → f j = f' j) : RB w g f' := by
  unfold RB; rw [← rowB_congr e]; exact h
theorem RB.set {w : World} {g : Nat} {f : Nat → Nat} (h : RB w g f) (j v : Nat) : RB (w.setCell ⟨g, j, none⟩ (.int .u8 v)) g (fun k => if k = j then v else f k) := by
  unfold RB
  rw [heap_setCell_same w g j _ _ _ h, ← rowB_set f j v]
  congr 2
  simp
theorem RB.below {w w' : World} {g B : Nat} {f : Nat → Nat} (h : RB w g f) (hb : Below B w w') (hg : g < B) : RB w' g f := (hb.block g hg).trans h
theorem RB.alloc {w : World} {g : Nat} {f : Nat → Nat} (h : RB w g f) (o : Obj) : RB (w.alloc o) g f := by unfold RB; rw [Below.heap_alloc _ _ _ h.lt]; exact h
theorem RB.other {w : World} {g : Nat} {f : Nat → Nat} (h : RB w g f) {p : Addr} (hp : g ≠ p.block) (v : Value) : RB (w.setCell p v) g f := by unfold RB; rw [Below.heap_setCell _ _ _ _ hp]; exact h
theorem RB.range {w : World} {g : Nat} {f : Nat → Nat} (h : RB w g f) : w.rangeAt g 0 (rowB f) := fun j v hv => by
  have hj : j < 32 := by
    have := (List.getElem?_eq_some_iff.1 hv).1
    rwa [rowB_length] at this
  rw [rowB_get f j hj] at hv
  rw [Nat.zero_add, h.cell j hj]; exact hv
theorem RB.there {w : World} {g : Nat} {f : Nat → Nat} (h : RB w g f) : w.there g 0 32 := fun j hj => by
  rw [Nat.zero_add, h.cell j hj, h.free j]; exact ⟨rfl, rfl⟩


/-- a state as bytes -/
def byF (st : St) (j : Nat) : Nat := at8 st (j / 4) / 2 ^ (24 - 8 * (j % 4)) % 256
def outF (st : St) (q j : Nat) : Nat := if j < q then byF st j else 0

theorem st8_get (st : St) (j : Nat) (hj : j < 8) : (st8 st)[j]? = some (.int .u32 (at8 st j)) := by
  match j, hj with
  | 0, _ => rfl
  | 1, _ => rfl
  | 2, _ => rfl
  | 3, _ => rfl
  | 4, _ => rfl
  | 5, _ => rfl
  | 6, _ => rfl
  | 7, _ => rfl
theorem rowB_zero : (rowB (fun _ => 0)).toArray = #[Value.int .u8 0, Value.int .u8 0, Value.int .u8 0, Value.int .u8 0, Value.int .u8 0, Value.int .u8 0, Value.int .u8 0, Value.int .u8 0, Value.int .u8 0, Value.int .u8 0, Value.int .u8 0, Value.int .u8 0, Value.int .u8 0, Value.int .u8 0, Value.int .u8 0, Value.int .u8 0, Value.int .u8 0, Value.int .u8 0, Value.int .u8 0, Value.int .u8 0, Value.int .u8 0, Value.int .u8 0, Value.int .u8 0, Value.int .u8 0, Value.int .u8 0, Value.int .u8 0, Value.int .u8 0, Value.int .u8 0, Value.int .u8 0, Value.int .u8 0, Value.int .u8 0, Value.int .u8 0] := by rfl
theorem outF_next (st : St) (q : Nat) (hq : q < 32) : ∀ j, j < 32 → (if j = q then byF st q else outF st q j) = outF st (q + 1) j := fun j _ => by
  unfold outF
  by_cases e : j = q
  · subst e; simp
  · simp only [if_neg e]
    have : (j < q) = (j < q + 1) := by simp only [eq_iff_iff]; omega
    simp only [this]
theorem one_rowB (f : Nat → Nat) : ((rowB f).toArray).all (·.oneCell') = true := by
  rw [Array.all_eq_true_iff_forall_mem]
  intro v hv
  simp only [rowB, List.mem_toArray, List.mem_map] at hv
  obtain ⟨j, _, rfl⟩ := hv
  rfl
theorem info48 : (Tryz.prog.info? 76).map (·.size) = some 32 := by kernel_rfl

set_option maxHeartbeats 2000000 in
set_option maxRecDepth 10000 in
theorem bytes_any (st : St) (w : World) (hok : st.ok) :
    Calls Tryz.prog 54 #[.agg #[.int .u32 st.a, .int .u32 st.b, .int .u32 st.c, .int .u32 st.d, .int .u32 st.e, .int .u32 st.f, .int .u32 st.g, .int .u32 st.h]] w fun en w' => en = .returned (.agg (rowB (byF st)).toArray) ∧ Below w.heap.size w w' := by
  go_enter Tryz.func54, Tryz.ntmps54
  go_wp2
  go_loopw [5] (fun v5 wr => ∃ q : Nat, q ≤ 32 ∧ v5 = .int .i64 q ∧ Hid (RB wr (w.heap.size + 2) (outF st q)) ∧ Hid (RB wr (w.heap.size + 1) (fun _ => 0)) ∧ Hid (wr.heap[w.heap.size]? = some (.cells (st8 st) 111 (0, 0))) ∧ Hid (Below w.heap.size w wr)) (fun v5 _ => 32 - (intOf v5).toNat)
  case atStart =>
    have h1 : (w.alloc (.cells #[.int .u32 st.a, .int .u32 st.b, .int .u32 st.c, .int .u32 st.d, .int .u32 st.e, .int .u32 st.f, .int .u32 st.g, .int .u32 st.h] 111)).heap.size = w.heap.size + 1 := by simp
    have h2 : ((w.alloc (.cells #[.int .u32 st.a, .int .u32 st.b, .int .u32 st.c, .int .u32 st.d, .int .u32 st.e, .int .u32 st.f, .int .u32 st.g, .int .u32 st.h] 111)).alloc (.cells #[Value.int .u8 0, Value.int .u8 0, Value.int .u8 0, Value.int .u8 0, Value.int .u8 0, Value.int .u8 0, Value.int .u8 0, Value.int .u8 0, Value.int .u8 0, Value.int .u8 0, Value.int .u8 0, Value.int .u8 0, Value.int .u8 0, Value.int .u8 0, Value.int .u8 0, Value.int .u8 0, Value.int .u8 0, Value.int .u8 0, Value.int .u8 0, Value.int .u8 0, Value.int .u8 0, Value.int .u8 0, Value.int .u8 0, Value.int .u8 0, Value.int .u8 0, Value.int .u8 0, Value.int .u8 0, Value.int .u8 0, Value.int .u8 0, Value.int .u8 0, Value.int .u8 0, Value.int .u8 0] 76)).heap.size = w.heap.size + 2 := by simp
    refine ⟨0, by omega, rfl, hide (RB.congr (f := fun _ => 0) ?_ (fun j _ => rfl)), hide ?_, hide ?_, hide ((((Below.refl _ w).alloc (Nat.le_refl _) _).alloc (by simp) _).alloc (by simp; omega) _)⟩
    · unfold RB
      rw [rowB_zero]
      have q := heap_alloc_new ((w.alloc (.cells #[.int .u32 st.a, .int .u32 st.b, .int .u32 st.c, .int .u32 st.d, .int .u32 st.e, .int .u32 st.f, .int .u32 st.g, .int .u32 st.h] 111)).alloc (.cells #[Value.int .u8 0, Value.int .u8 0, Value.int .u8 0, Value.int .u8 0, Value.int .u8 0, Value.int .u8 0, Value.int .u8 0, Value.int .u8 0, Value.int .u8 0, Value.int .u8 0, Value.int .u8 0, Value.int .u8 0, Value.int .u8 0, Value.int .u8 0, Value.int .u8 0, Value.int .u8 0, Value.int .u8 0, Value.int .u8 0, Value.int .u8 0, Value.int .u8 0, Value.int .u8 0, Value.int .u8 0, Value.int .u8 0, Value.int .u8 0, Value.int .u8 0, Value.int .u8 0, Value.int .u8 0, Value.int .u8 0, Value.int .u8 0, Value.int .u8 0, Value.int .u8 0, Value.int .u8 0] 76)) (.cells #[Value.int .u8 0, Value.int .u8 0, Value.int .u8 0, Value.int .u8 0, Value.int .u8 0, Value.int .u8 0, Value.int .u8 0, Value.int .u8 0, Value.int .u8 0, Value.int .u8 0, Value.int .u8 0, Value.int .u8 0, Value.int .u8 0, Value.int .u8 0, Value.int .u8 0, Value.int .u8 0, Value.int .u8 0, Value.int .u8 0, Value.int .u8 0, Value.int .u8 0, Value.int .u8 0, Value.int .u8 0, Value.int .u8 0, Value.int .u8 0, Value.int .u8 0, Value.int .u8 0, Value.int .u8 0, Value.int .u8 0, Value.int .u8 0, Value.int .u8 0, Value.int .u8 0, Value.int .u8 0] 76)
      rw [h2] at q
      exact q
    · unfold RB
      rw [rowB_zero, Below.heap_alloc _ _ _ (by simp)]
      have q := heap_alloc_new (w.alloc (.cells #[.int .u32 st.a, .int .u32 st.b, .int .u32 st.c, .int .u32 st.d, .int .u32 st.e, .int .u32 st.f, .int .u32 st.g, .int .u32 st.h] 111)) (.cells #[Value.int .u8 0, Value.int .u8 0, Value.int .u8 0, Value.int .u8 0, Value.int .u8 0, Value.int .u8 0, Value.int .u8 0, Value.int .u8 0, Value.int .u8 0, Value.int .u8 0, Value.int .u8 0, Value.int .u8 0, Value.int .u8 0, Value.int .u8 0, Value.int .u8 0, Value.int .u8 0, Value.int .u8 0, Value.int .u8 0, Value.int .u8 0, Value.int .u8 0, Value.int .u8 0, Value.int .u8 0, Value.int .u8 0, Value.int .u8 0, Value.int .u8 0, Value.int .u8 0, Value.int .u8 0, Value.int .u8 0, Value.int .u8 0, Value.int .u8 0, Value.int .u8 0, Value.int .u8 0] 76)
      rw [h1] at q
      exact q
    · rw [Below.heap_alloc _ _ _ (by simp; omega), Below.heap_alloc _ _ _ (by simp)]
      exact heap_alloc_new w _
  case round =>
    obtain ⟨q, hq, rfl, HO, HZ, HX, HB⟩ := hrel
    rename World => wr
    by_cases hlt : q < 32
    · have o0 := (unhide HO).cell q hlt
      have of := (unhide HO).free q
      obtain ⟨x, hx⟩ : ∃ x : Nat, x = at8 st (q / 4) := ⟨_, rfl⟩
      have b0 : wr.cell? ⟨w.heap.size, q / 4, none⟩ = some (.int .u32 x) := by rw [cell_of_row wr w.heap.size (q / 4) _ _ _ (unhide HX), hx]; exact st8_get st (q / 4) (by omega)
      have h32 : (q : Int) < 32 := by omega
      have hd : (q : Int) / 4 < 8 := by omega
      have hv : ((at8 st (q / 4) : Nat) : Int) / 2 ^ (24 - 8 * (q % 4)) % 256 = ((byF st q : Nat) : Int) := by unfold byF; push_cast; rfl
      have HS := hide ((unhide HO).set q (byF st q))
      have HZ2 : Hid (RB (wr.setCell ⟨w.heap.size + 2, q, none⟩ (.int .u8 (byF st q : Nat))) (w.heap.size + 1) (fun _ => 0)) := hide ((unhide HZ).other (by simp) _)
      have HX2 : Hid ((wr.setCell ⟨w.heap.size + 2, q, none⟩ (.int .u8 (byF st q : Nat))).heap[w.heap.size]? = some (.cells (st8 st) 111 (0, 0))) := hide (by rw [Below.heap_setCell _ _ _ _ (by simp)]; exact unhide HX)
      have HB2 : Hid (Below w.heap.size w (wr.setCell ⟨w.heap.size + 2, q, none⟩ (.int .u8 (byF st q : Nat)))) := hide ((unhide HB).setCell (by simp) _)
      have HV := hide hv
      clear hv
      go_wp2
      rw [unhide HV]
      exact ⟨⟨q + 1, by omega, by go_num, hide ((unhide HS).congr (outF_next st q hlt)), HZ2, HX2, HB2⟩, by simp [intOf]; omega⟩
    · have e : q = 32 := by omega
      have hR : RB wr (w.heap.size + 2) (byF st) := (unhide HO).congr (fun j hj => by unfold outF; rw [e, if_pos hj])
      have e32 : ¬ (q : Int) < 32 := by omega
      clear e
      have hth : wr.there (w.heap.size + 1) 0 (rowB (byF st)).toArray.size := by simpa [rowB_length] using (unhide HZ).there
      have hfin : (wr.setCells (w.heap.size + 1) 0 (rowB (byF st))).heap[w.heap.size + 1]? = some (.cells (rowB (byF st)).toArray 76 (0, 0)) := by
        have q := setCells_row (w.heap.size + 1) 76 (rowB (byF st)) 0 wr (rowB (fun _ => 0)) (unhide HZ) (by simp [rowB_length])
        rw [rowB_length, List.drop_eq_nil_of_le (by simp [rowB_length])] at q
        simpa using q
      have HBB : Hid (Below w.heap.size w (wr.setCells (w.heap.size + 1) 0 (rowB (byF st)))) := hide (below_setCells (by omega) _ _ (unhide HB))
      have hone := one_rowB (byF st)
      have hrg := hR.range
      have hl := rowB_length (byF st)
      obtain ⟨cs, hcs⟩ : ∃ cs, cs = rowB (byF st) := ⟨_, rfl⟩
      rw [← hcs] at hth hfin HBB hone hrg hl
      have HCS := hide hcs
      have HTH := hide hth
      have HFN := hide hfin
      have HON := hide hone
      have HRG := hide hrg
      have HLN := hide hl
      clear hcs hth hrg hfin hone hl hR HO HZ HB HX hq hlt
      go_wp2_with (refine wpList_load_mid rfl 76 (.tmp 3) rfl (w.heap.size + 2) 0 rfl cs _ (unhide HRG) Tryz.underlying76 rfl (by rw [unhide HLN]; exact info48) (wpList_store_mid rfl 76 (.tmp 2) (.tmp 21) rfl (w.heap.size + 1) 0 cs.toArray (by simp [Act.eval, Act.put]) (by simp [Act.eval, Act.put]) (unhide HTH) (by simpa [unhide HLN] using info48) (unhide HON) ?_))
      try rw [List.toList_toArray]
      go_wp2
      refine bodyPost_ret (results_cell_row rfl _ _ (w.heap.size + 1) 76 cs.toArray (0, 0) _ rfl (unhide HFN) Tryz.underlying76 rfl (by simpa [unhide HLN] using info48)) rfl ⟨by rw [unhide HCS], unhide HBB⟩
end Go.Proofs.YtonlmklkikbeiaaGreatDoor.Hs

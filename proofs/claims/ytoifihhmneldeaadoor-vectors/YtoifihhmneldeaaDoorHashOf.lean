import Derived.Test.YtoifihhmneldeaaDoorHashEnd
import Derived.Test.YtoifihhmneldeaaDoorHashBytes
namespace Go.Proofs.YtoifihhmneldeaaDoor.Hs
open Go.ChangeShapes Go.WideShapes Go.ChangeAt Go.RowKit Hb Ht Hm
set_option linter.unusedVariables false
set_option linter.unusedSimpArgs false

def st0 : St := ⟨1779033703, 3144134277, 1013904242, 2773480762, 1359893119, 2600822924, 528734635, 1541459225⟩
theorem st0_ok : st0.ok := by unfold St.ok st0; decide
/-- the padded text -/
def sumL (l : List UInt8) : List UInt8 := endL l l.length
/-- the state behind all of a text -/
def sumS (K : Nat → Nat) (l : List UInt8) : St := st0.mixN K (sumL l) ((sumL l).length / 64)
theorem fill_mod (l : List UInt8) (n : Nat) : fillN (l.length - 64 * n) = fillN l.length ∨ l.length < 64 * n := by unfold fillN; omega
theorem sum_split (l : List UInt8) (n : Nat) (h : 64 * n ≤ l.length) : sumL l = l.take (64 * n) ++ endL (l.drop (64 * n)) l.length := by
  unfold sumL endL padJ
  have hf : fillN (l.drop (64 * n)).length = fillN l.length := by rw [List.length_drop]; rcases fill_mod l n with q | q; exact q; omega
  rw [hf, ← List.append_assoc, ← List.append_assoc, List.take_append_drop]
theorem sum_mix (K : Nat → Nat) (l : List UInt8) (n m : Nat) (h : 64 * n ≤ l.length) (hm : (endL (l.drop (64 * n)) l.length).length = 64 * m) :
    (st0.mixN K (l.take (64 * n)) n).mixN K (endL (l.drop (64 * n)) l.length) m = sumS K l := by
  unfold sumS
  have hl : (sumL l).length / 64 = n + m := by rw [sum_split l n h, List.length_append, hm, List.length_take]; omega
  rw [hl, sum_split l n h]
  exact (St.mixN_split st0 K _ _ n m (by rw [List.length_take]; omega)).symm
/-- what lies in memory while a text is mixed -/
structure InvO (w : World) (t : St) (wr : World) : Prop where
  box : wr.heap[w.heap.size + 1]? = some (.cells (st8 t) 57 (0, 0))
  res : RB wr w.heap.size (fun _ => 0)
  below : Below w.heap.size w wr
theorem InvO.later {w wr u : World} {t : St} (h : InvO w t wr) (hb : Below wr.drew.heap.size wr.drew u) : InvO w t u :=
  have hb' : Below wr.heap.size wr u := ⟨hb.os, hb.tape, hb.output, hb.size, hb.block⟩
  ⟨(hb'.block _ (lt_of_block h.box)).trans h.box, (hb'.block _ h.res.lt).trans h.res, h.below.trans (hb'.mono h.below.size)⟩
theorem InvO.after {w wr u : World} {t : St} (h : InvO w t wr) (hb : Below wr.heap.size wr u) : InvO w t u :=
  ⟨(hb.block _ (lt_of_block h.box)).trans h.box, (hb.block _ h.res.lt).trans h.res, h.below.trans (hb.mono h.below.size)⟩
theorem InvO.start (w : World) : InvO w st0 ((w.alloc (.cells #[.int .u8 0, .int .u8 0, .int .u8 0, .int .u8 0, .int .u8 0, .int .u8 0, .int .u8 0, .int .u8 0, .int .u8 0, .int .u8 0, .int .u8 0, .int .u8 0, .int .u8 0, .int .u8 0, .int .u8 0, .int .u8 0, .int .u8 0, .int .u8 0, .int .u8 0, .int .u8 0, .int .u8 0, .int .u8 0, .int .u8 0, .int .u8 0, .int .u8 0, .int .u8 0, .int .u8 0, .int .u8 0, .int .u8 0, .int .u8 0, .int .u8 0, .int .u8 0] 48)).alloc (.cells #[.int .u32 1779033703, .int .u32 3144134277, .int .u32 1013904242, .int .u32 2773480762, .int .u32 1359893119, .int .u32 2600822924, .int .u32 528734635, .int .u32 1541459225] 57)) := by
  refine ⟨?_, ?_, ((Below.refl _ w).alloc (Nat.le_refl _) _).alloc (by simp) _⟩
  · have q := heap_alloc_new (w.alloc (.cells #[.int .u8 0, .int .u8 0, .int .u8 0, .int .u8 0, .int .u8 0, .int .u8 0, .int .u8 0, .int .u8 0, .int .u8 0, .int .u8 0, .int .u8 0, .int .u8 0, .int .u8 0, .int .u8 0, .int .u8 0, .int .u8 0, .int .u8 0, .int .u8 0, .int .u8 0, .int .u8 0, .int .u8 0, .int .u8 0, .int .u8 0, .int .u8 0, .int .u8 0, .int .u8 0, .int .u8 0, .int .u8 0, .int .u8 0, .int .u8 0, .int .u8 0, .int .u8 0] 48)) (.cells #[.int .u32 1779033703, .int .u32 3144134277, .int .u32 1013904242, .int .u32 2773480762, .int .u32 1359893119, .int .u32 2600822924, .int .u32 528734635, .int .u32 1541459225] 57)
    rw [show (w.alloc (.cells #[.int .u8 0, .int .u8 0, .int .u8 0, .int .u8 0, .int .u8 0, .int .u8 0, .int .u8 0, .int .u8 0, .int .u8 0, .int .u8 0, .int .u8 0, .int .u8 0, .int .u8 0, .int .u8 0, .int .u8 0, .int .u8 0, .int .u8 0, .int .u8 0, .int .u8 0, .int .u8 0, .int .u8 0, .int .u8 0, .int .u8 0, .int .u8 0, .int .u8 0, .int .u8 0, .int .u8 0, .int .u8 0, .int .u8 0, .int .u8 0, .int .u8 0, .int .u8 0] 48)).heap.size = w.heap.size + 1 by simp] at q
    exact q
  · unfold RB
    rw [rowB_zero, Below.heap_alloc _ _ _ (by simp)]
    exact heap_alloc_new w _
theorem InvO.next {w u : World} {t0 : St} (t : St) (h : InvO w t0 u) : InvO w t ((((((((u.setCell ⟨w.heap.size + 1, 0, none⟩ (.int .u32 t.a)).setCell ⟨w.heap.size + 1, 1, none⟩ (.int .u32 t.b)).setCell ⟨w.heap.size + 1, 2, none⟩ (.int .u32 t.c)).setCell ⟨w.heap.size + 1, 3, none⟩ (.int .u32 t.d)).setCell ⟨w.heap.size + 1, 4, none⟩ (.int .u32 t.e)).setCell ⟨w.heap.size + 1, 5, none⟩ (.int .u32 t.f)).setCell ⟨w.heap.size + 1, 6, none⟩ (.int .u32 t.g)).setCell ⟨w.heap.size + 1, 7, none⟩ (.int .u32 t.h)) :=
  ⟨ch_same t h.box, (ch_other t (by omega)).trans h.res, ch_below t (by omega) h.below⟩

set_option maxHeartbeats 2500000 in
set_option maxRecDepth 10000 in
theorem of_any (s : ByteArray) (l : List UInt8) (K : Nat → Nat) (w : World) (hsl : s.data.toList = l) (hl : l.length ≤ 1048576) (hG : RG w 2 K) (hK : ∀ j, K j < 4294967296) :
    Calls Tryd.prog 15 #[.string s] w fun en w' => en = .returned (.agg (rowB (byF (sumS K l))).toArray) ∧ Below w.heap.size w w' := by
  have hz : s.size = l.length := by rw [← hsl, Array.length_toList]; rfl
  obtain ⟨n, hn⟩ : ∃ n, n = l.length / 64 := ⟨_, rfl⟩
  have hnl : 64 * n ≤ l.length := by omega
  obtain ⟨m, hm⟩ := endL_length (l.drop (64 * n)) l.length
  have hm2 : m ≤ 20000 := by
    have q : (endL (l.drop (64 * n)) l.length).length ≤ l.length + 100 := by
      unfold endL; rw [List.length_append, padJ_length, lenB_length, List.length_drop]; unfold fillN; omega
    omega
  have hmix := sum_mix K l n m hnl hm
  obtain ⟨t1, ht1⟩ : ∃ t, t = st0.mixN K (l.take (64 * n)) n := ⟨_, rfl⟩
  obtain ⟨t2, ht2⟩ : ∃ t, t = sumS K l := ⟨_, rfl⟩
  have h1ok : t1.ok := by rw [ht1]; exact St.mixN_ok st0 K _ st0_ok n
  have h2ok : t2.ok := by rw [ht2]; exact St.mixN_ok st0 K _ st0_ok _
  rw [← ht1, ← ht2] at hmix
  have hx0 : (s.extract 0 (n * 64)).data.toList = l.take (64 * n) := by
    rw [ByteArray.data_extract, Array.toList_extract, hsl, Nat.mul_comm n 64]; rfl
  have hx1 : (s.extract (n * 64) s.size).data.toList = l.drop (64 * n) := by
    rw [ByteArray.data_extract, Array.toList_extract, hsl]
    show (l.drop (n * 64)).take (s.size - n * 64) = _
    rw [List.take_of_length_le (by rw [List.length_drop]; omega), Nat.mul_comm n 64]
  have HM1 : Hid (∀ u : World, RG u 2 K → Calls Tryd.prog 24 #[.agg #[.int .u32 1779033703, .int .u32 3144134277, .int .u32 1013904242, .int .u32 2773480762, .int .u32 1359893119, .int .u32 2600822924, .int .u32 528734635, .int .u32 1541459225], .string (s.extract 0 (n * 64))] u fun en w' => en = .returned (.agg #[.int .u32 t1.a, .int .u32 t1.b, .int .u32 t1.c, .int .u32 t1.d, .int .u32 t1.e, .int .u32 t1.f, .int .u32 t1.g, .int .u32 t1.h]) ∧ Below u.heap.size u w') := hide (fun u hR => by
    have q := mixedAll_any (s.extract 0 (n * 64)) _ st0 K n u hx0 (by rw [List.length_take]; omega) (by omega) st0_ok hR hK
    rw [← ht1] at q
    exact q)
  have HEN := hide (fun u => ending_any (s.extract (n * 64) s.size) _ l.length u hx1 (by rw [List.length_drop]; omega) hl)
  obtain ⟨se, hse⟩ : ∃ se : ByteArray, se = ⟨(endL (l.drop (64 * n)) l.length).toArray⟩ := ⟨_, rfl⟩
  rw [← hse] at HEN
  have HM2 : Hid (∀ u : World, RG u 2 K → Calls Tryd.prog 24 #[.agg #[.int .u32 t1.a, .int .u32 t1.b, .int .u32 t1.c, .int .u32 t1.d, .int .u32 t1.e, .int .u32 t1.f, .int .u32 t1.g, .int .u32 t1.h], .string se] u fun en w' => en = .returned (.agg #[.int .u32 t2.a, .int .u32 t2.b, .int .u32 t2.c, .int .u32 t2.d, .int .u32 t2.e, .int .u32 t2.f, .int .u32 t2.g, .int .u32 t2.h]) ∧ Below u.heap.size u w') := hide (fun u hR => by
    have q := mixedAll_any se _ t1 K m u (by rw [hse]) hm (by omega) h1ok hR hK
    rw [hmix] at q
    exact q)
  have HBY := hide (fun u => bytes_any t2 u h2ok)
  have hsz : (s.size : Int) = (l.length : Int) := by omega
  have hdm : (l.length : Int) / 64 = (n : Int) := by omega
  have q1 : IntKind.i64.wrap ((n : Int) * 64) = (n : Int) * 64 := wrap64i _ (by omega) (by omega)
  have q2 : (n : Int) * 64 ≤ (l.length : Int) := by omega
  have q3 : (0 : Int) ≤ (n : Int) * 64 := by omega
  have n1 : ((n : Int) * 64).toNat = n * 64 := by omega
  have hlw : (l.length : Int) ≤ 9223372036854775807 := by omega
  have HG := hide hG
  have hG0 := hG.lt
  have HT2 := hide ht2
  have HZ := hide hz
  clear hsl hG hn hx0 hx1 hmix ht1 ht2 hse hm hm2 h1ok h2ok hz
  go_enter Tryd.func15, Tryd.ntmps15
  go_wp2
  go_cut [] (fun wc => Hid (InvO w t1 wc))
  case first =>
    have HI0 := hide (InvO.start w)
    go_region_with (first | (go_at_call 24; refine (unhide HM1 _ ((unhide HG).below (unhide HI0).below.drew hG0)).mono ?_; rintro en u ⟨rfl, hbu⟩; have hI2 := InvO.later (unhide HI0) hbu; have uc0 : u.cell? ⟨w.heap.size + 1, 0, none⟩ = some (.int .u32 1779033703) := (by rw [cell_of_row u (w.heap.size + 1) 0 _ _ _ hI2.box]; rfl); have uc1 : u.cell? ⟨w.heap.size + 1, 1, none⟩ = some (.int .u32 3144134277) := (by rw [cell_of_row u (w.heap.size + 1) 1 _ _ _ hI2.box]; rfl); have uc2 : u.cell? ⟨w.heap.size + 1, 2, none⟩ = some (.int .u32 1013904242) := (by rw [cell_of_row u (w.heap.size + 1) 2 _ _ _ hI2.box]; rfl); have uc3 : u.cell? ⟨w.heap.size + 1, 3, none⟩ = some (.int .u32 2773480762) := (by rw [cell_of_row u (w.heap.size + 1) 3 _ _ _ hI2.box]; rfl); have uc4 : u.cell? ⟨w.heap.size + 1, 4, none⟩ = some (.int .u32 1359893119) := (by rw [cell_of_row u (w.heap.size + 1) 4 _ _ _ hI2.box]; rfl); have uc5 : u.cell? ⟨w.heap.size + 1, 5, none⟩ = some (.int .u32 2600822924) := (by rw [cell_of_row u (w.heap.size + 1) 5 _ _ _ hI2.box]; rfl); have uc6 : u.cell? ⟨w.heap.size + 1, 6, none⟩ = some (.int .u32 528734635) := (by rw [cell_of_row u (w.heap.size + 1) 6 _ _ _ hI2.box]; rfl); have uc7 : u.cell? ⟨w.heap.size + 1, 7, none⟩ = some (.int .u32 1541459225) := (by rw [cell_of_row u (w.heap.size + 1) 7 _ _ _ hI2.box]; rfl); have uf := (fun j => frozen_of_row u (w.heap.size + 1) j _ _ hI2.box); have HI2 := hide hI2; clear hbu hI2))
    all_goals go_wp2
    all_goals go_meet
    all_goals exact hide (InvO.next t1 (unhide HI2))
  case rest =>
    rename World => wc
    have HI := hcut
    clear hcut
    have bc0 : wc.cell? ⟨w.heap.size + 1, 0, none⟩ = some (.int .u32 t1.a) := (by rw [cell_of_row wc (w.heap.size + 1) 0 _ _ _ (unhide HI).box]; rfl)
    have bc1 : wc.cell? ⟨w.heap.size + 1, 1, none⟩ = some (.int .u32 t1.b) := (by rw [cell_of_row wc (w.heap.size + 1) 1 _ _ _ (unhide HI).box]; rfl)
    have bc2 : wc.cell? ⟨w.heap.size + 1, 2, none⟩ = some (.int .u32 t1.c) := (by rw [cell_of_row wc (w.heap.size + 1) 2 _ _ _ (unhide HI).box]; rfl)
    have bc3 : wc.cell? ⟨w.heap.size + 1, 3, none⟩ = some (.int .u32 t1.d) := (by rw [cell_of_row wc (w.heap.size + 1) 3 _ _ _ (unhide HI).box]; rfl)
    have bc4 : wc.cell? ⟨w.heap.size + 1, 4, none⟩ = some (.int .u32 t1.e) := (by rw [cell_of_row wc (w.heap.size + 1) 4 _ _ _ (unhide HI).box]; rfl)
    have bc5 : wc.cell? ⟨w.heap.size + 1, 5, none⟩ = some (.int .u32 t1.f) := (by rw [cell_of_row wc (w.heap.size + 1) 5 _ _ _ (unhide HI).box]; rfl)
    have bc6 : wc.cell? ⟨w.heap.size + 1, 6, none⟩ = some (.int .u32 t1.g) := (by rw [cell_of_row wc (w.heap.size + 1) 6 _ _ _ (unhide HI).box]; rfl)
    have bc7 : wc.cell? ⟨w.heap.size + 1, 7, none⟩ = some (.int .u32 t1.h) := (by rw [cell_of_row wc (w.heap.size + 1) 7 _ _ _ (unhide HI).box]; rfl)
    go_wp2
    go_cut [] (fun wd => Hid (InvO w t2 wd))
    case first =>
      go_region_with (first | (go_at_call 25; refine (unhide HEN _).mono ?_; rintro en u1 ⟨rfl, hb1⟩; have hI1 := InvO.later (unhide HI) hb1; have vc0 : u1.cell? ⟨w.heap.size + 1, 0, none⟩ = some (.int .u32 t1.a) := (by rw [cell_of_row u1 (w.heap.size + 1) 0 _ _ _ hI1.box]; rfl); have vc1 : u1.cell? ⟨w.heap.size + 1, 1, none⟩ = some (.int .u32 t1.b) := (by rw [cell_of_row u1 (w.heap.size + 1) 1 _ _ _ hI1.box]; rfl); have vc2 : u1.cell? ⟨w.heap.size + 1, 2, none⟩ = some (.int .u32 t1.c) := (by rw [cell_of_row u1 (w.heap.size + 1) 2 _ _ _ hI1.box]; rfl); have vc3 : u1.cell? ⟨w.heap.size + 1, 3, none⟩ = some (.int .u32 t1.d) := (by rw [cell_of_row u1 (w.heap.size + 1) 3 _ _ _ hI1.box]; rfl); have vc4 : u1.cell? ⟨w.heap.size + 1, 4, none⟩ = some (.int .u32 t1.e) := (by rw [cell_of_row u1 (w.heap.size + 1) 4 _ _ _ hI1.box]; rfl); have vc5 : u1.cell? ⟨w.heap.size + 1, 5, none⟩ = some (.int .u32 t1.f) := (by rw [cell_of_row u1 (w.heap.size + 1) 5 _ _ _ hI1.box]; rfl); have vc6 : u1.cell? ⟨w.heap.size + 1, 6, none⟩ = some (.int .u32 t1.g) := (by rw [cell_of_row u1 (w.heap.size + 1) 6 _ _ _ hI1.box]; rfl); have vc7 : u1.cell? ⟨w.heap.size + 1, 7, none⟩ = some (.int .u32 t1.h) := (by rw [cell_of_row u1 (w.heap.size + 1) 7 _ _ _ hI1.box]; rfl); have HI1 := hide hI1; clear hb1 hI1) | (go_at_call 24; refine (unhide HM2 _ ((unhide HG).below (unhide HI1).below hG0)).mono ?_; rintro en u ⟨rfl, hbu⟩; have hI2 := InvO.after (unhide HI1) hbu; have uc0 : u.cell? ⟨w.heap.size + 1, 0, none⟩ = some (.int .u32 t1.a) := (by rw [cell_of_row u (w.heap.size + 1) 0 _ _ _ hI2.box]; rfl); have uc1 : u.cell? ⟨w.heap.size + 1, 1, none⟩ = some (.int .u32 t1.b) := (by rw [cell_of_row u (w.heap.size + 1) 1 _ _ _ hI2.box]; rfl); have uc2 : u.cell? ⟨w.heap.size + 1, 2, none⟩ = some (.int .u32 t1.c) := (by rw [cell_of_row u (w.heap.size + 1) 2 _ _ _ hI2.box]; rfl); have uc3 : u.cell? ⟨w.heap.size + 1, 3, none⟩ = some (.int .u32 t1.d) := (by rw [cell_of_row u (w.heap.size + 1) 3 _ _ _ hI2.box]; rfl); have uc4 : u.cell? ⟨w.heap.size + 1, 4, none⟩ = some (.int .u32 t1.e) := (by rw [cell_of_row u (w.heap.size + 1) 4 _ _ _ hI2.box]; rfl); have uc5 : u.cell? ⟨w.heap.size + 1, 5, none⟩ = some (.int .u32 t1.f) := (by rw [cell_of_row u (w.heap.size + 1) 5 _ _ _ hI2.box]; rfl); have uc6 : u.cell? ⟨w.heap.size + 1, 6, none⟩ = some (.int .u32 t1.g) := (by rw [cell_of_row u (w.heap.size + 1) 6 _ _ _ hI2.box]; rfl); have uc7 : u.cell? ⟨w.heap.size + 1, 7, none⟩ = some (.int .u32 t1.h) := (by rw [cell_of_row u (w.heap.size + 1) 7 _ _ _ hI2.box]; rfl); have uf := (fun j => frozen_of_row u (w.heap.size + 1) j _ _ hI2.box); have HI2 := hide hI2; clear hbu hI2))
      all_goals go_wp2
      all_goals go_meet
      all_goals exact hide (InvO.next t2 (unhide HI2))
    case rest =>
      rename World => wd
      have HJ := hcut
      clear hcut
      have dc0 : wd.cell? ⟨w.heap.size + 1, 0, none⟩ = some (.int .u32 t2.a) := (by rw [cell_of_row wd (w.heap.size + 1) 0 _ _ _ (unhide HJ).box]; rfl)
      have dc1 : wd.cell? ⟨w.heap.size + 1, 1, none⟩ = some (.int .u32 t2.b) := (by rw [cell_of_row wd (w.heap.size + 1) 1 _ _ _ (unhide HJ).box]; rfl)
      have dc2 : wd.cell? ⟨w.heap.size + 1, 2, none⟩ = some (.int .u32 t2.c) := (by rw [cell_of_row wd (w.heap.size + 1) 2 _ _ _ (unhide HJ).box]; rfl)
      have dc3 : wd.cell? ⟨w.heap.size + 1, 3, none⟩ = some (.int .u32 t2.d) := (by rw [cell_of_row wd (w.heap.size + 1) 3 _ _ _ (unhide HJ).box]; rfl)
      have dc4 : wd.cell? ⟨w.heap.size + 1, 4, none⟩ = some (.int .u32 t2.e) := (by rw [cell_of_row wd (w.heap.size + 1) 4 _ _ _ (unhide HJ).box]; rfl)
      have dc5 : wd.cell? ⟨w.heap.size + 1, 5, none⟩ = some (.int .u32 t2.f) := (by rw [cell_of_row wd (w.heap.size + 1) 5 _ _ _ (unhide HJ).box]; rfl)
      have dc6 : wd.cell? ⟨w.heap.size + 1, 6, none⟩ = some (.int .u32 t2.g) := (by rw [cell_of_row wd (w.heap.size + 1) 6 _ _ _ (unhide HJ).box]; rfl)
      have dc7 : wd.cell? ⟨w.heap.size + 1, 7, none⟩ = some (.int .u32 t2.h) := (by rw [cell_of_row wd (w.heap.size + 1) 7 _ _ _ (unhide HJ).box]; rfl)
      obtain ⟨cs, hcs⟩ : ∃ cs, cs = rowB (byF t2) := ⟨_, rfl⟩
      rw [← hcs] at HBY
      have hln : cs.length = 32 := by rw [hcs]; exact rowB_length _
      have hon : (cs.toArray).all (·.oneCell') = true := by rw [hcs]; exact one_rowB _
      have HCS := hide hcs
      clear hcs
      go_wp2_with fail
      refine (unhide HBY _).mono ?_
      rintro en we ⟨rfl, hbe⟩
      have hRE : RB we w.heap.size (fun _ => 0) := ((unhide HJ).res).below hbe (by exact (unhide HJ).res.lt)
      have HBE := hide ((unhide HJ).below.trans (hbe.mono (unhide HJ).below.size))
      have hth : we.there w.heap.size 0 cs.toArray.size := by simpa [hln] using hRE.there
      have hfin : (we.setCells w.heap.size 0 cs).heap[w.heap.size]? = some (.cells cs.toArray 48 (0, 0)) := by
        have q := setCells_row w.heap.size 48 cs 0 we (rowB (fun _ => 0)) hRE (by simp [rowB_length, hln])
        rw [hln, List.drop_eq_nil_of_le (by simp [rowB_length])] at q
        simpa using q
      have HBB : Hid (Below w.heap.size w (we.setCells w.heap.size 0 cs)) := hide (below_setCells (by omega) _ _ (unhide HBE))
      have HTH := hide hth
      have HFN := hide hfin
      have HON := hide hon
      have HLN := hide hln
      clear hbe hRE hth hfin hon hln
      go_wp2_with (refine wpList_store_mid rfl 48 (.tmp 2) (.tmp 24) rfl w.heap.size 0 cs.toArray (by simp [Act.eval, Act.put]) (by simp [Act.eval, Act.put]) (unhide HTH) (by simpa [unhide HLN] using info48) (unhide HON) ?_)
      try rw [List.toList_toArray]
      go_wp2
      refine bodyPost_ret (results_cell_row rfl _ _ w.heap.size 48 cs.toArray (0, 0) _ rfl (unhide HFN) Tryd.underlying48 rfl (by simpa [unhide HLN] using info48)) rfl ⟨by rw [unhide HCS, unhide HT2], unhide HBB⟩

/-- a text's digest as bytes -/
def shaL (K : Nat → Nat) (l : List UInt8) : List UInt8 := (List.range 32).map fun j => UInt8.ofNat (byF (sumS K l) j)
theorem shaL_length (K : Nat → Nat) (l : List UInt8) : (shaL K l).length = 32 := by simp [shaL]
theorem byF_lt (st : St) (j : Nat) : byF st j < 256 := Nat.mod_lt _ (by decide)
theorem sha_cells (K : Nat → Nat) (l : List UInt8) : rowB (byF (sumS K l)) = Bs.cells8 (shaL K l) := by
  unfold rowB shaL Bs.cells8
  rw [List.map_map]
  apply List.map_congr_left
  intro j _
  show Value.int .u8 _ = Value.int .u8 _
  rw [UInt8.toNat_ofNat_of_lt' (by show _ < 256; exact byF_lt _ j)]

set_option maxHeartbeats 2500000 in
set_option maxRecDepth 10000 in
theorem hash_any (s : ByteArray) (l : List UInt8) (K : Nat → Nat) (w : World) (hsl : s.data.toList = l) (hl : l.length ≤ 1048576) (hG : RG w 2 K) (hK : ∀ j, K j < 4294967296) :
    Calls Tryd.prog 5 #[.string s] w fun en w' => en = .returned (.string ⟨(shaL K l).toArray⟩) ∧ Below w.heap.size w w' := by
  have HOF := hide (of_any s l K w hsl hl hG hK)
  clear hG hsl
  obtain ⟨cs, hcs⟩ : ∃ cs, cs = rowB (byF (sumS K l)) := ⟨_, rfl⟩
  rw [← hcs] at HOF
  have hln : cs.length = 32 := by rw [hcs]; exact rowB_length _
  have hon : (cs.toArray).all (·.oneCell') = true := by rw [hcs]; exact one_rowB _
  have hc8 : cs = Bs.cells8 (shaL K l) := hcs.trans (sha_cells K l)
  have HC8 := hide hc8
  clear hcs hc8
  go_enter Tryd.func5, Tryd.ntmps5
  go_wp2_with fail
  refine (unhide HOF).mono ?_
  rintro en w1 ⟨rfl, hb1⟩
  have hRE : RB (w1.alloc (.cells #[.int .u8 0, .int .u8 0, .int .u8 0, .int .u8 0, .int .u8 0, .int .u8 0, .int .u8 0, .int .u8 0, .int .u8 0, .int .u8 0, .int .u8 0, .int .u8 0, .int .u8 0, .int .u8 0, .int .u8 0, .int .u8 0, .int .u8 0, .int .u8 0, .int .u8 0, .int .u8 0, .int .u8 0, .int .u8 0, .int .u8 0, .int .u8 0, .int .u8 0, .int .u8 0, .int .u8 0, .int .u8 0, .int .u8 0, .int .u8 0, .int .u8 0, .int .u8 0] 48)) w1.heap.size (fun _ => 0) := by unfold RB; rw [rowB_zero]; exact heap_alloc_new w1 _
  have hth : (w1.alloc (.cells #[.int .u8 0, .int .u8 0, .int .u8 0, .int .u8 0, .int .u8 0, .int .u8 0, .int .u8 0, .int .u8 0, .int .u8 0, .int .u8 0, .int .u8 0, .int .u8 0, .int .u8 0, .int .u8 0, .int .u8 0, .int .u8 0, .int .u8 0, .int .u8 0, .int .u8 0, .int .u8 0, .int .u8 0, .int .u8 0, .int .u8 0, .int .u8 0, .int .u8 0, .int .u8 0, .int .u8 0, .int .u8 0, .int .u8 0, .int .u8 0, .int .u8 0, .int .u8 0] 48)).there w1.heap.size 0 cs.toArray.size := by simpa [hln] using hRE.there
  obtain ⟨w2, hw2⟩ : ∃ w2, w2 = (w1.alloc (.cells #[.int .u8 0, .int .u8 0, .int .u8 0, .int .u8 0, .int .u8 0, .int .u8 0, .int .u8 0, .int .u8 0, .int .u8 0, .int .u8 0, .int .u8 0, .int .u8 0, .int .u8 0, .int .u8 0, .int .u8 0, .int .u8 0, .int .u8 0, .int .u8 0, .int .u8 0, .int .u8 0, .int .u8 0, .int .u8 0, .int .u8 0, .int .u8 0, .int .u8 0, .int .u8 0, .int .u8 0, .int .u8 0, .int .u8 0, .int .u8 0, .int .u8 0, .int .u8 0] 48)).setCells w1.heap.size 0 cs := ⟨_, rfl⟩
  have hfin : w2.heap[w1.heap.size]? = some (.cells cs.toArray 48 (0, 0)) := by
    have q := setCells_row w1.heap.size 48 cs 0 _ (rowB (fun _ => 0)) hRE (by simp [rowB_length, hln])
    rw [hln, List.drop_eq_nil_of_le (by simp [rowB_length])] at q
    rw [hw2]
    simpa using q
  have HBB : Hid (Below w.heap.size w w2) := hide (by rw [hw2]; exact below_setCells hb1.size _ _ (hb1.alloc hb1.size _))
  have hst : (convert 46 9 (.slice (some ⟨w1.heap.size, 0, none⟩) 32 32)).run Tryd.prog w2 = .ok (.string ⟨(shaL K l).toArray⟩) w2 := by
    have q := run_convert_bytes_back (P := Tryd.prog) w2 46 9 5 ⟨w1.heap.size, 0, none⟩ 32 (shaL K l) Tryd.underlying46 Tryd.underlying5 Tryd.underlying9 (fun j hj => by
      rw [Bs.add_lit', cell_of_row w2 w1.heap.size j _ _ _ hfin, unhide HC8]
      simpa using Bs.cells8_get (shaL K l) j hj)
    rw [shaL_length] at q
    exact q
  have HTH := hide hth
  have HON := hide hon
  have HLN := hide hln
  have HW2 := hide hw2
  have HST := hide hst
  clear hb1 hRE hth hon hln hw2 hfin hst
  go_wp2_with (refine wpList_store_mid rfl 48 (.tmp 3) (.tmp 5) rfl w1.heap.size 0 cs.toArray (by simp [Act.eval, Act.put]) (by simp [Act.eval, Act.put]) (unhide HTH) (by simpa [unhide HLN] using info48) (unhide HON) ?_)
  try rw [List.toList_toArray]
  rw [← unhide HW2]
  go_wp2
  rw [unhide HST]
  go_wp2
  go_ret
  exact ⟨rfl, unhide HBB⟩
end Go.Proofs.YtoifihhmneldeaaDoor.Hs

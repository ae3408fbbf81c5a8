import Derived.Test.YtoifihhmneldeaaDoorHashMix
namespace Go.Proofs.YtoifihhmneldeaaDoor.Hs
open Go.ChangeShapes Go.WideShapes Go.ChangeAt Go.RowKit Hb Ht Hm
set_option linter.unusedVariables false
set_option linter.unusedSimpArgs false

theorem wrap64i (n : Int) (h0 : 0 ≤ n) (h1 : n ≤ 9223372036854775807) : IntKind.i64.wrap n = n := by
  simp [IntKind.wrap, IntKind.bits, IntKind.signed]; omega
/-- what lies in memory while blocks are mixed -/
structure Inv3 (w : World) (t : St) (wr : World) : Prop where
  box : wr.heap[w.heap.size]? = some (.cells (st8 t) 57 (0, 0))
  res : wr.heap[w.heap.size + 1]? = some (.cells #[.int .u32 0, .int .u32 0, .int .u32 0, .int .u32 0, .int .u32 0, .int .u32 0, .int .u32 0, .int .u32 0] 57 (0, 0))
  below : Below w.heap.size w wr
theorem Inv3.later {w wr u : World} {t : St} (h : Inv3 w t wr) (hb : Below wr.drew.heap.size wr.drew u) : Inv3 w t u :=
  have hb' : Below wr.heap.size wr u := ⟨hb.os, hb.tape, hb.output, hb.size, hb.block⟩
  ⟨(hb'.block _ (lt_of_block h.box)).trans h.box, (hb'.block _ (lt_of_block h.res)).trans h.res, h.below.trans (hb'.mono h.below.size)⟩
theorem Inv3.next {w u : World} {t0 : St} (t : St) (h : Inv3 w t0 u) : Inv3 w t ((((((((u.setCell ⟨w.heap.size, 0, none⟩ (.int .u32 t.a)).setCell ⟨w.heap.size, 1, none⟩ (.int .u32 t.b)).setCell ⟨w.heap.size, 2, none⟩ (.int .u32 t.c)).setCell ⟨w.heap.size, 3, none⟩ (.int .u32 t.d)).setCell ⟨w.heap.size, 4, none⟩ (.int .u32 t.e)).setCell ⟨w.heap.size, 5, none⟩ (.int .u32 t.f)).setCell ⟨w.heap.size, 6, none⟩ (.int .u32 t.g)).setCell ⟨w.heap.size, 7, none⟩ (.int .u32 t.h)) :=
  ⟨ch_same t h.box, (ch_other t (by omega)).trans h.res, ch_below t (Nat.le_refl _) h.below⟩
theorem ext64 (s : ByteArray) (l : List UInt8) (hs : s.data.toList = l) (k : Nat) : (s.extract (k * 64) ((k + 1) * 64)).data.toList = (l.drop (64 * k)).take 64 := by
  rw [ByteArray.data_extract, Array.toList_extract, hs]
  show (l.drop (k * 64)).take ((k + 1) * 64 - k * 64) = _
  rw [show (k + 1) * 64 - k * 64 = 64 by omega, Nat.mul_comm k 64]

set_option maxHeartbeats 2500000 in
set_option maxRecDepth 10000 in
theorem mixedAll_any (s : ByteArray) (l : List UInt8) (st : St) (K : Nat → Nat) (n : Nat) (w : World) (hsl : s.data.toList = l) (hn : l.length = 64 * n) (hn2 : n ≤ 1099511627776) (hok : st.ok) (hG : RG w 2 K) (hK : ∀ j, K j < 4294967296) :
    Calls Tryd.prog 24 #[.agg #[.int .u32 st.a, .int .u32 st.b, .int .u32 st.c, .int .u32 st.d, .int .u32 st.e, .int .u32 st.f, .int .u32 st.g, .int .u32 st.h], .string s] w fun en w' => en = .returned (.agg (st8 (st.mixN K l n))) ∧ Below w.heap.size w w' := by
  have hz : s.size = 64 * n := by rw [← hn, ← hsl, Array.length_toList]; rfl
  have HMX := hide (fun (k : Nat) (t : St) (u : World) (hk : k < n) (ht : t.ok) (hR : RG u 2 K) => mixed_any (s.extract (k * 64) ((k + 1) * 64)) _ t K u (by rw [ByteArray.size_extract]; omega) (ext64 s l hsl k) ht hR hK)
  have HG := hide hG
  have h0 := hG.lt
  have HZ := hide hz
  have hdiv : ((s.size : Int) / 64) = (n : Int) := by rw [hz]; omega
  have hdm : Int.tdiv (s.size : Int) 64 = (n : Int) := by rw [hz, Int.tdiv_eq_ediv_of_nonneg (by omega)]; omega
  clear hsl hn hG hz
  go_enter Tryd.func24, Tryd.ntmps24
  go_wp2
  go_loopw [9] (fun v9 wr => ∃ k : Nat, k ≤ n ∧ v9 = .int .i64 k ∧ Hid (Inv3 w (st.mixN K l k) wr)) (fun v9 _ => n - (intOf v9).toNat)
  case atStart =>
    refine ⟨0, by omega, rfl, hide ⟨?_, ?_, ((Below.refl _ w).alloc (Nat.le_refl _) _).alloc (by simp) _⟩⟩
    · rw [Below.heap_alloc _ _ _ (by simp)]; exact heap_alloc_new w _
    · have q := heap_alloc_new (w.alloc (.cells (st8 st) 57)) (.cells #[.int .u32 0, .int .u32 0, .int .u32 0, .int .u32 0, .int .u32 0, .int .u32 0, .int .u32 0, .int .u32 0] 57)
      rw [show (w.alloc (.cells (st8 st) 57)).heap.size = w.heap.size + 1 by simp] at q
      exact q
  case round =>
    obtain ⟨k, hk, rfl, HI⟩ := hrel
    rename World => wr
    by_cases hlt : k < n
    · obtain ⟨t, ht⟩ : ∃ t, t = st.mixN K l k := ⟨_, rfl⟩
      have htok : t.ok := by rw [ht]; exact St.mixN_ok st K l hok k
      rw [← ht] at HI
      have bc0 : wr.cell? ⟨w.heap.size, 0, none⟩ = some (.int .u32 t.a) := by rw [cell_of_row wr (w.heap.size) 0 _ _ _ (unhide HI).box]; rfl
      have bc1 : wr.cell? ⟨w.heap.size, 1, none⟩ = some (.int .u32 t.b) := by rw [cell_of_row wr (w.heap.size) 1 _ _ _ (unhide HI).box]; rfl
      have bc2 : wr.cell? ⟨w.heap.size, 2, none⟩ = some (.int .u32 t.c) := by rw [cell_of_row wr (w.heap.size) 2 _ _ _ (unhide HI).box]; rfl
      have bc3 : wr.cell? ⟨w.heap.size, 3, none⟩ = some (.int .u32 t.d) := by rw [cell_of_row wr (w.heap.size) 3 _ _ _ (unhide HI).box]; rfl
      have bc4 : wr.cell? ⟨w.heap.size, 4, none⟩ = some (.int .u32 t.e) := by rw [cell_of_row wr (w.heap.size) 4 _ _ _ (unhide HI).box]; rfl
      have bc5 : wr.cell? ⟨w.heap.size, 5, none⟩ = some (.int .u32 t.f) := by rw [cell_of_row wr (w.heap.size) 5 _ _ _ (unhide HI).box]; rfl
      have bc6 : wr.cell? ⟨w.heap.size, 6, none⟩ = some (.int .u32 t.g) := by rw [cell_of_row wr (w.heap.size) 6 _ _ _ (unhide HI).box]; rfl
      have bc7 : wr.cell? ⟨w.heap.size, 7, none⟩ = some (.int .u32 t.h) := by rw [cell_of_row wr (w.heap.size) 7 _ _ _ (unhide HI).box]; rfl
      have hrd := fun u hR => unhide HMX k t u hlt htok hR
      obtain ⟨t2, ht2⟩ : ∃ t2, t2 = st.mixN K l (k + 1) := ⟨_, rfl⟩
      have e2 : t.mix K ((l.drop (64 * k)).take 64) = t2 := by rw [ht2, ht]; rfl
      simp only [e2, st8] at hrd
      have HRD := hide hrd
      have HT2 := hide ht2
      have hsz : s.size = 64 * n := unhide HZ
      have q1 : IntKind.i64.wrap ((k : Int) * 64) = (k : Int) * 64 := wrap64i _ (by omega) (by omega)
      have q2 : IntKind.i64.wrap ((k : Int) + 1) = (k : Int) + 1 := wrap64i _ (by omega) (by omega)
      have q3 : IntKind.i64.wrap (((k : Int) + 1) * 64) = ((k : Int) + 1) * 64 := wrap64i _ (by omega) (by omega)
      have q4 : ((k : Int) + 1) * 64 ≤ (s.size : Int) := by omega
      have q5 : (k : Int) * 64 ≤ ((k : Int) + 1) * 64 := by omega
      have q6 : (0 : Int) ≤ (k : Int) * 64 := by omega
      have q7 : (0 : Int) ≤ ((k : Int) + 1) * 64 := by omega
      have n1 : ((k : Int) * 64).toNat = k * 64 := by omega
      have n2 : (((k : Int) + 1) * 64).toNat = (k + 1) * 64 := by omega
      have hkn : (k : Int) < (n : Int) := by omega
      have HGW : Hid (RG wr.drew 2 K) := hide ((unhide HG).below (unhide HI).below.drew h0)
      clear ht ht2 e2 hsz hrd
      go_wp2
      go_region_with (first | (go_at_call 42; refine (unhide HRD _ (unhide HGW)).mono ?_; rintro en u ⟨rfl, hbu⟩; have hI2 := Inv3.later (unhide HI) hbu; have uc0 : u.cell? ⟨w.heap.size, 0, none⟩ = some (.int .u32 t.a) := (by rw [cell_of_row u w.heap.size 0 _ _ _ hI2.box]; rfl); have uc1 : u.cell? ⟨w.heap.size, 1, none⟩ = some (.int .u32 t.b) := (by rw [cell_of_row u w.heap.size 1 _ _ _ hI2.box]; rfl); have uc2 : u.cell? ⟨w.heap.size, 2, none⟩ = some (.int .u32 t.c) := (by rw [cell_of_row u w.heap.size 2 _ _ _ hI2.box]; rfl); have uc3 : u.cell? ⟨w.heap.size, 3, none⟩ = some (.int .u32 t.d) := (by rw [cell_of_row u w.heap.size 3 _ _ _ hI2.box]; rfl); have uc4 : u.cell? ⟨w.heap.size, 4, none⟩ = some (.int .u32 t.e) := (by rw [cell_of_row u w.heap.size 4 _ _ _ hI2.box]; rfl); have uc5 : u.cell? ⟨w.heap.size, 5, none⟩ = some (.int .u32 t.f) := (by rw [cell_of_row u w.heap.size 5 _ _ _ hI2.box]; rfl); have uc6 : u.cell? ⟨w.heap.size, 6, none⟩ = some (.int .u32 t.g) := (by rw [cell_of_row u w.heap.size 6 _ _ _ hI2.box]; rfl); have uc7 : u.cell? ⟨w.heap.size, 7, none⟩ = some (.int .u32 t.h) := (by rw [cell_of_row u w.heap.size 7 _ _ _ hI2.box]; rfl);  have uf := (fun j => frozen_of_row u w.heap.size j _ _ hI2.box); have HI2 := hide hI2; clear hbu hI2))
      all_goals go_wp2
      all_goals exact ⟨⟨k + 1, by omega, by go_num, hide (by rw [← unhide HT2]; exact Inv3.next t2 (unhide HI2))⟩, by simp [intOf]; omega⟩
    · have e : k = n := by omega
      obtain ⟨t, ht⟩ : ∃ t, t = st.mixN K l n := ⟨_, rfl⟩
      rw [e, ← ht] at HI
      have hkn : ¬ (k : Int) < (n : Int) := by omega
      have bc0 : wr.cell? ⟨w.heap.size, 0, none⟩ = some (.int .u32 t.a) := by rw [cell_of_row wr (w.heap.size) 0 _ _ _ (unhide HI).box]; rfl
      have bc1 : wr.cell? ⟨w.heap.size, 1, none⟩ = some (.int .u32 t.b) := by rw [cell_of_row wr (w.heap.size) 1 _ _ _ (unhide HI).box]; rfl
      have bc2 : wr.cell? ⟨w.heap.size, 2, none⟩ = some (.int .u32 t.c) := by rw [cell_of_row wr (w.heap.size) 2 _ _ _ (unhide HI).box]; rfl
      have bc3 : wr.cell? ⟨w.heap.size, 3, none⟩ = some (.int .u32 t.d) := by rw [cell_of_row wr (w.heap.size) 3 _ _ _ (unhide HI).box]; rfl
      have bc4 : wr.cell? ⟨w.heap.size, 4, none⟩ = some (.int .u32 t.e) := by rw [cell_of_row wr (w.heap.size) 4 _ _ _ (unhide HI).box]; rfl
      have bc5 : wr.cell? ⟨w.heap.size, 5, none⟩ = some (.int .u32 t.f) := by rw [cell_of_row wr (w.heap.size) 5 _ _ _ (unhide HI).box]; rfl
      have bc6 : wr.cell? ⟨w.heap.size, 6, none⟩ = some (.int .u32 t.g) := by rw [cell_of_row wr (w.heap.size) 6 _ _ _ (unhide HI).box]; rfl
      have bc7 : wr.cell? ⟨w.heap.size, 7, none⟩ = some (.int .u32 t.h) := by rw [cell_of_row wr (w.heap.size) 7 _ _ _ (unhide HI).box]; rfl
      have rc0 : wr.cell? ⟨w.heap.size + 1, 0, none⟩ = some (.int .u32 0) := by rw [cell_of_row wr (w.heap.size + 1) 0 _ _ _ (unhide HI).res]; rfl
      have rc1 : wr.cell? ⟨w.heap.size + 1, 1, none⟩ = some (.int .u32 0) := by rw [cell_of_row wr (w.heap.size + 1) 1 _ _ _ (unhide HI).res]; rfl
      have rc2 : wr.cell? ⟨w.heap.size + 1, 2, none⟩ = some (.int .u32 0) := by rw [cell_of_row wr (w.heap.size + 1) 2 _ _ _ (unhide HI).res]; rfl
      have rc3 : wr.cell? ⟨w.heap.size + 1, 3, none⟩ = some (.int .u32 0) := by rw [cell_of_row wr (w.heap.size + 1) 3 _ _ _ (unhide HI).res]; rfl
      have rc4 : wr.cell? ⟨w.heap.size + 1, 4, none⟩ = some (.int .u32 0) := by rw [cell_of_row wr (w.heap.size + 1) 4 _ _ _ (unhide HI).res]; rfl
      have rc5 : wr.cell? ⟨w.heap.size + 1, 5, none⟩ = some (.int .u32 0) := by rw [cell_of_row wr (w.heap.size + 1) 5 _ _ _ (unhide HI).res]; rfl
      have rc6 : wr.cell? ⟨w.heap.size + 1, 6, none⟩ = some (.int .u32 0) := by rw [cell_of_row wr (w.heap.size + 1) 6 _ _ _ (unhide HI).res]; rfl
      have rc7 : wr.cell? ⟨w.heap.size + 1, 7, none⟩ = some (.int .u32 0) := by rw [cell_of_row wr (w.heap.size + 1) 7 _ _ _ (unhide HI).res]; rfl
      have rf := fun j => frozen_of_row wr (w.heap.size + 1) j _ _ (unhide HI).res
      have HBQ := hide (unhide HI).below
      have HT := hide ht
      clear e ht HI hk hlt
      go_wp2
      refine bodyPost_ret (v := .agg (st8 t)) (by simp [results, Tryd.results24, go_sem, st8, rc0, rc1, rc2, rc3, rc4, rc5, rc6, rc7]) rfl ⟨by rw [unhide HT], ?_⟩
      iterate 8 refine Below.setCell ?_ (by simp) _
      exact unhide HBQ
end Go.Proofs.YtoifihhmneldeaaDoor.Hs

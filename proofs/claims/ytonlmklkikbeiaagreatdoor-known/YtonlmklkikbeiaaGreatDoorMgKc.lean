import Derived.Test.YtonlmklkikbeiaaGreatDoorMgMj
import Derived.Deep.DeepCutAuto
import Derived.Deep.CutRange
namespace Go.Proofs.YtonlmklkikbeiaaGreatDoor.Mac
open Go.ChangeShapes Go.WideShapes Go.ChangeAt Go.RowKit Bs
set_option linter.unusedVariables false
set_option linter.unusedSimpArgs false

theorem row_cells {u : World} {g : Nat} {c : Array Value} {t : TypeId} (h : u.heap[g]? = some (.cells c t (0, 0))) : ∀ j, u.frozen? ⟨g, j, none⟩ = false := fun j => by simp [World.frozen?, h]
set_option maxHeartbeats 2000000 in
set_option maxRecDepth 10000 in
theorem changed_0 (dg : ByteArray) (w : World) (HC : Hid (Calls Tryz.prog 5 #[.string ⟨#[]⟩, .int .i64 8, .int .i64 1] (w.alloc (.cells #[.int .u8 0, .int .u8 0, .int .u8 0, .int .u8 0, .int .u8 0, .int .u8 0, .string ⟨#[]⟩, .int .i64 0, .string ⟨#[]⟩, .int .i64 0, .int .i64 0, .int .i64 0, .int .i64 0] 25)) fun e w' => e = .returned (.agg #[.int .u8 2, .int .u8 0, .int .u8 0, .int .u8 0, .int .u8 0, .int .u8 42, .string ⟨#[107, 101, 114, 110, 101, 108]⟩, .int .i64 600000, .string dg, .int .i64 8, .int .i64 1, .int .i64 16, .int .i64 16]) ∧ Below (w.alloc (.cells #[.int .u8 0, .int .u8 0, .int .u8 0, .int .u8 0, .int .u8 0, .int .u8 0, .string ⟨#[]⟩, .int .i64 0, .string ⟨#[]⟩, .int .i64 0, .int .i64 0, .int .i64 0, .int .i64 0] 25)).heap.size (w.alloc (.cells #[.int .u8 0, .int .u8 0, .int .u8 0, .int .u8 0, .int .u8 0, .int .u8 0, .string ⟨#[]⟩, .int .i64 0, .string ⟨#[]⟩, .int .i64 0, .int .i64 0, .int .i64 0, .int .i64 0] 25)) w')) :
    Calls Tryz.prog 11 #[.int .i64 0] w fun e w' => e = .returned (.agg #[.int .u8 0, .int .u8 0, .int .u8 0, .int .u8 0, .int .u8 0, .int .u8 0, .string ⟨#[107, 101, 114, 110, 101, 108]⟩, .int .i64 600000, .string dg, .int .i64 8, .int .i64 1, .int .i64 16, .int .i64 16]) ∧ Below w.heap.size w w' := by
  go_enter Tryz.func11, Tryz.ntmps11
  refine wp_seq_k (fun K hK => ?_)
  go_cut [2] (fun v2 wc => v2 = .pointer (some ⟨w.heap.size, 0, none⟩) ∧ wc = w.alloc (.cells #[.int .u8 0, .int .u8 0, .int .u8 0, .int .u8 0, .int .u8 0, .int .u8 0, .string ⟨#[]⟩, .int .i64 0, .string ⟨#[]⟩, .int .i64 0, .int .i64 0, .int .i64 0, .int .i64 0] 25))
  case first =>
    go_wp2
    go_meet
    exact ⟨rfl, rfl⟩
  case rest =>
    rename World => wA
    obtain ⟨rfl, rfl⟩ := hcut
    refine hK _ _ ?_
    clear hK K
    refine wp_seq_k (fun K hK => ?_)
    go_cut [3] (fun v3 wc => ∃ g, v3 = .pointer (some ⟨g, 0, none⟩) ∧ w.heap.size < g ∧ Hid (wc.heap[w.heap.size]? = some (.cells #[.int .u8 0, .int .u8 0, .int .u8 0, .int .u8 0, .int .u8 0, .int .u8 0, .string ⟨#[]⟩, .int .i64 0, .string ⟨#[]⟩, .int .i64 0, .int .i64 0, .int .i64 0, .int .i64 0] 25 (0, 0))) ∧ Hid (wc.heap[g]? = some (.cells #[.int .u8 2, .int .u8 0, .int .u8 0, .int .u8 0, .int .u8 0, .int .u8 42, .string ⟨#[107, 101, 114, 110, 101, 108]⟩, .int .i64 600000, .string dg, .int .i64 8, .int .i64 1, .int .i64 16, .int .i64 16] 25 (0, 0))) ∧ Hid (Below w.heap.size w wc))
    case first =>
      go_wp2_with fail
      refine (unhide HC).mono ?_
      rintro ee u ⟨rfl, hb⟩
      have HRO := hide ((hb.block w.heap.size (by simp)).trans (heap_alloc_new w (.cells #[.int .u8 0, .int .u8 0, .int .u8 0, .int .u8 0, .int .u8 0, .int .u8 0, .string ⟨#[]⟩, .int .i64 0, .string ⟨#[]⟩, .int .i64 0, .int .i64 0, .int .i64 0, .int .i64 0] 25)))
      have HB := hide (((Below.refl w.heap.size w).alloc (Nat.le_refl _) _).trans (hb.mono (by simp)))
      have hz := lt_of_block (unhide HRO)
      clear hb HC
      go_wp2
      go_meet
      exact ⟨_, rfl, hz, hide ((Below.heap_alloc _ _ _ hz).trans (unhide HRO)), hide (heap_alloc_new u _), hide ((unhide HB).alloc (by omega) _)⟩
    case rest =>
      rename World => wB
      obtain ⟨g, rfl, hgz, HR0, HRG, HBW⟩ := hcut
      refine hK _ _ ?_
      clear hK K HC
      refine wp_seq_k (fun K hK => ?_)
      go_cut [] (fun wc => Hid (wc.heap[w.heap.size]? = some (.cells #[.int .u8 0, .int .u8 0, .int .u8 0, .int .u8 0, .int .u8 0, .int .u8 0, .string ⟨#[]⟩, .int .i64 0, .string ⟨#[]⟩, .int .i64 0, .int .i64 0, .int .i64 0, .int .i64 0] 25 (0, 0))) ∧ Hid (wc.heap[g]? = some (.cells #[.int .u8 0, .int .u8 0, .int .u8 0, .int .u8 0, .int .u8 0, .int .u8 0, .string ⟨#[107, 101, 114, 110, 101, 108]⟩, .int .i64 600000, .string dg, .int .i64 8, .int .i64 1, .int .i64 16, .int .i64 16] 25 (0, 0))) ∧ Hid (Below w.heap.size w wc))
      case first =>
        obtain ⟨x0, x1, x2, x3, x4, x5, x6, x7, x8, x9, x10, x11, x12⟩ := row13 (unhide HRG)
        have fg := row_cells (unhide HRG)
        have h0 := fg 0
        have h1 := fg 1
        have h2 := fg 2
        have h3 := fg 3
        have h4 := fg 4
        have h5 := fg 5
        have h6 := fg 6
        have h7 := fg 7
        have h8 := fg 8
        have h9 := fg 9
        have h10 := fg 10
        have h11 := fg 11
        have h12 := fg 12
        have hcs : setCs #[.int .u8 2, .int .u8 0, .int .u8 0, .int .u8 0, .int .u8 0, .int .u8 42, .string ⟨#[107, 101, 114, 110, 101, 108]⟩, .int .i64 600000, .string dg, .int .i64 8, .int .i64 1, .int .i64 16, .int .i64 16] [(0, .int .u8 0), (1, .int .u8 0), (2, .int .u8 0), (3, .int .u8 0), (4, .int .u8 0), (5, .int .u8 0)] = #[.int .u8 0, .int .u8 0, .int .u8 0, .int .u8 0, .int .u8 0, .int .u8 0, .string ⟨#[107, 101, 114, 110, 101, 108]⟩, .int .i64 600000, .string dg, .int .i64 8, .int .i64 1, .int .i64 16, .int .i64 16] := by kernel_rfl
        have HQ1 : Hid ((setMany wB g [(0, .int .u8 0), (1, .int .u8 0), (2, .int .u8 0), (3, .int .u8 0), (4, .int .u8 0), (5, .int .u8 0)]).heap[w.heap.size]? = some (.cells #[.int .u8 0, .int .u8 0, .int .u8 0, .int .u8 0, .int .u8 0, .int .u8 0, .string ⟨#[]⟩, .int .i64 0, .string ⟨#[]⟩, .int .i64 0, .int .i64 0, .int .i64 0, .int .i64 0] 25 (0, 0))) := hide ((many_other g _ (by omega) [(0, .int .u8 0), (1, .int .u8 0), (2, .int .u8 0), (3, .int .u8 0), (4, .int .u8 0), (5, .int .u8 0)] wB).trans (unhide HR0))
        have HQ2 : Hid ((setMany wB g [(0, .int .u8 0), (1, .int .u8 0), (2, .int .u8 0), (3, .int .u8 0), (4, .int .u8 0), (5, .int .u8 0)]).heap[g]? = some (.cells #[.int .u8 0, .int .u8 0, .int .u8 0, .int .u8 0, .int .u8 0, .int .u8 0, .string ⟨#[107, 101, 114, 110, 101, 108]⟩, .int .i64 600000, .string dg, .int .i64 8, .int .i64 1, .int .i64 16, .int .i64 16] 25 (0, 0))) := hide (by
          have q := many_row g [(0, .int .u8 0), (1, .int .u8 0), (2, .int .u8 0), (3, .int .u8 0), (4, .int .u8 0), (5, .int .u8 0)] wB _ (unhide HRG)
          rw [hcs] at q; exact q)
        have HQ3 : Hid (Below w.heap.size w (setMany wB g [(0, .int .u8 0), (1, .int .u8 0), (2, .int .u8 0), (3, .int .u8 0), (4, .int .u8 0), (5, .int .u8 0)])) := hide (by
          have q := unhide HBW
          obtain ⟨o1, o2, o3⟩ := many_os g [(0, .int .u8 0), (1, .int .u8 0), (2, .int .u8 0), (3, .int .u8 0), (4, .int .u8 0), (5, .int .u8 0)] wB
          exact ⟨o1.trans q.os, o2.trans q.tape, o3.trans q.output, by rw [many_size]; exact q.size, fun k hk => (many_other g k (by omega) [(0, .int .u8 0), (1, .int .u8 0), (2, .int .u8 0), (3, .int .u8 0), (4, .int .u8 0), (5, .int .u8 0)] wB).trans (q.block k hk)⟩)
        simp only [setMany] at HQ1 HQ2 HQ3
        clear fg hcs
        go_wp2
        go_meet
        exact ⟨HQ1, HQ2, HQ3⟩
      case rest =>
        rename World => wD
        obtain ⟨HS1, HS2, HS3⟩ := hcut
        refine hK _ _ ?_
        clear hK K HR0 HRG HBW
        obtain ⟨e0, e1, e2, e3, e4, e5, e6, e7, e8, e9, e10, e11, e12⟩ := row13 (unhide HS1)
        obtain ⟨x0, x1, x2, x3, x4, x5, x6, x7, x8, x9, x10, x11, x12⟩ := row13 (unhide HS2)
        have fr := row_cells (unhide HS1)
        have f0 := fr 0
        have f1 := fr 1
        have f2 := fr 2
        have f3 := fr 3
        have f4 := fr 4
        have f5 := fr 5
        have f6 := fr 6
        have f7 := fr 7
        have f8 := fr 8
        have f9 := fr 9
        have f10 := fr 10
        have f11 := fr 11
        have f12 := fr 12
        have hne : g ≠ w.heap.size := by omega
        have hne2 : w.heap.size ≠ g := by omega
        clear fr
        obtain ⟨U, hU⟩ : ∃ U, U = setMany wD w.heap.size [(0, .int .u8 0), (1, .int .u8 0), (2, .int .u8 0), (3, .int .u8 0), (4, .int .u8 0), (5, .int .u8 0), (6, .string ⟨#[107, 101, 114, 110, 101, 108]⟩), (7, .int .i64 600000), (8, .string dg), (9, .int .i64 8), (10, .int .i64 1), (11, .int .i64 16), (12, .int .i64 16)] := ⟨_, rfl⟩
        have hcs : setCs #[.int .u8 0, .int .u8 0, .int .u8 0, .int .u8 0, .int .u8 0, .int .u8 0, .string ⟨#[]⟩, .int .i64 0, .string ⟨#[]⟩, .int .i64 0, .int .i64 0, .int .i64 0, .int .i64 0] [(0, .int .u8 0), (1, .int .u8 0), (2, .int .u8 0), (3, .int .u8 0), (4, .int .u8 0), (5, .int .u8 0), (6, .string ⟨#[107, 101, 114, 110, 101, 108]⟩), (7, .int .i64 600000), (8, .string dg), (9, .int .i64 8), (10, .int .i64 1), (11, .int .i64 16), (12, .int .i64 16)] = #[.int .u8 0, .int .u8 0, .int .u8 0, .int .u8 0, .int .u8 0, .int .u8 0, .string ⟨#[107, 101, 114, 110, 101, 108]⟩, .int .i64 600000, .string dg, .int .i64 8, .int .i64 1, .int .i64 16, .int .i64 16] := by kernel_rfl
        have hr2 : U.heap[w.heap.size]? = some (.cells #[.int .u8 0, .int .u8 0, .int .u8 0, .int .u8 0, .int .u8 0, .int .u8 0, .string ⟨#[107, 101, 114, 110, 101, 108]⟩, .int .i64 600000, .string dg, .int .i64 8, .int .i64 1, .int .i64 16, .int .i64 16] 25 (0, 0)) := by
          have q := many_row w.heap.size [(0, .int .u8 0), (1, .int .u8 0), (2, .int .u8 0), (3, .int .u8 0), (4, .int .u8 0), (5, .int .u8 0), (6, .string ⟨#[107, 101, 114, 110, 101, 108]⟩), (7, .int .i64 600000), (8, .string dg), (9, .int .i64 8), (10, .int .i64 1), (11, .int .i64 16), (12, .int .i64 16)] wD _ (unhide HS1)
          rw [hcs] at q
          rw [hU, q]
        have HW : Hid (Below w.heap.size w U) := hide (by
          have q := unhide HS3
          obtain ⟨o4, o5, o6⟩ := many_os w.heap.size [(0, .int .u8 0), (1, .int .u8 0), (2, .int .u8 0), (3, .int .u8 0), (4, .int .u8 0), (5, .int .u8 0), (6, .string ⟨#[107, 101, 114, 110, 101, 108]⟩), (7, .int .i64 600000), (8, .string dg), (9, .int .i64 8), (10, .int .i64 1), (11, .int .i64 16), (12, .int .i64 16)] wD
          rw [hU]
          exact ⟨o4.trans q.os, o5.trans q.tape, o6.trans q.output, by rw [many_size]; exact q.size, fun k hk => (many_other _ k (by omega) [(0, .int .u8 0), (1, .int .u8 0), (2, .int .u8 0), (3, .int .u8 0), (4, .int .u8 0), (5, .int .u8 0), (6, .string ⟨#[107, 101, 114, 110, 101, 108]⟩), (7, .int .i64 600000), (8, .string dg), (9, .int .i64 8), (10, .int .i64 1), (11, .int .i64 16), (12, .int .i64 16)] _).trans (q.block k hk)⟩)
        obtain ⟨r0, r1, r2, r3, r4, r5, r6, r7, r8, r9, r10, r11, r12⟩ := row13 hr2
        simp only [setMany] at hU
        have HU := hide hU
        clear hU hcs hr2
        go_wp2
        rw [← unhide HU]
        refine bodyPost_ret (v := .agg #[.int .u8 0, .int .u8 0, .int .u8 0, .int .u8 0, .int .u8 0, .int .u8 0, .string ⟨#[107, 101, 114, 110, 101, 108]⟩, .int .i64 600000, .string dg, .int .i64 8, .int .i64 1, .int .i64 16, .int .i64 16]) (by simp [results, Tryz.results11, go_sem, r0, r1, r2, r3, r4, r5, r6, r7, r8, r9, r10, r11, r12]) rfl ?_
        exact ⟨rfl, unhide HW⟩
set_option maxHeartbeats 2000000 in
set_option maxRecDepth 10000 in
theorem changed_1 (dg : ByteArray) (w : World) (HC : Hid (Calls Tryz.prog 5 #[.string ⟨#[]⟩, .int .i64 8, .int .i64 1] (w.alloc (.cells #[.int .u8 0, .int .u8 0, .int .u8 0, .int .u8 0, .int .u8 0, .int .u8 0, .string ⟨#[]⟩, .int .i64 0, .string ⟨#[]⟩, .int .i64 0, .int .i64 0, .int .i64 0, .int .i64 0] 25)) fun e w' => e = .returned (.agg #[.int .u8 2, .int .u8 0, .int .u8 0, .int .u8 0, .int .u8 0, .int .u8 42, .string ⟨#[107, 101, 114, 110, 101, 108]⟩, .int .i64 600000, .string dg, .int .i64 8, .int .i64 1, .int .i64 16, .int .i64 16]) ∧ Below (w.alloc (.cells #[.int .u8 0, .int .u8 0, .int .u8 0, .int .u8 0, .int .u8 0, .int .u8 0, .string ⟨#[]⟩, .int .i64 0, .string ⟨#[]⟩, .int .i64 0, .int .i64 0, .int .i64 0, .int .i64 0] 25)).heap.size (w.alloc (.cells #[.int .u8 0, .int .u8 0, .int .u8 0, .int .u8 0, .int .u8 0, .int .u8 0, .string ⟨#[]⟩, .int .i64 0, .string ⟨#[]⟩, .int .i64 0, .int .i64 0, .int .i64 0, .int .i64 0] 25)) w')) :
    Calls Tryz.prog 11 #[.int .i64 1] w fun e w' => e = .returned (.agg #[.int .u8 1, .int .u8 0, .int .u8 0, .int .u8 0, .int .u8 0, .int .u8 42, .string ⟨#[107, 101, 114, 110, 101, 108]⟩, .int .i64 600000, .string dg, .int .i64 8, .int .i64 1, .int .i64 16, .int .i64 16]) ∧ Below w.heap.size w w' := by
  go_enter Tryz.func11, Tryz.ntmps11
  refine wp_seq_k (fun K hK => ?_)
  go_cut [2] (fun v2 wc => v2 = .pointer (some ⟨w.heap.size, 0, none⟩) ∧ wc = w.alloc (.cells #[.int .u8 0, .int .u8 0, .int .u8 0, .int .u8 0, .int .u8 0, .int .u8 0, .string ⟨#[]⟩, .int .i64 0, .string ⟨#[]⟩, .int .i64 0, .int .i64 0, .int .i64 0, .int .i64 0] 25))
  case first =>
    go_wp2
    go_meet
    exact ⟨rfl, rfl⟩
  case rest =>
    rename World => wA
    obtain ⟨rfl, rfl⟩ := hcut
    refine hK _ _ ?_
    clear hK K
    refine wp_seq_k (fun K hK => ?_)
    go_cut [3] (fun v3 wc => ∃ g, v3 = .pointer (some ⟨g, 0, none⟩) ∧ w.heap.size < g ∧ Hid (wc.heap[w.heap.size]? = some (.cells #[.int .u8 0, .int .u8 0, .int .u8 0, .int .u8 0, .int .u8 0, .int .u8 0, .string ⟨#[]⟩, .int .i64 0, .string ⟨#[]⟩, .int .i64 0, .int .i64 0, .int .i64 0, .int .i64 0] 25 (0, 0))) ∧ Hid (wc.heap[g]? = some (.cells #[.int .u8 2, .int .u8 0, .int .u8 0, .int .u8 0, .int .u8 0, .int .u8 42, .string ⟨#[107, 101, 114, 110, 101, 108]⟩, .int .i64 600000, .string dg, .int .i64 8, .int .i64 1, .int .i64 16, .int .i64 16] 25 (0, 0))) ∧ Hid (Below w.heap.size w wc))
    case first =>
      go_wp2_with fail
      refine (unhide HC).mono ?_
      rintro ee u ⟨rfl, hb⟩
      have HRO := hide ((hb.block w.heap.size (by simp)).trans (heap_alloc_new w (.cells #[.int .u8 0, .int .u8 0, .int .u8 0, .int .u8 0, .int .u8 0, .int .u8 0, .string ⟨#[]⟩, .int .i64 0, .string ⟨#[]⟩, .int .i64 0, .int .i64 0, .int .i64 0, .int .i64 0] 25)))
      have HB := hide (((Below.refl w.heap.size w).alloc (Nat.le_refl _) _).trans (hb.mono (by simp)))
      have hz := lt_of_block (unhide HRO)
      clear hb HC
      go_wp2
      go_meet
      exact ⟨_, rfl, hz, hide ((Below.heap_alloc _ _ _ hz).trans (unhide HRO)), hide (heap_alloc_new u _), hide ((unhide HB).alloc (by omega) _)⟩
    case rest =>
      rename World => wB
      obtain ⟨g, rfl, hgz, HR0, HRG, HBW⟩ := hcut
      refine hK _ _ ?_
      clear hK K HC
      refine wp_seq_k (fun K hK => ?_)
      go_cut [] (fun wc => Hid (wc.heap[w.heap.size]? = some (.cells #[.int .u8 0, .int .u8 0, .int .u8 0, .int .u8 0, .int .u8 0, .int .u8 0, .string ⟨#[]⟩, .int .i64 0, .string ⟨#[]⟩, .int .i64 0, .int .i64 0, .int .i64 0, .int .i64 0] 25 (0, 0))) ∧ Hid (wc.heap[g]? = some (.cells #[.int .u8 1, .int .u8 0, .int .u8 0, .int .u8 0, .int .u8 0, .int .u8 42, .string ⟨#[107, 101, 114, 110, 101, 108]⟩, .int .i64 600000, .string dg, .int .i64 8, .int .i64 1, .int .i64 16, .int .i64 16] 25 (0, 0))) ∧ Hid (Below w.heap.size w wc))
      case first =>
        obtain ⟨x0, x1, x2, x3, x4, x5, x6, x7, x8, x9, x10, x11, x12⟩ := row13 (unhide HRG)
        have fg := row_cells (unhide HRG)
        have h0 := fg 0
        have h1 := fg 1
        have h2 := fg 2
        have h3 := fg 3
        have h4 := fg 4
        have h5 := fg 5
        have h6 := fg 6
        have h7 := fg 7
        have h8 := fg 8
        have h9 := fg 9
        have h10 := fg 10
        have h11 := fg 11
        have h12 := fg 12
        have hcs : setCs #[.int .u8 2, .int .u8 0, .int .u8 0, .int .u8 0, .int .u8 0, .int .u8 42, .string ⟨#[107, 101, 114, 110, 101, 108]⟩, .int .i64 600000, .string dg, .int .i64 8, .int .i64 1, .int .i64 16, .int .i64 16] [(0, .int .u8 1)] = #[.int .u8 1, .int .u8 0, .int .u8 0, .int .u8 0, .int .u8 0, .int .u8 42, .string ⟨#[107, 101, 114, 110, 101, 108]⟩, .int .i64 600000, .string dg, .int .i64 8, .int .i64 1, .int .i64 16, .int .i64 16] := by kernel_rfl
        have HQ1 : Hid ((setMany wB g [(0, .int .u8 1)]).heap[w.heap.size]? = some (.cells #[.int .u8 0, .int .u8 0, .int .u8 0, .int .u8 0, .int .u8 0, .int .u8 0, .string ⟨#[]⟩, .int .i64 0, .string ⟨#[]⟩, .int .i64 0, .int .i64 0, .int .i64 0, .int .i64 0] 25 (0, 0))) := hide ((many_other g _ (by omega) [(0, .int .u8 1)] wB).trans (unhide HR0))
        have HQ2 : Hid ((setMany wB g [(0, .int .u8 1)]).heap[g]? = some (.cells #[.int .u8 1, .int .u8 0, .int .u8 0, .int .u8 0, .int .u8 0, .int .u8 42, .string ⟨#[107, 101, 114, 110, 101, 108]⟩, .int .i64 600000, .string dg, .int .i64 8, .int .i64 1, .int .i64 16, .int .i64 16] 25 (0, 0))) := hide (by
          have q := many_row g [(0, .int .u8 1)] wB _ (unhide HRG)
          rw [hcs] at q; exact q)
        have HQ3 : Hid (Below w.heap.size w (setMany wB g [(0, .int .u8 1)])) := hide (by
          have q := unhide HBW
          obtain ⟨o1, o2, o3⟩ := many_os g [(0, .int .u8 1)] wB
          exact ⟨o1.trans q.os, o2.trans q.tape, o3.trans q.output, by rw [many_size]; exact q.size, fun k hk => (many_other g k (by omega) [(0, .int .u8 1)] wB).trans (q.block k hk)⟩)
        simp only [setMany] at HQ1 HQ2 HQ3
        clear fg hcs
        go_wp2
        go_meet
        exact ⟨HQ1, HQ2, HQ3⟩
      case rest =>
        rename World => wD
        obtain ⟨HS1, HS2, HS3⟩ := hcut
        refine hK _ _ ?_
        clear hK K HR0 HRG HBW
        obtain ⟨e0, e1, e2, e3, e4, e5, e6, e7, e8, e9, e10, e11, e12⟩ := row13 (unhide HS1)
        obtain ⟨x0, x1, x2, x3, x4, x5, x6, x7, x8, x9, x10, x11, x12⟩ := row13 (unhide HS2)
        have fr := row_cells (unhide HS1)
        have f0 := fr 0
        have f1 := fr 1
        have f2 := fr 2
        have f3 := fr 3
        have f4 := fr 4
        have f5 := fr 5
        have f6 := fr 6
        have f7 := fr 7
        have f8 := fr 8
        have f9 := fr 9
        have f10 := fr 10
        have f11 := fr 11
        have f12 := fr 12
        have hne : g ≠ w.heap.size := by omega
        have hne2 : w.heap.size ≠ g := by omega
        clear fr
        obtain ⟨U, hU⟩ : ∃ U, U = setMany wD w.heap.size [(0, .int .u8 1), (1, .int .u8 0), (2, .int .u8 0), (3, .int .u8 0), (4, .int .u8 0), (5, .int .u8 42), (6, .string ⟨#[107, 101, 114, 110, 101, 108]⟩), (7, .int .i64 600000), (8, .string dg), (9, .int .i64 8), (10, .int .i64 1), (11, .int .i64 16), (12, .int .i64 16)] := ⟨_, rfl⟩
        have hcs : setCs #[.int .u8 0, .int .u8 0, .int .u8 0, .int .u8 0, .int .u8 0, .int .u8 0, .string ⟨#[]⟩, .int .i64 0, .string ⟨#[]⟩, .int .i64 0, .int .i64 0, .int .i64 0, .int .i64 0] [(0, .int .u8 1), (1, .int .u8 0), (2, .int .u8 0), (3, .int .u8 0), (4, .int .u8 0), (5, .int .u8 42), (6, .string ⟨#[107, 101, 114, 110, 101, 108]⟩), (7, .int .i64 600000), (8, .string dg), (9, .int .i64 8), (10, .int .i64 1), (11, .int .i64 16), (12, .int .i64 16)] = #[.int .u8 1, .int .u8 0, .int .u8 0, .int .u8 0, .int .u8 0, .int .u8 42, .string ⟨#[107, 101, 114, 110, 101, 108]⟩, .int .i64 600000, .string dg, .int .i64 8, .int .i64 1, .int .i64 16, .int .i64 16] := by kernel_rfl
        have hr2 : U.heap[w.heap.size]? = some (.cells #[.int .u8 1, .int .u8 0, .int .u8 0, .int .u8 0, .int .u8 0, .int .u8 42, .string ⟨#[107, 101, 114, 110, 101, 108]⟩, .int .i64 600000, .string dg, .int .i64 8, .int .i64 1, .int .i64 16, .int .i64 16] 25 (0, 0)) := by
          have q := many_row w.heap.size [(0, .int .u8 1), (1, .int .u8 0), (2, .int .u8 0), (3, .int .u8 0), (4, .int .u8 0), (5, .int .u8 42), (6, .string ⟨#[107, 101, 114, 110, 101, 108]⟩), (7, .int .i64 600000), (8, .string dg), (9, .int .i64 8), (10, .int .i64 1), (11, .int .i64 16), (12, .int .i64 16)] wD _ (unhide HS1)
          rw [hcs] at q
          rw [hU, q]
        have HW : Hid (Below w.heap.size w U) := hide (by
          have q := unhide HS3
          obtain ⟨o4, o5, o6⟩ := many_os w.heap.size [(0, .int .u8 1), (1, .int .u8 0), (2, .int .u8 0), (3, .int .u8 0), (4, .int .u8 0), (5, .int .u8 42), (6, .string ⟨#[107, 101, 114, 110, 101, 108]⟩), (7, .int .i64 600000), (8, .string dg), (9, .int .i64 8), (10, .int .i64 1), (11, .int .i64 16), (12, .int .i64 16)] wD
          rw [hU]
          exact ⟨o4.trans q.os, o5.trans q.tape, o6.trans q.output, by rw [many_size]; exact q.size, fun k hk => (many_other _ k (by omega) [(0, .int .u8 1), (1, .int .u8 0), (2, .int .u8 0), (3, .int .u8 0), (4, .int .u8 0), (5, .int .u8 42), (6, .string ⟨#[107, 101, 114, 110, 101, 108]⟩), (7, .int .i64 600000), (8, .string dg), (9, .int .i64 8), (10, .int .i64 1), (11, .int .i64 16), (12, .int .i64 16)] _).trans (q.block k hk)⟩)
        obtain ⟨r0, r1, r2, r3, r4, r5, r6, r7, r8, r9, r10, r11, r12⟩ := row13 hr2
        simp only [setMany] at hU
        have HU := hide hU
        clear hU hcs hr2
        go_wp2
        rw [← unhide HU]
        refine bodyPost_ret (v := .agg #[.int .u8 1, .int .u8 0, .int .u8 0, .int .u8 0, .int .u8 0, .int .u8 42, .string ⟨#[107, 101, 114, 110, 101, 108]⟩, .int .i64 600000, .string dg, .int .i64 8, .int .i64 1, .int .i64 16, .int .i64 16]) (by simp [results, Tryz.results11, go_sem, r0, r1, r2, r3, r4, r5, r6, r7, r8, r9, r10, r11, r12]) rfl ?_
        exact ⟨rfl, unhide HW⟩
set_option maxHeartbeats 2000000 in
set_option maxRecDepth 10000 in
theorem changed_2 (dg : ByteArray) (w : World) (HC : Hid (Calls Tryz.prog 5 #[.string ⟨#[]⟩, .int .i64 8, .int .i64 1] (w.alloc (.cells #[.int .u8 0, .int .u8 0, .int .u8 0, .int .u8 0, .int .u8 0, .int .u8 0, .string ⟨#[]⟩, .int .i64 0, .string ⟨#[]⟩, .int .i64 0, .int .i64 0, .int .i64 0, .int .i64 0] 25)) fun e w' => e = .returned (.agg #[.int .u8 2, .int .u8 0, .int .u8 0, .int .u8 0, .int .u8 0, .int .u8 42, .string ⟨#[107, 101, 114, 110, 101, 108]⟩, .int .i64 600000, .string dg, .int .i64 8, .int .i64 1, .int .i64 16, .int .i64 16]) ∧ Below (w.alloc (.cells #[.int .u8 0, .int .u8 0, .int .u8 0, .int .u8 0, .int .u8 0, .int .u8 0, .string ⟨#[]⟩, .int .i64 0, .string ⟨#[]⟩, .int .i64 0, .int .i64 0, .int .i64 0, .int .i64 0] 25)).heap.size (w.alloc (.cells #[.int .u8 0, .int .u8 0, .int .u8 0, .int .u8 0, .int .u8 0, .int .u8 0, .string ⟨#[]⟩, .int .i64 0, .string ⟨#[]⟩, .int .i64 0, .int .i64 0, .int .i64 0, .int .i64 0] 25)) w')) :
    Calls Tryz.prog 11 #[.int .i64 2] w fun e w' => e = .returned (.agg #[.int .u8 2, .int .u8 0, .int .u8 0, .int .u8 0, .int .u8 0, .int .u8 42, .string ⟨#[]⟩, .int .i64 600000, .string dg, .int .i64 8, .int .i64 1, .int .i64 16, .int .i64 16]) ∧ Below w.heap.size w w' := by
  go_enter Tryz.func11, Tryz.ntmps11
  refine wp_seq_k (fun K hK => ?_)
  go_cut [2] (fun v2 wc => v2 = .pointer (some ⟨w.heap.size, 0, none⟩) ∧ wc = w.alloc (.cells #[.int .u8 0, .int .u8 0, .int .u8 0, .int .u8 0, .int .u8 0, .int .u8 0, .string ⟨#[]⟩, .int .i64 0, .string ⟨#[]⟩, .int .i64 0, .int .i64 0, .int .i64 0, .int .i64 0] 25))
  case first =>
    go_wp2
    go_meet
    exact ⟨rfl, rfl⟩
  case rest =>
    rename World => wA
    obtain ⟨rfl, rfl⟩ := hcut
    refine hK _ _ ?_
    clear hK K
    refine wp_seq_k (fun K hK => ?_)
    go_cut [3] (fun v3 wc => ∃ g, v3 = .pointer (some ⟨g, 0, none⟩) ∧ w.heap.size < g ∧ Hid (wc.heap[w.heap.size]? = some (.cells #[.int .u8 0, .int .u8 0, .int .u8 0, .int .u8 0, .int .u8 0, .int .u8 0, .string ⟨#[]⟩, .int .i64 0, .string ⟨#[]⟩, .int .i64 0, .int .i64 0, .int .i64 0, .int .i64 0] 25 (0, 0))) ∧ Hid (wc.heap[g]? = some (.cells #[.int .u8 2, .int .u8 0, .int .u8 0, .int .u8 0, .int .u8 0, .int .u8 42, .string ⟨#[107, 101, 114, 110, 101, 108]⟩, .int .i64 600000, .string dg, .int .i64 8, .int .i64 1, .int .i64 16, .int .i64 16] 25 (0, 0))) ∧ Hid (Below w.heap.size w wc))
    case first =>
      go_wp2_with fail
      refine (unhide HC).mono ?_
      rintro ee u ⟨rfl, hb⟩
      have HRO := hide ((hb.block w.heap.size (by simp)).trans (heap_alloc_new w (.cells #[.int .u8 0, .int .u8 0, .int .u8 0, .int .u8 0, .int .u8 0, .int .u8 0, .string ⟨#[]⟩, .int .i64 0, .string ⟨#[]⟩, .int .i64 0, .int .i64 0, .int .i64 0, .int .i64 0] 25)))
      have HB := hide (((Below.refl w.heap.size w).alloc (Nat.le_refl _) _).trans (hb.mono (by simp)))
      have hz := lt_of_block (unhide HRO)
      clear hb HC
      go_wp2
      go_meet
      exact ⟨_, rfl, hz, hide ((Below.heap_alloc _ _ _ hz).trans (unhide HRO)), hide (heap_alloc_new u _), hide ((unhide HB).alloc (by omega) _)⟩
    case rest =>
      rename World => wB
      obtain ⟨g, rfl, hgz, HR0, HRG, HBW⟩ := hcut
      refine hK _ _ ?_
      clear hK K HC
      refine wp_seq_k (fun K hK => ?_)
      go_cut [] (fun wc => Hid (wc.heap[w.heap.size]? = some (.cells #[.int .u8 0, .int .u8 0, .int .u8 0, .int .u8 0, .int .u8 0, .int .u8 0, .string ⟨#[]⟩, .int .i64 0, .string ⟨#[]⟩, .int .i64 0, .int .i64 0, .int .i64 0, .int .i64 0] 25 (0, 0))) ∧ Hid (wc.heap[g]? = some (.cells #[.int .u8 2, .int .u8 0, .int .u8 0, .int .u8 0, .int .u8 0, .int .u8 42, .string ⟨#[]⟩, .int .i64 600000, .string dg, .int .i64 8, .int .i64 1, .int .i64 16, .int .i64 16] 25 (0, 0))) ∧ Hid (Below w.heap.size w wc))
      case first =>
        obtain ⟨x0, x1, x2, x3, x4, x5, x6, x7, x8, x9, x10, x11, x12⟩ := row13 (unhide HRG)
        have fg := row_cells (unhide HRG)
        have h0 := fg 0
        have h1 := fg 1
        have h2 := fg 2
        have h3 := fg 3
        have h4 := fg 4
        have h5 := fg 5
        have h6 := fg 6
        have h7 := fg 7
        have h8 := fg 8
        have h9 := fg 9
        have h10 := fg 10
        have h11 := fg 11
        have h12 := fg 12
        have hcs : setCs #[.int .u8 2, .int .u8 0, .int .u8 0, .int .u8 0, .int .u8 0, .int .u8 42, .string ⟨#[107, 101, 114, 110, 101, 108]⟩, .int .i64 600000, .string dg, .int .i64 8, .int .i64 1, .int .i64 16, .int .i64 16] [(6, .string ⟨#[]⟩)] = #[.int .u8 2, .int .u8 0, .int .u8 0, .int .u8 0, .int .u8 0, .int .u8 42, .string ⟨#[]⟩, .int .i64 600000, .string dg, .int .i64 8, .int .i64 1, .int .i64 16, .int .i64 16] := by kernel_rfl
        have HQ1 : Hid ((setMany wB g [(6, .string ⟨#[]⟩)]).heap[w.heap.size]? = some (.cells #[.int .u8 0, .int .u8 0, .int .u8 0, .int .u8 0, .int .u8 0, .int .u8 0, .string ⟨#[]⟩, .int .i64 0, .string ⟨#[]⟩, .int .i64 0, .int .i64 0, .int .i64 0, .int .i64 0] 25 (0, 0))) := hide ((many_other g _ (by omega) [(6, .string ⟨#[]⟩)] wB).trans (unhide HR0))
        have HQ2 : Hid ((setMany wB g [(6, .string ⟨#[]⟩)]).heap[g]? = some (.cells #[.int .u8 2, .int .u8 0, .int .u8 0, .int .u8 0, .int .u8 0, .int .u8 42, .string ⟨#[]⟩, .int .i64 600000, .string dg, .int .i64 8, .int .i64 1, .int .i64 16, .int .i64 16] 25 (0, 0))) := hide (by
          have q := many_row g [(6, .string ⟨#[]⟩)] wB _ (unhide HRG)
          rw [hcs] at q; exact q)
        have HQ3 : Hid (Below w.heap.size w (setMany wB g [(6, .string ⟨#[]⟩)])) := hide (by
          have q := unhide HBW
          obtain ⟨o1, o2, o3⟩ := many_os g [(6, .string ⟨#[]⟩)] wB
          exact ⟨o1.trans q.os, o2.trans q.tape, o3.trans q.output, by rw [many_size]; exact q.size, fun k hk => (many_other g k (by omega) [(6, .string ⟨#[]⟩)] wB).trans (q.block k hk)⟩)
        simp only [setMany] at HQ1 HQ2 HQ3
        clear fg hcs
        go_wp2
        go_meet
        exact ⟨HQ1, HQ2, HQ3⟩
      case rest =>
        rename World => wD
        obtain ⟨HS1, HS2, HS3⟩ := hcut
        refine hK _ _ ?_
        clear hK K HR0 HRG HBW
        obtain ⟨e0, e1, e2, e3, e4, e5, e6, e7, e8, e9, e10, e11, e12⟩ := row13 (unhide HS1)
        obtain ⟨x0, x1, x2, x3, x4, x5, x6, x7, x8, x9, x10, x11, x12⟩ := row13 (unhide HS2)
        have fr := row_cells (unhide HS1)
        have f0 := fr 0
        have f1 := fr 1
        have f2 := fr 2
        have f3 := fr 3
        have f4 := fr 4
        have f5 := fr 5
        have f6 := fr 6
        have f7 := fr 7
        have f8 := fr 8
        have f9 := fr 9
        have f10 := fr 10
        have f11 := fr 11
        have f12 := fr 12
        have hne : g ≠ w.heap.size := by omega
        have hne2 : w.heap.size ≠ g := by omega
        clear fr
        obtain ⟨U, hU⟩ : ∃ U, U = setMany wD w.heap.size [(0, .int .u8 2), (1, .int .u8 0), (2, .int .u8 0), (3, .int .u8 0), (4, .int .u8 0), (5, .int .u8 42), (6, .string ⟨#[]⟩), (7, .int .i64 600000), (8, .string dg), (9, .int .i64 8), (10, .int .i64 1), (11, .int .i64 16), (12, .int .i64 16)] := ⟨_, rfl⟩
        have hcs : setCs #[.int .u8 0, .int .u8 0, .int .u8 0, .int .u8 0, .int .u8 0, .int .u8 0, .string ⟨#[]⟩, .int .i64 0, .string ⟨#[]⟩, .int .i64 0, .int .i64 0, .int .i64 0, .int .i64 0] [(0, .int .u8 2), (1, .int .u8 0), (2, .int .u8 0), (3, .int .u8 0), (4, .int .u8 0), (5, .int .u8 42), (6, .string ⟨#[]⟩), (7, .int .i64 600000), (8, .string dg), (9, .int .i64 8), (10, .int .i64 1), (11, .int .i64 16), (12, .int .i64 16)] = #[.int .u8 2, .int .u8 0, .int .u8 0, .int .u8 0, .int .u8 0, .int .u8 42, .string ⟨#[]⟩, .int .i64 600000, .string dg, .int .i64 8, .int .i64 1, .int .i64 16, .int .i64 16] := by kernel_rfl
        have hr2 : U.heap[w.heap.size]? = some (.cells #[.int .u8 2, .int .u8 0, .int .u8 0, .int .u8 0, .int .u8 0, .int .u8 42, .string ⟨#[]⟩, .int .i64 600000, .string dg, .int .i64 8, .int .i64 1, .int .i64 16, .int .i64 16] 25 (0, 0)) := by
          have q := many_row w.heap.size [(0, .int .u8 2), (1, .int .u8 0), (2, .int .u8 0), (3, .int .u8 0), (4, .int .u8 0), (5, .int .u8 42), (6, .string ⟨#[]⟩), (7, .int .i64 600000), (8, .string dg), (9, .int .i64 8), (10, .int .i64 1), (11, .int .i64 16), (12, .int .i64 16)] wD _ (unhide HS1)
          rw [hcs] at q
          rw [hU, q]
        have HW : Hid (Below w.heap.size w U) := hide (by
          have q := unhide HS3
          obtain ⟨o4, o5, o6⟩ := many_os w.heap.size [(0, .int .u8 2), (1, .int .u8 0), (2, .int .u8 0), (3, .int .u8 0), (4, .int .u8 0), (5, .int .u8 42), (6, .string ⟨#[]⟩), (7, .int .i64 600000), (8, .string dg), (9, .int .i64 8), (10, .int .i64 1), (11, .int .i64 16), (12, .int .i64 16)] wD
          rw [hU]
          exact ⟨o4.trans q.os, o5.trans q.tape, o6.trans q.output, by rw [many_size]; exact q.size, fun k hk => (many_other _ k (by omega) [(0, .int .u8 2), (1, .int .u8 0), (2, .int .u8 0), (3, .int .u8 0), (4, .int .u8 0), (5, .int .u8 42), (6, .string ⟨#[]⟩), (7, .int .i64 600000), (8, .string dg), (9, .int .i64 8), (10, .int .i64 1), (11, .int .i64 16), (12, .int .i64 16)] _).trans (q.block k hk)⟩)
        obtain ⟨r0, r1, r2, r3, r4, r5, r6, r7, r8, r9, r10, r11, r12⟩ := row13 hr2
        simp only [setMany] at hU
        have HU := hide hU
        clear hU hcs hr2
        go_wp2
        rw [← unhide HU]
        refine bodyPost_ret (v := .agg #[.int .u8 2, .int .u8 0, .int .u8 0, .int .u8 0, .int .u8 0, .int .u8 42, .string ⟨#[]⟩, .int .i64 600000, .string dg, .int .i64 8, .int .i64 1, .int .i64 16, .int .i64 16]) (by simp [results, Tryz.results11, go_sem, r0, r1, r2, r3, r4, r5, r6, r7, r8, r9, r10, r11, r12]) rfl ?_
        exact ⟨rfl, unhide HW⟩
set_option maxHeartbeats 2000000 in
set_option maxRecDepth 10000 in
theorem changed_3 (dg : ByteArray) (w : World) (HC : Hid (Calls Tryz.prog 5 #[.string ⟨#[]⟩, .int .i64 8, .int .i64 1] (w.alloc (.cells #[.int .u8 0, .int .u8 0, .int .u8 0, .int .u8 0, .int .u8 0, .int .u8 0, .string ⟨#[]⟩, .int .i64 0, .string ⟨#[]⟩, .int .i64 0, .int .i64 0, .int .i64 0, .int .i64 0] 25)) fun e w' => e = .returned (.agg #[.int .u8 2, .int .u8 0, .int .u8 0, .int .u8 0, .int .u8 0, .int .u8 42, .string ⟨#[107, 101, 114, 110, 101, 108]⟩, .int .i64 600000, .string dg, .int .i64 8, .int .i64 1, .int .i64 16, .int .i64 16]) ∧ Below (w.alloc (.cells #[.int .u8 0, .int .u8 0, .int .u8 0, .int .u8 0, .int .u8 0, .int .u8 0, .string ⟨#[]⟩, .int .i64 0, .string ⟨#[]⟩, .int .i64 0, .int .i64 0, .int .i64 0, .int .i64 0] 25)).heap.size (w.alloc (.cells #[.int .u8 0, .int .u8 0, .int .u8 0, .int .u8 0, .int .u8 0, .int .u8 0, .string ⟨#[]⟩, .int .i64 0, .string ⟨#[]⟩, .int .i64 0, .int .i64 0, .int .i64 0, .int .i64 0] 25)) w')) :
    Calls Tryz.prog 11 #[.int .i64 3] w fun e w' => e = .returned (.agg #[.int .u8 2, .int .u8 0, .int .u8 0, .int .u8 0, .int .u8 0, .int .u8 42, .string ⟨#[97, 32, 98]⟩, .int .i64 600000, .string dg, .int .i64 8, .int .i64 1, .int .i64 16, .int .i64 16]) ∧ Below w.heap.size w w' := by
  go_enter Tryz.func11, Tryz.ntmps11
  refine wp_seq_k (fun K hK => ?_)
  go_cut [2] (fun v2 wc => v2 = .pointer (some ⟨w.heap.size, 0, none⟩) ∧ wc = w.alloc (.cells #[.int .u8 0, .int .u8 0, .int .u8 0, .int .u8 0, .int .u8 0, .int .u8 0, .string ⟨#[]⟩, .int .i64 0, .string ⟨#[]⟩, .int .i64 0, .int .i64 0, .int .i64 0, .int .i64 0] 25))
  case first =>
    go_wp2
    go_meet
    exact ⟨rfl, rfl⟩
  case rest =>
    rename World => wA
    obtain ⟨rfl, rfl⟩ := hcut
    refine hK _ _ ?_
    clear hK K
    refine wp_seq_k (fun K hK => ?_)
    go_cut [3] (fun v3 wc => ∃ g, v3 = .pointer (some ⟨g, 0, none⟩) ∧ w.heap.size < g ∧ Hid (wc.heap[w.heap.size]? = some (.cells #[.int .u8 0, .int .u8 0, .int .u8 0, .int .u8 0, .int .u8 0, .int .u8 0, .string ⟨#[]⟩, .int .i64 0, .string ⟨#[]⟩, .int .i64 0, .int .i64 0, .int .i64 0, .int .i64 0] 25 (0, 0))) ∧ Hid (wc.heap[g]? = some (.cells #[.int .u8 2, .int .u8 0, .int .u8 0, .int .u8 0, .int .u8 0, .int .u8 42, .string ⟨#[107, 101, 114, 110, 101, 108]⟩, .int .i64 600000, .string dg, .int .i64 8, .int .i64 1, .int .i64 16, .int .i64 16] 25 (0, 0))) ∧ Hid (Below w.heap.size w wc))
    case first =>
      go_wp2_with fail
      refine (unhide HC).mono ?_
      rintro ee u ⟨rfl, hb⟩
      have HRO := hide ((hb.block w.heap.size (by simp)).trans (heap_alloc_new w (.cells #[.int .u8 0, .int .u8 0, .int .u8 0, .int .u8 0, .int .u8 0, .int .u8 0, .string ⟨#[]⟩, .int .i64 0, .string ⟨#[]⟩, .int .i64 0, .int .i64 0, .int .i64 0, .int .i64 0] 25)))
      have HB := hide (((Below.refl w.heap.size w).alloc (Nat.le_refl _) _).trans (hb.mono (by simp)))
      have hz := lt_of_block (unhide HRO)
      clear hb HC
      go_wp2
      go_meet
      exact ⟨_, rfl, hz, hide ((Below.heap_alloc _ _ _ hz).trans (unhide HRO)), hide (heap_alloc_new u _), hide ((unhide HB).alloc (by omega) _)⟩
    case rest =>
      rename World => wB
      obtain ⟨g, rfl, hgz, HR0, HRG, HBW⟩ := hcut
      refine hK _ _ ?_
      clear hK K HC
      refine wp_seq_k (fun K hK => ?_)
      go_cut [] (fun wc => Hid (wc.heap[w.heap.size]? = some (.cells #[.int .u8 0, .int .u8 0, .int .u8 0, .int .u8 0, .int .u8 0, .int .u8 0, .string ⟨#[]⟩, .int .i64 0, .string ⟨#[]⟩, .int .i64 0, .int .i64 0, .int .i64 0, .int .i64 0] 25 (0, 0))) ∧ Hid (wc.heap[g]? = some (.cells #[.int .u8 2, .int .u8 0, .int .u8 0, .int .u8 0, .int .u8 0, .int .u8 42, .string ⟨#[97, 32, 98]⟩, .int .i64 600000, .string dg, .int .i64 8, .int .i64 1, .int .i64 16, .int .i64 16] 25 (0, 0))) ∧ Hid (Below w.heap.size w wc))
      case first =>
        obtain ⟨x0, x1, x2, x3, x4, x5, x6, x7, x8, x9, x10, x11, x12⟩ := row13 (unhide HRG)
        have fg := row_cells (unhide HRG)
        have h0 := fg 0
        have h1 := fg 1
        have h2 := fg 2
        have h3 := fg 3
        have h4 := fg 4
        have h5 := fg 5
        have h6 := fg 6
        have h7 := fg 7
        have h8 := fg 8
        have h9 := fg 9
        have h10 := fg 10
        have h11 := fg 11
        have h12 := fg 12
        have hcs : setCs #[.int .u8 2, .int .u8 0, .int .u8 0, .int .u8 0, .int .u8 0, .int .u8 42, .string ⟨#[107, 101, 114, 110, 101, 108]⟩, .int .i64 600000, .string dg, .int .i64 8, .int .i64 1, .int .i64 16, .int .i64 16] [(6, .string ⟨#[97, 32, 98]⟩)] = #[.int .u8 2, .int .u8 0, .int .u8 0, .int .u8 0, .int .u8 0, .int .u8 42, .string ⟨#[97, 32, 98]⟩, .int .i64 600000, .string dg, .int .i64 8, .int .i64 1, .int .i64 16, .int .i64 16] := by kernel_rfl
        have HQ1 : Hid ((setMany wB g [(6, .string ⟨#[97, 32, 98]⟩)]).heap[w.heap.size]? = some (.cells #[.int .u8 0, .int .u8 0, .int .u8 0, .int .u8 0, .int .u8 0, .int .u8 0, .string ⟨#[]⟩, .int .i64 0, .string ⟨#[]⟩, .int .i64 0, .int .i64 0, .int .i64 0, .int .i64 0] 25 (0, 0))) := hide ((many_other g _ (by omega) [(6, .string ⟨#[97, 32, 98]⟩)] wB).trans (unhide HR0))
        have HQ2 : Hid ((setMany wB g [(6, .string ⟨#[97, 32, 98]⟩)]).heap[g]? = some (.cells #[.int .u8 2, .int .u8 0, .int .u8 0, .int .u8 0, .int .u8 0, .int .u8 42, .string ⟨#[97, 32, 98]⟩, .int .i64 600000, .string dg, .int .i64 8, .int .i64 1, .int .i64 16, .int .i64 16] 25 (0, 0))) := hide (by
          have q := many_row g [(6, .string ⟨#[97, 32, 98]⟩)] wB _ (unhide HRG)
          rw [hcs] at q; exact q)
        have HQ3 : Hid (Below w.heap.size w (setMany wB g [(6, .string ⟨#[97, 32, 98]⟩)])) := hide (by
          have q := unhide HBW
          obtain ⟨o1, o2, o3⟩ := many_os g [(6, .string ⟨#[97, 32, 98]⟩)] wB
          exact ⟨o1.trans q.os, o2.trans q.tape, o3.trans q.output, by rw [many_size]; exact q.size, fun k hk => (many_other g k (by omega) [(6, .string ⟨#[97, 32, 98]⟩)] wB).trans (q.block k hk)⟩)
        simp only [setMany] at HQ1 HQ2 HQ3
        clear fg hcs
        go_wp2
        go_meet
        exact ⟨HQ1, HQ2, HQ3⟩
      case rest =>
        rename World => wD
        obtain ⟨HS1, HS2, HS3⟩ := hcut
        refine hK _ _ ?_
        clear hK K HR0 HRG HBW
        obtain ⟨e0, e1, e2, e3, e4, e5, e6, e7, e8, e9, e10, e11, e12⟩ := row13 (unhide HS1)
        obtain ⟨x0, x1, x2, x3, x4, x5, x6, x7, x8, x9, x10, x11, x12⟩ := row13 (unhide HS2)
        have fr := row_cells (unhide HS1)
        have f0 := fr 0
        have f1 := fr 1
        have f2 := fr 2
        have f3 := fr 3
        have f4 := fr 4
        have f5 := fr 5
        have f6 := fr 6
        have f7 := fr 7
        have f8 := fr 8
        have f9 := fr 9
        have f10 := fr 10
        have f11 := fr 11
        have f12 := fr 12
        have hne : g ≠ w.heap.size := by omega
        have hne2 : w.heap.size ≠ g := by omega
        clear fr
        obtain ⟨U, hU⟩ : ∃ U, U = setMany wD w.heap.size [(0, .int .u8 2), (1, .int .u8 0), (2, .int .u8 0), (3, .int .u8 0), (4, .int .u8 0), (5, .int .u8 42), (6, .string ⟨#[97, 32, 98]⟩), (7, .int .i64 600000), (8, .string dg), (9, .int .i64 8), (10, .int .i64 1), (11, .int .i64 16), (12, .int .i64 16)] := ⟨_, rfl⟩
        have hcs : setCs #[.int .u8 0, .int .u8 0, .int .u8 0, .int .u8 0, .int .u8 0, .int .u8 0, .string ⟨#[]⟩, .int .i64 0, .string ⟨#[]⟩, .int .i64 0, .int .i64 0, .int .i64 0, .int .i64 0] [(0, .int .u8 2), (1, .int .u8 0), (2, .int .u8 0), (3, .int .u8 0), (4, .int .u8 0), (5, .int .u8 42), (6, .string ⟨#[97, 32, 98]⟩), (7, .int .i64 600000), (8, .string dg), (9, .int .i64 8), (10, .int .i64 1), (11, .int .i64 16), (12, .int .i64 16)] = #[.int .u8 2, .int .u8 0, .int .u8 0, .int .u8 0, .int .u8 0, .int .u8 42, .string ⟨#[97, 32, 98]⟩, .int .i64 600000, .string dg, .int .i64 8, .int .i64 1, .int .i64 16, .int .i64 16] := by kernel_rfl
        have hr2 : U.heap[w.heap.size]? = some (.cells #[.int .u8 2, .int .u8 0, .int .u8 0, .int .u8 0, .int .u8 0, .int .u8 42, .string ⟨#[97, 32, 98]⟩, .int .i64 600000, .string dg, .int .i64 8, .int .i64 1, .int .i64 16, .int .i64 16] 25 (0, 0)) := by
          have q := many_row w.heap.size [(0, .int .u8 2), (1, .int .u8 0), (2, .int .u8 0), (3, .int .u8 0), (4, .int .u8 0), (5, .int .u8 42), (6, .string ⟨#[97, 32, 98]⟩), (7, .int .i64 600000), (8, .string dg), (9, .int .i64 8), (10, .int .i64 1), (11, .int .i64 16), (12, .int .i64 16)] wD _ (unhide HS1)
          rw [hcs] at q
          rw [hU, q]
        have HW : Hid (Below w.heap.size w U) := hide (by
          have q := unhide HS3
          obtain ⟨o4, o5, o6⟩ := many_os w.heap.size [(0, .int .u8 2), (1, .int .u8 0), (2, .int .u8 0), (3, .int .u8 0), (4, .int .u8 0), (5, .int .u8 42), (6, .string ⟨#[97, 32, 98]⟩), (7, .int .i64 600000), (8, .string dg), (9, .int .i64 8), (10, .int .i64 1), (11, .int .i64 16), (12, .int .i64 16)] wD
          rw [hU]
          exact ⟨o4.trans q.os, o5.trans q.tape, o6.trans q.output, by rw [many_size]; exact q.size, fun k hk => (many_other _ k (by omega) [(0, .int .u8 2), (1, .int .u8 0), (2, .int .u8 0), (3, .int .u8 0), (4, .int .u8 0), (5, .int .u8 42), (6, .string ⟨#[97, 32, 98]⟩), (7, .int .i64 600000), (8, .string dg), (9, .int .i64 8), (10, .int .i64 1), (11, .int .i64 16), (12, .int .i64 16)] _).trans (q.block k hk)⟩)
        obtain ⟨r0, r1, r2, r3, r4, r5, r6, r7, r8, r9, r10, r11, r12⟩ := row13 hr2
        simp only [setMany] at hU
        have HU := hide hU
        clear hU hcs hr2
        go_wp2
        rw [← unhide HU]
        refine bodyPost_ret (v := .agg #[.int .u8 2, .int .u8 0, .int .u8 0, .int .u8 0, .int .u8 0, .int .u8 42, .string ⟨#[97, 32, 98]⟩, .int .i64 600000, .string dg, .int .i64 8, .int .i64 1, .int .i64 16, .int .i64 16]) (by simp [results, Tryz.results11, go_sem, r0, r1, r2, r3, r4, r5, r6, r7, r8, r9, r10, r11, r12]) rfl ?_
        exact ⟨rfl, unhide HW⟩
set_option maxHeartbeats 2000000 in
set_option maxRecDepth 10000 in
theorem changed_4 (dg : ByteArray) (w : World) (HC : Hid (Calls Tryz.prog 5 #[.string ⟨#[]⟩, .int .i64 8, .int .i64 1] (w.alloc (.cells #[.int .u8 0, .int .u8 0, .int .u8 0, .int .u8 0, .int .u8 0, .int .u8 0, .string ⟨#[]⟩, .int .i64 0, .string ⟨#[]⟩, .int .i64 0, .int .i64 0, .int .i64 0, .int .i64 0] 25)) fun e w' => e = .returned (.agg #[.int .u8 2, .int .u8 0, .int .u8 0, .int .u8 0, .int .u8 0, .int .u8 42, .string ⟨#[107, 101, 114, 110, 101, 108]⟩, .int .i64 600000, .string dg, .int .i64 8, .int .i64 1, .int .i64 16, .int .i64 16]) ∧ Below (w.alloc (.cells #[.int .u8 0, .int .u8 0, .int .u8 0, .int .u8 0, .int .u8 0, .int .u8 0, .string ⟨#[]⟩, .int .i64 0, .string ⟨#[]⟩, .int .i64 0, .int .i64 0, .int .i64 0, .int .i64 0] 25)).heap.size (w.alloc (.cells #[.int .u8 0, .int .u8 0, .int .u8 0, .int .u8 0, .int .u8 0, .int .u8 0, .string ⟨#[]⟩, .int .i64 0, .string ⟨#[]⟩, .int .i64 0, .int .i64 0, .int .i64 0, .int .i64 0] 25)) w')) :
    Calls Tryz.prog 11 #[.int .i64 4] w fun e w' => e = .returned (.agg #[.int .u8 2, .int .u8 0, .int .u8 0, .int .u8 0, .int .u8 0, .int .u8 42, .string ⟨#[97, 98, 99, 100, 101, 102, 103, 104, 105, 106, 107, 108, 109, 110, 111, 112, 113, 114, 115, 116, 117]⟩, .int .i64 600000, .string dg, .int .i64 8, .int .i64 1, .int .i64 16, .int .i64 16]) ∧ Below w.heap.size w w' := by
  go_enter Tryz.func11, Tryz.ntmps11
  refine wp_seq_k (fun K hK => ?_)
  go_cut [2] (fun v2 wc => v2 = .pointer (some ⟨w.heap.size, 0, none⟩) ∧ wc = w.alloc (.cells #[.int .u8 0, .int .u8 0, .int .u8 0, .int .u8 0, .int .u8 0, .int .u8 0, .string ⟨#[]⟩, .int .i64 0, .string ⟨#[]⟩, .int .i64 0, .int .i64 0, .int .i64 0, .int .i64 0] 25))
  case first =>
    go_wp2
    go_meet
    exact ⟨rfl, rfl⟩
  case rest =>
    rename World => wA
    obtain ⟨rfl, rfl⟩ := hcut
    refine hK _ _ ?_
    clear hK K
    refine wp_seq_k (fun K hK => ?_)
    go_cut [3] (fun v3 wc => ∃ g, v3 = .pointer (some ⟨g, 0, none⟩) ∧ w.heap.size < g ∧ Hid (wc.heap[w.heap.size]? = some (.cells #[.int .u8 0, .int .u8 0, .int .u8 0, .int .u8 0, .int .u8 0, .int .u8 0, .string ⟨#[]⟩, .int .i64 0, .string ⟨#[]⟩, .int .i64 0, .int .i64 0, .int .i64 0, .int .i64 0] 25 (0, 0))) ∧ Hid (wc.heap[g]? = some (.cells #[.int .u8 2, .int .u8 0, .int .u8 0, .int .u8 0, .int .u8 0, .int .u8 42, .string ⟨#[107, 101, 114, 110, 101, 108]⟩, .int .i64 600000, .string dg, .int .i64 8, .int .i64 1, .int .i64 16, .int .i64 16] 25 (0, 0))) ∧ Hid (Below w.heap.size w wc))
    case first =>
      go_wp2_with fail
      refine (unhide HC).mono ?_
      rintro ee u ⟨rfl, hb⟩
      have HRO := hide ((hb.block w.heap.size (by simp)).trans (heap_alloc_new w (.cells #[.int .u8 0, .int .u8 0, .int .u8 0, .int .u8 0, .int .u8 0, .int .u8 0, .string ⟨#[]⟩, .int .i64 0, .string ⟨#[]⟩, .int .i64 0, .int .i64 0, .int .i64 0, .int .i64 0] 25)))
      have HB := hide (((Below.refl w.heap.size w).alloc (Nat.le_refl _) _).trans (hb.mono (by simp)))
      have hz := lt_of_block (unhide HRO)
      clear hb HC
      go_wp2
      go_meet
      exact ⟨_, rfl, hz, hide ((Below.heap_alloc _ _ _ hz).trans (unhide HRO)), hide (heap_alloc_new u _), hide ((unhide HB).alloc (by omega) _)⟩
    case rest =>
      rename World => wB
      obtain ⟨g, rfl, hgz, HR0, HRG, HBW⟩ := hcut
      refine hK _ _ ?_
      clear hK K HC
      refine wp_seq_k (fun K hK => ?_)
      go_cut [] (fun wc => Hid (wc.heap[w.heap.size]? = some (.cells #[.int .u8 0, .int .u8 0, .int .u8 0, .int .u8 0, .int .u8 0, .int .u8 0, .string ⟨#[]⟩, .int .i64 0, .string ⟨#[]⟩, .int .i64 0, .int .i64 0, .int .i64 0, .int .i64 0] 25 (0, 0))) ∧ Hid (wc.heap[g]? = some (.cells #[.int .u8 2, .int .u8 0, .int .u8 0, .int .u8 0, .int .u8 0, .int .u8 42, .string ⟨#[97, 98, 99, 100, 101, 102, 103, 104, 105, 106, 107, 108, 109, 110, 111, 112, 113, 114, 115, 116, 117]⟩, .int .i64 600000, .string dg, .int .i64 8, .int .i64 1, .int .i64 16, .int .i64 16] 25 (0, 0))) ∧ Hid (Below w.heap.size w wc))
      case first =>
        obtain ⟨x0, x1, x2, x3, x4, x5, x6, x7, x8, x9, x10, x11, x12⟩ := row13 (unhide HRG)
        have fg := row_cells (unhide HRG)
        have h0 := fg 0
        have h1 := fg 1
        have h2 := fg 2
        have h3 := fg 3
        have h4 := fg 4
        have h5 := fg 5
        have h6 := fg 6
        have h7 := fg 7
        have h8 := fg 8
        have h9 := fg 9
        have h10 := fg 10
        have h11 := fg 11
        have h12 := fg 12
        have hcs : setCs #[.int .u8 2, .int .u8 0, .int .u8 0, .int .u8 0, .int .u8 0, .int .u8 42, .string ⟨#[107, 101, 114, 110, 101, 108]⟩, .int .i64 600000, .string dg, .int .i64 8, .int .i64 1, .int .i64 16, .int .i64 16] [(6, .string ⟨#[97, 98, 99, 100, 101, 102, 103, 104, 105, 106, 107, 108, 109, 110, 111, 112, 113, 114, 115, 116, 117]⟩)] = #[.int .u8 2, .int .u8 0, .int .u8 0, .int .u8 0, .int .u8 0, .int .u8 42, .string ⟨#[97, 98, 99, 100, 101, 102, 103, 104, 105, 106, 107, 108, 109, 110, 111, 112, 113, 114, 115, 116, 117]⟩, .int .i64 600000, .string dg, .int .i64 8, .int .i64 1, .int .i64 16, .int .i64 16] := by kernel_rfl
        have HQ1 : Hid ((setMany wB g [(6, .string ⟨#[97, 98, 99, 100, 101, 102, 103, 104, 105, 106, 107, 108, 109, 110, 111, 112, 113, 114, 115, 116, 117]⟩)]).heap[w.heap.size]? = some (.cells #[.int .u8 0, .int .u8 0, .int .u8 0, .int .u8 0, .int .u8 0, .int .u8 0, .string ⟨#[]⟩, .int .i64 0, .string ⟨#[]⟩, .int .i64 0, .int .i64 0, .int .i64 0, .int .i64 0] 25 (0, 0))) := hide ((many_other g _ (by omega) [(6, .string ⟨#[97, 98, 99, 100, 101, 102, 103, 104, 105, 106, 107, 108, 109, 110, 111, 112, 113, 114, 115, 116, 117]⟩)] wB).trans (unhide HR0))
        have HQ2 : Hid ((setMany wB g [(6, .string ⟨#[97, 98, 99, 100, 101, 102, 103, 104, 105, 106, 107, 108, 109, 110, 111, 112, 113, 114, 115, 116, 117]⟩)]).heap[g]? = some (.cells #[.int .u8 2, .int .u8 0, .int .u8 0, .int .u8 0, .int .u8 0, .int .u8 42, .string ⟨#[97, 98, 99, 100, 101, 102, 103, 104, 105, 106, 107, 108, 109, 110, 111, 112, 113, 114, 115, 116, 117]⟩, .int .i64 600000, .string dg, .int .i64 8, .int .i64 1, .int .i64 16, .int .i64 16] 25 (0, 0))) := hide (by
          have q := many_row g [(6, .string ⟨#[97, 98, 99, 100, 101, 102, 103, 104, 105, 106, 107, 108, 109, 110, 111, 112, 113, 114, 115, 116, 117]⟩)] wB _ (unhide HRG)
          rw [hcs] at q; exact q)
        have HQ3 : Hid (Below w.heap.size w (setMany wB g [(6, .string ⟨#[97, 98, 99, 100, 101, 102, 103, 104, 105, 106, 107, 108, 109, 110, 111, 112, 113, 114, 115, 116, 117]⟩)])) := hide (by
          have q := unhide HBW
          obtain ⟨o1, o2, o3⟩ := many_os g [(6, .string ⟨#[97, 98, 99, 100, 101, 102, 103, 104, 105, 106, 107, 108, 109, 110, 111, 112, 113, 114, 115, 116, 117]⟩)] wB
          exact ⟨o1.trans q.os, o2.trans q.tape, o3.trans q.output, by rw [many_size]; exact q.size, fun k hk => (many_other g k (by omega) [(6, .string ⟨#[97, 98, 99, 100, 101, 102, 103, 104, 105, 106, 107, 108, 109, 110, 111, 112, 113, 114, 115, 116, 117]⟩)] wB).trans (q.block k hk)⟩)
        simp only [setMany] at HQ1 HQ2 HQ3
        clear fg hcs
        go_wp2
        go_meet
        exact ⟨HQ1, HQ2, HQ3⟩
      case rest =>
        rename World => wD
        obtain ⟨HS1, HS2, HS3⟩ := hcut
        refine hK _ _ ?_
        clear hK K HR0 HRG HBW
        obtain ⟨e0, e1, e2, e3, e4, e5, e6, e7, e8, e9, e10, e11, e12⟩ := row13 (unhide HS1)
        obtain ⟨x0, x1, x2, x3, x4, x5, x6, x7, x8, x9, x10, x11, x12⟩ := row13 (unhide HS2)
        have fr := row_cells (unhide HS1)
        have f0 := fr 0
        have f1 := fr 1
        have f2 := fr 2
        have f3 := fr 3
        have f4 := fr 4
        have f5 := fr 5
        have f6 := fr 6
        have f7 := fr 7
        have f8 := fr 8
        have f9 := fr 9
        have f10 := fr 10
        have f11 := fr 11
        have f12 := fr 12
        have hne : g ≠ w.heap.size := by omega
        have hne2 : w.heap.size ≠ g := by omega
        clear fr
        obtain ⟨U, hU⟩ : ∃ U, U = setMany wD w.heap.size [(0, .int .u8 2), (1, .int .u8 0), (2, .int .u8 0), (3, .int .u8 0), (4, .int .u8 0), (5, .int .u8 42), (6, .string ⟨#[97, 98, 99, 100, 101, 102, 103, 104, 105, 106, 107, 108, 109, 110, 111, 112, 113, 114, 115, 116, 117]⟩), (7, .int .i64 600000), (8, .string dg), (9, .int .i64 8), (10, .int .i64 1), (11, .int .i64 16), (12, .int .i64 16)] := ⟨_, rfl⟩
        have hcs : setCs #[.int .u8 0, .int .u8 0, .int .u8 0, .int .u8 0, .int .u8 0, .int .u8 0, .string ⟨#[]⟩, .int .i64 0, .string ⟨#[]⟩, .int .i64 0, .int .i64 0, .int .i64 0, .int .i64 0] [(0, .int .u8 2), (1, .int .u8 0), (2, .int .u8 0), (3, .int .u8 0), (4, .int .u8 0), (5, .int .u8 42), (6, .string ⟨#[97, 98, 99, 100, 101, 102, 103, 104, 105, 106, 107, 108, 109, 110, 111, 112, 113, 114, 115, 116, 117]⟩), (7, .int .i64 600000), (8, .string dg), (9, .int .i64 8), (10, .int .i64 1), (11, .int .i64 16), (12, .int .i64 16)] = #[.int .u8 2, .int .u8 0, .int .u8 0, .int .u8 0, .int .u8 0, .int .u8 42, .string ⟨#[97, 98, 99, 100, 101, 102, 103, 104, 105, 106, 107, 108, 109, 110, 111, 112, 113, 114, 115, 116, 117]⟩, .int .i64 600000, .string dg, .int .i64 8, .int .i64 1, .int .i64 16, .int .i64 16] := by kernel_rfl
        have hr2 : U.heap[w.heap.size]? = some (.cells #[.int .u8 2, .int .u8 0, .int .u8 0, .int .u8 0, .int .u8 0, .int .u8 42, .string ⟨#[97, 98, 99, 100, 101, 102, 103, 104, 105, 106, 107, 108, 109, 110, 111, 112, 113, 114, 115, 116, 117]⟩, .int .i64 600000, .string dg, .int .i64 8, .int .i64 1, .int .i64 16, .int .i64 16] 25 (0, 0)) := by
          have q := many_row w.heap.size [(0, .int .u8 2), (1, .int .u8 0), (2, .int .u8 0), (3, .int .u8 0), (4, .int .u8 0), (5, .int .u8 42), (6, .string ⟨#[97, 98, 99, 100, 101, 102, 103, 104, 105, 106, 107, 108, 109, 110, 111, 112, 113, 114, 115, 116, 117]⟩), (7, .int .i64 600000), (8, .string dg), (9, .int .i64 8), (10, .int .i64 1), (11, .int .i64 16), (12, .int .i64 16)] wD _ (unhide HS1)
          rw [hcs] at q
          rw [hU, q]
        have HW : Hid (Below w.heap.size w U) := hide (by
          have q := unhide HS3
          obtain ⟨o4, o5, o6⟩ := many_os w.heap.size [(0, .int .u8 2), (1, .int .u8 0), (2, .int .u8 0), (3, .int .u8 0), (4, .int .u8 0), (5, .int .u8 42), (6, .string ⟨#[97, 98, 99, 100, 101, 102, 103, 104, 105, 106, 107, 108, 109, 110, 111, 112, 113, 114, 115, 116, 117]⟩), (7, .int .i64 600000), (8, .string dg), (9, .int .i64 8), (10, .int .i64 1), (11, .int .i64 16), (12, .int .i64 16)] wD
          rw [hU]
          exact ⟨o4.trans q.os, o5.trans q.tape, o6.trans q.output, by rw [many_size]; exact q.size, fun k hk => (many_other _ k (by omega) [(0, .int .u8 2), (1, .int .u8 0), (2, .int .u8 0), (3, .int .u8 0), (4, .int .u8 0), (5, .int .u8 42), (6, .string ⟨#[97, 98, 99, 100, 101, 102, 103, 104, 105, 106, 107, 108, 109, 110, 111, 112, 113, 114, 115, 116, 117]⟩), (7, .int .i64 600000), (8, .string dg), (9, .int .i64 8), (10, .int .i64 1), (11, .int .i64 16), (12, .int .i64 16)] _).trans (q.block k hk)⟩)
        obtain ⟨r0, r1, r2, r3, r4, r5, r6, r7, r8, r9, r10, r11, r12⟩ := row13 hr2
        simp only [setMany] at hU
        have HU := hide hU
        clear hU hcs hr2
        go_wp2
        rw [← unhide HU]
        refine bodyPost_ret (v := .agg #[.int .u8 2, .int .u8 0, .int .u8 0, .int .u8 0, .int .u8 0, .int .u8 42, .string ⟨#[97, 98, 99, 100, 101, 102, 103, 104, 105, 106, 107, 108, 109, 110, 111, 112, 113, 114, 115, 116, 117]⟩, .int .i64 600000, .string dg, .int .i64 8, .int .i64 1, .int .i64 16, .int .i64 16]) (by simp [results, Tryz.results11, go_sem, r0, r1, r2, r3, r4, r5, r6, r7, r8, r9, r10, r11, r12]) rfl ?_
        exact ⟨rfl, unhide HW⟩
set_option maxHeartbeats 2000000 in
set_option maxRecDepth 10000 in
theorem changed_5 (dg : ByteArray) (w : World) (HC : Hid (Calls Tryz.prog 5 #[.string ⟨#[]⟩, .int .i64 8, .int .i64 1] (w.alloc (.cells #[.int .u8 0, .int .u8 0, .int .u8 0, .int .u8 0, .int .u8 0, .int .u8 0, .string ⟨#[]⟩, .int .i64 0, .string ⟨#[]⟩, .int .i64 0, .int .i64 0, .int .i64 0, .int .i64 0] 25)) fun e w' => e = .returned (.agg #[.int .u8 2, .int .u8 0, .int .u8 0, .int .u8 0, .int .u8 0, .int .u8 42, .string ⟨#[107, 101, 114, 110, 101, 108]⟩, .int .i64 600000, .string dg, .int .i64 8, .int .i64 1, .int .i64 16, .int .i64 16]) ∧ Below (w.alloc (.cells #[.int .u8 0, .int .u8 0, .int .u8 0, .int .u8 0, .int .u8 0, .int .u8 0, .string ⟨#[]⟩, .int .i64 0, .string ⟨#[]⟩, .int .i64 0, .int .i64 0, .int .i64 0, .int .i64 0] 25)).heap.size (w.alloc (.cells #[.int .u8 0, .int .u8 0, .int .u8 0, .int .u8 0, .int .u8 0, .int .u8 0, .string ⟨#[]⟩, .int .i64 0, .string ⟨#[]⟩, .int .i64 0, .int .i64 0, .int .i64 0, .int .i64 0] 25)) w')) :
    Calls Tryz.prog 11 #[.int .i64 5] w fun e w' => e = .returned (.agg #[.int .u8 2, .int .u8 0, .int .u8 0, .int .u8 0, .int .u8 0, .int .u8 42, .string ⟨#[107, 101, 114, 110, 101, 108]⟩, .int .i64 600000, .string ⟨#[120]⟩, .int .i64 8, .int .i64 1, .int .i64 16, .int .i64 16]) ∧ Below w.heap.size w w' := by
  go_enter Tryz.func11, Tryz.ntmps11
  refine wp_seq_k (fun K hK => ?_)
  go_cut [2] (fun v2 wc => v2 = .pointer (some ⟨w.heap.size, 0, none⟩) ∧ wc = w.alloc (.cells #[.int .u8 0, .int .u8 0, .int .u8 0, .int .u8 0, .int .u8 0, .int .u8 0, .string ⟨#[]⟩, .int .i64 0, .string ⟨#[]⟩, .int .i64 0, .int .i64 0, .int .i64 0, .int .i64 0] 25))
  case first =>
    go_wp2
    go_meet
    exact ⟨rfl, rfl⟩
  case rest =>
    rename World => wA
    obtain ⟨rfl, rfl⟩ := hcut
    refine hK _ _ ?_
    clear hK K
    refine wp_seq_k (fun K hK => ?_)
    go_cut [3] (fun v3 wc => ∃ g, v3 = .pointer (some ⟨g, 0, none⟩) ∧ w.heap.size < g ∧ Hid (wc.heap[w.heap.size]? = some (.cells #[.int .u8 0, .int .u8 0, .int .u8 0, .int .u8 0, .int .u8 0, .int .u8 0, .string ⟨#[]⟩, .int .i64 0, .string ⟨#[]⟩, .int .i64 0, .int .i64 0, .int .i64 0, .int .i64 0] 25 (0, 0))) ∧ Hid (wc.heap[g]? = some (.cells #[.int .u8 2, .int .u8 0, .int .u8 0, .int .u8 0, .int .u8 0, .int .u8 42, .string ⟨#[107, 101, 114, 110, 101, 108]⟩, .int .i64 600000, .string dg, .int .i64 8, .int .i64 1, .int .i64 16, .int .i64 16] 25 (0, 0))) ∧ Hid (Below w.heap.size w wc))
    case first =>
      go_wp2_with fail
      refine (unhide HC).mono ?_
      rintro ee u ⟨rfl, hb⟩
      have HRO := hide ((hb.block w.heap.size (by simp)).trans (heap_alloc_new w (.cells #[.int .u8 0, .int .u8 0, .int .u8 0, .int .u8 0, .int .u8 0, .int .u8 0, .string ⟨#[]⟩, .int .i64 0, .string ⟨#[]⟩, .int .i64 0, .int .i64 0, .int .i64 0, .int .i64 0] 25)))
      have HB := hide (((Below.refl w.heap.size w).alloc (Nat.le_refl _) _).trans (hb.mono (by simp)))
      have hz := lt_of_block (unhide HRO)
      clear hb HC
      go_wp2
      go_meet
      exact ⟨_, rfl, hz, hide ((Below.heap_alloc _ _ _ hz).trans (unhide HRO)), hide (heap_alloc_new u _), hide ((unhide HB).alloc (by omega) _)⟩
    case rest =>
      rename World => wB
      obtain ⟨g, rfl, hgz, HR0, HRG, HBW⟩ := hcut
      refine hK _ _ ?_
      clear hK K HC
      refine wp_seq_k (fun K hK => ?_)
      go_cut [] (fun wc => Hid (wc.heap[w.heap.size]? = some (.cells #[.int .u8 0, .int .u8 0, .int .u8 0, .int .u8 0, .int .u8 0, .int .u8 0, .string ⟨#[]⟩, .int .i64 0, .string ⟨#[]⟩, .int .i64 0, .int .i64 0, .int .i64 0, .int .i64 0] 25 (0, 0))) ∧ Hid (wc.heap[g]? = some (.cells #[.int .u8 2, .int .u8 0, .int .u8 0, .int .u8 0, .int .u8 0, .int .u8 42, .string ⟨#[107, 101, 114, 110, 101, 108]⟩, .int .i64 600000, .string ⟨#[120]⟩, .int .i64 8, .int .i64 1, .int .i64 16, .int .i64 16] 25 (0, 0))) ∧ Hid (Below w.heap.size w wc))
      case first =>
        obtain ⟨x0, x1, x2, x3, x4, x5, x6, x7, x8, x9, x10, x11, x12⟩ := row13 (unhide HRG)
        have fg := row_cells (unhide HRG)
        have h0 := fg 0
        have h1 := fg 1
        have h2 := fg 2
        have h3 := fg 3
        have h4 := fg 4
        have h5 := fg 5
        have h6 := fg 6
        have h7 := fg 7
        have h8 := fg 8
        have h9 := fg 9
        have h10 := fg 10
        have h11 := fg 11
        have h12 := fg 12
        have hcs : setCs #[.int .u8 2, .int .u8 0, .int .u8 0, .int .u8 0, .int .u8 0, .int .u8 42, .string ⟨#[107, 101, 114, 110, 101, 108]⟩, .int .i64 600000, .string dg, .int .i64 8, .int .i64 1, .int .i64 16, .int .i64 16] [(8, .string ⟨#[120]⟩)] = #[.int .u8 2, .int .u8 0, .int .u8 0, .int .u8 0, .int .u8 0, .int .u8 42, .string ⟨#[107, 101, 114, 110, 101, 108]⟩, .int .i64 600000, .string ⟨#[120]⟩, .int .i64 8, .int .i64 1, .int .i64 16, .int .i64 16] := by kernel_rfl
        have HQ1 : Hid ((setMany wB g [(8, .string ⟨#[120]⟩)]).heap[w.heap.size]? = some (.cells #[.int .u8 0, .int .u8 0, .int .u8 0, .int .u8 0, .int .u8 0, .int .u8 0, .string ⟨#[]⟩, .int .i64 0, .string ⟨#[]⟩, .int .i64 0, .int .i64 0, .int .i64 0, .int .i64 0] 25 (0, 0))) := hide ((many_other g _ (by omega) [(8, .string ⟨#[120]⟩)] wB).trans (unhide HR0))
        have HQ2 : Hid ((setMany wB g [(8, .string ⟨#[120]⟩)]).heap[g]? = some (.cells #[.int .u8 2, .int .u8 0, .int .u8 0, .int .u8 0, .int .u8 0, .int .u8 42, .string ⟨#[107, 101, 114, 110, 101, 108]⟩, .int .i64 600000, .string ⟨#[120]⟩, .int .i64 8, .int .i64 1, .int .i64 16, .int .i64 16] 25 (0, 0))) := hide (by
          have q := many_row g [(8, .string ⟨#[120]⟩)] wB _ (unhide HRG)
          rw [hcs] at q; exact q)
        have HQ3 : Hid (Below w.heap.size w (setMany wB g [(8, .string ⟨#[120]⟩)])) := hide (by
          have q := unhide HBW
          obtain ⟨o1, o2, o3⟩ := many_os g [(8, .string ⟨#[120]⟩)] wB
          exact ⟨o1.trans q.os, o2.trans q.tape, o3.trans q.output, by rw [many_size]; exact q.size, fun k hk => (many_other g k (by omega) [(8, .string ⟨#[120]⟩)] wB).trans (q.block k hk)⟩)
        simp only [setMany] at HQ1 HQ2 HQ3
        clear fg hcs
        go_wp2
        go_meet
        exact ⟨HQ1, HQ2, HQ3⟩
      case rest =>
        rename World => wD
        obtain ⟨HS1, HS2, HS3⟩ := hcut
        refine hK _ _ ?_
        clear hK K HR0 HRG HBW
        obtain ⟨e0, e1, e2, e3, e4, e5, e6, e7, e8, e9, e10, e11, e12⟩ := row13 (unhide HS1)
        obtain ⟨x0, x1, x2, x3, x4, x5, x6, x7, x8, x9, x10, x11, x12⟩ := row13 (unhide HS2)
        have fr := row_cells (unhide HS1)
        have f0 := fr 0
        have f1 := fr 1
        have f2 := fr 2
        have f3 := fr 3
        have f4 := fr 4
        have f5 := fr 5
        have f6 := fr 6
        have f7 := fr 7
        have f8 := fr 8
        have f9 := fr 9
        have f10 := fr 10
        have f11 := fr 11
        have f12 := fr 12
        have hne : g ≠ w.heap.size := by omega
        have hne2 : w.heap.size ≠ g := by omega
        clear fr
        obtain ⟨U, hU⟩ : ∃ U, U = setMany wD w.heap.size [(0, .int .u8 2), (1, .int .u8 0), (2, .int .u8 0), (3, .int .u8 0), (4, .int .u8 0), (5, .int .u8 42), (6, .string ⟨#[107, 101, 114, 110, 101, 108]⟩), (7, .int .i64 600000), (8, .string ⟨#[120]⟩), (9, .int .i64 8), (10, .int .i64 1), (11, .int .i64 16), (12, .int .i64 16)] := ⟨_, rfl⟩
        have hcs : setCs #[.int .u8 0, .int .u8 0, .int .u8 0, .int .u8 0, .int .u8 0, .int .u8 0, .string ⟨#[]⟩, .int .i64 0, .string ⟨#[]⟩, .int .i64 0, .int .i64 0, .int .i64 0, .int .i64 0] [(0, .int .u8 2), (1, .int .u8 0), (2, .int .u8 0), (3, .int .u8 0), (4, .int .u8 0), (5, .int .u8 42), (6, .string ⟨#[107, 101, 114, 110, 101, 108]⟩), (7, .int .i64 600000), (8, .string ⟨#[120]⟩), (9, .int .i64 8), (10, .int .i64 1), (11, .int .i64 16), (12, .int .i64 16)] = #[.int .u8 2, .int .u8 0, .int .u8 0, .int .u8 0, .int .u8 0, .int .u8 42, .string ⟨#[107, 101, 114, 110, 101, 108]⟩, .int .i64 600000, .string ⟨#[120]⟩, .int .i64 8, .int .i64 1, .int .i64 16, .int .i64 16] := by kernel_rfl
        have hr2 : U.heap[w.heap.size]? = some (.cells #[.int .u8 2, .int .u8 0, .int .u8 0, .int .u8 0, .int .u8 0, .int .u8 42, .string ⟨#[107, 101, 114, 110, 101, 108]⟩, .int .i64 600000, .string ⟨#[120]⟩, .int .i64 8, .int .i64 1, .int .i64 16, .int .i64 16] 25 (0, 0)) := by
          have q := many_row w.heap.size [(0, .int .u8 2), (1, .int .u8 0), (2, .int .u8 0), (3, .int .u8 0), (4, .int .u8 0), (5, .int .u8 42), (6, .string ⟨#[107, 101, 114, 110, 101, 108]⟩), (7, .int .i64 600000), (8, .string ⟨#[120]⟩), (9, .int .i64 8), (10, .int .i64 1), (11, .int .i64 16), (12, .int .i64 16)] wD _ (unhide HS1)
          rw [hcs] at q
          rw [hU, q]
        have HW : Hid (Below w.heap.size w U) := hide (by
          have q := unhide HS3
          obtain ⟨o4, o5, o6⟩ := many_os w.heap.size [(0, .int .u8 2), (1, .int .u8 0), (2, .int .u8 0), (3, .int .u8 0), (4, .int .u8 0), (5, .int .u8 42), (6, .string ⟨#[107, 101, 114, 110, 101, 108]⟩), (7, .int .i64 600000), (8, .string ⟨#[120]⟩), (9, .int .i64 8), (10, .int .i64 1), (11, .int .i64 16), (12, .int .i64 16)] wD
          rw [hU]
          exact ⟨o4.trans q.os, o5.trans q.tape, o6.trans q.output, by rw [many_size]; exact q.size, fun k hk => (many_other _ k (by omega) [(0, .int .u8 2), (1, .int .u8 0), (2, .int .u8 0), (3, .int .u8 0), (4, .int .u8 0), (5, .int .u8 42), (6, .string ⟨#[107, 101, 114, 110, 101, 108]⟩), (7, .int .i64 600000), (8, .string ⟨#[120]⟩), (9, .int .i64 8), (10, .int .i64 1), (11, .int .i64 16), (12, .int .i64 16)] _).trans (q.block k hk)⟩)
        obtain ⟨r0, r1, r2, r3, r4, r5, r6, r7, r8, r9, r10, r11, r12⟩ := row13 hr2
        simp only [setMany] at hU
        have HU := hide hU
        clear hU hcs hr2
        go_wp2
        rw [← unhide HU]
        refine bodyPost_ret (v := .agg #[.int .u8 2, .int .u8 0, .int .u8 0, .int .u8 0, .int .u8 0, .int .u8 42, .string ⟨#[107, 101, 114, 110, 101, 108]⟩, .int .i64 600000, .string ⟨#[120]⟩, .int .i64 8, .int .i64 1, .int .i64 16, .int .i64 16]) (by simp [results, Tryz.results11, go_sem, r0, r1, r2, r3, r4, r5, r6, r7, r8, r9, r10, r11, r12]) rfl ?_
        exact ⟨rfl, unhide HW⟩
set_option maxHeartbeats 2000000 in
set_option maxRecDepth 10000 in
theorem changed_6 (dg : ByteArray) (w : World) (HC : Hid (Calls Tryz.prog 5 #[.string ⟨#[]⟩, .int .i64 8, .int .i64 1] (w.alloc (.cells #[.int .u8 0, .int .u8 0, .int .u8 0, .int .u8 0, .int .u8 0, .int .u8 0, .string ⟨#[]⟩, .int .i64 0, .string ⟨#[]⟩, .int .i64 0, .int .i64 0, .int .i64 0, .int .i64 0] 25)) fun e w' => e = .returned (.agg #[.int .u8 2, .int .u8 0, .int .u8 0, .int .u8 0, .int .u8 0, .int .u8 42, .string ⟨#[107, 101, 114, 110, 101, 108]⟩, .int .i64 600000, .string dg, .int .i64 8, .int .i64 1, .int .i64 16, .int .i64 16]) ∧ Below (w.alloc (.cells #[.int .u8 0, .int .u8 0, .int .u8 0, .int .u8 0, .int .u8 0, .int .u8 0, .string ⟨#[]⟩, .int .i64 0, .string ⟨#[]⟩, .int .i64 0, .int .i64 0, .int .i64 0, .int .i64 0] 25)).heap.size (w.alloc (.cells #[.int .u8 0, .int .u8 0, .int .u8 0, .int .u8 0, .int .u8 0, .int .u8 0, .string ⟨#[]⟩, .int .i64 0, .string ⟨#[]⟩, .int .i64 0, .int .i64 0, .int .i64 0, .int .i64 0] 25)) w')) :
    Calls Tryz.prog 11 #[.int .i64 6] w fun e w' => e = .returned (.agg #[.int .u8 2, .int .u8 0, .int .u8 0, .int .u8 0, .int .u8 0, .int .u8 42, .string ⟨#[107, 101, 114, 110, 101, 108]⟩, .int .i64 0, .string dg, .int .i64 8, .int .i64 1, .int .i64 16, .int .i64 16]) ∧ Below w.heap.size w w' := by
  go_enter Tryz.func11, Tryz.ntmps11
  refine wp_seq_k (fun K hK => ?_)
  go_cut [2] (fun v2 wc => v2 = .pointer (some ⟨w.heap.size, 0, none⟩) ∧ wc = w.alloc (.cells #[.int .u8 0, .int .u8 0, .int .u8 0, .int .u8 0, .int .u8 0, .int .u8 0, .string ⟨#[]⟩, .int .i64 0, .string ⟨#[]⟩, .int .i64 0, .int .i64 0, .int .i64 0, .int .i64 0] 25))
  case first =>
    go_wp2
    go_meet
    exact ⟨rfl, rfl⟩
  case rest =>
    rename World => wA
    obtain ⟨rfl, rfl⟩ := hcut
    refine hK _ _ ?_
    clear hK K
    refine wp_seq_k (fun K hK => ?_)
    go_cut [3] (fun v3 wc => ∃ g, v3 = .pointer (some ⟨g, 0, none⟩) ∧ w.heap.size < g ∧ Hid (wc.heap[w.heap.size]? = some (.cells #[.int .u8 0, .int .u8 0, .int .u8 0, .int .u8 0, .int .u8 0, .int .u8 0, .string ⟨#[]⟩, .int .i64 0, .string ⟨#[]⟩, .int .i64 0, .int .i64 0, .int .i64 0, .int .i64 0] 25 (0, 0))) ∧ Hid (wc.heap[g]? = some (.cells #[.int .u8 2, .int .u8 0, .int .u8 0, .int .u8 0, .int .u8 0, .int .u8 42, .string ⟨#[107, 101, 114, 110, 101, 108]⟩, .int .i64 600000, .string dg, .int .i64 8, .int .i64 1, .int .i64 16, .int .i64 16] 25 (0, 0))) ∧ Hid (Below w.heap.size w wc))
    case first =>
      go_wp2_with fail
      refine (unhide HC).mono ?_
      rintro ee u ⟨rfl, hb⟩
      have HRO := hide ((hb.block w.heap.size (by simp)).trans (heap_alloc_new w (.cells #[.int .u8 0, .int .u8 0, .int .u8 0, .int .u8 0, .int .u8 0, .int .u8 0, .string ⟨#[]⟩, .int .i64 0, .string ⟨#[]⟩, .int .i64 0, .int .i64 0, .int .i64 0, .int .i64 0] 25)))
      have HB := hide (((Below.refl w.heap.size w).alloc (Nat.le_refl _) _).trans (hb.mono (by simp)))
      have hz := lt_of_block (unhide HRO)
      clear hb HC
      go_wp2
      go_meet
      exact ⟨_, rfl, hz, hide ((Below.heap_alloc _ _ _ hz).trans (unhide HRO)), hide (heap_alloc_new u _), hide ((unhide HB).alloc (by omega) _)⟩
    case rest =>
      rename World => wB
      obtain ⟨g, rfl, hgz, HR0, HRG, HBW⟩ := hcut
      refine hK _ _ ?_
      clear hK K HC
      refine wp_seq_k (fun K hK => ?_)
      go_cut [] (fun wc => Hid (wc.heap[w.heap.size]? = some (.cells #[.int .u8 0, .int .u8 0, .int .u8 0, .int .u8 0, .int .u8 0, .int .u8 0, .string ⟨#[]⟩, .int .i64 0, .string ⟨#[]⟩, .int .i64 0, .int .i64 0, .int .i64 0, .int .i64 0] 25 (0, 0))) ∧ Hid (wc.heap[g]? = some (.cells #[.int .u8 2, .int .u8 0, .int .u8 0, .int .u8 0, .int .u8 0, .int .u8 42, .string ⟨#[107, 101, 114, 110, 101, 108]⟩, .int .i64 0, .string dg, .int .i64 8, .int .i64 1, .int .i64 16, .int .i64 16] 25 (0, 0))) ∧ Hid (Below w.heap.size w wc))
      case first =>
        obtain ⟨x0, x1, x2, x3, x4, x5, x6, x7, x8, x9, x10, x11, x12⟩ := row13 (unhide HRG)
        have fg := row_cells (unhide HRG)
        have h0 := fg 0
        have h1 := fg 1
        have h2 := fg 2
        have h3 := fg 3
        have h4 := fg 4
        have h5 := fg 5
        have h6 := fg 6
        have h7 := fg 7
        have h8 := fg 8
        have h9 := fg 9
        have h10 := fg 10
        have h11 := fg 11
        have h12 := fg 12
        have hcs : setCs #[.int .u8 2, .int .u8 0, .int .u8 0, .int .u8 0, .int .u8 0, .int .u8 42, .string ⟨#[107, 101, 114, 110, 101, 108]⟩, .int .i64 600000, .string dg, .int .i64 8, .int .i64 1, .int .i64 16, .int .i64 16] [(7, .int .i64 0)] = #[.int .u8 2, .int .u8 0, .int .u8 0, .int .u8 0, .int .u8 0, .int .u8 42, .string ⟨#[107, 101, 114, 110, 101, 108]⟩, .int .i64 0, .string dg, .int .i64 8, .int .i64 1, .int .i64 16, .int .i64 16] := by kernel_rfl
        have HQ1 : Hid ((setMany wB g [(7, .int .i64 0)]).heap[w.heap.size]? = some (.cells #[.int .u8 0, .int .u8 0, .int .u8 0, .int .u8 0, .int .u8 0, .int .u8 0, .string ⟨#[]⟩, .int .i64 0, .string ⟨#[]⟩, .int .i64 0, .int .i64 0, .int .i64 0, .int .i64 0] 25 (0, 0))) := hide ((many_other g _ (by omega) [(7, .int .i64 0)] wB).trans (unhide HR0))
        have HQ2 : Hid ((setMany wB g [(7, .int .i64 0)]).heap[g]? = some (.cells #[.int .u8 2, .int .u8 0, .int .u8 0, .int .u8 0, .int .u8 0, .int .u8 42, .string ⟨#[107, 101, 114, 110, 101, 108]⟩, .int .i64 0, .string dg, .int .i64 8, .int .i64 1, .int .i64 16, .int .i64 16] 25 (0, 0))) := hide (by
          have q := many_row g [(7, .int .i64 0)] wB _ (unhide HRG)
          rw [hcs] at q; exact q)
        have HQ3 : Hid (Below w.heap.size w (setMany wB g [(7, .int .i64 0)])) := hide (by
          have q := unhide HBW
          obtain ⟨o1, o2, o3⟩ := many_os g [(7, .int .i64 0)] wB
          exact ⟨o1.trans q.os, o2.trans q.tape, o3.trans q.output, by rw [many_size]; exact q.size, fun k hk => (many_other g k (by omega) [(7, .int .i64 0)] wB).trans (q.block k hk)⟩)
        simp only [setMany] at HQ1 HQ2 HQ3
        clear fg hcs
        go_wp2
        go_meet
        exact ⟨HQ1, HQ2, HQ3⟩
      case rest =>
        rename World => wD
        obtain ⟨HS1, HS2, HS3⟩ := hcut
        refine hK _ _ ?_
        clear hK K HR0 HRG HBW
        obtain ⟨e0, e1, e2, e3, e4, e5, e6, e7, e8, e9, e10, e11, e12⟩ := row13 (unhide HS1)
        obtain ⟨x0, x1, x2, x3, x4, x5, x6, x7, x8, x9, x10, x11, x12⟩ := row13 (unhide HS2)
        have fr := row_cells (unhide HS1)
        have f0 := fr 0
        have f1 := fr 1
        have f2 := fr 2
        have f3 := fr 3
        have f4 := fr 4
        have f5 := fr 5
        have f6 := fr 6
        have f7 := fr 7
        have f8 := fr 8
        have f9 := fr 9
        have f10 := fr 10
        have f11 := fr 11
        have f12 := fr 12
        have hne : g ≠ w.heap.size := by omega
        have hne2 : w.heap.size ≠ g := by omega
        clear fr
        obtain ⟨U, hU⟩ : ∃ U, U = setMany wD w.heap.size [(0, .int .u8 2), (1, .int .u8 0), (2, .int .u8 0), (3, .int .u8 0), (4, .int .u8 0), (5, .int .u8 42), (6, .string ⟨#[107, 101, 114, 110, 101, 108]⟩), (7, .int .i64 0), (8, .string dg), (9, .int .i64 8), (10, .int .i64 1), (11, .int .i64 16), (12, .int .i64 16)] := ⟨_, rfl⟩
        have hcs : setCs #[.int .u8 0, .int .u8 0, .int .u8 0, .int .u8 0, .int .u8 0, .int .u8 0, .string ⟨#[]⟩, .int .i64 0, .string ⟨#[]⟩, .int .i64 0, .int .i64 0, .int .i64 0, .int .i64 0] [(0, .int .u8 2), (1, .int .u8 0), (2, .int .u8 0), (3, .int .u8 0), (4, .int .u8 0), (5, .int .u8 42), (6, .string ⟨#[107, 101, 114, 110, 101, 108]⟩), (7, .int .i64 0), (8, .string dg), (9, .int .i64 8), (10, .int .i64 1), (11, .int .i64 16), (12, .int .i64 16)] = #[.int .u8 2, .int .u8 0, .int .u8 0, .int .u8 0, .int .u8 0, .int .u8 42, .string ⟨#[107, 101, 114, 110, 101, 108]⟩, .int .i64 0, .string dg, .int .i64 8, .int .i64 1, .int .i64 16, .int .i64 16] := by kernel_rfl
        have hr2 : U.heap[w.heap.size]? = some (.cells #[.int .u8 2, .int .u8 0, .int .u8 0, .int .u8 0, .int .u8 0, .int .u8 42, .string ⟨#[107, 101, 114, 110, 101, 108]⟩, .int .i64 0, .string dg, .int .i64 8, .int .i64 1, .int .i64 16, .int .i64 16] 25 (0, 0)) := by
          have q := many_row w.heap.size [(0, .int .u8 2), (1, .int .u8 0), (2, .int .u8 0), (3, .int .u8 0), (4, .int .u8 0), (5, .int .u8 42), (6, .string ⟨#[107, 101, 114, 110, 101, 108]⟩), (7, .int .i64 0), (8, .string dg), (9, .int .i64 8), (10, .int .i64 1), (11, .int .i64 16), (12, .int .i64 16)] wD _ (unhide HS1)
          rw [hcs] at q
          rw [hU, q]
        have HW : Hid (Below w.heap.size w U) := hide (by
          have q := unhide HS3
          obtain ⟨o4, o5, o6⟩ := many_os w.heap.size [(0, .int .u8 2), (1, .int .u8 0), (2, .int .u8 0), (3, .int .u8 0), (4, .int .u8 0), (5, .int .u8 42), (6, .string ⟨#[107, 101, 114, 110, 101, 108]⟩), (7, .int .i64 0), (8, .string dg), (9, .int .i64 8), (10, .int .i64 1), (11, .int .i64 16), (12, .int .i64 16)] wD
          rw [hU]
          exact ⟨o4.trans q.os, o5.trans q.tape, o6.trans q.output, by rw [many_size]; exact q.size, fun k hk => (many_other _ k (by omega) [(0, .int .u8 2), (1, .int .u8 0), (2, .int .u8 0), (3, .int .u8 0), (4, .int .u8 0), (5, .int .u8 42), (6, .string ⟨#[107, 101, 114, 110, 101, 108]⟩), (7, .int .i64 0), (8, .string dg), (9, .int .i64 8), (10, .int .i64 1), (11, .int .i64 16), (12, .int .i64 16)] _).trans (q.block k hk)⟩)
        obtain ⟨r0, r1, r2, r3, r4, r5, r6, r7, r8, r9, r10, r11, r12⟩ := row13 hr2
        simp only [setMany] at hU
        have HU := hide hU
        clear hU hcs hr2
        go_wp2
        rw [← unhide HU]
        refine bodyPost_ret (v := .agg #[.int .u8 2, .int .u8 0, .int .u8 0, .int .u8 0, .int .u8 0, .int .u8 42, .string ⟨#[107, 101, 114, 110, 101, 108]⟩, .int .i64 0, .string dg, .int .i64 8, .int .i64 1, .int .i64 16, .int .i64 16]) (by simp [results, Tryz.results11, go_sem, r0, r1, r2, r3, r4, r5, r6, r7, r8, r9, r10, r11, r12]) rfl ?_
        exact ⟨rfl, unhide HW⟩
set_option maxHeartbeats 2000000 in
set_option maxRecDepth 10000 in
theorem changed_7 (dg : ByteArray) (w : World) (HC : Hid (Calls Tryz.prog 5 #[.string ⟨#[]⟩, .int .i64 8, .int .i64 1] (w.alloc (.cells #[.int .u8 0, .int .u8 0, .int .u8 0, .int .u8 0, .int .u8 0, .int .u8 0, .string ⟨#[]⟩, .int .i64 0, .string ⟨#[]⟩, .int .i64 0, .int .i64 0, .int .i64 0, .int .i64 0] 25)) fun e w' => e = .returned (.agg #[.int .u8 2, .int .u8 0, .int .u8 0, .int .u8 0, .int .u8 0, .int .u8 42, .string ⟨#[107, 101, 114, 110, 101, 108]⟩, .int .i64 600000, .string dg, .int .i64 8, .int .i64 1, .int .i64 16, .int .i64 16]) ∧ Below (w.alloc (.cells #[.int .u8 0, .int .u8 0, .int .u8 0, .int .u8 0, .int .u8 0, .int .u8 0, .string ⟨#[]⟩, .int .i64 0, .string ⟨#[]⟩, .int .i64 0, .int .i64 0, .int .i64 0, .int .i64 0] 25)).heap.size (w.alloc (.cells #[.int .u8 0, .int .u8 0, .int .u8 0, .int .u8 0, .int .u8 0, .int .u8 0, .string ⟨#[]⟩, .int .i64 0, .string ⟨#[]⟩, .int .i64 0, .int .i64 0, .int .i64 0, .int .i64 0] 25)) w')) :
    Calls Tryz.prog 11 #[.int .i64 7] w fun e w' => e = .returned (.agg #[.int .u8 2, .int .u8 0, .int .u8 0, .int .u8 0, .int .u8 0, .int .u8 42, .string ⟨#[107, 101, 114, 110, 101, 108]⟩, .int .i64 600001, .string dg, .int .i64 8, .int .i64 1, .int .i64 16, .int .i64 16]) ∧ Below w.heap.size w w' := by
  go_enter Tryz.func11, Tryz.ntmps11
  refine wp_seq_k (fun K hK => ?_)
  go_cut [2] (fun v2 wc => v2 = .pointer (some ⟨w.heap.size, 0, none⟩) ∧ wc = w.alloc (.cells #[.int .u8 0, .int .u8 0, .int .u8 0, .int .u8 0, .int .u8 0, .int .u8 0, .string ⟨#[]⟩, .int .i64 0, .string ⟨#[]⟩, .int .i64 0, .int .i64 0, .int .i64 0, .int .i64 0] 25))
  case first =>
    go_wp2
    go_meet
    exact ⟨rfl, rfl⟩
  case rest =>
    rename World => wA
    obtain ⟨rfl, rfl⟩ := hcut
    refine hK _ _ ?_
    clear hK K
    refine wp_seq_k (fun K hK => ?_)
    go_cut [3] (fun v3 wc => ∃ g, v3 = .pointer (some ⟨g, 0, none⟩) ∧ w.heap.size < g ∧ Hid (wc.heap[w.heap.size]? = some (.cells #[.int .u8 0, .int .u8 0, .int .u8 0, .int .u8 0, .int .u8 0, .int .u8 0, .string ⟨#[]⟩, .int .i64 0, .string ⟨#[]⟩, .int .i64 0, .int .i64 0, .int .i64 0, .int .i64 0] 25 (0, 0))) ∧ Hid (wc.heap[g]? = some (.cells #[.int .u8 2, .int .u8 0, .int .u8 0, .int .u8 0, .int .u8 0, .int .u8 42, .string ⟨#[107, 101, 114, 110, 101, 108]⟩, .int .i64 600000, .string dg, .int .i64 8, .int .i64 1, .int .i64 16, .int .i64 16] 25 (0, 0))) ∧ Hid (Below w.heap.size w wc))
    case first =>
      go_wp2_with fail
      refine (unhide HC).mono ?_
      rintro ee u ⟨rfl, hb⟩
      have HRO := hide ((hb.block w.heap.size (by simp)).trans (heap_alloc_new w (.cells #[.int .u8 0, .int .u8 0, .int .u8 0, .int .u8 0, .int .u8 0, .int .u8 0, .string ⟨#[]⟩, .int .i64 0, .string ⟨#[]⟩, .int .i64 0, .int .i64 0, .int .i64 0, .int .i64 0] 25)))
      have HB := hide (((Below.refl w.heap.size w).alloc (Nat.le_refl _) _).trans (hb.mono (by simp)))
      have hz := lt_of_block (unhide HRO)
      clear hb HC
      go_wp2
      go_meet
      exact ⟨_, rfl, hz, hide ((Below.heap_alloc _ _ _ hz).trans (unhide HRO)), hide (heap_alloc_new u _), hide ((unhide HB).alloc (by omega) _)⟩
    case rest =>
      rename World => wB
      obtain ⟨g, rfl, hgz, HR0, HRG, HBW⟩ := hcut
      refine hK _ _ ?_
      clear hK K HC
      refine wp_seq_k (fun K hK => ?_)
      go_cut [] (fun wc => Hid (wc.heap[w.heap.size]? = some (.cells #[.int .u8 0, .int .u8 0, .int .u8 0, .int .u8 0, .int .u8 0, .int .u8 0, .string ⟨#[]⟩, .int .i64 0, .string ⟨#[]⟩, .int .i64 0, .int .i64 0, .int .i64 0, .int .i64 0] 25 (0, 0))) ∧ Hid (wc.heap[g]? = some (.cells #[.int .u8 2, .int .u8 0, .int .u8 0, .int .u8 0, .int .u8 0, .int .u8 42, .string ⟨#[107, 101, 114, 110, 101, 108]⟩, .int .i64 600001, .string dg, .int .i64 8, .int .i64 1, .int .i64 16, .int .i64 16] 25 (0, 0))) ∧ Hid (Below w.heap.size w wc))
      case first =>
        obtain ⟨x0, x1, x2, x3, x4, x5, x6, x7, x8, x9, x10, x11, x12⟩ := row13 (unhide HRG)
        have fg := row_cells (unhide HRG)
        have h0 := fg 0
        have h1 := fg 1
        have h2 := fg 2
        have h3 := fg 3
        have h4 := fg 4
        have h5 := fg 5
        have h6 := fg 6
        have h7 := fg 7
        have h8 := fg 8
        have h9 := fg 9
        have h10 := fg 10
        have h11 := fg 11
        have h12 := fg 12
        have hcs : setCs #[.int .u8 2, .int .u8 0, .int .u8 0, .int .u8 0, .int .u8 0, .int .u8 42, .string ⟨#[107, 101, 114, 110, 101, 108]⟩, .int .i64 600000, .string dg, .int .i64 8, .int .i64 1, .int .i64 16, .int .i64 16] [(7, .int .i64 600001)] = #[.int .u8 2, .int .u8 0, .int .u8 0, .int .u8 0, .int .u8 0, .int .u8 42, .string ⟨#[107, 101, 114, 110, 101, 108]⟩, .int .i64 600001, .string dg, .int .i64 8, .int .i64 1, .int .i64 16, .int .i64 16] := by kernel_rfl
        have HQ1 : Hid ((setMany wB g [(7, .int .i64 600001)]).heap[w.heap.size]? = some (.cells #[.int .u8 0, .int .u8 0, .int .u8 0, .int .u8 0, .int .u8 0, .int .u8 0, .string ⟨#[]⟩, .int .i64 0, .string ⟨#[]⟩, .int .i64 0, .int .i64 0, .int .i64 0, .int .i64 0] 25 (0, 0))) := hide ((many_other g _ (by omega) [(7, .int .i64 600001)] wB).trans (unhide HR0))
        have HQ2 : Hid ((setMany wB g [(7, .int .i64 600001)]).heap[g]? = some (.cells #[.int .u8 2, .int .u8 0, .int .u8 0, .int .u8 0, .int .u8 0, .int .u8 42, .string ⟨#[107, 101, 114, 110, 101, 108]⟩, .int .i64 600001, .string dg, .int .i64 8, .int .i64 1, .int .i64 16, .int .i64 16] 25 (0, 0))) := hide (by
          have q := many_row g [(7, .int .i64 600001)] wB _ (unhide HRG)
          rw [hcs] at q; exact q)
        have HQ3 : Hid (Below w.heap.size w (setMany wB g [(7, .int .i64 600001)])) := hide (by
          have q := unhide HBW
          obtain ⟨o1, o2, o3⟩ := many_os g [(7, .int .i64 600001)] wB
          exact ⟨o1.trans q.os, o2.trans q.tape, o3.trans q.output, by rw [many_size]; exact q.size, fun k hk => (many_other g k (by omega) [(7, .int .i64 600001)] wB).trans (q.block k hk)⟩)
        simp only [setMany] at HQ1 HQ2 HQ3
        clear fg hcs
        go_wp2
        go_meet
        exact ⟨HQ1, HQ2, HQ3⟩
      case rest =>
        rename World => wD
        obtain ⟨HS1, HS2, HS3⟩ := hcut
        refine hK _ _ ?_
        clear hK K HR0 HRG HBW
        obtain ⟨e0, e1, e2, e3, e4, e5, e6, e7, e8, e9, e10, e11, e12⟩ := row13 (unhide HS1)
        obtain ⟨x0, x1, x2, x3, x4, x5, x6, x7, x8, x9, x10, x11, x12⟩ := row13 (unhide HS2)
        have fr := row_cells (unhide HS1)
        have f0 := fr 0
        have f1 := fr 1
        have f2 := fr 2
        have f3 := fr 3
        have f4 := fr 4
        have f5 := fr 5
        have f6 := fr 6
        have f7 := fr 7
        have f8 := fr 8
        have f9 := fr 9
        have f10 := fr 10
        have f11 := fr 11
        have f12 := fr 12
        have hne : g ≠ w.heap.size := by omega
        have hne2 : w.heap.size ≠ g := by omega
        clear fr
        obtain ⟨U, hU⟩ : ∃ U, U = setMany wD w.heap.size [(0, .int .u8 2), (1, .int .u8 0), (2, .int .u8 0), (3, .int .u8 0), (4, .int .u8 0), (5, .int .u8 42), (6, .string ⟨#[107, 101, 114, 110, 101, 108]⟩), (7, .int .i64 600001), (8, .string dg), (9, .int .i64 8), (10, .int .i64 1), (11, .int .i64 16), (12, .int .i64 16)] := ⟨_, rfl⟩
        have hcs : setCs #[.int .u8 0, .int .u8 0, .int .u8 0, .int .u8 0, .int .u8 0, .int .u8 0, .string ⟨#[]⟩, .int .i64 0, .string ⟨#[]⟩, .int .i64 0, .int .i64 0, .int .i64 0, .int .i64 0] [(0, .int .u8 2), (1, .int .u8 0), (2, .int .u8 0), (3, .int .u8 0), (4, .int .u8 0), (5, .int .u8 42), (6, .string ⟨#[107, 101, 114, 110, 101, 108]⟩), (7, .int .i64 600001), (8, .string dg), (9, .int .i64 8), (10, .int .i64 1), (11, .int .i64 16), (12, .int .i64 16)] = #[.int .u8 2, .int .u8 0, .int .u8 0, .int .u8 0, .int .u8 0, .int .u8 42, .string ⟨#[107, 101, 114, 110, 101, 108]⟩, .int .i64 600001, .string dg, .int .i64 8, .int .i64 1, .int .i64 16, .int .i64 16] := by kernel_rfl
        have hr2 : U.heap[w.heap.size]? = some (.cells #[.int .u8 2, .int .u8 0, .int .u8 0, .int .u8 0, .int .u8 0, .int .u8 42, .string ⟨#[107, 101, 114, 110, 101, 108]⟩, .int .i64 600001, .string dg, .int .i64 8, .int .i64 1, .int .i64 16, .int .i64 16] 25 (0, 0)) := by
          have q := many_row w.heap.size [(0, .int .u8 2), (1, .int .u8 0), (2, .int .u8 0), (3, .int .u8 0), (4, .int .u8 0), (5, .int .u8 42), (6, .string ⟨#[107, 101, 114, 110, 101, 108]⟩), (7, .int .i64 600001), (8, .string dg), (9, .int .i64 8), (10, .int .i64 1), (11, .int .i64 16), (12, .int .i64 16)] wD _ (unhide HS1)
          rw [hcs] at q
          rw [hU, q]
        have HW : Hid (Below w.heap.size w U) := hide (by
          have q := unhide HS3
          obtain ⟨o4, o5, o6⟩ := many_os w.heap.size [(0, .int .u8 2), (1, .int .u8 0), (2, .int .u8 0), (3, .int .u8 0), (4, .int .u8 0), (5, .int .u8 42), (6, .string ⟨#[107, 101, 114, 110, 101, 108]⟩), (7, .int .i64 600001), (8, .string dg), (9, .int .i64 8), (10, .int .i64 1), (11, .int .i64 16), (12, .int .i64 16)] wD
          rw [hU]
          exact ⟨o4.trans q.os, o5.trans q.tape, o6.trans q.output, by rw [many_size]; exact q.size, fun k hk => (many_other _ k (by omega) [(0, .int .u8 2), (1, .int .u8 0), (2, .int .u8 0), (3, .int .u8 0), (4, .int .u8 0), (5, .int .u8 42), (6, .string ⟨#[107, 101, 114, 110, 101, 108]⟩), (7, .int .i64 600001), (8, .string dg), (9, .int .i64 8), (10, .int .i64 1), (11, .int .i64 16), (12, .int .i64 16)] _).trans (q.block k hk)⟩)
        obtain ⟨r0, r1, r2, r3, r4, r5, r6, r7, r8, r9, r10, r11, r12⟩ := row13 hr2
        simp only [setMany] at hU
        have HU := hide hU
        clear hU hcs hr2
        go_wp2
        rw [← unhide HU]
        refine bodyPost_ret (v := .agg #[.int .u8 2, .int .u8 0, .int .u8 0, .int .u8 0, .int .u8 0, .int .u8 42, .string ⟨#[107, 101, 114, 110, 101, 108]⟩, .int .i64 600001, .string dg, .int .i64 8, .int .i64 1, .int .i64 16, .int .i64 16]) (by simp [results, Tryz.results11, go_sem, r0, r1, r2, r3, r4, r5, r6, r7, r8, r9, r10, r11, r12]) rfl ?_
        exact ⟨rfl, unhide HW⟩
set_option maxHeartbeats 2000000 in
set_option maxRecDepth 10000 in
theorem changed_8 (dg : ByteArray) (w : World) (HC : Hid (Calls Tryz.prog 5 #[.string ⟨#[]⟩, .int .i64 8, .int .i64 1] (w.alloc (.cells #[.int .u8 0, .int .u8 0, .int .u8 0, .int .u8 0, .int .u8 0, .int .u8 0, .string ⟨#[]⟩, .int .i64 0, .string ⟨#[]⟩, .int .i64 0, .int .i64 0, .int .i64 0, .int .i64 0] 25)) fun e w' => e = .returned (.agg #[.int .u8 2, .int .u8 0, .int .u8 0, .int .u8 0, .int .u8 0, .int .u8 42, .string ⟨#[107, 101, 114, 110, 101, 108]⟩, .int .i64 600000, .string dg, .int .i64 8, .int .i64 1, .int .i64 16, .int .i64 16]) ∧ Below (w.alloc (.cells #[.int .u8 0, .int .u8 0, .int .u8 0, .int .u8 0, .int .u8 0, .int .u8 0, .string ⟨#[]⟩, .int .i64 0, .string ⟨#[]⟩, .int .i64 0, .int .i64 0, .int .i64 0, .int .i64 0] 25)).heap.size (w.alloc (.cells #[.int .u8 0, .int .u8 0, .int .u8 0, .int .u8 0, .int .u8 0, .int .u8 0, .string ⟨#[]⟩, .int .i64 0, .string ⟨#[]⟩, .int .i64 0, .int .i64 0, .int .i64 0, .int .i64 0] 25)) w')) :
    Calls Tryz.prog 11 #[.int .i64 8] w fun e w' => e = .returned (.agg #[.int .u8 2, .int .u8 0, .int .u8 0, .int .u8 0, .int .u8 0, .int .u8 42, .string ⟨#[107, 101, 114, 110, 101, 108]⟩, .int .i64 600000, .string dg, .int .i64 7, .int .i64 1, .int .i64 16, .int .i64 16]) ∧ Below w.heap.size w w' := by
  go_enter Tryz.func11, Tryz.ntmps11
  refine wp_seq_k (fun K hK => ?_)
  go_cut [2] (fun v2 wc => v2 = .pointer (some ⟨w.heap.size, 0, none⟩) ∧ wc = w.alloc (.cells #[.int .u8 0, .int .u8 0, .int .u8 0, .int .u8 0, .int .u8 0, .int .u8 0, .string ⟨#[]⟩, .int .i64 0, .string ⟨#[]⟩, .int .i64 0, .int .i64 0, .int .i64 0, .int .i64 0] 25))
  case first =>
    go_wp2
    go_meet
    exact ⟨rfl, rfl⟩
  case rest =>
    rename World => wA
    obtain ⟨rfl, rfl⟩ := hcut
    refine hK _ _ ?_
    clear hK K
    refine wp_seq_k (fun K hK => ?_)
    go_cut [3] (fun v3 wc => ∃ g, v3 = .pointer (some ⟨g, 0, none⟩) ∧ w.heap.size < g ∧ Hid (wc.heap[w.heap.size]? = some (.cells #[.int .u8 0, .int .u8 0, .int .u8 0, .int .u8 0, .int .u8 0, .int .u8 0, .string ⟨#[]⟩, .int .i64 0, .string ⟨#[]⟩, .int .i64 0, .int .i64 0, .int .i64 0, .int .i64 0] 25 (0, 0))) ∧ Hid (wc.heap[g]? = some (.cells #[.int .u8 2, .int .u8 0, .int .u8 0, .int .u8 0, .int .u8 0, .int .u8 42, .string ⟨#[107, 101, 114, 110, 101, 108]⟩, .int .i64 600000, .string dg, .int .i64 8, .int .i64 1, .int .i64 16, .int .i64 16] 25 (0, 0))) ∧ Hid (Below w.heap.size w wc))
    case first =>
      go_wp2_with fail
      refine (unhide HC).mono ?_
      rintro ee u ⟨rfl, hb⟩
      have HRO := hide ((hb.block w.heap.size (by simp)).trans (heap_alloc_new w (.cells #[.int .u8 0, .int .u8 0, .int .u8 0, .int .u8 0, .int .u8 0, .int .u8 0, .string ⟨#[]⟩, .int .i64 0, .string ⟨#[]⟩, .int .i64 0, .int .i64 0, .int .i64 0, .int .i64 0] 25)))
      have HB := hide (((Below.refl w.heap.size w).alloc (Nat.le_refl _) _).trans (hb.mono (by simp)))
      have hz := lt_of_block (unhide HRO)
      clear hb HC
      go_wp2
      go_meet
      exact ⟨_, rfl, hz, hide ((Below.heap_alloc _ _ _ hz).trans (unhide HRO)), hide (heap_alloc_new u _), hide ((unhide HB).alloc (by omega) _)⟩
    case rest =>
      rename World => wB
      obtain ⟨g, rfl, hgz, HR0, HRG, HBW⟩ := hcut
      refine hK _ _ ?_
      clear hK K HC
      refine wp_seq_k (fun K hK => ?_)
      go_cut [] (fun wc => Hid (wc.heap[w.heap.size]? = some (.cells #[.int .u8 0, .int .u8 0, .int .u8 0, .int .u8 0, .int .u8 0, .int .u8 0, .string ⟨#[]⟩, .int .i64 0, .string ⟨#[]⟩, .int .i64 0, .int .i64 0, .int .i64 0, .int .i64 0] 25 (0, 0))) ∧ Hid (wc.heap[g]? = some (.cells #[.int .u8 2, .int .u8 0, .int .u8 0, .int .u8 0, .int .u8 0, .int .u8 42, .string ⟨#[107, 101, 114, 110, 101, 108]⟩, .int .i64 600000, .string dg, .int .i64 7, .int .i64 1, .int .i64 16, .int .i64 16] 25 (0, 0))) ∧ Hid (Below w.heap.size w wc))
      case first =>
        obtain ⟨x0, x1, x2, x3, x4, x5, x6, x7, x8, x9, x10, x11, x12⟩ := row13 (unhide HRG)
        have fg := row_cells (unhide HRG)
        have h0 := fg 0
        have h1 := fg 1
        have h2 := fg 2
        have h3 := fg 3
        have h4 := fg 4
        have h5 := fg 5
        have h6 := fg 6
        have h7 := fg 7
        have h8 := fg 8
        have h9 := fg 9
        have h10 := fg 10
        have h11 := fg 11
        have h12 := fg 12
        have hcs : setCs #[.int .u8 2, .int .u8 0, .int .u8 0, .int .u8 0, .int .u8 0, .int .u8 42, .string ⟨#[107, 101, 114, 110, 101, 108]⟩, .int .i64 600000, .string dg, .int .i64 8, .int .i64 1, .int .i64 16, .int .i64 16] [(9, .int .i64 7)] = #[.int .u8 2, .int .u8 0, .int .u8 0, .int .u8 0, .int .u8 0, .int .u8 42, .string ⟨#[107, 101, 114, 110, 101, 108]⟩, .int .i64 600000, .string dg, .int .i64 7, .int .i64 1, .int .i64 16, .int .i64 16] := by kernel_rfl
        have HQ1 : Hid ((setMany wB g [(9, .int .i64 7)]).heap[w.heap.size]? = some (.cells #[.int .u8 0, .int .u8 0, .int .u8 0, .int .u8 0, .int .u8 0, .int .u8 0, .string ⟨#[]⟩, .int .i64 0, .string ⟨#[]⟩, .int .i64 0, .int .i64 0, .int .i64 0, .int .i64 0] 25 (0, 0))) := hide ((many_other g _ (by omega) [(9, .int .i64 7)] wB).trans (unhide HR0))
        have HQ2 : Hid ((setMany wB g [(9, .int .i64 7)]).heap[g]? = some (.cells #[.int .u8 2, .int .u8 0, .int .u8 0, .int .u8 0, .int .u8 0, .int .u8 42, .string ⟨#[107, 101, 114, 110, 101, 108]⟩, .int .i64 600000, .string dg, .int .i64 7, .int .i64 1, .int .i64 16, .int .i64 16] 25 (0, 0))) := hide (by
          have q := many_row g [(9, .int .i64 7)] wB _ (unhide HRG)
          rw [hcs] at q; exact q)
        have HQ3 : Hid (Below w.heap.size w (setMany wB g [(9, .int .i64 7)])) := hide (by
          have q := unhide HBW
          obtain ⟨o1, o2, o3⟩ := many_os g [(9, .int .i64 7)] wB
          exact ⟨o1.trans q.os, o2.trans q.tape, o3.trans q.output, by rw [many_size]; exact q.size, fun k hk => (many_other g k (by omega) [(9, .int .i64 7)] wB).trans (q.block k hk)⟩)
        simp only [setMany] at HQ1 HQ2 HQ3
        clear fg hcs
        go_wp2
        go_meet
        exact ⟨HQ1, HQ2, HQ3⟩
      case rest =>
        rename World => wD
        obtain ⟨HS1, HS2, HS3⟩ := hcut
        refine hK _ _ ?_
        clear hK K HR0 HRG HBW
        obtain ⟨e0, e1, e2, e3, e4, e5, e6, e7, e8, e9, e10, e11, e12⟩ := row13 (unhide HS1)
        obtain ⟨x0, x1, x2, x3, x4, x5, x6, x7, x8, x9, x10, x11, x12⟩ := row13 (unhide HS2)
        have fr := row_cells (unhide HS1)
        have f0 := fr 0
        have f1 := fr 1
        have f2 := fr 2
        have f3 := fr 3
        have f4 := fr 4
        have f5 := fr 5
        have f6 := fr 6
        have f7 := fr 7
        have f8 := fr 8
        have f9 := fr 9
        have f10 := fr 10
        have f11 := fr 11
        have f12 := fr 12
        have hne : g ≠ w.heap.size := by omega
        have hne2 : w.heap.size ≠ g := by omega
        clear fr
        obtain ⟨U, hU⟩ : ∃ U, U = setMany wD w.heap.size [(0, .int .u8 2), (1, .int .u8 0), (2, .int .u8 0), (3, .int .u8 0), (4, .int .u8 0), (5, .int .u8 42), (6, .string ⟨#[107, 101, 114, 110, 101, 108]⟩), (7, .int .i64 600000), (8, .string dg), (9, .int .i64 7), (10, .int .i64 1), (11, .int .i64 16), (12, .int .i64 16)] := ⟨_, rfl⟩
        have hcs : setCs #[.int .u8 0, .int .u8 0, .int .u8 0, .int .u8 0, .int .u8 0, .int .u8 0, .string ⟨#[]⟩, .int .i64 0, .string ⟨#[]⟩, .int .i64 0, .int .i64 0, .int .i64 0, .int .i64 0] [(0, .int .u8 2), (1, .int .u8 0), (2, .int .u8 0), (3, .int .u8 0), (4, .int .u8 0), (5, .int .u8 42), (6, .string ⟨#[107, 101, 114, 110, 101, 108]⟩), (7, .int .i64 600000), (8, .string dg), (9, .int .i64 7), (10, .int .i64 1), (11, .int .i64 16), (12, .int .i64 16)] = #[.int .u8 2, .int .u8 0, .int .u8 0, .int .u8 0, .int .u8 0, .int .u8 42, .string ⟨#[107, 101, 114, 110, 101, 108]⟩, .int .i64 600000, .string dg, .int .i64 7, .int .i64 1, .int .i64 16, .int .i64 16] := by kernel_rfl
        have hr2 : U.heap[w.heap.size]? = some (.cells #[.int .u8 2, .int .u8 0, .int .u8 0, .int .u8 0, .int .u8 0, .int .u8 42, .string ⟨#[107, 101, 114, 110, 101, 108]⟩, .int .i64 600000, .string dg, .int .i64 7, .int .i64 1, .int .i64 16, .int .i64 16] 25 (0, 0)) := by
          have q := many_row w.heap.size [(0, .int .u8 2), (1, .int .u8 0), (2, .int .u8 0), (3, .int .u8 0), (4, .int .u8 0), (5, .int .u8 42), (6, .string ⟨#[107, 101, 114, 110, 101, 108]⟩), (7, .int .i64 600000), (8, .string dg), (9, .int .i64 7), (10, .int .i64 1), (11, .int .i64 16), (12, .int .i64 16)] wD _ (unhide HS1)
          rw [hcs] at q
          rw [hU, q]
        have HW : Hid (Below w.heap.size w U) := hide (by
          have q := unhide HS3
          obtain ⟨o4, o5, o6⟩ := many_os w.heap.size [(0, .int .u8 2), (1, .int .u8 0), (2, .int .u8 0), (3, .int .u8 0), (4, .int .u8 0), (5, .int .u8 42), (6, .string ⟨#[107, 101, 114, 110, 101, 108]⟩), (7, .int .i64 600000), (8, .string dg), (9, .int .i64 7), (10, .int .i64 1), (11, .int .i64 16), (12, .int .i64 16)] wD
          rw [hU]
          exact ⟨o4.trans q.os, o5.trans q.tape, o6.trans q.output, by rw [many_size]; exact q.size, fun k hk => (many_other _ k (by omega) [(0, .int .u8 2), (1, .int .u8 0), (2, .int .u8 0), (3, .int .u8 0), (4, .int .u8 0), (5, .int .u8 42), (6, .string ⟨#[107, 101, 114, 110, 101, 108]⟩), (7, .int .i64 600000), (8, .string dg), (9, .int .i64 7), (10, .int .i64 1), (11, .int .i64 16), (12, .int .i64 16)] _).trans (q.block k hk)⟩)
        obtain ⟨r0, r1, r2, r3, r4, r5, r6, r7, r8, r9, r10, r11, r12⟩ := row13 hr2
        simp only [setMany] at hU
        have HU := hide hU
        clear hU hcs hr2
        go_wp2
        rw [← unhide HU]
        refine bodyPost_ret (v := .agg #[.int .u8 2, .int .u8 0, .int .u8 0, .int .u8 0, .int .u8 0, .int .u8 42, .string ⟨#[107, 101, 114, 110, 101, 108]⟩, .int .i64 600000, .string dg, .int .i64 7, .int .i64 1, .int .i64 16, .int .i64 16]) (by simp [results, Tryz.results11, go_sem, r0, r1, r2, r3, r4, r5, r6, r7, r8, r9, r10, r11, r12]) rfl ?_
        exact ⟨rfl, unhide HW⟩
set_option maxHeartbeats 2000000 in
set_option maxRecDepth 10000 in
theorem changed_9 (dg : ByteArray) (w : World) (HC : Hid (Calls Tryz.prog 5 #[.string ⟨#[]⟩, .int .i64 8, .int .i64 1] (w.alloc (.cells #[.int .u8 0, .int .u8 0, .int .u8 0, .int .u8 0, .int .u8 0, .int .u8 0, .string ⟨#[]⟩, .int .i64 0, .string ⟨#[]⟩, .int .i64 0, .int .i64 0, .int .i64 0, .int .i64 0] 25)) fun e w' => e = .returned (.agg #[.int .u8 2, .int .u8 0, .int .u8 0, .int .u8 0, .int .u8 0, .int .u8 42, .string ⟨#[107, 101, 114, 110, 101, 108]⟩, .int .i64 600000, .string dg, .int .i64 8, .int .i64 1, .int .i64 16, .int .i64 16]) ∧ Below (w.alloc (.cells #[.int .u8 0, .int .u8 0, .int .u8 0, .int .u8 0, .int .u8 0, .int .u8 0, .string ⟨#[]⟩, .int .i64 0, .string ⟨#[]⟩, .int .i64 0, .int .i64 0, .int .i64 0, .int .i64 0] 25)).heap.size (w.alloc (.cells #[.int .u8 0, .int .u8 0, .int .u8 0, .int .u8 0, .int .u8 0, .int .u8 0, .string ⟨#[]⟩, .int .i64 0, .string ⟨#[]⟩, .int .i64 0, .int .i64 0, .int .i64 0, .int .i64 0] 25)) w')) :
    Calls Tryz.prog 11 #[.int .i64 9] w fun e w' => e = .returned (.agg #[.int .u8 2, .int .u8 0, .int .u8 0, .int .u8 0, .int .u8 0, .int .u8 42, .string ⟨#[107, 101, 114, 110, 101, 108]⟩, .int .i64 600000, .string dg, .int .i64 1025, .int .i64 1, .int .i64 16, .int .i64 16]) ∧ Below w.heap.size w w' := by
  go_enter Tryz.func11, Tryz.ntmps11
  refine wp_seq_k (fun K hK => ?_)
  go_cut [2] (fun v2 wc => v2 = .pointer (some ⟨w.heap.size, 0, none⟩) ∧ wc = w.alloc (.cells #[.int .u8 0, .int .u8 0, .int .u8 0, .int .u8 0, .int .u8 0, .int .u8 0, .string ⟨#[]⟩, .int .i64 0, .string ⟨#[]⟩, .int .i64 0, .int .i64 0, .int .i64 0, .int .i64 0] 25))
  case first =>
    go_wp2
    go_meet
    exact ⟨rfl, rfl⟩
  case rest =>
    rename World => wA
    obtain ⟨rfl, rfl⟩ := hcut
    refine hK _ _ ?_
    clear hK K
    refine wp_seq_k (fun K hK => ?_)
    go_cut [3] (fun v3 wc => ∃ g, v3 = .pointer (some ⟨g, 0, none⟩) ∧ w.heap.size < g ∧ Hid (wc.heap[w.heap.size]? = some (.cells #[.int .u8 0, .int .u8 0, .int .u8 0, .int .u8 0, .int .u8 0, .int .u8 0, .string ⟨#[]⟩, .int .i64 0, .string ⟨#[]⟩, .int .i64 0, .int .i64 0, .int .i64 0, .int .i64 0] 25 (0, 0))) ∧ Hid (wc.heap[g]? = some (.cells #[.int .u8 2, .int .u8 0, .int .u8 0, .int .u8 0, .int .u8 0, .int .u8 42, .string ⟨#[107, 101, 114, 110, 101, 108]⟩, .int .i64 600000, .string dg, .int .i64 8, .int .i64 1, .int .i64 16, .int .i64 16] 25 (0, 0))) ∧ Hid (Below w.heap.size w wc))
    case first =>
      go_wp2_with fail
      refine (unhide HC).mono ?_
      rintro ee u ⟨rfl, hb⟩
      have HRO := hide ((hb.block w.heap.size (by simp)).trans (heap_alloc_new w (.cells #[.int .u8 0, .int .u8 0, .int .u8 0, .int .u8 0, .int .u8 0, .int .u8 0, .string ⟨#[]⟩, .int .i64 0, .string ⟨#[]⟩, .int .i64 0, .int .i64 0, .int .i64 0, .int .i64 0] 25)))
      have HB := hide (((Below.refl w.heap.size w).alloc (Nat.le_refl _) _).trans (hb.mono (by simp)))
      have hz := lt_of_block (unhide HRO)
      clear hb HC
      go_wp2
      go_meet
      exact ⟨_, rfl, hz, hide ((Below.heap_alloc _ _ _ hz).trans (unhide HRO)), hide (heap_alloc_new u _), hide ((unhide HB).alloc (by omega) _)⟩
    case rest =>
      rename World => wB
      obtain ⟨g, rfl, hgz, HR0, HRG, HBW⟩ := hcut
      refine hK _ _ ?_
      clear hK K HC
      refine wp_seq_k (fun K hK => ?_)
      go_cut [] (fun wc => Hid (wc.heap[w.heap.size]? = some (.cells #[.int .u8 0, .int .u8 0, .int .u8 0, .int .u8 0, .int .u8 0, .int .u8 0, .string ⟨#[]⟩, .int .i64 0, .string ⟨#[]⟩, .int .i64 0, .int .i64 0, .int .i64 0, .int .i64 0] 25 (0, 0))) ∧ Hid (wc.heap[g]? = some (.cells #[.int .u8 2, .int .u8 0, .int .u8 0, .int .u8 0, .int .u8 0, .int .u8 42, .string ⟨#[107, 101, 114, 110, 101, 108]⟩, .int .i64 600000, .string dg, .int .i64 1025, .int .i64 1, .int .i64 16, .int .i64 16] 25 (0, 0))) ∧ Hid (Below w.heap.size w wc))
      case first =>
        obtain ⟨x0, x1, x2, x3, x4, x5, x6, x7, x8, x9, x10, x11, x12⟩ := row13 (unhide HRG)
        have fg := row_cells (unhide HRG)
        have h0 := fg 0
        have h1 := fg 1
        have h2 := fg 2
        have h3 := fg 3
        have h4 := fg 4
        have h5 := fg 5
        have h6 := fg 6
        have h7 := fg 7
        have h8 := fg 8
        have h9 := fg 9
        have h10 := fg 10
        have h11 := fg 11
        have h12 := fg 12
        have hcs : setCs #[.int .u8 2, .int .u8 0, .int .u8 0, .int .u8 0, .int .u8 0, .int .u8 42, .string ⟨#[107, 101, 114, 110, 101, 108]⟩, .int .i64 600000, .string dg, .int .i64 8, .int .i64 1, .int .i64 16, .int .i64 16] [(9, .int .i64 1025)] = #[.int .u8 2, .int .u8 0, .int .u8 0, .int .u8 0, .int .u8 0, .int .u8 42, .string ⟨#[107, 101, 114, 110, 101, 108]⟩, .int .i64 600000, .string dg, .int .i64 1025, .int .i64 1, .int .i64 16, .int .i64 16] := by kernel_rfl
        have HQ1 : Hid ((setMany wB g [(9, .int .i64 1025)]).heap[w.heap.size]? = some (.cells #[.int .u8 0, .int .u8 0, .int .u8 0, .int .u8 0, .int .u8 0, .int .u8 0, .string ⟨#[]⟩, .int .i64 0, .string ⟨#[]⟩, .int .i64 0, .int .i64 0, .int .i64 0, .int .i64 0] 25 (0, 0))) := hide ((many_other g _ (by omega) [(9, .int .i64 1025)] wB).trans (unhide HR0))
        have HQ2 : Hid ((setMany wB g [(9, .int .i64 1025)]).heap[g]? = some (.cells #[.int .u8 2, .int .u8 0, .int .u8 0, .int .u8 0, .int .u8 0, .int .u8 42, .string ⟨#[107, 101, 114, 110, 101, 108]⟩, .int .i64 600000, .string dg, .int .i64 1025, .int .i64 1, .int .i64 16, .int .i64 16] 25 (0, 0))) := hide (by
          have q := many_row g [(9, .int .i64 1025)] wB _ (unhide HRG)
          rw [hcs] at q; exact q)
        have HQ3 : Hid (Below w.heap.size w (setMany wB g [(9, .int .i64 1025)])) := hide (by
          have q := unhide HBW
          obtain ⟨o1, o2, o3⟩ := many_os g [(9, .int .i64 1025)] wB
          exact ⟨o1.trans q.os, o2.trans q.tape, o3.trans q.output, by rw [many_size]; exact q.size, fun k hk => (many_other g k (by omega) [(9, .int .i64 1025)] wB).trans (q.block k hk)⟩)
        simp only [setMany] at HQ1 HQ2 HQ3
        clear fg hcs
        go_wp2
        go_meet
        exact ⟨HQ1, HQ2, HQ3⟩
      case rest =>
        rename World => wD
        obtain ⟨HS1, HS2, HS3⟩ := hcut
        refine hK _ _ ?_
        clear hK K HR0 HRG HBW
        obtain ⟨e0, e1, e2, e3, e4, e5, e6, e7, e8, e9, e10, e11, e12⟩ := row13 (unhide HS1)
        obtain ⟨x0, x1, x2, x3, x4, x5, x6, x7, x8, x9, x10, x11, x12⟩ := row13 (unhide HS2)
        have fr := row_cells (unhide HS1)
        have f0 := fr 0
        have f1 := fr 1
        have f2 := fr 2
        have f3 := fr 3
        have f4 := fr 4
        have f5 := fr 5
        have f6 := fr 6
        have f7 := fr 7
        have f8 := fr 8
        have f9 := fr 9
        have f10 := fr 10
        have f11 := fr 11
        have f12 := fr 12
        have hne : g ≠ w.heap.size := by omega
        have hne2 : w.heap.size ≠ g := by omega
        clear fr
        obtain ⟨U, hU⟩ : ∃ U, U = setMany wD w.heap.size [(0, .int .u8 2), (1, .int .u8 0), (2, .int .u8 0), (3, .int .u8 0), (4, .int .u8 0), (5, .int .u8 42), (6, .string ⟨#[107, 101, 114, 110, 101, 108]⟩), (7, .int .i64 600000), (8, .string dg), (9, .int .i64 1025), (10, .int .i64 1), (11, .int .i64 16), (12, .int .i64 16)] := ⟨_, rfl⟩
        have hcs : setCs #[.int .u8 0, .int .u8 0, .int .u8 0, .int .u8 0, .int .u8 0, .int .u8 0, .string ⟨#[]⟩, .int .i64 0, .string ⟨#[]⟩, .int .i64 0, .int .i64 0, .int .i64 0, .int .i64 0] [(0, .int .u8 2), (1, .int .u8 0), (2, .int .u8 0), (3, .int .u8 0), (4, .int .u8 0), (5, .int .u8 42), (6, .string ⟨#[107, 101, 114, 110, 101, 108]⟩), (7, .int .i64 600000), (8, .string dg), (9, .int .i64 1025), (10, .int .i64 1), (11, .int .i64 16), (12, .int .i64 16)] = #[.int .u8 2, .int .u8 0, .int .u8 0, .int .u8 0, .int .u8 0, .int .u8 42, .string ⟨#[107, 101, 114, 110, 101, 108]⟩, .int .i64 600000, .string dg, .int .i64 1025, .int .i64 1, .int .i64 16, .int .i64 16] := by kernel_rfl
        have hr2 : U.heap[w.heap.size]? = some (.cells #[.int .u8 2, .int .u8 0, .int .u8 0, .int .u8 0, .int .u8 0, .int .u8 42, .string ⟨#[107, 101, 114, 110, 101, 108]⟩, .int .i64 600000, .string dg, .int .i64 1025, .int .i64 1, .int .i64 16, .int .i64 16] 25 (0, 0)) := by
          have q := many_row w.heap.size [(0, .int .u8 2), (1, .int .u8 0), (2, .int .u8 0), (3, .int .u8 0), (4, .int .u8 0), (5, .int .u8 42), (6, .string ⟨#[107, 101, 114, 110, 101, 108]⟩), (7, .int .i64 600000), (8, .string dg), (9, .int .i64 1025), (10, .int .i64 1), (11, .int .i64 16), (12, .int .i64 16)] wD _ (unhide HS1)
          rw [hcs] at q
          rw [hU, q]
        have HW : Hid (Below w.heap.size w U) := hide (by
          have q := unhide HS3
          obtain ⟨o4, o5, o6⟩ := many_os w.heap.size [(0, .int .u8 2), (1, .int .u8 0), (2, .int .u8 0), (3, .int .u8 0), (4, .int .u8 0), (5, .int .u8 42), (6, .string ⟨#[107, 101, 114, 110, 101, 108]⟩), (7, .int .i64 600000), (8, .string dg), (9, .int .i64 1025), (10, .int .i64 1), (11, .int .i64 16), (12, .int .i64 16)] wD
          rw [hU]
          exact ⟨o4.trans q.os, o5.trans q.tape, o6.trans q.output, by rw [many_size]; exact q.size, fun k hk => (many_other _ k (by omega) [(0, .int .u8 2), (1, .int .u8 0), (2, .int .u8 0), (3, .int .u8 0), (4, .int .u8 0), (5, .int .u8 42), (6, .string ⟨#[107, 101, 114, 110, 101, 108]⟩), (7, .int .i64 600000), (8, .string dg), (9, .int .i64 1025), (10, .int .i64 1), (11, .int .i64 16), (12, .int .i64 16)] _).trans (q.block k hk)⟩)
        obtain ⟨r0, r1, r2, r3, r4, r5, r6, r7, r8, r9, r10, r11, r12⟩ := row13 hr2
        simp only [setMany] at hU
        have HU := hide hU
        clear hU hcs hr2
        go_wp2
        rw [← unhide HU]
        refine bodyPost_ret (v := .agg #[.int .u8 2, .int .u8 0, .int .u8 0, .int .u8 0, .int .u8 0, .int .u8 42, .string ⟨#[107, 101, 114, 110, 101, 108]⟩, .int .i64 600000, .string dg, .int .i64 1025, .int .i64 1, .int .i64 16, .int .i64 16]) (by simp [results, Tryz.results11, go_sem, r0, r1, r2, r3, r4, r5, r6, r7, r8, r9, r10, r11, r12]) rfl ?_
        exact ⟨rfl, unhide HW⟩
set_option maxHeartbeats 2000000 in
set_option maxRecDepth 10000 in
theorem changed_10 (dg : ByteArray) (w : World) (HC : Hid (Calls Tryz.prog 5 #[.string ⟨#[]⟩, .int .i64 8, .int .i64 1] (w.alloc (.cells #[.int .u8 0, .int .u8 0, .int .u8 0, .int .u8 0, .int .u8 0, .int .u8 0, .string ⟨#[]⟩, .int .i64 0, .string ⟨#[]⟩, .int .i64 0, .int .i64 0, .int .i64 0, .int .i64 0] 25)) fun e w' => e = .returned (.agg #[.int .u8 2, .int .u8 0, .int .u8 0, .int .u8 0, .int .u8 0, .int .u8 42, .string ⟨#[107, 101, 114, 110, 101, 108]⟩, .int .i64 600000, .string dg, .int .i64 8, .int .i64 1, .int .i64 16, .int .i64 16]) ∧ Below (w.alloc (.cells #[.int .u8 0, .int .u8 0, .int .u8 0, .int .u8 0, .int .u8 0, .int .u8 0, .string ⟨#[]⟩, .int .i64 0, .string ⟨#[]⟩, .int .i64 0, .int .i64 0, .int .i64 0, .int .i64 0] 25)).heap.size (w.alloc (.cells #[.int .u8 0, .int .u8 0, .int .u8 0, .int .u8 0, .int .u8 0, .int .u8 0, .string ⟨#[]⟩, .int .i64 0, .string ⟨#[]⟩, .int .i64 0, .int .i64 0, .int .i64 0, .int .i64 0] 25)) w')) :
    Calls Tryz.prog 11 #[.int .i64 10] w fun e w' => e = .returned (.agg #[.int .u8 2, .int .u8 0, .int .u8 0, .int .u8 0, .int .u8 0, .int .u8 42, .string ⟨#[107, 101, 114, 110, 101, 108]⟩, .int .i64 600000, .string dg, .int .i64 8, .int .i64 0, .int .i64 16, .int .i64 16]) ∧ Below w.heap.size w w' := by
  go_enter Tryz.func11, Tryz.ntmps11
  refine wp_seq_k (fun K hK => ?_)
  go_cut [2] (fun v2 wc => v2 = .pointer (some ⟨w.heap.size, 0, none⟩) ∧ wc = w.alloc (.cells #[.int .u8 0, .int .u8 0, .int .u8 0, .int .u8 0, .int .u8 0, .int .u8 0, .string ⟨#[]⟩, .int .i64 0, .string ⟨#[]⟩, .int .i64 0, .int .i64 0, .int .i64 0, .int .i64 0] 25))
  case first =>
    go_wp2
    go_meet
    exact ⟨rfl, rfl⟩
  case rest =>
    rename World => wA
    obtain ⟨rfl, rfl⟩ := hcut
    refine hK _ _ ?_
    clear hK K
    refine wp_seq_k (fun K hK => ?_)
    go_cut [3] (fun v3 wc => ∃ g, v3 = .pointer (some ⟨g, 0, none⟩) ∧ w.heap.size < g ∧ Hid (wc.heap[w.heap.size]? = some (.cells #[.int .u8 0, .int .u8 0, .int .u8 0, .int .u8 0, .int .u8 0, .int .u8 0, .string ⟨#[]⟩, .int .i64 0, .string ⟨#[]⟩, .int .i64 0, .int .i64 0, .int .i64 0, .int .i64 0] 25 (0, 0))) ∧ Hid (wc.heap[g]? = some (.cells #[.int .u8 2, .int .u8 0, .int .u8 0, .int .u8 0, .int .u8 0, .int .u8 42, .string ⟨#[107, 101, 114, 110, 101, 108]⟩, .int .i64 600000, .string dg, .int .i64 8, .int .i64 1, .int .i64 16, .int .i64 16] 25 (0, 0))) ∧ Hid (Below w.heap.size w wc))
    case first =>
      go_wp2_with fail
      refine (unhide HC).mono ?_
      rintro ee u ⟨rfl, hb⟩
      have HRO := hide ((hb.block w.heap.size (by simp)).trans (heap_alloc_new w (.cells #[.int .u8 0, .int .u8 0, .int .u8 0, .int .u8 0, .int .u8 0, .int .u8 0, .string ⟨#[]⟩, .int .i64 0, .string ⟨#[]⟩, .int .i64 0, .int .i64 0, .int .i64 0, .int .i64 0] 25)))
      have HB := hide (((Below.refl w.heap.size w).alloc (Nat.le_refl _) _).trans (hb.mono (by simp)))
      have hz := lt_of_block (unhide HRO)
      clear hb HC
      go_wp2
      go_meet
      exact ⟨_, rfl, hz, hide ((Below.heap_alloc _ _ _ hz).trans (unhide HRO)), hide (heap_alloc_new u _), hide ((unhide HB).alloc (by omega) _)⟩
    case rest =>
      rename World => wB
      obtain ⟨g, rfl, hgz, HR0, HRG, HBW⟩ := hcut
      refine hK _ _ ?_
      clear hK K HC
      refine wp_seq_k (fun K hK => ?_)
      go_cut [] (fun wc => Hid (wc.heap[w.heap.size]? = some (.cells #[.int .u8 0, .int .u8 0, .int .u8 0, .int .u8 0, .int .u8 0, .int .u8 0, .string ⟨#[]⟩, .int .i64 0, .string ⟨#[]⟩, .int .i64 0, .int .i64 0, .int .i64 0, .int .i64 0] 25 (0, 0))) ∧ Hid (wc.heap[g]? = some (.cells #[.int .u8 2, .int .u8 0, .int .u8 0, .int .u8 0, .int .u8 0, .int .u8 42, .string ⟨#[107, 101, 114, 110, 101, 108]⟩, .int .i64 600000, .string dg, .int .i64 8, .int .i64 0, .int .i64 16, .int .i64 16] 25 (0, 0))) ∧ Hid (Below w.heap.size w wc))
      case first =>
        obtain ⟨x0, x1, x2, x3, x4, x5, x6, x7, x8, x9, x10, x11, x12⟩ := row13 (unhide HRG)
        have fg := row_cells (unhide HRG)
        have h0 := fg 0
        have h1 := fg 1
        have h2 := fg 2
        have h3 := fg 3
        have h4 := fg 4
        have h5 := fg 5
        have h6 := fg 6
        have h7 := fg 7
        have h8 := fg 8
        have h9 := fg 9
        have h10 := fg 10
        have h11 := fg 11
        have h12 := fg 12
        have hcs : setCs #[.int .u8 2, .int .u8 0, .int .u8 0, .int .u8 0, .int .u8 0, .int .u8 42, .string ⟨#[107, 101, 114, 110, 101, 108]⟩, .int .i64 600000, .string dg, .int .i64 8, .int .i64 1, .int .i64 16, .int .i64 16] [(10, .int .i64 0)] = #[.int .u8 2, .int .u8 0, .int .u8 0, .int .u8 0, .int .u8 0, .int .u8 42, .string ⟨#[107, 101, 114, 110, 101, 108]⟩, .int .i64 600000, .string dg, .int .i64 8, .int .i64 0, .int .i64 16, .int .i64 16] := by kernel_rfl
        have HQ1 : Hid ((setMany wB g [(10, .int .i64 0)]).heap[w.heap.size]? = some (.cells #[.int .u8 0, .int .u8 0, .int .u8 0, .int .u8 0, .int .u8 0, .int .u8 0, .string ⟨#[]⟩, .int .i64 0, .string ⟨#[]⟩, .int .i64 0, .int .i64 0, .int .i64 0, .int .i64 0] 25 (0, 0))) := hide ((many_other g _ (by omega) [(10, .int .i64 0)] wB).trans (unhide HR0))
        have HQ2 : Hid ((setMany wB g [(10, .int .i64 0)]).heap[g]? = some (.cells #[.int .u8 2, .int .u8 0, .int .u8 0, .int .u8 0, .int .u8 0, .int .u8 42, .string ⟨#[107, 101, 114, 110, 101, 108]⟩, .int .i64 600000, .string dg, .int .i64 8, .int .i64 0, .int .i64 16, .int .i64 16] 25 (0, 0))) := hide (by
          have q := many_row g [(10, .int .i64 0)] wB _ (unhide HRG)
          rw [hcs] at q; exact q)
        have HQ3 : Hid (Below w.heap.size w (setMany wB g [(10, .int .i64 0)])) := hide (by
          have q := unhide HBW
          obtain ⟨o1, o2, o3⟩ := many_os g [(10, .int .i64 0)] wB
          exact ⟨o1.trans q.os, o2.trans q.tape, o3.trans q.output, by rw [many_size]; exact q.size, fun k hk => (many_other g k (by omega) [(10, .int .i64 0)] wB).trans (q.block k hk)⟩)
        simp only [setMany] at HQ1 HQ2 HQ3
        clear fg hcs
        go_wp2
        go_meet
        exact ⟨HQ1, HQ2, HQ3⟩
      case rest =>
        rename World => wD
        obtain ⟨HS1, HS2, HS3⟩ := hcut
        refine hK _ _ ?_
        clear hK K HR0 HRG HBW
        obtain ⟨e0, e1, e2, e3, e4, e5, e6, e7, e8, e9, e10, e11, e12⟩ := row13 (unhide HS1)
        obtain ⟨x0, x1, x2, x3, x4, x5, x6, x7, x8, x9, x10, x11, x12⟩ := row13 (unhide HS2)
        have fr := row_cells (unhide HS1)
        have f0 := fr 0
        have f1 := fr 1
        have f2 := fr 2
        have f3 := fr 3
        have f4 := fr 4
        have f5 := fr 5
        have f6 := fr 6
        have f7 := fr 7
        have f8 := fr 8
        have f9 := fr 9
        have f10 := fr 10
        have f11 := fr 11
        have f12 := fr 12
        have hne : g ≠ w.heap.size := by omega
        have hne2 : w.heap.size ≠ g := by omega
        clear fr
        obtain ⟨U, hU⟩ : ∃ U, U = setMany wD w.heap.size [(0, .int .u8 2), (1, .int .u8 0), (2, .int .u8 0), (3, .int .u8 0), (4, .int .u8 0), (5, .int .u8 42), (6, .string ⟨#[107, 101, 114, 110, 101, 108]⟩), (7, .int .i64 600000), (8, .string dg), (9, .int .i64 8), (10, .int .i64 0), (11, .int .i64 16), (12, .int .i64 16)] := ⟨_, rfl⟩
        have hcs : setCs #[.int .u8 0, .int .u8 0, .int .u8 0, .int .u8 0, .int .u8 0, .int .u8 0, .string ⟨#[]⟩, .int .i64 0, .string ⟨#[]⟩, .int .i64 0, .int .i64 0, .int .i64 0, .int .i64 0] [(0, .int .u8 2), (1, .int .u8 0), (2, .int .u8 0), (3, .int .u8 0), (4, .int .u8 0), (5, .int .u8 42), (6, .string ⟨#[107, 101, 114, 110, 101, 108]⟩), (7, .int .i64 600000), (8, .string dg), (9, .int .i64 8), (10, .int .i64 0), (11, .int .i64 16), (12, .int .i64 16)] = #[.int .u8 2, .int .u8 0, .int .u8 0, .int .u8 0, .int .u8 0, .int .u8 42, .string ⟨#[107, 101, 114, 110, 101, 108]⟩, .int .i64 600000, .string dg, .int .i64 8, .int .i64 0, .int .i64 16, .int .i64 16] := by kernel_rfl
        have hr2 : U.heap[w.heap.size]? = some (.cells #[.int .u8 2, .int .u8 0, .int .u8 0, .int .u8 0, .int .u8 0, .int .u8 42, .string ⟨#[107, 101, 114, 110, 101, 108]⟩, .int .i64 600000, .string dg, .int .i64 8, .int .i64 0, .int .i64 16, .int .i64 16] 25 (0, 0)) := by
          have q := many_row w.heap.size [(0, .int .u8 2), (1, .int .u8 0), (2, .int .u8 0), (3, .int .u8 0), (4, .int .u8 0), (5, .int .u8 42), (6, .string ⟨#[107, 101, 114, 110, 101, 108]⟩), (7, .int .i64 600000), (8, .string dg), (9, .int .i64 8), (10, .int .i64 0), (11, .int .i64 16), (12, .int .i64 16)] wD _ (unhide HS1)
          rw [hcs] at q
          rw [hU, q]
        have HW : Hid (Below w.heap.size w U) := hide (by
          have q := unhide HS3
          obtain ⟨o4, o5, o6⟩ := many_os w.heap.size [(0, .int .u8 2), (1, .int .u8 0), (2, .int .u8 0), (3, .int .u8 0), (4, .int .u8 0), (5, .int .u8 42), (6, .string ⟨#[107, 101, 114, 110, 101, 108]⟩), (7, .int .i64 600000), (8, .string dg), (9, .int .i64 8), (10, .int .i64 0), (11, .int .i64 16), (12, .int .i64 16)] wD
          rw [hU]
          exact ⟨o4.trans q.os, o5.trans q.tape, o6.trans q.output, by rw [many_size]; exact q.size, fun k hk => (many_other _ k (by omega) [(0, .int .u8 2), (1, .int .u8 0), (2, .int .u8 0), (3, .int .u8 0), (4, .int .u8 0), (5, .int .u8 42), (6, .string ⟨#[107, 101, 114, 110, 101, 108]⟩), (7, .int .i64 600000), (8, .string dg), (9, .int .i64 8), (10, .int .i64 0), (11, .int .i64 16), (12, .int .i64 16)] _).trans (q.block k hk)⟩)
        obtain ⟨r0, r1, r2, r3, r4, r5, r6, r7, r8, r9, r10, r11, r12⟩ := row13 hr2
        simp only [setMany] at hU
        have HU := hide hU
        clear hU hcs hr2
        go_wp2
        rw [← unhide HU]
        refine bodyPost_ret (v := .agg #[.int .u8 2, .int .u8 0, .int .u8 0, .int .u8 0, .int .u8 0, .int .u8 42, .string ⟨#[107, 101, 114, 110, 101, 108]⟩, .int .i64 600000, .string dg, .int .i64 8, .int .i64 0, .int .i64 16, .int .i64 16]) (by simp [results, Tryz.results11, go_sem, r0, r1, r2, r3, r4, r5, r6, r7, r8, r9, r10, r11, r12]) rfl ?_
        exact ⟨rfl, unhide HW⟩
set_option maxHeartbeats 2000000 in
set_option maxRecDepth 10000 in
theorem changed_11 (dg : ByteArray) (w : World) (HC : Hid (Calls Tryz.prog 5 #[.string ⟨#[]⟩, .int .i64 8, .int .i64 1] (w.alloc (.cells #[.int .u8 0, .int .u8 0, .int .u8 0, .int .u8 0, .int .u8 0, .int .u8 0, .string ⟨#[]⟩, .int .i64 0, .string ⟨#[]⟩, .int .i64 0, .int .i64 0, .int .i64 0, .int .i64 0] 25)) fun e w' => e = .returned (.agg #[.int .u8 2, .int .u8 0, .int .u8 0, .int .u8 0, .int .u8 0, .int .u8 42, .string ⟨#[107, 101, 114, 110, 101, 108]⟩, .int .i64 600000, .string dg, .int .i64 8, .int .i64 1, .int .i64 16, .int .i64 16]) ∧ Below (w.alloc (.cells #[.int .u8 0, .int .u8 0, .int .u8 0, .int .u8 0, .int .u8 0, .int .u8 0, .string ⟨#[]⟩, .int .i64 0, .string ⟨#[]⟩, .int .i64 0, .int .i64 0, .int .i64 0, .int .i64 0] 25)).heap.size (w.alloc (.cells #[.int .u8 0, .int .u8 0, .int .u8 0, .int .u8 0, .int .u8 0, .int .u8 0, .string ⟨#[]⟩, .int .i64 0, .string ⟨#[]⟩, .int .i64 0, .int .i64 0, .int .i64 0, .int .i64 0] 25)) w')) :
    Calls Tryz.prog 11 #[.int .i64 11] w fun e w' => e = .returned (.agg #[.int .u8 2, .int .u8 0, .int .u8 0, .int .u8 0, .int .u8 0, .int .u8 42, .string ⟨#[107, 101, 114, 110, 101, 108]⟩, .int .i64 600000, .string dg, .int .i64 8, .int .i64 9, .int .i64 16, .int .i64 16]) ∧ Below w.heap.size w w' := by
  go_enter Tryz.func11, Tryz.ntmps11
  refine wp_seq_k (fun K hK => ?_)
  go_cut [2] (fun v2 wc => v2 = .pointer (some ⟨w.heap.size, 0, none⟩) ∧ wc = w.alloc (.cells #[.int .u8 0, .int .u8 0, .int .u8 0, .int .u8 0, .int .u8 0, .int .u8 0, .string ⟨#[]⟩, .int .i64 0, .string ⟨#[]⟩, .int .i64 0, .int .i64 0, .int .i64 0, .int .i64 0] 25))
  case first =>
    go_wp2
    go_meet
    exact ⟨rfl, rfl⟩
  case rest =>
    rename World => wA
    obtain ⟨rfl, rfl⟩ := hcut
    refine hK _ _ ?_
    clear hK K
    refine wp_seq_k (fun K hK => ?_)
    go_cut [3] (fun v3 wc => ∃ g, v3 = .pointer (some ⟨g, 0, none⟩) ∧ w.heap.size < g ∧ Hid (wc.heap[w.heap.size]? = some (.cells #[.int .u8 0, .int .u8 0, .int .u8 0, .int .u8 0, .int .u8 0, .int .u8 0, .string ⟨#[]⟩, .int .i64 0, .string ⟨#[]⟩, .int .i64 0, .int .i64 0, .int .i64 0, .int .i64 0] 25 (0, 0))) ∧ Hid (wc.heap[g]? = some (.cells #[.int .u8 2, .int .u8 0, .int .u8 0, .int .u8 0, .int .u8 0, .int .u8 42, .string ⟨#[107, 101, 114, 110, 101, 108]⟩, .int .i64 600000, .string dg, .int .i64 8, .int .i64 1, .int .i64 16, .int .i64 16] 25 (0, 0))) ∧ Hid (Below w.heap.size w wc))
    case first =>
      go_wp2_with fail
      refine (unhide HC).mono ?_
      rintro ee u ⟨rfl, hb⟩
      have HRO := hide ((hb.block w.heap.size (by simp)).trans (heap_alloc_new w (.cells #[.int .u8 0, .int .u8 0, .int .u8 0, .int .u8 0, .int .u8 0, .int .u8 0, .string ⟨#[]⟩, .int .i64 0, .string ⟨#[]⟩, .int .i64 0, .int .i64 0, .int .i64 0, .int .i64 0] 25)))
      have HB := hide (((Below.refl w.heap.size w).alloc (Nat.le_refl _) _).trans (hb.mono (by simp)))
      have hz := lt_of_block (unhide HRO)
      clear hb HC
      go_wp2
      go_meet
      exact ⟨_, rfl, hz, hide ((Below.heap_alloc _ _ _ hz).trans (unhide HRO)), hide (heap_alloc_new u _), hide ((unhide HB).alloc (by omega) _)⟩
    case rest =>
      rename World => wB
      obtain ⟨g, rfl, hgz, HR0, HRG, HBW⟩ := hcut
      refine hK _ _ ?_
      clear hK K HC
      refine wp_seq_k (fun K hK => ?_)
      go_cut [] (fun wc => Hid (wc.heap[w.heap.size]? = some (.cells #[.int .u8 0, .int .u8 0, .int .u8 0, .int .u8 0, .int .u8 0, .int .u8 0, .string ⟨#[]⟩, .int .i64 0, .string ⟨#[]⟩, .int .i64 0, .int .i64 0, .int .i64 0, .int .i64 0] 25 (0, 0))) ∧ Hid (wc.heap[g]? = some (.cells #[.int .u8 2, .int .u8 0, .int .u8 0, .int .u8 0, .int .u8 0, .int .u8 42, .string ⟨#[107, 101, 114, 110, 101, 108]⟩, .int .i64 600000, .string dg, .int .i64 8, .int .i64 9, .int .i64 16, .int .i64 16] 25 (0, 0))) ∧ Hid (Below w.heap.size w wc))
      case first =>
        obtain ⟨x0, x1, x2, x3, x4, x5, x6, x7, x8, x9, x10, x11, x12⟩ := row13 (unhide HRG)
        have fg := row_cells (unhide HRG)
        have h0 := fg 0
        have h1 := fg 1
        have h2 := fg 2
        have h3 := fg 3
        have h4 := fg 4
        have h5 := fg 5
        have h6 := fg 6
        have h7 := fg 7
        have h8 := fg 8
        have h9 := fg 9
        have h10 := fg 10
        have h11 := fg 11
        have h12 := fg 12
        have hcs : setCs #[.int .u8 2, .int .u8 0, .int .u8 0, .int .u8 0, .int .u8 0, .int .u8 42, .string ⟨#[107, 101, 114, 110, 101, 108]⟩, .int .i64 600000, .string dg, .int .i64 8, .int .i64 1, .int .i64 16, .int .i64 16] [(10, .int .i64 9)] = #[.int .u8 2, .int .u8 0, .int .u8 0, .int .u8 0, .int .u8 0, .int .u8 42, .string ⟨#[107, 101, 114, 110, 101, 108]⟩, .int .i64 600000, .string dg, .int .i64 8, .int .i64 9, .int .i64 16, .int .i64 16] := by kernel_rfl
        have HQ1 : Hid ((setMany wB g [(10, .int .i64 9)]).heap[w.heap.size]? = some (.cells #[.int .u8 0, .int .u8 0, .int .u8 0, .int .u8 0, .int .u8 0, .int .u8 0, .string ⟨#[]⟩, .int .i64 0, .string ⟨#[]⟩, .int .i64 0, .int .i64 0, .int .i64 0, .int .i64 0] 25 (0, 0))) := hide ((many_other g _ (by omega) [(10, .int .i64 9)] wB).trans (unhide HR0))
        have HQ2 : Hid ((setMany wB g [(10, .int .i64 9)]).heap[g]? = some (.cells #[.int .u8 2, .int .u8 0, .int .u8 0, .int .u8 0, .int .u8 0, .int .u8 42, .string ⟨#[107, 101, 114, 110, 101, 108]⟩, .int .i64 600000, .string dg, .int .i64 8, .int .i64 9, .int .i64 16, .int .i64 16] 25 (0, 0))) := hide (by
          have q := many_row g [(10, .int .i64 9)] wB _ (unhide HRG)
          rw [hcs] at q; exact q)
        have HQ3 : Hid (Below w.heap.size w (setMany wB g [(10, .int .i64 9)])) := hide (by
          have q := unhide HBW
          obtain ⟨o1, o2, o3⟩ := many_os g [(10, .int .i64 9)] wB
          exact ⟨o1.trans q.os, o2.trans q.tape, o3.trans q.output, by rw [many_size]; exact q.size, fun k hk => (many_other g k (by omega) [(10, .int .i64 9)] wB).trans (q.block k hk)⟩)
        simp only [setMany] at HQ1 HQ2 HQ3
        clear fg hcs
        go_wp2
        go_meet
        exact ⟨HQ1, HQ2, HQ3⟩
      case rest =>
        rename World => wD
        obtain ⟨HS1, HS2, HS3⟩ := hcut
        refine hK _ _ ?_
        clear hK K HR0 HRG HBW
        obtain ⟨e0, e1, e2, e3, e4, e5, e6, e7, e8, e9, e10, e11, e12⟩ := row13 (unhide HS1)
        obtain ⟨x0, x1, x2, x3, x4, x5, x6, x7, x8, x9, x10, x11, x12⟩ := row13 (unhide HS2)
        have fr := row_cells (unhide HS1)
        have f0 := fr 0
        have f1 := fr 1
        have f2 := fr 2
        have f3 := fr 3
        have f4 := fr 4
        have f5 := fr 5
        have f6 := fr 6
        have f7 := fr 7
        have f8 := fr 8
        have f9 := fr 9
        have f10 := fr 10
        have f11 := fr 11
        have f12 := fr 12
        have hne : g ≠ w.heap.size := by omega
        have hne2 : w.heap.size ≠ g := by omega
        clear fr
        obtain ⟨U, hU⟩ : ∃ U, U = setMany wD w.heap.size [(0, .int .u8 2), (1, .int .u8 0), (2, .int .u8 0), (3, .int .u8 0), (4, .int .u8 0), (5, .int .u8 42), (6, .string ⟨#[107, 101, 114, 110, 101, 108]⟩), (7, .int .i64 600000), (8, .string dg), (9, .int .i64 8), (10, .int .i64 9), (11, .int .i64 16), (12, .int .i64 16)] := ⟨_, rfl⟩
        have hcs : setCs #[.int .u8 0, .int .u8 0, .int .u8 0, .int .u8 0, .int .u8 0, .int .u8 0, .string ⟨#[]⟩, .int .i64 0, .string ⟨#[]⟩, .int .i64 0, .int .i64 0, .int .i64 0, .int .i64 0] [(0, .int .u8 2), (1, .int .u8 0), (2, .int .u8 0), (3, .int .u8 0), (4, .int .u8 0), (5, .int .u8 42), (6, .string ⟨#[107, 101, 114, 110, 101, 108]⟩), (7, .int .i64 600000), (8, .string dg), (9, .int .i64 8), (10, .int .i64 9), (11, .int .i64 16), (12, .int .i64 16)] = #[.int .u8 2, .int .u8 0, .int .u8 0, .int .u8 0, .int .u8 0, .int .u8 42, .string ⟨#[107, 101, 114, 110, 101, 108]⟩, .int .i64 600000, .string dg, .int .i64 8, .int .i64 9, .int .i64 16, .int .i64 16] := by kernel_rfl
        have hr2 : U.heap[w.heap.size]? = some (.cells #[.int .u8 2, .int .u8 0, .int .u8 0, .int .u8 0, .int .u8 0, .int .u8 42, .string ⟨#[107, 101, 114, 110, 101, 108]⟩, .int .i64 600000, .string dg, .int .i64 8, .int .i64 9, .int .i64 16, .int .i64 16] 25 (0, 0)) := by
          have q := many_row w.heap.size [(0, .int .u8 2), (1, .int .u8 0), (2, .int .u8 0), (3, .int .u8 0), (4, .int .u8 0), (5, .int .u8 42), (6, .string ⟨#[107, 101, 114, 110, 101, 108]⟩), (7, .int .i64 600000), (8, .string dg), (9, .int .i64 8), (10, .int .i64 9), (11, .int .i64 16), (12, .int .i64 16)] wD _ (unhide HS1)
          rw [hcs] at q
          rw [hU, q]
        have HW : Hid (Below w.heap.size w U) := hide (by
          have q := unhide HS3
          obtain ⟨o4, o5, o6⟩ := many_os w.heap.size [(0, .int .u8 2), (1, .int .u8 0), (2, .int .u8 0), (3, .int .u8 0), (4, .int .u8 0), (5, .int .u8 42), (6, .string ⟨#[107, 101, 114, 110, 101, 108]⟩), (7, .int .i64 600000), (8, .string dg), (9, .int .i64 8), (10, .int .i64 9), (11, .int .i64 16), (12, .int .i64 16)] wD
          rw [hU]
          exact ⟨o4.trans q.os, o5.trans q.tape, o6.trans q.output, by rw [many_size]; exact q.size, fun k hk => (many_other _ k (by omega) [(0, .int .u8 2), (1, .int .u8 0), (2, .int .u8 0), (3, .int .u8 0), (4, .int .u8 0), (5, .int .u8 42), (6, .string ⟨#[107, 101, 114, 110, 101, 108]⟩), (7, .int .i64 600000), (8, .string dg), (9, .int .i64 8), (10, .int .i64 9), (11, .int .i64 16), (12, .int .i64 16)] _).trans (q.block k hk)⟩)
        obtain ⟨r0, r1, r2, r3, r4, r5, r6, r7, r8, r9, r10, r11, r12⟩ := row13 hr2
        simp only [setMany] at hU
        have HU := hide hU
        clear hU hcs hr2
        go_wp2
        rw [← unhide HU]
        refine bodyPost_ret (v := .agg #[.int .u8 2, .int .u8 0, .int .u8 0, .int .u8 0, .int .u8 0, .int .u8 42, .string ⟨#[107, 101, 114, 110, 101, 108]⟩, .int .i64 600000, .string dg, .int .i64 8, .int .i64 9, .int .i64 16, .int .i64 16]) (by simp [results, Tryz.results11, go_sem, r0, r1, r2, r3, r4, r5, r6, r7, r8, r9, r10, r11, r12]) rfl ?_
        exact ⟨rfl, unhide HW⟩
set_option maxHeartbeats 2000000 in
set_option maxRecDepth 10000 in
theorem changed_12 (dg : ByteArray) (w : World) (HC : Hid (Calls Tryz.prog 5 #[.string ⟨#[]⟩, .int .i64 8, .int .i64 1] (w.alloc (.cells #[.int .u8 0, .int .u8 0, .int .u8 0, .int .u8 0, .int .u8 0, .int .u8 0, .string ⟨#[]⟩, .int .i64 0, .string ⟨#[]⟩, .int .i64 0, .int .i64 0, .int .i64 0, .int .i64 0] 25)) fun e w' => e = .returned (.agg #[.int .u8 2, .int .u8 0, .int .u8 0, .int .u8 0, .int .u8 0, .int .u8 42, .string ⟨#[107, 101, 114, 110, 101, 108]⟩, .int .i64 600000, .string dg, .int .i64 8, .int .i64 1, .int .i64 16, .int .i64 16]) ∧ Below (w.alloc (.cells #[.int .u8 0, .int .u8 0, .int .u8 0, .int .u8 0, .int .u8 0, .int .u8 0, .string ⟨#[]⟩, .int .i64 0, .string ⟨#[]⟩, .int .i64 0, .int .i64 0, .int .i64 0, .int .i64 0] 25)).heap.size (w.alloc (.cells #[.int .u8 0, .int .u8 0, .int .u8 0, .int .u8 0, .int .u8 0, .int .u8 0, .string ⟨#[]⟩, .int .i64 0, .string ⟨#[]⟩, .int .i64 0, .int .i64 0, .int .i64 0, .int .i64 0] 25)) w')) :
    Calls Tryz.prog 11 #[.int .i64 12] w fun e w' => e = .returned (.agg #[.int .u8 2, .int .u8 0, .int .u8 0, .int .u8 0, .int .u8 0, .int .u8 42, .string ⟨#[107, 101, 114, 110, 101, 108]⟩, .int .i64 600000, .string dg, .int .i64 8, .int .i64 1, .int .i64 0, .int .i64 16]) ∧ Below w.heap.size w w' := by
  go_enter Tryz.func11, Tryz.ntmps11
  refine wp_seq_k (fun K hK => ?_)
  go_cut [2] (fun v2 wc => v2 = .pointer (some ⟨w.heap.size, 0, none⟩) ∧ wc = w.alloc (.cells #[.int .u8 0, .int .u8 0, .int .u8 0, .int .u8 0, .int .u8 0, .int .u8 0, .string ⟨#[]⟩, .int .i64 0, .string ⟨#[]⟩, .int .i64 0, .int .i64 0, .int .i64 0, .int .i64 0] 25))
  case first =>
    go_wp2
    go_meet
    exact ⟨rfl, rfl⟩
  case rest =>
    rename World => wA
    obtain ⟨rfl, rfl⟩ := hcut
    refine hK _ _ ?_
    clear hK K
    refine wp_seq_k (fun K hK => ?_)
    go_cut [3] (fun v3 wc => ∃ g, v3 = .pointer (some ⟨g, 0, none⟩) ∧ w.heap.size < g ∧ Hid (wc.heap[w.heap.size]? = some (.cells #[.int .u8 0, .int .u8 0, .int .u8 0, .int .u8 0, .int .u8 0, .int .u8 0, .string ⟨#[]⟩, .int .i64 0, .string ⟨#[]⟩, .int .i64 0, .int .i64 0, .int .i64 0, .int .i64 0] 25 (0, 0))) ∧ Hid (wc.heap[g]? = some (.cells #[.int .u8 2, .int .u8 0, .int .u8 0, .int .u8 0, .int .u8 0, .int .u8 42, .string ⟨#[107, 101, 114, 110, 101, 108]⟩, .int .i64 600000, .string dg, .int .i64 8, .int .i64 1, .int .i64 16, .int .i64 16] 25 (0, 0))) ∧ Hid (Below w.heap.size w wc))
    case first =>
      go_wp2_with fail
      refine (unhide HC).mono ?_
      rintro ee u ⟨rfl, hb⟩
      have HRO := hide ((hb.block w.heap.size (by simp)).trans (heap_alloc_new w (.cells #[.int .u8 0, .int .u8 0, .int .u8 0, .int .u8 0, .int .u8 0, .int .u8 0, .string ⟨#[]⟩, .int .i64 0, .string ⟨#[]⟩, .int .i64 0, .int .i64 0, .int .i64 0, .int .i64 0] 25)))
      have HB := hide (((Below.refl w.heap.size w).alloc (Nat.le_refl _) _).trans (hb.mono (by simp)))
      have hz := lt_of_block (unhide HRO)
      clear hb HC
      go_wp2
      go_meet
      exact ⟨_, rfl, hz, hide ((Below.heap_alloc _ _ _ hz).trans (unhide HRO)), hide (heap_alloc_new u _), hide ((unhide HB).alloc (by omega) _)⟩
    case rest =>
      rename World => wB
      obtain ⟨g, rfl, hgz, HR0, HRG, HBW⟩ := hcut
      refine hK _ _ ?_
      clear hK K HC
      refine wp_seq_k (fun K hK => ?_)
      go_cut [] (fun wc => Hid (wc.heap[w.heap.size]? = some (.cells #[.int .u8 0, .int .u8 0, .int .u8 0, .int .u8 0, .int .u8 0, .int .u8 0, .string ⟨#[]⟩, .int .i64 0, .string ⟨#[]⟩, .int .i64 0, .int .i64 0, .int .i64 0, .int .i64 0] 25 (0, 0))) ∧ Hid (wc.heap[g]? = some (.cells #[.int .u8 2, .int .u8 0, .int .u8 0, .int .u8 0, .int .u8 0, .int .u8 42, .string ⟨#[107, 101, 114, 110, 101, 108]⟩, .int .i64 600000, .string dg, .int .i64 8, .int .i64 1, .int .i64 0, .int .i64 16] 25 (0, 0))) ∧ Hid (Below w.heap.size w wc))
      case first =>
        obtain ⟨x0, x1, x2, x3, x4, x5, x6, x7, x8, x9, x10, x11, x12⟩ := row13 (unhide HRG)
        have fg := row_cells (unhide HRG)
        have h0 := fg 0
        have h1 := fg 1
        have h2 := fg 2
        have h3 := fg 3
        have h4 := fg 4
        have h5 := fg 5
        have h6 := fg 6
        have h7 := fg 7
        have h8 := fg 8
        have h9 := fg 9
        have h10 := fg 10
        have h11 := fg 11
        have h12 := fg 12
        have hcs : setCs #[.int .u8 2, .int .u8 0, .int .u8 0, .int .u8 0, .int .u8 0, .int .u8 42, .string ⟨#[107, 101, 114, 110, 101, 108]⟩, .int .i64 600000, .string dg, .int .i64 8, .int .i64 1, .int .i64 16, .int .i64 16] [(11, .int .i64 0)] = #[.int .u8 2, .int .u8 0, .int .u8 0, .int .u8 0, .int .u8 0, .int .u8 42, .string ⟨#[107, 101, 114, 110, 101, 108]⟩, .int .i64 600000, .string dg, .int .i64 8, .int .i64 1, .int .i64 0, .int .i64 16] := by kernel_rfl
        have HQ1 : Hid ((setMany wB g [(11, .int .i64 0)]).heap[w.heap.size]? = some (.cells #[.int .u8 0, .int .u8 0, .int .u8 0, .int .u8 0, .int .u8 0, .int .u8 0, .string ⟨#[]⟩, .int .i64 0, .string ⟨#[]⟩, .int .i64 0, .int .i64 0, .int .i64 0, .int .i64 0] 25 (0, 0))) := hide ((many_other g _ (by omega) [(11, .int .i64 0)] wB).trans (unhide HR0))
        have HQ2 : Hid ((setMany wB g [(11, .int .i64 0)]).heap[g]? = some (.cells #[.int .u8 2, .int .u8 0, .int .u8 0, .int .u8 0, .int .u8 0, .int .u8 42, .string ⟨#[107, 101, 114, 110, 101, 108]⟩, .int .i64 600000, .string dg, .int .i64 8, .int .i64 1, .int .i64 0, .int .i64 16] 25 (0, 0))) := hide (by
          have q := many_row g [(11, .int .i64 0)] wB _ (unhide HRG)
          rw [hcs] at q; exact q)
        have HQ3 : Hid (Below w.heap.size w (setMany wB g [(11, .int .i64 0)])) := hide (by
          have q := unhide HBW
          obtain ⟨o1, o2, o3⟩ := many_os g [(11, .int .i64 0)] wB
          exact ⟨o1.trans q.os, o2.trans q.tape, o3.trans q.output, by rw [many_size]; exact q.size, fun k hk => (many_other g k (by omega) [(11, .int .i64 0)] wB).trans (q.block k hk)⟩)
        simp only [setMany] at HQ1 HQ2 HQ3
        clear fg hcs
        go_wp2
        go_meet
        exact ⟨HQ1, HQ2, HQ3⟩
      case rest =>
        rename World => wD
        obtain ⟨HS1, HS2, HS3⟩ := hcut
        refine hK _ _ ?_
        clear hK K HR0 HRG HBW
        obtain ⟨e0, e1, e2, e3, e4, e5, e6, e7, e8, e9, e10, e11, e12⟩ := row13 (unhide HS1)
        obtain ⟨x0, x1, x2, x3, x4, x5, x6, x7, x8, x9, x10, x11, x12⟩ := row13 (unhide HS2)
        have fr := row_cells (unhide HS1)
        have f0 := fr 0
        have f1 := fr 1
        have f2 := fr 2
        have f3 := fr 3
        have f4 := fr 4
        have f5 := fr 5
        have f6 := fr 6
        have f7 := fr 7
        have f8 := fr 8
        have f9 := fr 9
        have f10 := fr 10
        have f11 := fr 11
        have f12 := fr 12
        have hne : g ≠ w.heap.size := by omega
        have hne2 : w.heap.size ≠ g := by omega
        clear fr
        obtain ⟨U, hU⟩ : ∃ U, U = setMany wD w.heap.size [(0, .int .u8 2), (1, .int .u8 0), (2, .int .u8 0), (3, .int .u8 0), (4, .int .u8 0), (5, .int .u8 42), (6, .string ⟨#[107, 101, 114, 110, 101, 108]⟩), (7, .int .i64 600000), (8, .string dg), (9, .int .i64 8), (10, .int .i64 1), (11, .int .i64 0), (12, .int .i64 16)] := ⟨_, rfl⟩
        have hcs : setCs #[.int .u8 0, .int .u8 0, .int .u8 0, .int .u8 0, .int .u8 0, .int .u8 0, .string ⟨#[]⟩, .int .i64 0, .string ⟨#[]⟩, .int .i64 0, .int .i64 0, .int .i64 0, .int .i64 0] [(0, .int .u8 2), (1, .int .u8 0), (2, .int .u8 0), (3, .int .u8 0), (4, .int .u8 0), (5, .int .u8 42), (6, .string ⟨#[107, 101, 114, 110, 101, 108]⟩), (7, .int .i64 600000), (8, .string dg), (9, .int .i64 8), (10, .int .i64 1), (11, .int .i64 0), (12, .int .i64 16)] = #[.int .u8 2, .int .u8 0, .int .u8 0, .int .u8 0, .int .u8 0, .int .u8 42, .string ⟨#[107, 101, 114, 110, 101, 108]⟩, .int .i64 600000, .string dg, .int .i64 8, .int .i64 1, .int .i64 0, .int .i64 16] := by kernel_rfl
        have hr2 : U.heap[w.heap.size]? = some (.cells #[.int .u8 2, .int .u8 0, .int .u8 0, .int .u8 0, .int .u8 0, .int .u8 42, .string ⟨#[107, 101, 114, 110, 101, 108]⟩, .int .i64 600000, .string dg, .int .i64 8, .int .i64 1, .int .i64 0, .int .i64 16] 25 (0, 0)) := by
          have q := many_row w.heap.size [(0, .int .u8 2), (1, .int .u8 0), (2, .int .u8 0), (3, .int .u8 0), (4, .int .u8 0), (5, .int .u8 42), (6, .string ⟨#[107, 101, 114, 110, 101, 108]⟩), (7, .int .i64 600000), (8, .string dg), (9, .int .i64 8), (10, .int .i64 1), (11, .int .i64 0), (12, .int .i64 16)] wD _ (unhide HS1)
          rw [hcs] at q
          rw [hU, q]
        have HW : Hid (Below w.heap.size w U) := hide (by
          have q := unhide HS3
          obtain ⟨o4, o5, o6⟩ := many_os w.heap.size [(0, .int .u8 2), (1, .int .u8 0), (2, .int .u8 0), (3, .int .u8 0), (4, .int .u8 0), (5, .int .u8 42), (6, .string ⟨#[107, 101, 114, 110, 101, 108]⟩), (7, .int .i64 600000), (8, .string dg), (9, .int .i64 8), (10, .int .i64 1), (11, .int .i64 0), (12, .int .i64 16)] wD
          rw [hU]
          exact ⟨o4.trans q.os, o5.trans q.tape, o6.trans q.output, by rw [many_size]; exact q.size, fun k hk => (many_other _ k (by omega) [(0, .int .u8 2), (1, .int .u8 0), (2, .int .u8 0), (3, .int .u8 0), (4, .int .u8 0), (5, .int .u8 42), (6, .string ⟨#[107, 101, 114, 110, 101, 108]⟩), (7, .int .i64 600000), (8, .string dg), (9, .int .i64 8), (10, .int .i64 1), (11, .int .i64 0), (12, .int .i64 16)] _).trans (q.block k hk)⟩)
        obtain ⟨r0, r1, r2, r3, r4, r5, r6, r7, r8, r9, r10, r11, r12⟩ := row13 hr2
        simp only [setMany] at hU
        have HU := hide hU
        clear hU hcs hr2
        go_wp2
        rw [← unhide HU]
        refine bodyPost_ret (v := .agg #[.int .u8 2, .int .u8 0, .int .u8 0, .int .u8 0, .int .u8 0, .int .u8 42, .string ⟨#[107, 101, 114, 110, 101, 108]⟩, .int .i64 600000, .string dg, .int .i64 8, .int .i64 1, .int .i64 0, .int .i64 16]) (by simp [results, Tryz.results11, go_sem, r0, r1, r2, r3, r4, r5, r6, r7, r8, r9, r10, r11, r12]) rfl ?_
        exact ⟨rfl, unhide HW⟩
set_option maxHeartbeats 2000000 in
set_option maxRecDepth 10000 in
theorem changed_13 (dg : ByteArray) (w : World) (HC : Hid (Calls Tryz.prog 5 #[.string ⟨#[]⟩, .int .i64 8, .int .i64 1] (w.alloc (.cells #[.int .u8 0, .int .u8 0, .int .u8 0, .int .u8 0, .int .u8 0, .int .u8 0, .string ⟨#[]⟩, .int .i64 0, .string ⟨#[]⟩, .int .i64 0, .int .i64 0, .int .i64 0, .int .i64 0] 25)) fun e w' => e = .returned (.agg #[.int .u8 2, .int .u8 0, .int .u8 0, .int .u8 0, .int .u8 0, .int .u8 42, .string ⟨#[107, 101, 114, 110, 101, 108]⟩, .int .i64 600000, .string dg, .int .i64 8, .int .i64 1, .int .i64 16, .int .i64 16]) ∧ Below (w.alloc (.cells #[.int .u8 0, .int .u8 0, .int .u8 0, .int .u8 0, .int .u8 0, .int .u8 0, .string ⟨#[]⟩, .int .i64 0, .string ⟨#[]⟩, .int .i64 0, .int .i64 0, .int .i64 0, .int .i64 0] 25)).heap.size (w.alloc (.cells #[.int .u8 0, .int .u8 0, .int .u8 0, .int .u8 0, .int .u8 0, .int .u8 0, .string ⟨#[]⟩, .int .i64 0, .string ⟨#[]⟩, .int .i64 0, .int .i64 0, .int .i64 0, .int .i64 0] 25)) w')) :
    Calls Tryz.prog 11 #[.int .i64 13] w fun e w' => e = .returned (.agg #[.int .u8 2, .int .u8 0, .int .u8 0, .int .u8 0, .int .u8 0, .int .u8 42, .string ⟨#[107, 101, 114, 110, 101, 108]⟩, .int .i64 600000, .string dg, .int .i64 8, .int .i64 1, .int .i64 17, .int .i64 16]) ∧ Below w.heap.size w w' := by
  go_enter Tryz.func11, Tryz.ntmps11
  refine wp_seq_k (fun K hK => ?_)
  go_cut [2] (fun v2 wc => v2 = .pointer (some ⟨w.heap.size, 0, none⟩) ∧ wc = w.alloc (.cells #[.int .u8 0, .int .u8 0, .int .u8 0, .int .u8 0, .int .u8 0, .int .u8 0, .string ⟨#[]⟩, .int .i64 0, .string ⟨#[]⟩, .int .i64 0, .int .i64 0, .int .i64 0, .int .i64 0] 25))
  case first =>
    go_wp2
    go_meet
    exact ⟨rfl, rfl⟩
  case rest =>
    rename World => wA
    obtain ⟨rfl, rfl⟩ := hcut
    refine hK _ _ ?_
    clear hK K
    refine wp_seq_k (fun K hK => ?_)
    go_cut [3] (fun v3 wc => ∃ g, v3 = .pointer (some ⟨g, 0, none⟩) ∧ w.heap.size < g ∧ Hid (wc.heap[w.heap.size]? = some (.cells #[.int .u8 0, .int .u8 0, .int .u8 0, .int .u8 0, .int .u8 0, .int .u8 0, .string ⟨#[]⟩, .int .i64 0, .string ⟨#[]⟩, .int .i64 0, .int .i64 0, .int .i64 0, .int .i64 0] 25 (0, 0))) ∧ Hid (wc.heap[g]? = some (.cells #[.int .u8 2, .int .u8 0, .int .u8 0, .int .u8 0, .int .u8 0, .int .u8 42, .string ⟨#[107, 101, 114, 110, 101, 108]⟩, .int .i64 600000, .string dg, .int .i64 8, .int .i64 1, .int .i64 16, .int .i64 16] 25 (0, 0))) ∧ Hid (Below w.heap.size w wc))
    case first =>
      go_wp2_with fail
      refine (unhide HC).mono ?_
      rintro ee u ⟨rfl, hb⟩
      have HRO := hide ((hb.block w.heap.size (by simp)).trans (heap_alloc_new w (.cells #[.int .u8 0, .int .u8 0, .int .u8 0, .int .u8 0, .int .u8 0, .int .u8 0, .string ⟨#[]⟩, .int .i64 0, .string ⟨#[]⟩, .int .i64 0, .int .i64 0, .int .i64 0, .int .i64 0] 25)))
      have HB := hide (((Below.refl w.heap.size w).alloc (Nat.le_refl _) _).trans (hb.mono (by simp)))
      have hz := lt_of_block (unhide HRO)
      clear hb HC
      go_wp2
      go_meet
      exact ⟨_, rfl, hz, hide ((Below.heap_alloc _ _ _ hz).trans (unhide HRO)), hide (heap_alloc_new u _), hide ((unhide HB).alloc (by omega) _)⟩
    case rest =>
      rename World => wB
      obtain ⟨g, rfl, hgz, HR0, HRG, HBW⟩ := hcut
      refine hK _ _ ?_
      clear hK K HC
      refine wp_seq_k (fun K hK => ?_)
      go_cut [] (fun wc => Hid (wc.heap[w.heap.size]? = some (.cells #[.int .u8 0, .int .u8 0, .int .u8 0, .int .u8 0, .int .u8 0, .int .u8 0, .string ⟨#[]⟩, .int .i64 0, .string ⟨#[]⟩, .int .i64 0, .int .i64 0, .int .i64 0, .int .i64 0] 25 (0, 0))) ∧ Hid (wc.heap[g]? = some (.cells #[.int .u8 2, .int .u8 0, .int .u8 0, .int .u8 0, .int .u8 0, .int .u8 42, .string ⟨#[107, 101, 114, 110, 101, 108]⟩, .int .i64 600000, .string dg, .int .i64 8, .int .i64 1, .int .i64 17, .int .i64 16] 25 (0, 0))) ∧ Hid (Below w.heap.size w wc))
      case first =>
        obtain ⟨x0, x1, x2, x3, x4, x5, x6, x7, x8, x9, x10, x11, x12⟩ := row13 (unhide HRG)
        have fg := row_cells (unhide HRG)
        have h0 := fg 0
        have h1 := fg 1
        have h2 := fg 2
        have h3 := fg 3
        have h4 := fg 4
        have h5 := fg 5
        have h6 := fg 6
        have h7 := fg 7
        have h8 := fg 8
        have h9 := fg 9
        have h10 := fg 10
        have h11 := fg 11
        have h12 := fg 12
        have hcs : setCs #[.int .u8 2, .int .u8 0, .int .u8 0, .int .u8 0, .int .u8 0, .int .u8 42, .string ⟨#[107, 101, 114, 110, 101, 108]⟩, .int .i64 600000, .string dg, .int .i64 8, .int .i64 1, .int .i64 16, .int .i64 16] [(11, .int .i64 17)] = #[.int .u8 2, .int .u8 0, .int .u8 0, .int .u8 0, .int .u8 0, .int .u8 42, .string ⟨#[107, 101, 114, 110, 101, 108]⟩, .int .i64 600000, .string dg, .int .i64 8, .int .i64 1, .int .i64 17, .int .i64 16] := by kernel_rfl
        have HQ1 : Hid ((setMany wB g [(11, .int .i64 17)]).heap[w.heap.size]? = some (.cells #[.int .u8 0, .int .u8 0, .int .u8 0, .int .u8 0, .int .u8 0, .int .u8 0, .string ⟨#[]⟩, .int .i64 0, .string ⟨#[]⟩, .int .i64 0, .int .i64 0, .int .i64 0, .int .i64 0] 25 (0, 0))) := hide ((many_other g _ (by omega) [(11, .int .i64 17)] wB).trans (unhide HR0))
        have HQ2 : Hid ((setMany wB g [(11, .int .i64 17)]).heap[g]? = some (.cells #[.int .u8 2, .int .u8 0, .int .u8 0, .int .u8 0, .int .u8 0, .int .u8 42, .string ⟨#[107, 101, 114, 110, 101, 108]⟩, .int .i64 600000, .string dg, .int .i64 8, .int .i64 1, .int .i64 17, .int .i64 16] 25 (0, 0))) := hide (by
          have q := many_row g [(11, .int .i64 17)] wB _ (unhide HRG)
          rw [hcs] at q; exact q)
        have HQ3 : Hid (Below w.heap.size w (setMany wB g [(11, .int .i64 17)])) := hide (by
          have q := unhide HBW
          obtain ⟨o1, o2, o3⟩ := many_os g [(11, .int .i64 17)] wB
          exact ⟨o1.trans q.os, o2.trans q.tape, o3.trans q.output, by rw [many_size]; exact q.size, fun k hk => (many_other g k (by omega) [(11, .int .i64 17)] wB).trans (q.block k hk)⟩)
        simp only [setMany] at HQ1 HQ2 HQ3
        clear fg hcs
        go_wp2
        go_meet
        exact ⟨HQ1, HQ2, HQ3⟩
      case rest =>
        rename World => wD
        obtain ⟨HS1, HS2, HS3⟩ := hcut
        refine hK _ _ ?_
        clear hK K HR0 HRG HBW
        obtain ⟨e0, e1, e2, e3, e4, e5, e6, e7, e8, e9, e10, e11, e12⟩ := row13 (unhide HS1)
        obtain ⟨x0, x1, x2, x3, x4, x5, x6, x7, x8, x9, x10, x11, x12⟩ := row13 (unhide HS2)
        have fr := row_cells (unhide HS1)
        have f0 := fr 0
        have f1 := fr 1
        have f2 := fr 2
        have f3 := fr 3
        have f4 := fr 4
        have f5 := fr 5
        have f6 := fr 6
        have f7 := fr 7
        have f8 := fr 8
        have f9 := fr 9
        have f10 := fr 10
        have f11 := fr 11
        have f12 := fr 12
        have hne : g ≠ w.heap.size := by omega
        have hne2 : w.heap.size ≠ g := by omega
        clear fr
        obtain ⟨U, hU⟩ : ∃ U, U = setMany wD w.heap.size [(0, .int .u8 2), (1, .int .u8 0), (2, .int .u8 0), (3, .int .u8 0), (4, .int .u8 0), (5, .int .u8 42), (6, .string ⟨#[107, 101, 114, 110, 101, 108]⟩), (7, .int .i64 600000), (8, .string dg), (9, .int .i64 8), (10, .int .i64 1), (11, .int .i64 17), (12, .int .i64 16)] := ⟨_, rfl⟩
        have hcs : setCs #[.int .u8 0, .int .u8 0, .int .u8 0, .int .u8 0, .int .u8 0, .int .u8 0, .string ⟨#[]⟩, .int .i64 0, .string ⟨#[]⟩, .int .i64 0, .int .i64 0, .int .i64 0, .int .i64 0] [(0, .int .u8 2), (1, .int .u8 0), (2, .int .u8 0), (3, .int .u8 0), (4, .int .u8 0), (5, .int .u8 42), (6, .string ⟨#[107, 101, 114, 110, 101, 108]⟩), (7, .int .i64 600000), (8, .string dg), (9, .int .i64 8), (10, .int .i64 1), (11, .int .i64 17), (12, .int .i64 16)] = #[.int .u8 2, .int .u8 0, .int .u8 0, .int .u8 0, .int .u8 0, .int .u8 42, .string ⟨#[107, 101, 114, 110, 101, 108]⟩, .int .i64 600000, .string dg, .int .i64 8, .int .i64 1, .int .i64 17, .int .i64 16] := by kernel_rfl
        have hr2 : U.heap[w.heap.size]? = some (.cells #[.int .u8 2, .int .u8 0, .int .u8 0, .int .u8 0, .int .u8 0, .int .u8 42, .string ⟨#[107, 101, 114, 110, 101, 108]⟩, .int .i64 600000, .string dg, .int .i64 8, .int .i64 1, .int .i64 17, .int .i64 16] 25 (0, 0)) := by
          have q := many_row w.heap.size [(0, .int .u8 2), (1, .int .u8 0), (2, .int .u8 0), (3, .int .u8 0), (4, .int .u8 0), (5, .int .u8 42), (6, .string ⟨#[107, 101, 114, 110, 101, 108]⟩), (7, .int .i64 600000), (8, .string dg), (9, .int .i64 8), (10, .int .i64 1), (11, .int .i64 17), (12, .int .i64 16)] wD _ (unhide HS1)
          rw [hcs] at q
          rw [hU, q]
        have HW : Hid (Below w.heap.size w U) := hide (by
          have q := unhide HS3
          obtain ⟨o4, o5, o6⟩ := many_os w.heap.size [(0, .int .u8 2), (1, .int .u8 0), (2, .int .u8 0), (3, .int .u8 0), (4, .int .u8 0), (5, .int .u8 42), (6, .string ⟨#[107, 101, 114, 110, 101, 108]⟩), (7, .int .i64 600000), (8, .string dg), (9, .int .i64 8), (10, .int .i64 1), (11, .int .i64 17), (12, .int .i64 16)] wD
          rw [hU]
          exact ⟨o4.trans q.os, o5.trans q.tape, o6.trans q.output, by rw [many_size]; exact q.size, fun k hk => (many_other _ k (by omega) [(0, .int .u8 2), (1, .int .u8 0), (2, .int .u8 0), (3, .int .u8 0), (4, .int .u8 0), (5, .int .u8 42), (6, .string ⟨#[107, 101, 114, 110, 101, 108]⟩), (7, .int .i64 600000), (8, .string dg), (9, .int .i64 8), (10, .int .i64 1), (11, .int .i64 17), (12, .int .i64 16)] _).trans (q.block k hk)⟩)
        obtain ⟨r0, r1, r2, r3, r4, r5, r6, r7, r8, r9, r10, r11, r12⟩ := row13 hr2
        simp only [setMany] at hU
        have HU := hide hU
        clear hU hcs hr2
        go_wp2
        rw [← unhide HU]
        refine bodyPost_ret (v := .agg #[.int .u8 2, .int .u8 0, .int .u8 0, .int .u8 0, .int .u8 0, .int .u8 42, .string ⟨#[107, 101, 114, 110, 101, 108]⟩, .int .i64 600000, .string dg, .int .i64 8, .int .i64 1, .int .i64 17, .int .i64 16]) (by simp [results, Tryz.results11, go_sem, r0, r1, r2, r3, r4, r5, r6, r7, r8, r9, r10, r11, r12]) rfl ?_
        exact ⟨rfl, unhide HW⟩
set_option maxHeartbeats 2000000 in
set_option maxRecDepth 10000 in
theorem changed_14 (dg : ByteArray) (w : World) (HC : Hid (Calls Tryz.prog 5 #[.string ⟨#[]⟩, .int .i64 8, .int .i64 1] (w.alloc (.cells #[.int .u8 0, .int .u8 0, .int .u8 0, .int .u8 0, .int .u8 0, .int .u8 0, .string ⟨#[]⟩, .int .i64 0, .string ⟨#[]⟩, .int .i64 0, .int .i64 0, .int .i64 0, .int .i64 0] 25)) fun e w' => e = .returned (.agg #[.int .u8 2, .int .u8 0, .int .u8 0, .int .u8 0, .int .u8 0, .int .u8 42, .string ⟨#[107, 101, 114, 110, 101, 108]⟩, .int .i64 600000, .string dg, .int .i64 8, .int .i64 1, .int .i64 16, .int .i64 16]) ∧ Below (w.alloc (.cells #[.int .u8 0, .int .u8 0, .int .u8 0, .int .u8 0, .int .u8 0, .int .u8 0, .string ⟨#[]⟩, .int .i64 0, .string ⟨#[]⟩, .int .i64 0, .int .i64 0, .int .i64 0, .int .i64 0] 25)).heap.size (w.alloc (.cells #[.int .u8 0, .int .u8 0, .int .u8 0, .int .u8 0, .int .u8 0, .int .u8 0, .string ⟨#[]⟩, .int .i64 0, .string ⟨#[]⟩, .int .i64 0, .int .i64 0, .int .i64 0, .int .i64 0] 25)) w')) :
    Calls Tryz.prog 11 #[.int .i64 14] w fun e w' => e = .returned (.agg #[.int .u8 2, .int .u8 0, .int .u8 0, .int .u8 0, .int .u8 0, .int .u8 42, .string ⟨#[107, 101, 114, 110, 101, 108]⟩, .int .i64 600000, .string dg, .int .i64 8, .int .i64 1, .int .i64 16, .int .i64 0]) ∧ Below w.heap.size w w' := by
  go_enter Tryz.func11, Tryz.ntmps11
  refine wp_seq_k (fun K hK => ?_)
  go_cut [2] (fun v2 wc => v2 = .pointer (some ⟨w.heap.size, 0, none⟩) ∧ wc = w.alloc (.cells #[.int .u8 0, .int .u8 0, .int .u8 0, .int .u8 0, .int .u8 0, .int .u8 0, .string ⟨#[]⟩, .int .i64 0, .string ⟨#[]⟩, .int .i64 0, .int .i64 0, .int .i64 0, .int .i64 0] 25))
  case first =>
    go_wp2
    go_meet
    exact ⟨rfl, rfl⟩
  case rest =>
    rename World => wA
    obtain ⟨rfl, rfl⟩ := hcut
    refine hK _ _ ?_
    clear hK K
    refine wp_seq_k (fun K hK => ?_)
    go_cut [3] (fun v3 wc => ∃ g, v3 = .pointer (some ⟨g, 0, none⟩) ∧ w.heap.size < g ∧ Hid (wc.heap[w.heap.size]? = some (.cells #[.int .u8 0, .int .u8 0, .int .u8 0, .int .u8 0, .int .u8 0, .int .u8 0, .string ⟨#[]⟩, .int .i64 0, .string ⟨#[]⟩, .int .i64 0, .int .i64 0, .int .i64 0, .int .i64 0] 25 (0, 0))) ∧ Hid (wc.heap[g]? = some (.cells #[.int .u8 2, .int .u8 0, .int .u8 0, .int .u8 0, .int .u8 0, .int .u8 42, .string ⟨#[107, 101, 114, 110, 101, 108]⟩, .int .i64 600000, .string dg, .int .i64 8, .int .i64 1, .int .i64 16, .int .i64 16] 25 (0, 0))) ∧ Hid (Below w.heap.size w wc))
    case first =>
      go_wp2_with fail
      refine (unhide HC).mono ?_
      rintro ee u ⟨rfl, hb⟩
      have HRO := hide ((hb.block w.heap.size (by simp)).trans (heap_alloc_new w (.cells #[.int .u8 0, .int .u8 0, .int .u8 0, .int .u8 0, .int .u8 0, .int .u8 0, .string ⟨#[]⟩, .int .i64 0, .string ⟨#[]⟩, .int .i64 0, .int .i64 0, .int .i64 0, .int .i64 0] 25)))
      have HB := hide (((Below.refl w.heap.size w).alloc (Nat.le_refl _) _).trans (hb.mono (by simp)))
      have hz := lt_of_block (unhide HRO)
      clear hb HC
      go_wp2
      go_meet
      exact ⟨_, rfl, hz, hide ((Below.heap_alloc _ _ _ hz).trans (unhide HRO)), hide (heap_alloc_new u _), hide ((unhide HB).alloc (by omega) _)⟩
    case rest =>
      rename World => wB
      obtain ⟨g, rfl, hgz, HR0, HRG, HBW⟩ := hcut
      refine hK _ _ ?_
      clear hK K HC
      refine wp_seq_k (fun K hK => ?_)
      go_cut [] (fun wc => Hid (wc.heap[w.heap.size]? = some (.cells #[.int .u8 0, .int .u8 0, .int .u8 0, .int .u8 0, .int .u8 0, .int .u8 0, .string ⟨#[]⟩, .int .i64 0, .string ⟨#[]⟩, .int .i64 0, .int .i64 0, .int .i64 0, .int .i64 0] 25 (0, 0))) ∧ Hid (wc.heap[g]? = some (.cells #[.int .u8 2, .int .u8 0, .int .u8 0, .int .u8 0, .int .u8 0, .int .u8 42, .string ⟨#[107, 101, 114, 110, 101, 108]⟩, .int .i64 600000, .string dg, .int .i64 8, .int .i64 1, .int .i64 16, .int .i64 0] 25 (0, 0))) ∧ Hid (Below w.heap.size w wc))
      case first =>
        obtain ⟨x0, x1, x2, x3, x4, x5, x6, x7, x8, x9, x10, x11, x12⟩ := row13 (unhide HRG)
        have fg := row_cells (unhide HRG)
        have h0 := fg 0
        have h1 := fg 1
        have h2 := fg 2
        have h3 := fg 3
        have h4 := fg 4
        have h5 := fg 5
        have h6 := fg 6
        have h7 := fg 7
        have h8 := fg 8
        have h9 := fg 9
        have h10 := fg 10
        have h11 := fg 11
        have h12 := fg 12
        have hcs : setCs #[.int .u8 2, .int .u8 0, .int .u8 0, .int .u8 0, .int .u8 0, .int .u8 42, .string ⟨#[107, 101, 114, 110, 101, 108]⟩, .int .i64 600000, .string dg, .int .i64 8, .int .i64 1, .int .i64 16, .int .i64 16] [(12, .int .i64 0)] = #[.int .u8 2, .int .u8 0, .int .u8 0, .int .u8 0, .int .u8 0, .int .u8 42, .string ⟨#[107, 101, 114, 110, 101, 108]⟩, .int .i64 600000, .string dg, .int .i64 8, .int .i64 1, .int .i64 16, .int .i64 0] := by kernel_rfl
        have HQ1 : Hid ((setMany wB g [(12, .int .i64 0)]).heap[w.heap.size]? = some (.cells #[.int .u8 0, .int .u8 0, .int .u8 0, .int .u8 0, .int .u8 0, .int .u8 0, .string ⟨#[]⟩, .int .i64 0, .string ⟨#[]⟩, .int .i64 0, .int .i64 0, .int .i64 0, .int .i64 0] 25 (0, 0))) := hide ((many_other g _ (by omega) [(12, .int .i64 0)] wB).trans (unhide HR0))
        have HQ2 : Hid ((setMany wB g [(12, .int .i64 0)]).heap[g]? = some (.cells #[.int .u8 2, .int .u8 0, .int .u8 0, .int .u8 0, .int .u8 0, .int .u8 42, .string ⟨#[107, 101, 114, 110, 101, 108]⟩, .int .i64 600000, .string dg, .int .i64 8, .int .i64 1, .int .i64 16, .int .i64 0] 25 (0, 0))) := hide (by
          have q := many_row g [(12, .int .i64 0)] wB _ (unhide HRG)
          rw [hcs] at q; exact q)
        have HQ3 : Hid (Below w.heap.size w (setMany wB g [(12, .int .i64 0)])) := hide (by
          have q := unhide HBW
          obtain ⟨o1, o2, o3⟩ := many_os g [(12, .int .i64 0)] wB
          exact ⟨o1.trans q.os, o2.trans q.tape, o3.trans q.output, by rw [many_size]; exact q.size, fun k hk => (many_other g k (by omega) [(12, .int .i64 0)] wB).trans (q.block k hk)⟩)
        simp only [setMany] at HQ1 HQ2 HQ3
        clear fg hcs
        go_wp2
        go_meet
        exact ⟨HQ1, HQ2, HQ3⟩
      case rest =>
        rename World => wD
        obtain ⟨HS1, HS2, HS3⟩ := hcut
        refine hK _ _ ?_
        clear hK K HR0 HRG HBW
        obtain ⟨e0, e1, e2, e3, e4, e5, e6, e7, e8, e9, e10, e11, e12⟩ := row13 (unhide HS1)
        obtain ⟨x0, x1, x2, x3, x4, x5, x6, x7, x8, x9, x10, x11, x12⟩ := row13 (unhide HS2)
        have fr := row_cells (unhide HS1)
        have f0 := fr 0
        have f1 := fr 1
        have f2 := fr 2
        have f3 := fr 3
        have f4 := fr 4
        have f5 := fr 5
        have f6 := fr 6
        have f7 := fr 7
        have f8 := fr 8
        have f9 := fr 9
        have f10 := fr 10
        have f11 := fr 11
        have f12 := fr 12
        have hne : g ≠ w.heap.size := by omega
        have hne2 : w.heap.size ≠ g := by omega
        clear fr
        obtain ⟨U, hU⟩ : ∃ U, U = setMany wD w.heap.size [(0, .int .u8 2), (1, .int .u8 0), (2, .int .u8 0), (3, .int .u8 0), (4, .int .u8 0), (5, .int .u8 42), (6, .string ⟨#[107, 101, 114, 110, 101, 108]⟩), (7, .int .i64 600000), (8, .string dg), (9, .int .i64 8), (10, .int .i64 1), (11, .int .i64 16), (12, .int .i64 0)] := ⟨_, rfl⟩
        have hcs : setCs #[.int .u8 0, .int .u8 0, .int .u8 0, .int .u8 0, .int .u8 0, .int .u8 0, .string ⟨#[]⟩, .int .i64 0, .string ⟨#[]⟩, .int .i64 0, .int .i64 0, .int .i64 0, .int .i64 0] [(0, .int .u8 2), (1, .int .u8 0), (2, .int .u8 0), (3, .int .u8 0), (4, .int .u8 0), (5, .int .u8 42), (6, .string ⟨#[107, 101, 114, 110, 101, 108]⟩), (7, .int .i64 600000), (8, .string dg), (9, .int .i64 8), (10, .int .i64 1), (11, .int .i64 16), (12, .int .i64 0)] = #[.int .u8 2, .int .u8 0, .int .u8 0, .int .u8 0, .int .u8 0, .int .u8 42, .string ⟨#[107, 101, 114, 110, 101, 108]⟩, .int .i64 600000, .string dg, .int .i64 8, .int .i64 1, .int .i64 16, .int .i64 0] := by kernel_rfl
        have hr2 : U.heap[w.heap.size]? = some (.cells #[.int .u8 2, .int .u8 0, .int .u8 0, .int .u8 0, .int .u8 0, .int .u8 42, .string ⟨#[107, 101, 114, 110, 101, 108]⟩, .int .i64 600000, .string dg, .int .i64 8, .int .i64 1, .int .i64 16, .int .i64 0] 25 (0, 0)) := by
          have q := many_row w.heap.size [(0, .int .u8 2), (1, .int .u8 0), (2, .int .u8 0), (3, .int .u8 0), (4, .int .u8 0), (5, .int .u8 42), (6, .string ⟨#[107, 101, 114, 110, 101, 108]⟩), (7, .int .i64 600000), (8, .string dg), (9, .int .i64 8), (10, .int .i64 1), (11, .int .i64 16), (12, .int .i64 0)] wD _ (unhide HS1)
          rw [hcs] at q
          rw [hU, q]
        have HW : Hid (Below w.heap.size w U) := hide (by
          have q := unhide HS3
          obtain ⟨o4, o5, o6⟩ := many_os w.heap.size [(0, .int .u8 2), (1, .int .u8 0), (2, .int .u8 0), (3, .int .u8 0), (4, .int .u8 0), (5, .int .u8 42), (6, .string ⟨#[107, 101, 114, 110, 101, 108]⟩), (7, .int .i64 600000), (8, .string dg), (9, .int .i64 8), (10, .int .i64 1), (11, .int .i64 16), (12, .int .i64 0)] wD
          rw [hU]
          exact ⟨o4.trans q.os, o5.trans q.tape, o6.trans q.output, by rw [many_size]; exact q.size, fun k hk => (many_other _ k (by omega) [(0, .int .u8 2), (1, .int .u8 0), (2, .int .u8 0), (3, .int .u8 0), (4, .int .u8 0), (5, .int .u8 42), (6, .string ⟨#[107, 101, 114, 110, 101, 108]⟩), (7, .int .i64 600000), (8, .string dg), (9, .int .i64 8), (10, .int .i64 1), (11, .int .i64 16), (12, .int .i64 0)] _).trans (q.block k hk)⟩)
        obtain ⟨r0, r1, r2, r3, r4, r5, r6, r7, r8, r9, r10, r11, r12⟩ := row13 hr2
        simp only [setMany] at hU
        have HU := hide hU
        clear hU hcs hr2
        go_wp2
        rw [← unhide HU]
        refine bodyPost_ret (v := .agg #[.int .u8 2, .int .u8 0, .int .u8 0, .int .u8 0, .int .u8 0, .int .u8 42, .string ⟨#[107, 101, 114, 110, 101, 108]⟩, .int .i64 600000, .string dg, .int .i64 8, .int .i64 1, .int .i64 16, .int .i64 0]) (by simp [results, Tryz.results11, go_sem, r0, r1, r2, r3, r4, r5, r6, r7, r8, r9, r10, r11, r12]) rfl ?_
        exact ⟨rfl, unhide HW⟩
set_option maxHeartbeats 2000000 in
set_option maxRecDepth 10000 in
theorem changed_15 (dg : ByteArray) (w : World) (HC : Hid (Calls Tryz.prog 5 #[.string ⟨#[]⟩, .int .i64 8, .int .i64 1] (w.alloc (.cells #[.int .u8 0, .int .u8 0, .int .u8 0, .int .u8 0, .int .u8 0, .int .u8 0, .string ⟨#[]⟩, .int .i64 0, .string ⟨#[]⟩, .int .i64 0, .int .i64 0, .int .i64 0, .int .i64 0] 25)) fun e w' => e = .returned (.agg #[.int .u8 2, .int .u8 0, .int .u8 0, .int .u8 0, .int .u8 0, .int .u8 42, .string ⟨#[107, 101, 114, 110, 101, 108]⟩, .int .i64 600000, .string dg, .int .i64 8, .int .i64 1, .int .i64 16, .int .i64 16]) ∧ Below (w.alloc (.cells #[.int .u8 0, .int .u8 0, .int .u8 0, .int .u8 0, .int .u8 0, .int .u8 0, .string ⟨#[]⟩, .int .i64 0, .string ⟨#[]⟩, .int .i64 0, .int .i64 0, .int .i64 0, .int .i64 0] 25)).heap.size (w.alloc (.cells #[.int .u8 0, .int .u8 0, .int .u8 0, .int .u8 0, .int .u8 0, .int .u8 0, .string ⟨#[]⟩, .int .i64 0, .string ⟨#[]⟩, .int .i64 0, .int .i64 0, .int .i64 0, .int .i64 0] 25)) w')) :
    Calls Tryz.prog 11 #[.int .i64 15] w fun e w' => e = .returned (.agg #[.int .u8 2, .int .u8 0, .int .u8 0, .int .u8 0, .int .u8 0, .int .u8 42, .string ⟨#[107, 101, 114, 110, 101, 108]⟩, .int .i64 600000, .string dg, .int .i64 8, .int .i64 1, .int .i64 16, .int .i64 17]) ∧ Below w.heap.size w w' := by
  go_enter Tryz.func11, Tryz.ntmps11
  refine wp_seq_k (fun K hK => ?_)
  go_cut [2] (fun v2 wc => v2 = .pointer (some ⟨w.heap.size, 0, none⟩) ∧ wc = w.alloc (.cells #[.int .u8 0, .int .u8 0, .int .u8 0, .int .u8 0, .int .u8 0, .int .u8 0, .string ⟨#[]⟩, .int .i64 0, .string ⟨#[]⟩, .int .i64 0, .int .i64 0, .int .i64 0, .int .i64 0] 25))
  case first =>
    go_wp2
    go_meet
    exact ⟨rfl, rfl⟩
  case rest =>
    rename World => wA
    obtain ⟨rfl, rfl⟩ := hcut
    refine hK _ _ ?_
    clear hK K
    refine wp_seq_k (fun K hK => ?_)
    go_cut [3] (fun v3 wc => ∃ g, v3 = .pointer (some ⟨g, 0, none⟩) ∧ w.heap.size < g ∧ Hid (wc.heap[w.heap.size]? = some (.cells #[.int .u8 0, .int .u8 0, .int .u8 0, .int .u8 0, .int .u8 0, .int .u8 0, .string ⟨#[]⟩, .int .i64 0, .string ⟨#[]⟩, .int .i64 0, .int .i64 0, .int .i64 0, .int .i64 0] 25 (0, 0))) ∧ Hid (wc.heap[g]? = some (.cells #[.int .u8 2, .int .u8 0, .int .u8 0, .int .u8 0, .int .u8 0, .int .u8 42, .string ⟨#[107, 101, 114, 110, 101, 108]⟩, .int .i64 600000, .string dg, .int .i64 8, .int .i64 1, .int .i64 16, .int .i64 16] 25 (0, 0))) ∧ Hid (Below w.heap.size w wc))
    case first =>
      go_wp2_with fail
      refine (unhide HC).mono ?_
      rintro ee u ⟨rfl, hb⟩
      have HRO := hide ((hb.block w.heap.size (by simp)).trans (heap_alloc_new w (.cells #[.int .u8 0, .int .u8 0, .int .u8 0, .int .u8 0, .int .u8 0, .int .u8 0, .string ⟨#[]⟩, .int .i64 0, .string ⟨#[]⟩, .int .i64 0, .int .i64 0, .int .i64 0, .int .i64 0] 25)))
      have HB := hide (((Below.refl w.heap.size w).alloc (Nat.le_refl _) _).trans (hb.mono (by simp)))
      have hz := lt_of_block (unhide HRO)
      clear hb HC
      go_wp2
      go_meet
      exact ⟨_, rfl, hz, hide ((Below.heap_alloc _ _ _ hz).trans (unhide HRO)), hide (heap_alloc_new u _), hide ((unhide HB).alloc (by omega) _)⟩
    case rest =>
      rename World => wB
      obtain ⟨g, rfl, hgz, HR0, HRG, HBW⟩ := hcut
      refine hK _ _ ?_
      clear hK K HC
      refine wp_seq_k (fun K hK => ?_)
      go_cut [] (fun wc => Hid (wc.heap[w.heap.size]? = some (.cells #[.int .u8 0, .int .u8 0, .int .u8 0, .int .u8 0, .int .u8 0, .int .u8 0, .string ⟨#[]⟩, .int .i64 0, .string ⟨#[]⟩, .int .i64 0, .int .i64 0, .int .i64 0, .int .i64 0] 25 (0, 0))) ∧ Hid (wc.heap[g]? = some (.cells #[.int .u8 2, .int .u8 0, .int .u8 0, .int .u8 0, .int .u8 0, .int .u8 42, .string ⟨#[107, 101, 114, 110, 101, 108]⟩, .int .i64 600000, .string dg, .int .i64 8, .int .i64 1, .int .i64 16, .int .i64 17] 25 (0, 0))) ∧ Hid (Below w.heap.size w wc))
      case first =>
        obtain ⟨x0, x1, x2, x3, x4, x5, x6, x7, x8, x9, x10, x11, x12⟩ := row13 (unhide HRG)
        have fg := row_cells (unhide HRG)
        have h0 := fg 0
        have h1 := fg 1
        have h2 := fg 2
        have h3 := fg 3
        have h4 := fg 4
        have h5 := fg 5
        have h6 := fg 6
        have h7 := fg 7
        have h8 := fg 8
        have h9 := fg 9
        have h10 := fg 10
        have h11 := fg 11
        have h12 := fg 12
        have hcs : setCs #[.int .u8 2, .int .u8 0, .int .u8 0, .int .u8 0, .int .u8 0, .int .u8 42, .string ⟨#[107, 101, 114, 110, 101, 108]⟩, .int .i64 600000, .string dg, .int .i64 8, .int .i64 1, .int .i64 16, .int .i64 16] [(12, .int .i64 17)] = #[.int .u8 2, .int .u8 0, .int .u8 0, .int .u8 0, .int .u8 0, .int .u8 42, .string ⟨#[107, 101, 114, 110, 101, 108]⟩, .int .i64 600000, .string dg, .int .i64 8, .int .i64 1, .int .i64 16, .int .i64 17] := by kernel_rfl
        have HQ1 : Hid ((setMany wB g [(12, .int .i64 17)]).heap[w.heap.size]? = some (.cells #[.int .u8 0, .int .u8 0, .int .u8 0, .int .u8 0, .int .u8 0, .int .u8 0, .string ⟨#[]⟩, .int .i64 0, .string ⟨#[]⟩, .int .i64 0, .int .i64 0, .int .i64 0, .int .i64 0] 25 (0, 0))) := hide ((many_other g _ (by omega) [(12, .int .i64 17)] wB).trans (unhide HR0))
        have HQ2 : Hid ((setMany wB g [(12, .int .i64 17)]).heap[g]? = some (.cells #[.int .u8 2, .int .u8 0, .int .u8 0, .int .u8 0, .int .u8 0, .int .u8 42, .string ⟨#[107, 101, 114, 110, 101, 108]⟩, .int .i64 600000, .string dg, .int .i64 8, .int .i64 1, .int .i64 16, .int .i64 17] 25 (0, 0))) := hide (by
          have q := many_row g [(12, .int .i64 17)] wB _ (unhide HRG)
          rw [hcs] at q; exact q)
        have HQ3 : Hid (Below w.heap.size w (setMany wB g [(12, .int .i64 17)])) := hide (by
          have q := unhide HBW
          obtain ⟨o1, o2, o3⟩ := many_os g [(12, .int .i64 17)] wB
          exact ⟨o1.trans q.os, o2.trans q.tape, o3.trans q.output, by rw [many_size]; exact q.size, fun k hk => (many_other g k (by omega) [(12, .int .i64 17)] wB).trans (q.block k hk)⟩)
        simp only [setMany] at HQ1 HQ2 HQ3
        clear fg hcs
        go_wp2
        go_meet
        exact ⟨HQ1, HQ2, HQ3⟩
      case rest =>
        rename World => wD
        obtain ⟨HS1, HS2, HS3⟩ := hcut
        refine hK _ _ ?_
        clear hK K HR0 HRG HBW
        obtain ⟨e0, e1, e2, e3, e4, e5, e6, e7, e8, e9, e10, e11, e12⟩ := row13 (unhide HS1)
        obtain ⟨x0, x1, x2, x3, x4, x5, x6, x7, x8, x9, x10, x11, x12⟩ := row13 (unhide HS2)
        have fr := row_cells (unhide HS1)
        have f0 := fr 0
        have f1 := fr 1
        have f2 := fr 2
        have f3 := fr 3
        have f4 := fr 4
        have f5 := fr 5
        have f6 := fr 6
        have f7 := fr 7
        have f8 := fr 8
        have f9 := fr 9
        have f10 := fr 10
        have f11 := fr 11
        have f12 := fr 12
        have hne : g ≠ w.heap.size := by omega
        have hne2 : w.heap.size ≠ g := by omega
        clear fr
        obtain ⟨U, hU⟩ : ∃ U, U = setMany wD w.heap.size [(0, .int .u8 2), (1, .int .u8 0), (2, .int .u8 0), (3, .int .u8 0), (4, .int .u8 0), (5, .int .u8 42), (6, .string ⟨#[107, 101, 114, 110, 101, 108]⟩), (7, .int .i64 600000), (8, .string dg), (9, .int .i64 8), (10, .int .i64 1), (11, .int .i64 16), (12, .int .i64 17)] := ⟨_, rfl⟩
        have hcs : setCs #[.int .u8 0, .int .u8 0, .int .u8 0, .int .u8 0, .int .u8 0, .int .u8 0, .string ⟨#[]⟩, .int .i64 0, .string ⟨#[]⟩, .int .i64 0, .int .i64 0, .int .i64 0, .int .i64 0] [(0, .int .u8 2), (1, .int .u8 0), (2, .int .u8 0), (3, .int .u8 0), (4, .int .u8 0), (5, .int .u8 42), (6, .string ⟨#[107, 101, 114, 110, 101, 108]⟩), (7, .int .i64 600000), (8, .string dg), (9, .int .i64 8), (10, .int .i64 1), (11, .int .i64 16), (12, .int .i64 17)] = #[.int .u8 2, .int .u8 0, .int .u8 0, .int .u8 0, .int .u8 0, .int .u8 42, .string ⟨#[107, 101, 114, 110, 101, 108]⟩, .int .i64 600000, .string dg, .int .i64 8, .int .i64 1, .int .i64 16, .int .i64 17] := by kernel_rfl
        have hr2 : U.heap[w.heap.size]? = some (.cells #[.int .u8 2, .int .u8 0, .int .u8 0, .int .u8 0, .int .u8 0, .int .u8 42, .string ⟨#[107, 101, 114, 110, 101, 108]⟩, .int .i64 600000, .string dg, .int .i64 8, .int .i64 1, .int .i64 16, .int .i64 17] 25 (0, 0)) := by
          have q := many_row w.heap.size [(0, .int .u8 2), (1, .int .u8 0), (2, .int .u8 0), (3, .int .u8 0), (4, .int .u8 0), (5, .int .u8 42), (6, .string ⟨#[107, 101, 114, 110, 101, 108]⟩), (7, .int .i64 600000), (8, .string dg), (9, .int .i64 8), (10, .int .i64 1), (11, .int .i64 16), (12, .int .i64 17)] wD _ (unhide HS1)
          rw [hcs] at q
          rw [hU, q]
        have HW : Hid (Below w.heap.size w U) := hide (by
          have q := unhide HS3
          obtain ⟨o4, o5, o6⟩ := many_os w.heap.size [(0, .int .u8 2), (1, .int .u8 0), (2, .int .u8 0), (3, .int .u8 0), (4, .int .u8 0), (5, .int .u8 42), (6, .string ⟨#[107, 101, 114, 110, 101, 108]⟩), (7, .int .i64 600000), (8, .string dg), (9, .int .i64 8), (10, .int .i64 1), (11, .int .i64 16), (12, .int .i64 17)] wD
          rw [hU]
          exact ⟨o4.trans q.os, o5.trans q.tape, o6.trans q.output, by rw [many_size]; exact q.size, fun k hk => (many_other _ k (by omega) [(0, .int .u8 2), (1, .int .u8 0), (2, .int .u8 0), (3, .int .u8 0), (4, .int .u8 0), (5, .int .u8 42), (6, .string ⟨#[107, 101, 114, 110, 101, 108]⟩), (7, .int .i64 600000), (8, .string dg), (9, .int .i64 8), (10, .int .i64 1), (11, .int .i64 16), (12, .int .i64 17)] _).trans (q.block k hk)⟩)
        obtain ⟨r0, r1, r2, r3, r4, r5, r6, r7, r8, r9, r10, r11, r12⟩ := row13 hr2
        simp only [setMany] at hU
        have HU := hide hU
        clear hU hcs hr2
        go_wp2
        rw [← unhide HU]
        refine bodyPost_ret (v := .agg #[.int .u8 2, .int .u8 0, .int .u8 0, .int .u8 0, .int .u8 0, .int .u8 42, .string ⟨#[107, 101, 114, 110, 101, 108]⟩, .int .i64 600000, .string dg, .int .i64 8, .int .i64 1, .int .i64 16, .int .i64 17]) (by simp [results, Tryz.results11, go_sem, r0, r1, r2, r3, r4, r5, r6, r7, r8, r9, r10, r11, r12]) rfl ?_
        exact ⟨rfl, unhide HW⟩
theorem changed_any (k : Nat) (hk : k < 16) (dg : ByteArray) (w : World) (HC : Hid (Calls Tryz.prog 5 #[.string ⟨#[]⟩, .int .i64 8, .int .i64 1] (w.alloc (.cells #[.int .u8 0, .int .u8 0, .int .u8 0, .int .u8 0, .int .u8 0, .int .u8 0, .string ⟨#[]⟩, .int .i64 0, .string ⟨#[]⟩, .int .i64 0, .int .i64 0, .int .i64 0, .int .i64 0] 25)) fun e w' => e = .returned (.agg #[.int .u8 2, .int .u8 0, .int .u8 0, .int .u8 0, .int .u8 0, .int .u8 42, .string ⟨#[107, 101, 114, 110, 101, 108]⟩, .int .i64 600000, .string dg, .int .i64 8, .int .i64 1, .int .i64 16, .int .i64 16]) ∧ Below (w.alloc (.cells #[.int .u8 0, .int .u8 0, .int .u8 0, .int .u8 0, .int .u8 0, .int .u8 0, .string ⟨#[]⟩, .int .i64 0, .string ⟨#[]⟩, .int .i64 0, .int .i64 0, .int .i64 0, .int .i64 0] 25)).heap.size (w.alloc (.cells #[.int .u8 0, .int .u8 0, .int .u8 0, .int .u8 0, .int .u8 0, .int .u8 0, .string ⟨#[]⟩, .int .i64 0, .string ⟨#[]⟩, .int .i64 0, .int .i64 0, .int .i64 0, .int .i64 0] 25)) w')) :
    Calls Tryz.prog 11 #[.int .i64 k] w fun e w' => ∃ k0 k1 k2 k3 k4 k5 name cap dig blk win rx tx, e = .returned (.agg #[.int .u8 (k0 : UInt8).toNat, .int .u8 (k1 : UInt8).toNat, .int .u8 (k2 : UInt8).toNat, .int .u8 (k3 : UInt8).toNat, .int .u8 (k4 : UInt8).toNat, .int .u8 (k5 : UInt8).toNat, .string name, .int .i64 cap, .string dig, .int .i64 blk, .int .i64 win, .int .i64 rx, .int .i64 tx]) ∧ ¬ (Cfg.mk k0 k1 k2 k3 k4 k5 name cap dig blk win rx tx).Good ∧ Below w.heap.size w w' := by
  have hc : k = 0 ∨ k = 1 ∨ k = 2 ∨ k = 3 ∨ k = 4 ∨ k = 5 ∨ k = 6 ∨ k = 7 ∨ k = 8 ∨ k = 9 ∨ k = 10 ∨ k = 11 ∨ k = 12 ∨ k = 13 ∨ k = 14 ∨ k = 15 := by omega
  rcases hc with rfl | rfl | rfl | rfl | rfl | rfl | rfl | rfl | rfl | rfl | rfl | rfl | rfl | rfl | rfl | rfl
  · refine (changed_0 dg w HC).mono ?_
    rintro e w' ⟨rfl, hb⟩
    exact ⟨0, 0, 0, 0, 0, 0, ⟨#[107, 101, 114, 110, 101, 108]⟩, 600000, dg, 8, 1, 16, 16, rfl, fun h => absurd (show cardB 0 0 0 0 0 0 = true from h.card) (by decide), hb⟩
  · refine (changed_1 dg w HC).mono ?_
    rintro e w' ⟨rfl, hb⟩
    exact ⟨1, 0, 0, 0, 0, 42, ⟨#[107, 101, 114, 110, 101, 108]⟩, 600000, dg, 8, 1, 16, 16, rfl, fun h => absurd (show cardB 1 0 0 0 0 42 = true from h.card) (by decide), hb⟩
  · refine (changed_2 dg w HC).mono ?_
    rintro e w' ⟨rfl, hb⟩
    exact ⟨2, 0, 0, 0, 0, 42, ⟨#[]⟩, 600000, dg, 8, 1, 16, 16, rfl, fun h => absurd (show Tf.nameB [] = true from h.name) (by decide), hb⟩
  · refine (changed_3 dg w HC).mono ?_
    rintro e w' ⟨rfl, hb⟩
    exact ⟨2, 0, 0, 0, 0, 42, ⟨#[97, 32, 98]⟩, 600000, dg, 8, 1, 16, 16, rfl, fun h => absurd (show Tf.nameB [97, 32, 98] = true from h.name) (by decide), hb⟩
  · refine (changed_4 dg w HC).mono ?_
    rintro e w' ⟨rfl, hb⟩
    exact ⟨2, 0, 0, 0, 0, 42, ⟨#[97, 98, 99, 100, 101, 102, 103, 104, 105, 106, 107, 108, 109, 110, 111, 112, 113, 114, 115, 116, 117]⟩, 600000, dg, 8, 1, 16, 16, rfl, fun h => absurd (show (⟨#[97, 98, 99, 100, 101, 102, 103, 104, 105, 106, 107, 108, 109, 110, 111, 112, 113, 114, 115, 116, 117]⟩ : ByteArray).size ≤ 20 from h.long) (by decide), hb⟩
  · refine (changed_5 dg w HC).mono ?_
    rintro e w' ⟨rfl, hb⟩
    exact ⟨2, 0, 0, 0, 0, 42, ⟨#[107, 101, 114, 110, 101, 108]⟩, 600000, ⟨#[120]⟩, 8, 1, 16, 16, rfl, fun h => absurd (show (⟨#[120]⟩ : ByteArray).size = 32 from h.dig) (by decide), hb⟩
  · refine (changed_6 dg w HC).mono ?_
    rintro e w' ⟨rfl, hb⟩
    exact ⟨2, 0, 0, 0, 0, 42, ⟨#[107, 101, 114, 110, 101, 108]⟩, 0, dg, 8, 1, 16, 16, rfl, fun h => absurd (show (1 : Int) ≤ 0 ∧ (0 : Int) ≤ 600000 from h.cap) (by decide), hb⟩
  · refine (changed_7 dg w HC).mono ?_
    rintro e w' ⟨rfl, hb⟩
    exact ⟨2, 0, 0, 0, 0, 42, ⟨#[107, 101, 114, 110, 101, 108]⟩, 600001, dg, 8, 1, 16, 16, rfl, fun h => absurd (show (1 : Int) ≤ 600001 ∧ (600001 : Int) ≤ 600000 from h.cap) (by decide), hb⟩
  · refine (changed_8 dg w HC).mono ?_
    rintro e w' ⟨rfl, hb⟩
    exact ⟨2, 0, 0, 0, 0, 42, ⟨#[107, 101, 114, 110, 101, 108]⟩, 600000, dg, 7, 1, 16, 16, rfl, fun h => absurd (show (8 : Int) ≤ 7 ∧ (7 : Int) ≤ 1024 from h.blk) (by decide), hb⟩
  · refine (changed_9 dg w HC).mono ?_
    rintro e w' ⟨rfl, hb⟩
    exact ⟨2, 0, 0, 0, 0, 42, ⟨#[107, 101, 114, 110, 101, 108]⟩, 600000, dg, 1025, 1, 16, 16, rfl, fun h => absurd (show (8 : Int) ≤ 1025 ∧ (1025 : Int) ≤ 1024 from h.blk) (by decide), hb⟩
  · refine (changed_10 dg w HC).mono ?_
    rintro e w' ⟨rfl, hb⟩
    exact ⟨2, 0, 0, 0, 0, 42, ⟨#[107, 101, 114, 110, 101, 108]⟩, 600000, dg, 8, 0, 16, 16, rfl, fun h => absurd (show (1 : Int) ≤ 0 ∧ (0 : Int) ≤ 8 from h.win) (by decide), hb⟩
  · refine (changed_11 dg w HC).mono ?_
    rintro e w' ⟨rfl, hb⟩
    exact ⟨2, 0, 0, 0, 0, 42, ⟨#[107, 101, 114, 110, 101, 108]⟩, 600000, dg, 8, 9, 16, 16, rfl, fun h => absurd (show (1 : Int) ≤ 9 ∧ (9 : Int) ≤ 8 from h.win) (by decide), hb⟩
  · refine (changed_12 dg w HC).mono ?_
    rintro e w' ⟨rfl, hb⟩
    exact ⟨2, 0, 0, 0, 0, 42, ⟨#[107, 101, 114, 110, 101, 108]⟩, 600000, dg, 8, 1, 0, 16, rfl, fun h => absurd (show (1 : Int) ≤ 0 ∧ (0 : Int) ≤ 16 from h.rx) (by decide), hb⟩
  · refine (changed_13 dg w HC).mono ?_
    rintro e w' ⟨rfl, hb⟩
    exact ⟨2, 0, 0, 0, 0, 42, ⟨#[107, 101, 114, 110, 101, 108]⟩, 600000, dg, 8, 1, 17, 16, rfl, fun h => absurd (show (1 : Int) ≤ 17 ∧ (17 : Int) ≤ 16 from h.rx) (by decide), hb⟩
  · refine (changed_14 dg w HC).mono ?_
    rintro e w' ⟨rfl, hb⟩
    exact ⟨2, 0, 0, 0, 0, 42, ⟨#[107, 101, 114, 110, 101, 108]⟩, 600000, dg, 8, 1, 16, 0, rfl, fun h => absurd (show (1 : Int) ≤ 0 ∧ (0 : Int) ≤ 16 from h.tx) (by decide), hb⟩
  · refine (changed_15 dg w HC).mono ?_
    rintro e w' ⟨rfl, hb⟩
    exact ⟨2, 0, 0, 0, 0, 42, ⟨#[107, 101, 114, 110, 101, 108]⟩, 600000, dg, 8, 1, 16, 17, rfl, fun h => absurd (show (1 : Int) ≤ 17 ∧ (17 : Int) ≤ 16 from h.tx) (by decide), hb⟩
end Go.Proofs.YtonlmklkikbeiaaGreatDoor.Mac

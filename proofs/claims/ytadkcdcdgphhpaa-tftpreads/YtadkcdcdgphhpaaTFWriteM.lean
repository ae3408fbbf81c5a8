import Derived.Test.YtadkcdcdgphhpaaTFWrite
namespace Go.Proofs.Ytadkcdcdgphhpaa.Tf
open Go.ChangeShapes Go.WideShapes Go.ChangeAt Go.RowKit Bs Wt
set_option linter.unusedVariables false
set_option linter.unusedSimpArgs false


set_option maxHeartbeats 1000000 in
theorem may_any (o bl : Int) (ts ds : ByteArray) (fa : Option Addr) (fc : Nat) (m : Msg) (w : World) (hop : (m.op : Int) = o) (hts : ts.data.toList = m.text) (hA : AtF w fa m.fs) (hl : heavyF m.fs ≤ 2097152) (ht : m.text.length ≤ 2097152) :
    Calls Try.prog 101 #[.agg #[.int .u16 o, .int .u16 bl, .string ts, .string ds, .slice fa m.fs.length fc]] w fun e w' => e = .returned (.bool (toldM m)) ∧ Below w.heap.size w w' := by
  obtain ⟨W, hWW⟩ : ∃ W, W = w.alloc (.cells #[.int .u16 o, .int .u16 bl, .string ts, .string ds, .slice fa m.fs.length fc] 67) := ⟨_, rfl⟩
  have hW0 : Below w.heap.size w W := by rw [hWW]; exact (Below.refl _ _).alloc (Nat.le_refl _) _
  have hWz : w.heap.size ≤ W.heap.size := hW0.size
  have HI := hide (isName_any ts m.text W hts (by omega))
  have HF := hide (mayFs_any fa fc m.fs W (hA.below hW0 (Nat.le_refl _)) (by omega))
  have HC := hide (Sf.strings_Contains_one ts 0 W)
  rw [hts, index_le] at HC
  have HW0 := hide hW0
  have HWW := hide hWW
  have hbox : ∀ j, W.cell? ⟨w.heap.size, j, none⟩ = #[.int .u16 o, .int .u16 bl, .string ts, .string ds, .slice fa m.fs.length fc][j]? := fun j => by rw [hWW, cell_of_row _ w.heap.size j _ _ (0, 0) (heap_alloc_new w _)]
  clear hW0 hA hWW
  by_cases e1 : o = 1
  · subst e1
    have HT : Hid (toldM m = (nameB m.text && toldB m.fs)) := hide (by unfold toldM; rw [if_pos (by omega)])
    clear hop
    go_enter Try.func101, Try.ntmps101
    go_wp2_with fail
    rw [← unhide HWW]
    refine (unhide HI).mono ?_
    rintro e u ⟨rfl, rfl⟩
    by_cases hn : nameB m.text = true
    · rw [hn, Bool.true_and] at HT
      rw [hn]
      rw [unhide HWW]
      go_wp2_with fail
      rw [← unhide HWW]
      refine (unhide HF).mono ?_
      rintro e u ⟨rfl, hb⟩
      have HB : Hid (Below w.heap.size w u) := hide ((unhide HW0).trans (hb.mono hWz))
      clear hb
      go_wp2
      go_ret
      exact ⟨by rw [unhide HT]; rfl, unhide HB⟩
    · have hn' : nameB m.text = false := by simpa using hn
      rw [hn', Bool.false_and] at HT
      rw [hn', unhide HWW]
      go_wp2
      go_ret
      exact ⟨by rw [unhide HT]; rfl, by rw [← unhide HWW]; exact unhide HW0⟩
  by_cases e6 : o = 6
  · subst e6
    have HT : Hid (toldM m = toldB m.fs) := hide (by unfold toldM; rw [show m.op = 6 by omega]; rfl)
    clear hop e1
    go_enter Try.func101, Try.ntmps101
    go_wp2_with fail
    rw [← unhide HWW]
    refine (unhide HF).mono ?_
    rintro e u ⟨rfl, hb⟩
    have HB : Hid (Below w.heap.size w u) := hide ((unhide HW0).trans (hb.mono hWz))
    clear hb
    go_wp2
    go_ret
    exact ⟨by rw [unhide HT]; rfl, unhide HB⟩
  have q1 : (o == 1) = false := by simpa using e1
  have q6 : (o == 6) = false := by simpa using e6
  by_cases e5 : o = 5
  · subst e5
    have HT : Hid (toldM m = !m.text.contains 0) := hide (by unfold toldM; rw [show m.op = 5 by omega]; rfl)
    clear hop e1 e6
    go_enter Try.func101, Try.ntmps101
    go_wp2_with fail
    rw [← unhide HWW]
    refine (unhide HC).mono ?_
    rintro e u ⟨rfl, rfl⟩
    obtain ⟨b, hb⟩ : ∃ b, b = m.text.contains 0 := ⟨_, rfl⟩
    rw [← hb] at HT ⊢
    rw [unhide HWW]
    clear hb
    go_wp2
    go_ret
    exact ⟨by rw [unhide HT]; rfl, by rw [← unhide HWW]; exact unhide HW0⟩
  have q5 : (o == 5) = false := by simpa using e5
  by_cases e3 : o = 3
  · subst e3
    have HT : Hid (toldM m = true) := hide (by unfold toldM; rw [show m.op = 3 by omega]; rfl)
    clear hop e1 e6 e5
    go_enter Try.func101, Try.ntmps101
    go_wp2
    go_ret
    exact ⟨by rw [unhide HT]; rfl, by rw [← unhide HWW]; exact unhide HW0⟩
  have q3 : (o == 3) = false := by simpa using e3
  by_cases e4 : o = 4
  · subst e4
    have HT : Hid (toldM m = true) := hide (by unfold toldM; rw [show m.op = 4 by omega]; rfl)
    clear hop e1 e6 e5 e3
    go_enter Try.func101, Try.ntmps101
    go_wp2
    go_ret
    exact ⟨by rw [unhide HT]; rfl, by rw [← unhide HWW]; exact unhide HW0⟩
  have q4 : (o == 4) = false := by simpa using e4
  have HT : Hid (toldM m = false) := hide (by
    unfold toldM
    rw [if_neg (by omega), if_neg (by omega), if_neg (by omega)]
    have h3 : ¬ m.op = 3 := by omega
    have h4 : ¬ m.op = 4 := by omega
    simp [h3, h4])
  clear hop e1 e6 e5 e3 e4
  go_enter Try.func101, Try.ntmps101
  go_wp2
  go_ret
  exact ⟨by rw [unhide HT]; rfl, by rw [← unhide HWW]; exact unhide HW0⟩
end Go.Proofs.Ytadkcdcdgphhpaa.Tf

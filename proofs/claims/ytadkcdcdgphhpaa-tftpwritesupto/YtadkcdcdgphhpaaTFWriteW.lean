import Derived.Test.YtadkcdcdgphhpaaTFWriteT
namespace Go.Proofs.Ytadkcdcdgphhpaa.Tf
open Go.ChangeShapes Go.WideShapes Go.ChangeAt Go.RowKit Bs Wt
set_option linter.unusedVariables false
set_option linter.unusedSimpArgs false

set_option maxHeartbeats 1000000 in
theorem isBlock_any (s : ByteArray) (w : World) : Calls Try.prog 102 #[.string s] w fun e w' => e = .returned (.bool (decide ((s.size : Int) ≤ 1024))) ∧ w = w' := by
  go_enter Try.func102, Try.ntmps102
  go_wp2
  go_ret
  exact ⟨rfl, rfl⟩

theorem told_op {m : Msg} (h : toldM m = true) : m.op = 1 ∨ m.op = 3 ∨ m.op = 4 ∨ m.op = 5 ∨ m.op = 6 := by
  unfold toldM at h
  by_cases h1 : m.op = 1
  · exact .inl h1
  · rw [if_neg h1] at h
    by_cases h6 : m.op = 6
    · exact .inr (.inr (.inr (.inr h6)))
    · rw [if_neg h6] at h
      by_cases h5 : m.op = 5
      · exact .inr (.inr (.inr (.inl h5)))
      · rw [if_neg h5] at h
        simp at h
        rcases h with h | h
        · exact .inr (.inl h)
        · exact .inr (.inr (.inl h))
theorem tftp_any (B : Nat) (o bl : Int) (ts ds : ByteArray) (fa : Option Addr) (fc : Nat) (m : Msg) (w : World) (hW : Wr w B []) (hop : (m.op : Int) = o) (htold : toldM m = true) (hbl : (m.block : Int) = bl) (hb0 : 0 ≤ bl) (hb1 : bl ≤ 65535) (hts : ts.data.toList = m.text) (hds : ds.data.toList = m.data) (hA : AtF w fa m.fs) (hB : ∀ ad, fa = some ad → 0 < m.fs.length → ad.block < B) (hl : heavyF m.fs ≤ 1048576) (ht : m.text.length ≤ 1048576) (hd : m.data.length ≤ 1048576) :
    Calls Try.prog 103 #[.pointer (some ⟨B, 0, none⟩), .agg #[.int .u16 o, .int .u16 bl, .string ts, .string ds, .slice fa m.fs.length fc]] w fun e w' =>
      e = .returned (.tuple #[]) ∧ Kept B w w' ∧ ∃ M, Wr w' B M ∧ M.length ≤ 8388608 ∧ (M = bytesM m ∨ (1472 < M.length ∧ 1472 < (bytesM m).length)) := by
  rcases told_op htold with h | h | h | h | h
  · obtain rfl : o = 1 := by omega
    exact tftp_1 B bl ts ds fa fc m w hW h hbl hb0 hb1 hts hds hA hB hl ht hd
  · obtain rfl : o = 3 := by omega
    exact tftp_3 B bl ts ds fa fc m w hW h hbl hb0 hb1 hts hds hA hB hl ht hd
  · obtain rfl : o = 4 := by omega
    exact tftp_4 B bl ts ds fa fc m w hW h hbl hb0 hb1 hts hds hA hB hl ht hd
  · obtain rfl : o = 5 := by omega
    exact tftp_5 B bl ts ds fa fc m w hW h hbl hb0 hb1 hts hds hA hB hl ht hd
  · obtain rfl : o = 6 := by omega
    exact tftp_6 B bl ts ds fa fc m w hW h hbl hb0 hb1 hts hds hA hB hl ht hd
theorem wr_new (w : World) : Wr (w.alloc (.cells #[.slice none 0 0] 103)) w.heap.size [] := ⟨_, heap_alloc_new w _, World.ownsRow_nil _ _ _ _⟩
theorem ret_two {s t : ByteArray} {a b : Int} (h : s = t) (k : a = b) : Ending.returned (.tuple #[.string s, .int .i64 a]) = .returned (.tuple #[.string t, .int .i64 b]) := by rw [h, k]

set_option maxHeartbeats 2000000 in
theorem write_any (o bl : Int) (ts ds : ByteArray) (fa : Option Addr) (fc : Nat) (m : Msg) (w : World) (hop : (m.op : Int) = o) (hbl : (m.block : Int) = bl) (hb0 : 0 ≤ bl) (hb1 : bl ≤ 65535) (hts : ts.data.toList = m.text) (hds : ds.data.toList = m.data) (hA : AtF w fa m.fs) (hl : heavyF m.fs ≤ 1048576) (ht : m.text.length ≤ 1048576) (hd : m.data.length ≤ 1048576) :
    Calls Try.prog 69 #[.agg #[.int .u16 o, .int .u16 bl, .string ts, .string ds, .slice fa m.fs.length fc]] w fun e w' =>
      e = .returned (.tuple #[.string ⟨(wrB m).toArray⟩, .int .i64 (wrK m)]) ∧ Below w.heap.size w w' := by
  obtain ⟨W, hWW⟩ : ∃ W, W = w.alloc (.cells #[.int .u16 o, .int .u16 bl, .string ts, .string ds, .slice fa m.fs.length fc] 67) := ⟨_, rfl⟩
  have hW0 : Below w.heap.size w W := by rw [hWW]; exact (Below.refl _ _).alloc (Nat.le_refl _) _
  have hWz : W.heap.size = w.heap.size + 1 := by rw [hWW]; simp
  have hbox : ∀ j, W.cell? ⟨w.heap.size, j, none⟩ = #[.int .u16 o, .int .u16 bl, .string ts, .string ds, .slice fa m.fs.length fc][j]? := fun j => by rw [hWW, cell_of_row _ w.heap.size j _ _ (0, 0) (heap_alloc_new w _)]
  have hdz : ds.size = m.data.length := by rw [← hds, len_str]
  have HM := hide (may_any o bl ts ds fa fc m W hop hts (hA.below hW0 (Nat.le_refl _)) (by omega) (by omega))
  have HA := hide hA
  have HW0 := hide hW0
  have HWZ := hide hWz
  have HBX := hide hbox
  have HWW := hide hWW
  have HTS := hide hts
  have HDS := hide hds
  have HOP := hide hop
  have HBL := hide hbl
  clear hW0 hWz hbox hA hWW hts hds hop hbl
  go_enter Try.func69, Try.ntmps69
  go_wp2_with fail
  rw [← unhide HWW]
  refine (unhide HM).mono ?_
  rintro e w1 ⟨rfl, hb1'⟩
  have hz1 : w.heap.size + 1 ≤ w1.heap.size := by have := hb1'.size; rw [unhide HWZ] at this; exact this
  have hcc1 : ∀ j, w1.cell? ⟨w.heap.size, j, none⟩ = #[.int .u16 o, .int .u16 bl, .string ts, .string ds, .slice fa m.fs.length fc][j]? := fun j => by
    rw [hb1'.cell (p := ⟨w.heap.size, j, none⟩) (by show w.heap.size < _; rw [unhide HWZ]; omega)]; exact unhide HBX j
  have HB1 : Hid (Below w.heap.size w w1) := hide ((unhide HW0).trans (hb1'.mono (by rw [unhide HWZ]; omega)))
  have HC1 := hide hcc1
  clear hb1' HM HWW HW0 HWZ HBX
  by_cases htold : toldM m = true
  · rw [htold]
    have HI := hide (isBlock_any ds w1)
    have HT := hide (tftp_any w1.heap.size o bl ts ds fa fc m _ (wr_new w1) (unhide HOP) htold (unhide HBL) hb0 hb1 (unhide HTS) (unhide HDS) ((unhide HA).below ((unhide HB1).alloc (by omega) _) (Nat.le_refl _)) ((unhide HA).old (by omega)) hl ht hd)
    by_cases h3 : o = 3 ∧ 1024 < m.data.length
    · obtain ⟨e3, hbig⟩ := h3
      have HK : Hid (wrK m = 7 ∧ wrB m = []) := hide (by
        have hop := unhide HOP
        have : wrK m = 7 := by unfold wrK; rw [htold, if_neg (by simp), if_pos ⟨by omega, hbig⟩]
        exact ⟨this, by unfold wrB; rw [this]; rfl⟩)
      subst e3
      have hd2 : decide ((ds.size : Int) ≤ 1024) = false := by rw [decide_eq_false_iff_not]; omega
      rw [hd2] at HI
      clear hd2 htold HT
      go_wp2_with (go_at_call 102; refine (unhide HI).mono ?_; rintro e u ⟨rfl, rfl⟩)
      go_ret2
      exact ⟨ret_two (by rw [(unhide HK).2]) (by rw [(unhide HK).1]; rfl), unhide HB1⟩
    · have HN3 : Hid (¬ (m.op = 3 ∧ 1024 < m.data.length)) := hide (by have := unhide HOP; omega)
      have HKT : Hid (wrK m = if 1472 < (bytesM m).length then 7 else 0) := hide (by unfold wrK; rw [htold, if_neg (by simp), if_neg (unhide HN3)])
      have cont : (o == 3) = false ∨ (o = 3 ∧ decide ((ds.size : Int) ≤ 1024) = true) := by
        by_cases e : o = 3
        · exact .inr ⟨e, by rw [decide_eq_true_iff]; omega⟩
        · exact .inl (by simpa using e)
      clear h3 htold HN3
      have hccA : ∀ j ob, (w1.alloc ob).cell? ⟨w.heap.size, j, none⟩ = #[.int .u16 o, .int .u16 bl, .string ts, .string ds, .slice fa m.fs.length fc][j]? := fun j ob => by
        rw [((Below.refl w1.heap.size w1).alloc (Nat.le_refl _) ob).cell (p := ⟨w.heap.size, j, none⟩) (by show w.heap.size < _; omega)]; exact unhide HC1 j
      rcases cont with e3 | ⟨e3, e4⟩
      · go_wp2_with fail
        refine (unhide HT).mono ?_
        rintro e w2 ⟨rfl, q2, M, k2, l2, h2⟩
        obtain ⟨v, hv, hown⟩ := k2
        obtain ⟨ao, cp, hv'⟩ := own_len hown
        have hc2 := cell_of_one hv
        rw [hv'] at hc2
        have K2 : Hid (Wr w2 w1.heap.size M) := hide ⟨v, hv, hown⟩
        have HB2 : Hid (Below w.heap.size w w2) := hide (((unhide HB1).alloc (by omega) _).trans (q2.below.mono (by omega)))
        have HX := hide (text_any w1.heap.size M w2 ⟨v, hv, hown⟩)
        have H2 := hide h2
        clear hv hown hv' q2 h2 v hccA
        by_cases hM : 1472 < M.length
        · have hM' : (1472 : Int) < (M.length : Int) := by omega
          have HK : Hid (wrK m = 7 ∧ wrB m = []) := hide (by
            have : wrK m = 7 := by
              rw [unhide HKT, if_pos]
              rcases unhide H2 with rfl | ⟨_, h⟩
              · exact hM
              · exact h
            exact ⟨this, by unfold wrB; rw [this]; rfl⟩)
          go_wp2
          go_ret2
          exact ⟨ret_two (by rw [(unhide HK).2]) (by rw [(unhide HK).1]; rfl), unhide HB2⟩
        · have hM' : ¬ (1472 : Int) < (M.length : Int) := by omega
          have HK : Hid (wrK m = 0 ∧ wrB m = M) := hide (by
            rcases unhide H2 with rfl | ⟨h, _⟩
            · have : wrK m = 0 := by rw [unhide HKT, if_neg hM]
              exact ⟨this, by unfold wrB; rw [if_pos this]⟩
            · exact absurd h hM)
          go_wp2_with fail
          refine (unhide HX).mono ?_
          rintro e w3 ⟨rfl, rfl⟩
          go_wp2
          go_ret2
          exact ⟨ret_two (by rw [(unhide HK).2]) (by rw [(unhide HK).1]; rfl), unhide HB2⟩
      · subst e3
        rw [e4] at HI
        clear e4
        go_wp2_with (go_at_call 102; refine (unhide HI).mono ?_; rintro e u ⟨rfl, rfl⟩)
        refine (unhide HT).mono ?_
        rintro e w2 ⟨rfl, q2, M, k2, l2, h2⟩
        obtain ⟨v, hv, hown⟩ := k2
        obtain ⟨ao, cp, hv'⟩ := own_len hown
        have hc2 := cell_of_one hv
        rw [hv'] at hc2
        have K2 : Hid (Wr w2 w1.heap.size M) := hide ⟨v, hv, hown⟩
        have HB2 : Hid (Below w.heap.size w w2) := hide (((unhide HB1).alloc (by omega) _).trans (q2.below.mono (by omega)))
        have HX := hide (text_any w1.heap.size M w2 ⟨v, hv, hown⟩)
        have H2 := hide h2
        clear hv hown hv' q2 h2 v hccA
        by_cases hM : 1472 < M.length
        · have hM' : (1472 : Int) < (M.length : Int) := by omega
          have HK : Hid (wrK m = 7 ∧ wrB m = []) := hide (by
            have : wrK m = 7 := by
              rw [unhide HKT, if_pos]
              rcases unhide H2 with rfl | ⟨_, h⟩
              · exact hM
              · exact h
            exact ⟨this, by unfold wrB; rw [this]; rfl⟩)
          go_wp2
          go_ret2
          exact ⟨ret_two (by rw [(unhide HK).2]) (by rw [(unhide HK).1]; rfl), unhide HB2⟩
        · have hM' : ¬ (1472 : Int) < (M.length : Int) := by omega
          have HK : Hid (wrK m = 0 ∧ wrB m = M) := hide (by
            rcases unhide H2 with rfl | ⟨h, _⟩
            · have : wrK m = 0 := by rw [unhide HKT, if_neg hM]
              exact ⟨this, by unfold wrB; rw [if_pos this]⟩
            · exact absurd h hM)
          go_wp2_with fail
          refine (unhide HX).mono ?_
          rintro e w3 ⟨rfl, rfl⟩
          go_wp2
          go_ret2
          exact ⟨ret_two (by rw [(unhide HK).2]) (by rw [(unhide HK).1]; rfl), unhide HB2⟩
  · have ht' : toldM m = false := by simpa using htold
    have HK : Hid (wrK m = 2 ∧ wrB m = []) := hide (by
      have : wrK m = 2 := by unfold wrK; rw [if_pos ht']
      exact ⟨this, by unfold wrB; rw [this]; rfl⟩)
    rw [ht']
    clear htold ht'
    go_wp2
    go_ret2
    exact ⟨ret_two (by rw [(unhide HK).2]) (by rw [(unhide HK).1]; rfl), unhide HB1⟩

set_option maxHeartbeats 2000000 in
theorem boot_any (o bl : Int) (ts ds : ByteArray) (fa : Option Addr) (fc : Nat) (m : Msg) (w : World) (hop : (m.op : Int) = o) (hbl : (m.block : Int) = bl) (hb0 : 0 ≤ bl) (hb1 : bl ≤ 65535) (hts : ts.data.toList = m.text) (hds : ds.data.toList = m.data) (hA : AtF w fa m.fs) (hl : heavyF m.fs ≤ 1048576) (ht : m.text.length ≤ 1048576) (hd : m.data.length ≤ 1048576) :
    Calls Try.prog 41 #[.agg #[.int .u16 o, .int .u16 bl, .string ts, .string ds, .slice fa m.fs.length fc]] w fun e w' =>
      e = .returned (.tuple #[.string ⟨(wrB m).toArray⟩, .int .i64 (wrK m)]) ∧ Below w.heap.size w w' := by
  have HC := hide (fun ob => write_any o bl ts ds fa fc m (w.alloc ob) hop hbl hb0 hb1 hts hds (hA.below ((Below.refl _ w).alloc (Nat.le_refl _) _) (Nat.le_refl _)) hl ht hd)
  clear hA hts hds hop hbl
  go_enter Try.func41, Try.ntmps41
  go_wp2_with fail
  refine (unhide HC _).mono ?_
  rintro e w1 ⟨rfl, hb⟩
  have HB : Hid (Below w.heap.size w w1) := hide (((Below.refl _ w).alloc (Nat.le_refl _) _).trans (hb.mono (by simp)))
  clear hb HC
  go_wp2
  go_ret2
  exact ⟨rfl, unhide HB⟩
end Go.Proofs.Ytadkcdcdgphhpaa.Tf

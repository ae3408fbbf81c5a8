import Derived.Test.YtadkcdcdgphhpaaTFRefW
namespace Go.Proofs.Ytadkcdcdgphhpaa.Tf
open Go.ChangeShapes Go.WideShapes Go.ChangeAt Go.RowKit Bs
set_option linter.unusedVariables false
set_option linter.unusedSimpArgs false

set_option maxHeartbeats 4000000 in
set_option maxRecDepth 10000 in
theorem ref_4 (bl : Int) (ts ds : ByteArray) (fa : Option Addr) (fc : Nat) (m : Msg) (w : World) (hop : (m.op : Int) = 4) (hbl : (m.block : Int) = bl) (hb0 : 0 ≤ bl) (hb1 : bl ≤ 65535) (hts : ts.data.toList = m.text) (hds : ds.data.toList = m.data) (hA : AtF w fa m.fs) (hcap : m.fs.length ≤ fc) (hl : heavyF m.fs ≤ 1048576) (ht : m.text.length ≤ 1048576) (hd : m.data.length ≤ 1048576) :
    Calls Try.prog 42 #[.agg #[.int .u16 4, .int .u16 bl, .string ts, .string ds, .slice fa m.fs.length fc]] w fun e w' => e = .returned (.tuple #[.string ⟨(wrB m).toArray⟩, .int .i64 (wrK m)]) ∧ Below w.heap.size w w' := by
  obtain ⟨W, hWW⟩ : ∃ W, W = w.alloc (.cells #[.int .u16 4, .int .u16 bl, .string ts, .string ds, .slice fa m.fs.length fc] 67) := ⟨_, rfl⟩
  have hW0 : Below w.heap.size w W := by rw [hWW]; exact (Below.refl _ _).alloc (Nat.le_refl _) _
  have hWz : W.heap.size = w.heap.size + 1 := by rw [hWW]; simp
  have hbox : ∀ j, W.cell? ⟨w.heap.size, j, none⟩ = #[.int .u16 4, .int .u16 bl, .string ts, .string ds, .slice fa m.fs.length fc][j]? := fun j => by rw [hWW, cell_of_row _ w.heap.size j _ _ (0, 0) (heap_alloc_new w _)]
  have hdz : ds.size = m.data.length := by rw [← hds, len_str]
  have htz : ts.size = m.text.length := by rw [← hts, len_str]
  obtain ⟨s0, hs0⟩ : ∃ s0 : ByteArray, s0 = ⟨(be2 m.op).toArray⟩ := ⟨_, rfl⟩
  have hs0z : s0.size = 2 := by rw [hs0, str_size]; rfl
  have HBG := hide (big_be2 m.op 4 hop (by omega) s0 hs0 W)
  have HA := hide hA
  have HW0 := hide hW0
  have HWZ := hide hWz
  have HBX := hide hbox
  have HWW := hide hWW
  have HTS := hide hts
  have HDS := hide hds
  have HOP := hide hop
  have HBL := hide hbl
  have HS0 := hide hs0
  clear hW0 hWz hbox hA hWW hts hds hop hbl hs0
  go_enter Try.func42, Try.ntmps42
  go_wp2_with fail
  rw [← unhide HWW]
  refine (unhide HBG).mono ?_
  rintro e w1 ⟨rfl, hb1'⟩
  have hz1 : w.heap.size + 1 ≤ w1.heap.size := by have := hb1'.size; rw [unhide HWZ] at this; exact this
  have hcc1 : ∀ j, w1.cell? ⟨w.heap.size, j, none⟩ = #[.int .u16 4, .int .u16 bl, .string ts, .string ds, .slice fa m.fs.length fc][j]? := fun j => by
    rw [hb1'.cell (p := ⟨w.heap.size, j, none⟩) (by show w.heap.size < _; rw [unhide HWZ]; omega)]; exact unhide HBX j
  have HB1 : Hid (Below w.heap.size w w1) := hide ((unhide HW0).trans (hb1'.mono (by rw [unhide HWZ]; omega)))
  have hz1' : w.heap.size < w1.heap.size := by omega
  have HC1 := hide hcc1
  clear hb1' HBG HWW HW0 HWZ HBX
  have HTM2 : Hid (toldM m = true ∧ ¬ (m.op = 3 ∧ 1024 < m.data.length)) := hide (by have := unhide HOP; exact ⟨by unfold toldM; rw [show m.op = 4 by omega]; rfl, by omega⟩)
  obtain ⟨s1, hs1⟩ : ∃ s1 : ByteArray, s1 = ⟨(be2 m.block).toArray⟩ := ⟨_, rfl⟩
  have hs1z : s1.size = 2 := by rw [hs1, str_size]; rfl
  have HBG2 := hide (fun u => big_be2 m.block bl (unhide HBL) (by omega) s1 hs1 u)
  obtain ⟨sk, hsk⟩ : ∃ a : ByteArray, a = s0 ++ s1 := ⟨_, rfl⟩
  have hadd1 := fun u => run_string_add_sum (P := Try.prog) u s0 s1 (by omega)
  rw [← hsk] at hadd1
  have HSE : Hid (sk = ⟨(bytesM m).toArray⟩) := hide (by
    have := unhide HOP
    rw [hsk, hs1, unhide HS0, add_str]
    unfold bytesM; rw [show m.op = 4 by omega]; rfl)
  clear hsk hs1
  go_wp2_with fail
  refine (unhide HBG2 _).mono ?_
  rintro e w2 ⟨rfl, hb2⟩
  have HB2 : Hid (Below w.heap.size w w2) := hide ((unhide HB1).trans (hb2.mono (by omega)))
  clear hb2 hcc1
  have hSz : sk.size = (bytesM m).length := by rw [unhide HSE, str_size]
  by_cases hM : 1472 < sk.size
  · have hM' : (1472 : Int) < (sk.size : Int) := by omega
    have HK : Hid (wrK m = 7 ∧ wrB m = []) := hide (by
      have : wrK m = 7 := by unfold wrK; rw [(unhide HTM2).1, if_neg (by simp), if_neg (unhide HTM2).2, if_pos (by omega)]
      exact ⟨this, by unfold wrB; rw [this]; rfl⟩)
    clear hSz
    go_wp2
    go_ret2
    exact ⟨ret_two' (by rw [(unhide HK).2]) (by rw [(unhide HK).1]; rfl), unhide HB2⟩
  · have hM' : ¬ (1472 : Int) < (sk.size : Int) := by omega
    have HK : Hid (wrK m = 0 ∧ sk = ⟨(wrB m).toArray⟩) := hide (by
      have : wrK m = 0 := by unfold wrK; rw [(unhide HTM2).1, if_neg (by simp), if_neg (unhide HTM2).2, if_neg (by omega)]
      exact ⟨this, by unfold wrB; rw [if_pos this]; exact unhide HSE⟩)
    clear hSz
    go_wp2
    go_ret2
    exact ⟨ret_two' (by rw [← (unhide HK).2]) (by rw [(unhide HK).1]; rfl), unhide HB2⟩
set_option maxHeartbeats 4000000 in
set_option maxRecDepth 10000 in
theorem ref_3 (bl : Int) (ts ds : ByteArray) (fa : Option Addr) (fc : Nat) (m : Msg) (w : World) (hop : (m.op : Int) = 3) (hbl : (m.block : Int) = bl) (hb0 : 0 ≤ bl) (hb1 : bl ≤ 65535) (hts : ts.data.toList = m.text) (hds : ds.data.toList = m.data) (hA : AtF w fa m.fs) (hcap : m.fs.length ≤ fc) (hl : heavyF m.fs ≤ 1048576) (ht : m.text.length ≤ 1048576) (hd : m.data.length ≤ 1048576) :
    Calls Try.prog 42 #[.agg #[.int .u16 3, .int .u16 bl, .string ts, .string ds, .slice fa m.fs.length fc]] w fun e w' => e = .returned (.tuple #[.string ⟨(wrB m).toArray⟩, .int .i64 (wrK m)]) ∧ Below w.heap.size w w' := by
  obtain ⟨W, hWW⟩ : ∃ W, W = w.alloc (.cells #[.int .u16 3, .int .u16 bl, .string ts, .string ds, .slice fa m.fs.length fc] 67) := ⟨_, rfl⟩
  have hW0 : Below w.heap.size w W := by rw [hWW]; exact (Below.refl _ _).alloc (Nat.le_refl _) _
  have hWz : W.heap.size = w.heap.size + 1 := by rw [hWW]; simp
  have hbox : ∀ j, W.cell? ⟨w.heap.size, j, none⟩ = #[.int .u16 3, .int .u16 bl, .string ts, .string ds, .slice fa m.fs.length fc][j]? := fun j => by rw [hWW, cell_of_row _ w.heap.size j _ _ (0, 0) (heap_alloc_new w _)]
  have hdz : ds.size = m.data.length := by rw [← hds, len_str]
  have htz : ts.size = m.text.length := by rw [← hts, len_str]
  obtain ⟨s0, hs0⟩ : ∃ s0 : ByteArray, s0 = ⟨(be2 m.op).toArray⟩ := ⟨_, rfl⟩
  have hs0z : s0.size = 2 := by rw [hs0, str_size]; rfl
  have HBG := hide (big_be2 m.op 3 hop (by omega) s0 hs0 W)
  have HA := hide hA
  have HW0 := hide hW0
  have HWZ := hide hWz
  have HBX := hide hbox
  have HWW := hide hWW
  have HTS := hide hts
  have HDS := hide hds
  have HOP := hide hop
  have HBL := hide hbl
  have HS0 := hide hs0
  clear hW0 hWz hbox hA hWW hts hds hop hbl hs0
  go_enter Try.func42, Try.ntmps42
  go_wp2_with fail
  rw [← unhide HWW]
  refine (unhide HBG).mono ?_
  rintro e w1 ⟨rfl, hb1'⟩
  have hz1 : w.heap.size + 1 ≤ w1.heap.size := by have := hb1'.size; rw [unhide HWZ] at this; exact this
  have hcc1 : ∀ j, w1.cell? ⟨w.heap.size, j, none⟩ = #[.int .u16 3, .int .u16 bl, .string ts, .string ds, .slice fa m.fs.length fc][j]? := fun j => by
    rw [hb1'.cell (p := ⟨w.heap.size, j, none⟩) (by show w.heap.size < _; rw [unhide HWZ]; omega)]; exact unhide HBX j
  have HB1 : Hid (Below w.heap.size w w1) := hide ((unhide HW0).trans (hb1'.mono (by rw [unhide HWZ]; omega)))
  have hz1' : w.heap.size < w1.heap.size := by omega
  have HC1 := hide hcc1
  clear hb1' HBG HWW HW0 HWZ HBX
  have hop3 : m.op = 3 := by have := unhide HOP; omega
  by_cases hbig : 1024 < m.data.length
  · have HK : Hid (wrK m = 7 ∧ wrB m = []) := hide (by
      have : wrK m = 7 := by unfold wrK; rw [if_neg (by unfold toldM; rw [hop3]; simp), if_pos ⟨hop3, hbig⟩]
      exact ⟨this, by unfold wrB; rw [this]; rfl⟩)
    have hbig' : (1024 : Int) < (ds.size : Int) := by omega
    clear hop3
    go_wp2
    go_ret2
    exact ⟨ret_two' (by rw [(unhide HK).2]) (by rw [(unhide HK).1]; rfl), unhide HB1⟩
  have hbig' : ¬ (1024 : Int) < (ds.size : Int) := by omega
  have HTM2 : Hid (toldM m = true ∧ ¬ (m.op = 3 ∧ 1024 < m.data.length)) := hide ⟨by unfold toldM; rw [hop3]; rfl, by omega⟩
  obtain ⟨s1, hs1⟩ : ∃ s1 : ByteArray, s1 = ⟨(be2 m.block).toArray⟩ := ⟨_, rfl⟩
  have hs1z : s1.size = 2 := by rw [hs1, str_size]; rfl
  have HBG2 := hide (fun u => big_be2 m.block bl (unhide HBL) (by omega) s1 hs1 u)
  obtain ⟨a1, ha1⟩ : ∃ a : ByteArray, a = s1 ++ ds := ⟨_, rfl⟩
  obtain ⟨sk, hsk⟩ : ∃ a : ByteArray, a = s0 ++ a1 := ⟨_, rfl⟩
  have z1 : a1.size = 2 + ds.size := by rw [ha1, ByteArray.size_append, hs1z]
  have hadd1 := fun u => run_string_add_sum (P := Try.prog) u s1 ds (by omega)
  have hadd2 := fun u => run_string_add_sum (P := Try.prog) u s0 a1 (by omega)
  rw [← ha1] at hadd1
  rw [← hsk] at hadd2
  have HSE : Hid (sk = ⟨(bytesM m).toArray⟩) := hide (by
    rw [hsk, ha1, hs1, unhide HS0, str_of (unhide HDS), add_str, add_str]
    unfold bytesM; rw [hop3]; rfl)
  have q1 : IntKind.i64.wrap bl = bl := wrap_i64 _ (by omega) (by omega)
  clear hsk hs1 ha1 z1 hop3
  go_wp2
  go_region_held3 (fun u => u.cell? ⟨w.heap.size, 1, none⟩ = some (.int .u16 bl) ∧ u.cell? ⟨w.heap.size, 3, none⟩ = some (.string ds) ∧ w.heap.size < u.heap.size) (go_keep)
    (first | (go_at_call 49; refine (unhide HBG2 _).mono ?_; rintro e w2 ⟨rfl, hb2⟩; have hc2 := below_cells hb2; have hz2 := hb2.size; have hzz2 : w.heap.size < w2.heap.size := (by first | omega | (simp at hz2; omega)); have hbx1 : w2.cell? ⟨w.heap.size, 1, none⟩ = some (.int .u16 bl) := (hb2.cell (p := ⟨w.heap.size, 1, none⟩) (by show w.heap.size < w1.heap.size; omega)).trans (hcc1 1); have hbx2 : w2.cell? ⟨w.heap.size, 3, none⟩ = some (.string ds) := (hb2.cell (p := ⟨w.heap.size, 3, none⟩) (by show w.heap.size < w1.heap.size; omega)).trans (hcc1 3); have HB2 : Hid (Below w.heap.size w w2) := hide ((unhide HB1).drew.trans (hb2.mono (by simp; omega)))))
  clear hc2 hcc1
  have hSz : sk.size = (bytesM m).length := by rw [unhide HSE, str_size]
  by_cases hM : 1472 < sk.size
  · have hM' : (1472 : Int) < (sk.size : Int) := by omega
    have HK : Hid (wrK m = 7 ∧ wrB m = []) := hide (by
      have : wrK m = 7 := by unfold wrK; rw [(unhide HTM2).1, if_neg (by simp), if_neg (unhide HTM2).2, if_pos (by omega)]
      exact ⟨this, by unfold wrB; rw [this]; rfl⟩)
    clear hSz
    go_wp2
    go_ret2
    exact ⟨ret_two' (by rw [(unhide HK).2]) (by rw [(unhide HK).1]; rfl), unhide HB2⟩
  · have hM' : ¬ (1472 : Int) < (sk.size : Int) := by omega
    have HK : Hid (wrK m = 0 ∧ sk = ⟨(wrB m).toArray⟩) := hide (by
      have : wrK m = 0 := by unfold wrK; rw [(unhide HTM2).1, if_neg (by simp), if_neg (unhide HTM2).2, if_neg (by omega)]
      exact ⟨this, by unfold wrB; rw [if_pos this]; exact unhide HSE⟩)
    clear hSz
    go_wp2
    go_ret2
    exact ⟨ret_two' (by rw [← (unhide HK).2]) (by rw [(unhide HK).1]; rfl), unhide HB2⟩
set_option maxHeartbeats 4000000 in
set_option maxRecDepth 10000 in
theorem ref_5 (bl : Int) (ts ds : ByteArray) (fa : Option Addr) (fc : Nat) (m : Msg) (w : World) (hop : (m.op : Int) = 5) (hbl : (m.block : Int) = bl) (hb0 : 0 ≤ bl) (hb1 : bl ≤ 65535) (hts : ts.data.toList = m.text) (hds : ds.data.toList = m.data) (hA : AtF w fa m.fs) (hcap : m.fs.length ≤ fc) (hl : heavyF m.fs ≤ 1048576) (ht : m.text.length ≤ 1048576) (hd : m.data.length ≤ 1048576) :
    Calls Try.prog 42 #[.agg #[.int .u16 5, .int .u16 bl, .string ts, .string ds, .slice fa m.fs.length fc]] w fun e w' => e = .returned (.tuple #[.string ⟨(wrB m).toArray⟩, .int .i64 (wrK m)]) ∧ Below w.heap.size w w' := by
  obtain ⟨W, hWW⟩ : ∃ W, W = w.alloc (.cells #[.int .u16 5, .int .u16 bl, .string ts, .string ds, .slice fa m.fs.length fc] 67) := ⟨_, rfl⟩
  have hW0 : Below w.heap.size w W := by rw [hWW]; exact (Below.refl _ _).alloc (Nat.le_refl _) _
  have hWz : W.heap.size = w.heap.size + 1 := by rw [hWW]; simp
  have hbox : ∀ j, W.cell? ⟨w.heap.size, j, none⟩ = #[.int .u16 5, .int .u16 bl, .string ts, .string ds, .slice fa m.fs.length fc][j]? := fun j => by rw [hWW, cell_of_row _ w.heap.size j _ _ (0, 0) (heap_alloc_new w _)]
  have hdz : ds.size = m.data.length := by rw [← hds, len_str]
  have htz : ts.size = m.text.length := by rw [← hts, len_str]
  obtain ⟨s0, hs0⟩ : ∃ s0 : ByteArray, s0 = ⟨(be2 m.op).toArray⟩ := ⟨_, rfl⟩
  have hs0z : s0.size = 2 := by rw [hs0, str_size]; rfl
  have HBG := hide (big_be2 m.op 5 hop (by omega) s0 hs0 W)
  have HA := hide hA
  have HW0 := hide hW0
  have HWZ := hide hWz
  have HBX := hide hbox
  have HWW := hide hWW
  have HTS := hide hts
  have HDS := hide hds
  have HOP := hide hop
  have HBL := hide hbl
  have HS0 := hide hs0
  clear hW0 hWz hbox hA hWW hts hds hop hbl hs0
  go_enter Try.func42, Try.ntmps42
  go_wp2_with fail
  rw [← unhide HWW]
  refine (unhide HBG).mono ?_
  rintro e w1 ⟨rfl, hb1'⟩
  have hz1 : w.heap.size + 1 ≤ w1.heap.size := by have := hb1'.size; rw [unhide HWZ] at this; exact this
  have hcc1 : ∀ j, w1.cell? ⟨w.heap.size, j, none⟩ = #[.int .u16 5, .int .u16 bl, .string ts, .string ds, .slice fa m.fs.length fc][j]? := fun j => by
    rw [hb1'.cell (p := ⟨w.heap.size, j, none⟩) (by show w.heap.size < _; rw [unhide HWZ]; omega)]; exact unhide HBX j
  have HB1 : Hid (Below w.heap.size w w1) := hide ((unhide HW0).trans (hb1'.mono (by rw [unhide HWZ]; omega)))
  have hz1' : w.heap.size < w1.heap.size := by omega
  have HC1 := hide hcc1
  clear hb1' HBG HWW HW0 HWZ HBX
  have hop5 : m.op = 5 := by have := unhide HOP; omega
  have HTE : Hid (toldM m = !m.text.contains 0) := hide (by unfold toldM; rw [hop5]; rfl)
  have HBM : Hid (bytesM m = be2 m.op ++ (be2 m.block ++ (m.text ++ [0]))) := hide (by unfold bytesM; rw [hop5]; rfl)
  have HIX := hide (fun k hk u => idx_get ts m.text (unhide HTS) k hk u)
  obtain ⟨s1, hs1⟩ : ∃ s1 : ByteArray, s1 = ⟨(be2 m.block).toArray⟩ := ⟨_, rfl⟩
  have hs1z : s1.size = 2 := by rw [hs1, str_size]; rfl
  have HBG2 := hide (fun u => big_be2 m.block bl (unhide HBL) (by omega) s1 hs1 u)
  have HS1 := hide hs1
  have q1 : IntKind.i64.wrap bl = bl := wrap_i64 _ (by omega) (by omega)
  clear hop5 hs1
  go_wp2
  go_loop [7] (fun i => ∃ k : Nat, k ≤ m.text.length ∧ i = .int .i64 k ∧ Hid ((m.text.take k).contains 0 = false)) (fun i => m.text.length - (intOf i).toNat)
  case atStart => exact ⟨0, Nat.zero_le _, rfl, hide rfl⟩
  case round =>
    obtain ⟨k, hk, rfl, HZ⟩ := hrel
    by_cases hlt : k < m.text.length
    · have x0 := unhide HIX k hlt
      have hlt' : (k : Int) < (m.text.length : Int) := by omega
      have hlt2 : (k : Int) < (ts.size : Int) := by omega
      have HTK : Hid (m.text.take (k + 1) = m.text.take k ++ [m.text.getD k 0]) := hide (by
        rw [List.take_succ_eq_append_getElem hlt, List.getD_eq_getElem?_getD, List.getElem?_eq_getElem hlt]; rfl)
      have HMEM : Hid (m.text.getD k 0 ∈ m.text) := hide (by
        rw [List.getD_eq_getElem?_getD, List.getElem?_eq_getElem hlt]; exact List.getElem_mem hlt)
      obtain ⟨c, hc⟩ : ∃ c, c = m.text.getD k 0 := ⟨_, rfl⟩
      rw [← hc] at x0 HTK HMEM
      have l0 := c.toNat_lt
      clear hc
      by_cases hc0 : c = 0
      · subst hc0
        have HK : Hid (wrK m = 2 ∧ wrB m = []) := hide (by
          have hh : toldM m = false := by rw [unhide HTE, show m.text.contains 0 = true by rw [List.contains_iff_mem]; exact unhide HMEM]; rfl
          have : wrK m = 2 := by unfold wrK; rw [if_pos hh]
          exact ⟨this, by unfold wrB; rw [this]; rfl⟩)
        have x1 : ∀ u, (Instr.index 9 (.string ts) (.int .i64 (k : Int))).run Try.prog u = .ok (.int .u8 0) u := x0
        clear x0
        go_wp2
        go_ret2
        exact ⟨ret_two' (by rw [(unhide HK).2]) (by rw [(unhide HK).1]; rfl), unhide HB1⟩
      · have hq : (((c.toNat : Nat) : Int) == 0) = false := by
          have : c.toNat ≠ 0 := fun h => hc0 (UInt8.toNat_inj.1 h)
          simp; omega
        have HN : Hid ((m.text.take (k + 1)).contains 0 = false) := hide (by
          have q := unhide HZ
          rw [unhide HTK]
          rw [← Bool.not_eq_true, List.contains_iff_mem] at q ⊢
          rw [List.mem_append]
          rintro (h | h)
          · exact q h
          · simp at h; exact hc0 h.symm)
        clear hc0
        go_wp2
        go_round
        case rel => exact ⟨k + 1, by omega, by go_num, HN⟩
        case measure => simp [intOf]; omega
    · have hlt' : ¬ (k : Int) < (m.text.length : Int) := by omega
      have hlt2 : ¬ (k : Int) < (ts.size : Int) := by omega
      have HTM2 : Hid (toldM m = true ∧ ¬ (m.op = 3 ∧ 1024 < m.data.length)) := hide (by
        have q := unhide HZ
        have := unhide HOP
        rw [List.take_of_length_le (by omega)] at q
        exact ⟨by rw [unhide HTE, q]; rfl, by omega⟩)
      obtain ⟨a1, ha1⟩ : ∃ a : ByteArray, a = s1 ++ ts := ⟨_, rfl⟩
      obtain ⟨a2, ha2⟩ : ∃ a : ByteArray, a = a1 ++ ⟨#[0]⟩ := ⟨_, rfl⟩
      obtain ⟨sk, hsk⟩ : ∃ a : ByteArray, a = s0 ++ a2 := ⟨_, rfl⟩
      have z1 : a1.size = 2 + ts.size := by rw [ha1, ByteArray.size_append, hs1z]
      have z2 : a2.size = a1.size + 1 := by rw [ha2, ByteArray.size_append]; rfl
      have hadd1 := fun u => run_string_add_sum (P := Try.prog) u s1 ts (by omega)
      have hadd2 := fun u => run_string_add_sum (P := Try.prog) u a1 ⟨#[0]⟩ (by show a1.size + 1 ≤ _; omega)
      have hadd3 := fun u => run_string_add_sum (P := Try.prog) u s0 a2 (by omega)
      rw [← ha1] at hadd1
      rw [← ha2] at hadd2
      rw [← hsk] at hadd3
      have HSE : Hid (sk = ⟨(bytesM m).toArray⟩) := hide (by
        rw [hsk, ha2, ha1, unhide HS1, unhide HS0, str_of (unhide HTS), show (⟨#[0]⟩ : ByteArray) = ⟨[(0 : UInt8)].toArray⟩ from rfl, add_str, add_str, add_str, unhide HBM]
        simp)
      clear hsk ha1 ha2 z1 z2
      go_wp2
      go_region_held3 (fun u => u.cell? ⟨w.heap.size, 1, none⟩ = some (.int .u16 bl) ∧ u.cell? ⟨w.heap.size, 2, none⟩ = some (.string ts) ∧ w.heap.size < u.heap.size) (go_keep)
        (first | (go_at_call 49; refine (unhide HBG2 _).mono ?_; rintro e w2 ⟨rfl, hb2⟩; have hc2 := below_cells hb2; have hz2 := hb2.size; have hzz2 : w.heap.size < w2.heap.size := (by first | omega | (simp at hz2; omega)); have hbx1 : w2.cell? ⟨w.heap.size, 1, none⟩ = some (.int .u16 bl) := (hb2.cell (p := ⟨w.heap.size, 1, none⟩) (by show w.heap.size < w1.heap.size; omega)).trans (hcc1 1); have hbx2 : w2.cell? ⟨w.heap.size, 2, none⟩ = some (.string ts) := (hb2.cell (p := ⟨w.heap.size, 2, none⟩) (by show w.heap.size < w1.heap.size; omega)).trans (hcc1 2); have HB2 : Hid (Below w.heap.size w w2) := hide ((unhide HB1).drew.trans (hb2.mono (by simp; omega)))))
      clear hc2 hcc1
      have hSz : sk.size = (bytesM m).length := by rw [unhide HSE, str_size]
      by_cases hM : 1472 < sk.size
      · have hM' : (1472 : Int) < (sk.size : Int) := by omega
        have HK : Hid (wrK m = 7 ∧ wrB m = []) := hide (by
          have : wrK m = 7 := by unfold wrK; rw [(unhide HTM2).1, if_neg (by simp), if_neg (unhide HTM2).2, if_pos (by omega)]
          exact ⟨this, by unfold wrB; rw [this]; rfl⟩)
        clear hSz
        go_wp2
        go_ret2
        exact ⟨ret_two' (by rw [(unhide HK).2]) (by rw [(unhide HK).1]; rfl), unhide HB2⟩
      · have hM' : ¬ (1472 : Int) < (sk.size : Int) := by omega
        have HK : Hid (wrK m = 0 ∧ sk = ⟨(wrB m).toArray⟩) := hide (by
          have : wrK m = 0 := by unfold wrK; rw [(unhide HTM2).1, if_neg (by simp), if_neg (unhide HTM2).2, if_neg (by omega)]
          exact ⟨this, by unfold wrB; rw [if_pos this]; exact unhide HSE⟩)
        clear hSz
        go_wp2
        go_ret2
        exact ⟨ret_two' (by rw [← (unhide HK).2]) (by rw [(unhide HK).1]; rfl), unhide HB2⟩
set_option maxHeartbeats 4000000 in
set_option maxRecDepth 10000 in
theorem ref_x (o : Int) (bl : Int) (ts ds : ByteArray) (fa : Option Addr) (fc : Nat) (m : Msg) (w : World) (hop : (m.op : Int) = o) (h65 : o ≤ 65535) (hno : o ≠ 1 ∧ o ≠ 6 ∧ o ≠ 3 ∧ o ≠ 4 ∧ o ≠ 5) (hbl : (m.block : Int) = bl) (hb0 : 0 ≤ bl) (hb1 : bl ≤ 65535) (hts : ts.data.toList = m.text) (hds : ds.data.toList = m.data) (hA : AtF w fa m.fs) (hcap : m.fs.length ≤ fc) (hl : heavyF m.fs ≤ 1048576) (ht : m.text.length ≤ 1048576) (hd : m.data.length ≤ 1048576) :
    Calls Try.prog 42 #[.agg #[.int .u16 o, .int .u16 bl, .string ts, .string ds, .slice fa m.fs.length fc]] w fun e w' => e = .returned (.tuple #[.string ⟨(wrB m).toArray⟩, .int .i64 (wrK m)]) ∧ Below w.heap.size w w' := by
  have ho0 : 0 ≤ o := by omega
  obtain ⟨W, hWW⟩ : ∃ W, W = w.alloc (.cells #[.int .u16 o, .int .u16 bl, .string ts, .string ds, .slice fa m.fs.length fc] 67) := ⟨_, rfl⟩
  have hW0 : Below w.heap.size w W := by rw [hWW]; exact (Below.refl _ _).alloc (Nat.le_refl _) _
  have hWz : W.heap.size = w.heap.size + 1 := by rw [hWW]; simp
  have hbox : ∀ j, W.cell? ⟨w.heap.size, j, none⟩ = #[.int .u16 o, .int .u16 bl, .string ts, .string ds, .slice fa m.fs.length fc][j]? := fun j => by rw [hWW, cell_of_row _ w.heap.size j _ _ (0, 0) (heap_alloc_new w _)]
  have hdz : ds.size = m.data.length := by rw [← hds, len_str]
  have htz : ts.size = m.text.length := by rw [← hts, len_str]
  obtain ⟨s0, hs0⟩ : ∃ s0 : ByteArray, s0 = ⟨(be2 m.op).toArray⟩ := ⟨_, rfl⟩
  have hs0z : s0.size = 2 := by rw [hs0, str_size]; rfl
  have HBG := hide (big_be2 m.op o hop (by omega) s0 hs0 W)
  have HA := hide hA
  have HW0 := hide hW0
  have HWZ := hide hWz
  have HBX := hide hbox
  have HWW := hide hWW
  have HTS := hide hts
  have HDS := hide hds
  have HOP := hide hop
  have HBL := hide hbl
  have HS0 := hide hs0
  clear hW0 hWz hbox hA hWW hts hds hop hbl hs0
  go_enter Try.func42, Try.ntmps42
  go_wp2_with fail
  rw [← unhide HWW]
  refine (unhide HBG).mono ?_
  rintro e w1 ⟨rfl, hb1'⟩
  have hz1 : w.heap.size + 1 ≤ w1.heap.size := by have := hb1'.size; rw [unhide HWZ] at this; exact this
  have hcc1 : ∀ j, w1.cell? ⟨w.heap.size, j, none⟩ = #[.int .u16 o, .int .u16 bl, .string ts, .string ds, .slice fa m.fs.length fc][j]? := fun j => by
    rw [hb1'.cell (p := ⟨w.heap.size, j, none⟩) (by show w.heap.size < _; rw [unhide HWZ]; omega)]; exact unhide HBX j
  have HB1 : Hid (Below w.heap.size w w1) := hide ((unhide HW0).trans (hb1'.mono (by rw [unhide HWZ]; omega)))
  have hz1' : w.heap.size < w1.heap.size := by omega
  have HC1 := hide hcc1
  clear hb1' HBG HWW HW0 HWZ HBX
  obtain ⟨n1, n6, n3, n4, n5⟩ := hno
  have HK : Hid (wrK m = 2 ∧ wrB m = []) := hide (by
    have hop := unhide HOP
    have hh : toldM m = false := by
      unfold toldM
      rw [if_neg (by omega), if_neg (by omega), if_neg (by omega)]
      have h3 : ¬ m.op = 3 := by omega
      have h4 : ¬ m.op = 4 := by omega
      simp [h3, h4]
    have : wrK m = 2 := by unfold wrK; rw [if_pos hh]
    exact ⟨this, by unfold wrB; rw [this]; rfl⟩)
  have q1 : (o == 1) = false := by simpa using n1
  have q6 : (o == 6) = false := by simpa using n6
  have q3 : (o == 3) = false := by simpa using n3
  have q4 : (o == 4) = false := by simpa using n4
  have q5 : (o == 5) = false := by simpa using n5
  clear n1 n6 n3 n4 n5
  go_wp2
  go_ret2
  exact ⟨ret_two' (by rw [(unhide HK).2]) (by rw [(unhide HK).1]; rfl), unhide HB1⟩
end Go.Proofs.Ytadkcdcdgphhpaa.Tf

import Derived.Test.YtoifihhmneldeaaReaderLen
import Derived.Test.YtoifihhmneldeaaEtherRh
import Derived.Test.YtoifihhmneldeaaUDPWriteW
namespace Go.Proofs.Ytoifihhmneldeaa.UdR
open Go.ChangeShapes Go.WideShapes Go.ChangeAt Go.RowKit Bs Rd
open EtR (other grown_new row_cell row_free row_set)
open Ip (chk chk_bd)
open Ud (udpP udpCheck_any)
set_option linter.unusedVariables false

theorem udp_short (B : Nat) (l : List UInt8) (fr ta : Int) (w : World) (h : Rdr w B l) (hn : l.length < 8) :
    Calls Try.prog 28 #[.pointer (some ⟨B, 0, none⟩), .int .u32 fr, .int .u32 ta] w fun ee w' => ee = .panicked (errP 1) ∧ w.grownBy w' (some B) := by
  have hB := h.lt
  have hne0 : w.heap.size ≠ B := by omega
  have H0 := hide (h.alloc (.cells #[.int .u16 0, .int .u16 0, .string ⟨#[]⟩] 39))
  have G0 := hide (grown_alloc (grown_refl w (some B)) (.cells #[.int .u16 0, .int .u16 0, .string ⟨#[]⟩] 39))
  have R0 : Hid ((w.alloc (.cells #[.int .u16 0, .int .u16 0, .string ⟨#[]⟩] 39)).heap[w.heap.size]? = some (.cells #[.int .u16 0, .int .u16 0, .string ⟨#[]⟩] 39 (0, 0))) := heap_alloc_new w _
  clear h
  go_enter Try.func28, Try.ntmps28
  go_wp2_with fail
  refine (need_no _ _ _ _ (unhide H0) (by omega)).mono ?_
  rintro ee wz ⟨rfl, hwz⟩
  exact ⟨rfl, rfl, by rw [hwz]; exact unhide G0⟩

set_option maxHeartbeats 2000000 in
theorem udp_length (B : Nat) (a0 a1 a2 a3 a4 a5 a6 a7 : UInt8) (l : List UInt8) (fr ta : Int) (w : World) (h : Rdr w B (a0 :: a1 :: a2 :: a3 :: a4 :: a5 :: a6 :: a7 :: l)) (hs : (a0 :: a1 :: a2 :: a3 :: a4 :: a5 :: a6 :: a7 :: l).length ≤ maxLen) (k : Int) (hx : ∀ u, Rdr u B (a4 :: a5 :: a6 :: a7 :: l) → Calls Try.prog 33 #[.pointer (some ⟨B, 0, none⟩), .int .i64 8, .int .i64 ((l.length + 8 : Nat) : Int)] u fun e w' => e = .panicked (errP k) ∧ u.grownBy w' (some B)) :
    Calls Try.prog 28 #[.pointer (some ⟨B, 0, none⟩), .int .u32 fr, .int .u32 ta] w fun ee w' => ee = .panicked (errP k) ∧ w.grownBy w' (some B) := by
  obtain ⟨s, hS⟩ : ∃ s : ByteArray, s = ⟨(a0 :: a1 :: a2 :: a3 :: a4 :: a5 :: a6 :: a7 :: l).toArray⟩ := ⟨_, rfl⟩
  have hz : s.size = l.length + 8 := by rw [hS, str_size]; simp
  have hmx : (s.size : Int) ≤ 9223372036854775807 := by rw [hz]; simp only [List.length_cons, maxLen] at hs; omega
  have hk8 : (8 : Int) ≤ (s.size : Int) := by omega
  have hB := h.lt
  have hne0 : w.heap.size ≠ B := by omega
  have H0 := hide (h.alloc (.cells #[.int .u16 0, .int .u16 0, .string ⟨#[]⟩] 39))
  have G0 := hide (grown_alloc (grown_refl w (some B)) (.cells #[.int .u16 0, .int .u16 0, .string ⟨#[]⟩] 39))
  have R0 : Hid ((w.alloc (.cells #[.int .u16 0, .int .u16 0, .string ⟨#[]⟩] 39)).heap[w.heap.size]? = some (.cells #[.int .u16 0, .int .u16 0, .string ⟨#[]⟩] 39 (0, 0))) := heap_alloc_new w _
  have hc0 : (w.alloc (.cells #[.int .u16 0, .int .u16 0, .string ⟨#[]⟩] 39)).cell? ⟨B, 0, none⟩ = some (.string s) := by rw [hS]; exact cell_of_one (unhide H0)
  have hn0 : (8 : Int) ≤ ((a0 :: a1 :: a2 :: a3 :: a4 :: a5 :: a6 :: a7 :: l).length : Int) := by simp only [List.length_cons]; omega
  have HN0 := hide hn0
  clear h hn0
  have T1 := hide (fun u hu => word_ok B a0 a1 (a2 :: a3 :: a4 :: a5 :: a6 :: a7 :: l) u hu (by simp only [List.length_cons, maxLen] at hs ⊢; omega))
  have T2 := hide (fun u hu => word_ok B a2 a3 (a4 :: a5 :: a6 :: a7 :: l) u hu (by simp only [List.length_cons, maxLen] at hs ⊢; omega))
  obtain ⟨x0, hx0⟩ : ∃ x, x = (256 * (a0.toNat : Int) + (a1.toNat : Int)) := ⟨_, rfl⟩
  obtain ⟨x2, hx2⟩ : ∃ x, x = (256 * (a2.toNat : Int) + (a3.toNat : Int)) := ⟨_, rfl⟩
  rw [← hx0] at T1
  rw [← hx2] at T2
  have T3 := hide (fun u hu => hx u hu)
  rw [← hz] at T3
  clear hx hS hz hx0 hx2
  go_enter Try.func28, Try.ntmps28
  go_wp2_with fail
  refine (need_ok _ _ _ _ (unhide H0) (unhide HN0)).mono ?_
  rintro ee wz ⟨rfl, hwz⟩
  rw [hwz]
  clear hwz wz
  have hneV : w.heap.size + 1 ≠ B := by omega
  have hlt0 : w.heap.size < w.heap.size + 1 := by omega
  have H1 := hide ((unhide H0).alloc (.cells #[.int .u16 0, .int .u16 0, .string ⟨#[]⟩] 39))
  have G1 := hide (grown_alloc (unhide G0) (.cells #[.int .u16 0, .int .u16 0, .string ⟨#[]⟩] 39))
  have E1 : Hid (((w.alloc (.cells #[.int .u16 0, .int .u16 0, .string ⟨#[]⟩] 39)).alloc (.cells #[.int .u16 0, .int .u16 0, .string ⟨#[]⟩] 39)).heap[w.heap.size + 1]? = some (.cells #[.int .u16 0, .int .u16 0, .string ⟨#[]⟩] 39 (0, 0))) := by
    have q := heap_alloc_new (w.alloc (.cells #[.int .u16 0, .int .u16 0, .string ⟨#[]⟩] 39)) (.cells #[.int .u16 0, .int .u16 0, .string ⟨#[]⟩] 39)
    rw [show (w.alloc (.cells #[.int .u16 0, .int .u16 0, .string ⟨#[]⟩] 39)).heap.size = w.heap.size + 1 by simp] at q
    exact q
  have R1 : Hid (((w.alloc (.cells #[.int .u16 0, .int .u16 0, .string ⟨#[]⟩] 39)).alloc (.cells #[.int .u16 0, .int .u16 0, .string ⟨#[]⟩] 39)).heap[w.heap.size]? = some (.cells #[.int .u16 0, .int .u16 0, .string ⟨#[]⟩] 39 (0, 0))) := by
    show _ = _
    rw [Below.heap_alloc _ _ _ (by simp)]
    exact unhide R0
  clear H0 G0 R0
  go_wp2_with fail
  refine (unhide T1 _ (unhide H1)).mono ?_
  rintro ee w2 ⟨rfl, k2, g2⟩
  have hr : w2.heap[w.heap.size]? = some (.cells #[.int .u16 0, .int .u16 0, .string ⟨#[]⟩] 39 (0, 0)) := (g2.block _ (lt_of_block (unhide R1)) (fun q => hne0 (by simpa using q))).trans (unhide R1)
  have he : w2.heap[w.heap.size + 1]? = some (.cells #[.int .u16 0, .int .u16 0, .string ⟨#[]⟩] 39 (0, 0)) := (g2.block _ (lt_of_block (unhide E1)) (fun q => hneV (by simpa using q))).trans (unhide E1)
  have c2_0 : w2.cell? ⟨w.heap.size + 1, 0, none⟩ = some (.int .u16 0) := row_cell he rfl
  have f2 := row_free he
  have E2 : Hid ((w2.setCell ⟨w.heap.size + 1, 0, none⟩ (.int .u16 x0)).heap[w.heap.size + 1]? = some (.cells #[.int .u16 x0, .int .u16 0, .string ⟨#[]⟩] 39 (0, 0))) := row_set he 0 (.int .u16 x0)
  have H2 : Hid (Rdr (w2.setCell ⟨w.heap.size + 1, 0, none⟩ (.int .u16 x0)) B (a2 :: a3 :: a4 :: a5 :: a6 :: a7 :: l)) := other k2 hneV.symm _
  have G2 : Hid (w.grownBy (w2.setCell ⟨w.heap.size + 1, 0, none⟩ (.int .u16 x0)) (some B)) := grown_new (grown_trans (unhide G1) g2) (Nat.le_of_lt hlt0) _
  have R2 : Hid ((w2.setCell ⟨w.heap.size + 1, 0, none⟩ (.int .u16 x0)).heap[w.heap.size]? = some (.cells #[.int .u16 0, .int .u16 0, .string ⟨#[]⟩] 39 (0, 0))) := by
    show _ = _
    rw [Below.heap_setCell _ _ _ _ (Nat.ne_of_lt hlt0)]; exact hr
  clear hr k2 g2 H1 G1 R1 he E1
  go_wp2_with fail
  refine (unhide T2 _ (unhide H2)).mono ?_
  rintro ee w3 ⟨rfl, k3, g3⟩
  have hr : w3.heap[w.heap.size]? = some (.cells #[.int .u16 0, .int .u16 0, .string ⟨#[]⟩] 39 (0, 0)) := (g3.block _ (lt_of_block (unhide R2)) (fun q => hne0 (by simpa using q))).trans (unhide R2)
  have he : w3.heap[w.heap.size + 1]? = some (.cells #[.int .u16 x0, .int .u16 0, .string ⟨#[]⟩] 39 (0, 0)) := (g3.block _ (lt_of_block (unhide E2)) (fun q => hneV (by simpa using q))).trans (unhide E2)
  have c3_1 : w3.cell? ⟨w.heap.size + 1, 1, none⟩ = some (.int .u16 0) := row_cell he rfl
  have f3 := row_free he
  have E3 : Hid ((w3.setCell ⟨w.heap.size + 1, 1, none⟩ (.int .u16 x2)).heap[w.heap.size + 1]? = some (.cells #[.int .u16 x0, .int .u16 x2, .string ⟨#[]⟩] 39 (0, 0))) := row_set he 1 (.int .u16 x2)
  have H3 : Hid (Rdr (w3.setCell ⟨w.heap.size + 1, 1, none⟩ (.int .u16 x2)) B (a4 :: a5 :: a6 :: a7 :: l)) := other k3 hneV.symm _
  have G3 : Hid (w.grownBy (w3.setCell ⟨w.heap.size + 1, 1, none⟩ (.int .u16 x2)) (some B)) := grown_new (grown_trans (unhide G2) g3) (Nat.le_of_lt hlt0) _
  have R3 : Hid ((w3.setCell ⟨w.heap.size + 1, 1, none⟩ (.int .u16 x2)).heap[w.heap.size]? = some (.cells #[.int .u16 0, .int .u16 0, .string ⟨#[]⟩] 39 (0, 0))) := by
    show _ = _
    rw [Below.heap_setCell _ _ _ _ (Nat.ne_of_lt hlt0)]; exact hr
  clear hr k3 g3 H2 G2 R2 he E2
  go_wp2_with fail
  refine (unhide T3 _ (unhide H3)).mono ?_
  rintro ee wz ⟨rfl, gz⟩
  exact ⟨rfl, rfl, grown_trans (unhide G3) gz⟩

set_option maxHeartbeats 2000000 in
theorem udp_sum (B : Nat) (a0 a1 a2 a3 a4 a5 a6 a7 : UInt8) (l : List UInt8) (fr ta : Int) (w : World) (h : Rdr w B (a0 :: a1 :: a2 :: a3 :: a4 :: a5 :: a6 :: a7 :: l)) (hs : (a0 :: a1 :: a2 :: a3 :: a4 :: a5 :: a6 :: a7 :: l).length ≤ maxLen) (hf : 0 ≤ fr ∧ fr ≤ 4294967295) (ho : 0 ≤ ta ∧ ta ≤ 4294967295) (m k : Nat) (hmk : m = 8 + k) (hn : (256 * (a4.toNat : Int) + (a5.toNat : Int)) = (m : Int)) (hk : k ≤ l.length) (hm : m ≤ 65535) (hq0 : (256 * (a6.toNat : Int) + (a7.toNat : Int)) ≠ 0) (hsum : chk (udpP fr ta (m : Int) ++ (a0 :: a1 :: a2 :: a3 :: a4 :: a5 :: a6 :: a7 :: l).take m) ≠ 0) :
    Calls Try.prog 28 #[.pointer (some ⟨B, 0, none⟩), .int .u32 fr, .int .u32 ta] w fun ee w' => ee = .panicked (errP 6) ∧ w.grownBy w' (some B) := by
  obtain ⟨s, hS⟩ : ∃ s : ByteArray, s = ⟨(a0 :: a1 :: a2 :: a3 :: a4 :: a5 :: a6 :: a7 :: l).toArray⟩ := ⟨_, rfl⟩
  have hz : s.size = l.length + 8 := by rw [hS, str_size]; simp
  have hmx : (s.size : Int) ≤ 9223372036854775807 := by rw [hz]; simp only [List.length_cons, maxLen] at hs; omega
  have hk8 : (8 : Int) ≤ (s.size : Int) := by omega
  have hB := h.lt
  have hne0 : w.heap.size ≠ B := by omega
  have H0 := hide (h.alloc (.cells #[.int .u16 0, .int .u16 0, .string ⟨#[]⟩] 39))
  have G0 := hide (grown_alloc (grown_refl w (some B)) (.cells #[.int .u16 0, .int .u16 0, .string ⟨#[]⟩] 39))
  have R0 : Hid ((w.alloc (.cells #[.int .u16 0, .int .u16 0, .string ⟨#[]⟩] 39)).heap[w.heap.size]? = some (.cells #[.int .u16 0, .int .u16 0, .string ⟨#[]⟩] 39 (0, 0))) := heap_alloc_new w _
  have hc0 : (w.alloc (.cells #[.int .u16 0, .int .u16 0, .string ⟨#[]⟩] 39)).cell? ⟨B, 0, none⟩ = some (.string s) := by rw [hS]; exact cell_of_one (unhide H0)
  have hn0 : (8 : Int) ≤ ((a0 :: a1 :: a2 :: a3 :: a4 :: a5 :: a6 :: a7 :: l).length : Int) := by simp only [List.length_cons]; omega
  have HN0 := hide hn0
  clear h hn0
  have T1 := hide (fun u hu => word_ok B a0 a1 (a2 :: a3 :: a4 :: a5 :: a6 :: a7 :: l) u hu (by simp only [List.length_cons, maxLen] at hs ⊢; omega))
  have T2 := hide (fun u hu => word_ok B a2 a3 (a4 :: a5 :: a6 :: a7 :: l) u hu (by simp only [List.length_cons, maxLen] at hs ⊢; omega))
  obtain ⟨x0, hx0⟩ : ∃ x, x = (256 * (a0.toNat : Int) + (a1.toNat : Int)) := ⟨_, rfl⟩
  obtain ⟨x2, hx2⟩ : ∃ x, x = (256 * (a2.toNat : Int) + (a3.toNat : Int)) := ⟨_, rfl⟩
  rw [← hx0] at T1
  rw [← hx2] at T2
  have T3 := (fun u hu => length_ok B a4 a5 (a6 :: a7 :: l) 8 (s.size : Int) u hu (by simp only [List.length_cons, maxLen] at hs ⊢; omega) (by omega) (by omega))
  rw [hn] at T3
  have T3 := hide T3
  have T4 := (fun u hu => word_ok B a6 a7 l u hu (by simp only [List.length_cons, maxLen] at hs ⊢; omega))
  have hm1 : (m : Int) ≤ (s.size : Int) := by omega
  obtain ⟨x6, hx6⟩ : ∃ x, x = (256 * (a6.toNat : Int) + (a7.toNat : Int)) := ⟨_, rfl⟩
  rw [← hx6] at T4 hq0
  have hqn : (x6 == 0) = false := by simpa using hq0
  have TC := (fun u => udpCheck_any (s.extract 0 m) fr ta u (by rw [ByteArray.size_extract]; omega) hf ho)
  have esz : ((s.extract 0 m).size : Int) = (m : Int) := by rw [ByteArray.size_extract]; omega
  have edt : (s.extract 0 m).data.toList = (a0 :: a1 :: a2 :: a3 :: a4 :: a5 :: a6 :: a7 :: l).take m := by rw [hS, str_take]
  rw [esz, edt] at TC
  obtain ⟨c, hc⟩ : ∃ c, c = chk (udpP fr ta (m : Int) ++ (a0 :: a1 :: a2 :: a3 :: a4 :: a5 :: a6 :: a7 :: l).take m) := ⟨_, rfl⟩
  rw [← hc] at TC hsum
  have TC := hide TC
  have hcn : (c == 0) = false := by simpa using hsum
  clear esz edt hc hx6
  have T4 := hide T4
  clear hS hz hx0 hx2 hn hmk
  go_enter Try.func28, Try.ntmps28
  go_wp2_with fail
  refine (need_ok _ _ _ _ (unhide H0) (unhide HN0)).mono ?_
  rintro ee wz ⟨rfl, hwz⟩
  rw [hwz]
  clear hwz wz
  have hneV : w.heap.size + 1 ≠ B := by omega
  have hlt0 : w.heap.size < w.heap.size + 1 := by omega
  have H1 := hide ((unhide H0).alloc (.cells #[.int .u16 0, .int .u16 0, .string ⟨#[]⟩] 39))
  have G1 := hide (grown_alloc (unhide G0) (.cells #[.int .u16 0, .int .u16 0, .string ⟨#[]⟩] 39))
  have E1 : Hid (((w.alloc (.cells #[.int .u16 0, .int .u16 0, .string ⟨#[]⟩] 39)).alloc (.cells #[.int .u16 0, .int .u16 0, .string ⟨#[]⟩] 39)).heap[w.heap.size + 1]? = some (.cells #[.int .u16 0, .int .u16 0, .string ⟨#[]⟩] 39 (0, 0))) := by
    have q := heap_alloc_new (w.alloc (.cells #[.int .u16 0, .int .u16 0, .string ⟨#[]⟩] 39)) (.cells #[.int .u16 0, .int .u16 0, .string ⟨#[]⟩] 39)
    rw [show (w.alloc (.cells #[.int .u16 0, .int .u16 0, .string ⟨#[]⟩] 39)).heap.size = w.heap.size + 1 by simp] at q
    exact q
  have R1 : Hid (((w.alloc (.cells #[.int .u16 0, .int .u16 0, .string ⟨#[]⟩] 39)).alloc (.cells #[.int .u16 0, .int .u16 0, .string ⟨#[]⟩] 39)).heap[w.heap.size]? = some (.cells #[.int .u16 0, .int .u16 0, .string ⟨#[]⟩] 39 (0, 0))) := by
    show _ = _
    rw [Below.heap_alloc _ _ _ (by simp)]
    exact unhide R0
  clear H0 G0 R0
  go_wp2_with fail
  refine (unhide T1 _ (unhide H1)).mono ?_
  rintro ee w2 ⟨rfl, k2, g2⟩
  have hr : w2.heap[w.heap.size]? = some (.cells #[.int .u16 0, .int .u16 0, .string ⟨#[]⟩] 39 (0, 0)) := (g2.block _ (lt_of_block (unhide R1)) (fun q => hne0 (by simpa using q))).trans (unhide R1)
  have he : w2.heap[w.heap.size + 1]? = some (.cells #[.int .u16 0, .int .u16 0, .string ⟨#[]⟩] 39 (0, 0)) := (g2.block _ (lt_of_block (unhide E1)) (fun q => hneV (by simpa using q))).trans (unhide E1)
  have c2_0 : w2.cell? ⟨w.heap.size + 1, 0, none⟩ = some (.int .u16 0) := row_cell he rfl
  have f2 := row_free he
  have E2 : Hid ((w2.setCell ⟨w.heap.size + 1, 0, none⟩ (.int .u16 x0)).heap[w.heap.size + 1]? = some (.cells #[.int .u16 x0, .int .u16 0, .string ⟨#[]⟩] 39 (0, 0))) := row_set he 0 (.int .u16 x0)
  have H2 : Hid (Rdr (w2.setCell ⟨w.heap.size + 1, 0, none⟩ (.int .u16 x0)) B (a2 :: a3 :: a4 :: a5 :: a6 :: a7 :: l)) := other k2 hneV.symm _
  have G2 : Hid (w.grownBy (w2.setCell ⟨w.heap.size + 1, 0, none⟩ (.int .u16 x0)) (some B)) := grown_new (grown_trans (unhide G1) g2) (Nat.le_of_lt hlt0) _
  have R2 : Hid ((w2.setCell ⟨w.heap.size + 1, 0, none⟩ (.int .u16 x0)).heap[w.heap.size]? = some (.cells #[.int .u16 0, .int .u16 0, .string ⟨#[]⟩] 39 (0, 0))) := by
    show _ = _
    rw [Below.heap_setCell _ _ _ _ (Nat.ne_of_lt hlt0)]; exact hr
  clear hr k2 g2 H1 G1 R1 he E1
  go_wp2_with fail
  refine (unhide T2 _ (unhide H2)).mono ?_
  rintro ee w3 ⟨rfl, k3, g3⟩
  have hr : w3.heap[w.heap.size]? = some (.cells #[.int .u16 0, .int .u16 0, .string ⟨#[]⟩] 39 (0, 0)) := (g3.block _ (lt_of_block (unhide R2)) (fun q => hne0 (by simpa using q))).trans (unhide R2)
  have he : w3.heap[w.heap.size + 1]? = some (.cells #[.int .u16 x0, .int .u16 0, .string ⟨#[]⟩] 39 (0, 0)) := (g3.block _ (lt_of_block (unhide E2)) (fun q => hneV (by simpa using q))).trans (unhide E2)
  have c3_1 : w3.cell? ⟨w.heap.size + 1, 1, none⟩ = some (.int .u16 0) := row_cell he rfl
  have f3 := row_free he
  have E3 : Hid ((w3.setCell ⟨w.heap.size + 1, 1, none⟩ (.int .u16 x2)).heap[w.heap.size + 1]? = some (.cells #[.int .u16 x0, .int .u16 x2, .string ⟨#[]⟩] 39 (0, 0))) := row_set he 1 (.int .u16 x2)
  have H3 : Hid (Rdr (w3.setCell ⟨w.heap.size + 1, 1, none⟩ (.int .u16 x2)) B (a4 :: a5 :: a6 :: a7 :: l)) := other k3 hneV.symm _
  have G3 : Hid (w.grownBy (w3.setCell ⟨w.heap.size + 1, 1, none⟩ (.int .u16 x2)) (some B)) := grown_new (grown_trans (unhide G2) g3) (Nat.le_of_lt hlt0) _
  have R3 : Hid ((w3.setCell ⟨w.heap.size + 1, 1, none⟩ (.int .u16 x2)).heap[w.heap.size]? = some (.cells #[.int .u16 0, .int .u16 0, .string ⟨#[]⟩] 39 (0, 0))) := by
    show _ = _
    rw [Below.heap_setCell _ _ _ _ (Nat.ne_of_lt hlt0)]; exact hr
  clear hr k3 g3 H2 G2 R2 he E2
  go_wp2_with fail
  refine (unhide T3 _ (unhide H3)).mono ?_
  rintro ee w4 ⟨rfl, k4, g4⟩
  have hr : w4.heap[w.heap.size]? = some (.cells #[.int .u16 0, .int .u16 0, .string ⟨#[]⟩] 39 (0, 0)) := (g4.block _ (lt_of_block (unhide R3)) (fun q => hne0 (by simpa using q))).trans (unhide R3)
  have he : w4.heap[w.heap.size + 1]? = some (.cells #[.int .u16 x0, .int .u16 x2, .string ⟨#[]⟩] 39 (0, 0)) := (g4.block _ (lt_of_block (unhide E3)) (fun q => hneV (by simpa using q))).trans (unhide E3)
  have H4 := hide k4
  have G4 := hide (grown_trans (unhide G3) g4)
  have R4 := hide hr
  have E4 := hide he
  clear hr k4 g4 H3 G3 R3 he E3
  go_wp2_with fail
  refine (unhide T4 _ (unhide H4)).mono ?_
  rintro ee w5 ⟨rfl, k5, g5⟩
  have hr : w5.heap[w.heap.size]? = some (.cells #[.int .u16 0, .int .u16 0, .string ⟨#[]⟩] 39 (0, 0)) := (g5.block _ (lt_of_block (unhide R4)) (fun q => hne0 (by simpa using q))).trans (unhide R4)
  have he : w5.heap[w.heap.size + 1]? = some (.cells #[.int .u16 x0, .int .u16 x2, .string ⟨#[]⟩] 39 (0, 0)) := (g5.block _ (lt_of_block (unhide E4)) (fun q => hneV (by simpa using q))).trans (unhide E4)
  have H5 := hide k5
  have G5 := hide (grown_trans (unhide G4) g5)
  have R5 := hide hr
  have E5 := hide he
  clear hr k5 g5 H4 G4 R4 he E4
  go_wp2_with fail
  refine (unhide TC _).mono ?_
  rintro ee w6 ⟨rfl, b6⟩
  have H6 : Hid (Rdr w6 B (l)) := (b6.block _ (lt_of_block (unhide H5))).trans (unhide H5)
  have G6 := hide (grown_below (unhide G5) b6)
  have R6 := hide ((b6.block _ (lt_of_block (unhide R5))).trans (unhide R5))
  have E6 := hide ((b6.block _ (lt_of_block (unhide E5))).trans (unhide E5))
  clear b6 H5 G5 R5 E5
  go_wp2_with fail
  refine (must_else _ (by simp) _ _).mono ?_
  rintro ee wz ⟨rfl, hwz⟩
  exact ⟨rfl, rfl, by rw [hwz]; exact unhide G6⟩

set_option maxHeartbeats 2000000 in
theorem udp_ok0 (B : Nat) (a0 a1 a2 a3 a4 a5 a6 a7 : UInt8) (l : List UInt8) (fr ta : Int) (w : World) (h : Rdr w B (a0 :: a1 :: a2 :: a3 :: a4 :: a5 :: a6 :: a7 :: l)) (hs : (a0 :: a1 :: a2 :: a3 :: a4 :: a5 :: a6 :: a7 :: l).length ≤ maxLen) (hf : 0 ≤ fr ∧ fr ≤ 4294967295) (ho : 0 ≤ ta ∧ ta ≤ 4294967295) (m k : Nat) (hmk : m = 8 + k) (hn : (256 * (a4.toNat : Int) + (a5.toNat : Int)) = (m : Int)) (hk : k ≤ l.length) (hm : m ≤ 65535) (hq0 : (256 * (a6.toNat : Int) + (a7.toNat : Int)) = 0) (hL : l.length ≤ 1099511627776) :
    Calls Try.prog 28 #[.pointer (some ⟨B, 0, none⟩), .int .u32 fr, .int .u32 ta] w fun ee w' => ee = .returned (.agg #[.int .u16 (256 * (a0.toNat : Int) + (a1.toNat : Int)), .int .u16 (256 * (a2.toNat : Int) + (a3.toNat : Int)), .string ⟨(l.take k).toArray⟩]) ∧ w.grownBy w' (some B) := by
  obtain ⟨s, hS⟩ : ∃ s : ByteArray, s = ⟨(a0 :: a1 :: a2 :: a3 :: a4 :: a5 :: a6 :: a7 :: l).toArray⟩ := ⟨_, rfl⟩
  have hz : s.size = l.length + 8 := by rw [hS, str_size]; simp
  have hmx : (s.size : Int) ≤ 9223372036854775807 := by rw [hz]; simp only [List.length_cons, maxLen] at hs; omega
  have hk8 : (8 : Int) ≤ (s.size : Int) := by omega
  have hB := h.lt
  have hne0 : w.heap.size ≠ B := by omega
  have H0 := hide (h.alloc (.cells #[.int .u16 0, .int .u16 0, .string ⟨#[]⟩] 39))
  have G0 := hide (grown_alloc (grown_refl w (some B)) (.cells #[.int .u16 0, .int .u16 0, .string ⟨#[]⟩] 39))
  have R0 : Hid ((w.alloc (.cells #[.int .u16 0, .int .u16 0, .string ⟨#[]⟩] 39)).heap[w.heap.size]? = some (.cells #[.int .u16 0, .int .u16 0, .string ⟨#[]⟩] 39 (0, 0))) := heap_alloc_new w _
  have hc0 : (w.alloc (.cells #[.int .u16 0, .int .u16 0, .string ⟨#[]⟩] 39)).cell? ⟨B, 0, none⟩ = some (.string s) := by rw [hS]; exact cell_of_one (unhide H0)
  have hn0 : (8 : Int) ≤ ((a0 :: a1 :: a2 :: a3 :: a4 :: a5 :: a6 :: a7 :: l).length : Int) := by simp only [List.length_cons]; omega
  have HN0 := hide hn0
  clear h hn0
  have T1 := hide (fun u hu => word_ok B a0 a1 (a2 :: a3 :: a4 :: a5 :: a6 :: a7 :: l) u hu (by simp only [List.length_cons, maxLen] at hs ⊢; omega))
  have T2 := hide (fun u hu => word_ok B a2 a3 (a4 :: a5 :: a6 :: a7 :: l) u hu (by simp only [List.length_cons, maxLen] at hs ⊢; omega))
  obtain ⟨x0, hx0⟩ : ∃ x, x = (256 * (a0.toNat : Int) + (a1.toNat : Int)) := ⟨_, rfl⟩
  obtain ⟨x2, hx2⟩ : ∃ x, x = (256 * (a2.toNat : Int) + (a3.toNat : Int)) := ⟨_, rfl⟩
  rw [← hx0] at T1 ⊢
  rw [← hx2] at T2 ⊢
  have T3 := (fun u hu => length_ok B a4 a5 (a6 :: a7 :: l) 8 (s.size : Int) u hu (by simp only [List.length_cons, maxLen] at hs ⊢; omega) (by omega) (by omega))
  rw [hn] at T3
  have T3 := hide T3
  have T4 := (fun u hu => word_ok B a6 a7 l u hu (by simp only [List.length_cons, maxLen] at hs ⊢; omega))
  have hm1 : (m : Int) ≤ (s.size : Int) := by omega
  rw [hq0] at T4
  have T4 := hide T4
  have T5 := hide (fun u hu => text_ok B l k u hu (by omega) (by omega))
  have hq : IntKind.i64.wrap ((m : Int) - 8) = (k : Int) := by rw [wrap_i64 _ (by omega) (by omega)]; omega
  have hq2 : (m : Int) - 8 = (k : Int) := by omega
  clear hS hz hx0 hx2 hn hmk
  go_enter Try.func28, Try.ntmps28
  go_wp2_with fail
  refine (need_ok _ _ _ _ (unhide H0) (unhide HN0)).mono ?_
  rintro ee wz ⟨rfl, hwz⟩
  rw [hwz]
  clear hwz wz
  have hneV : w.heap.size + 1 ≠ B := by omega
  have hlt0 : w.heap.size < w.heap.size + 1 := by omega
  have H1 := hide ((unhide H0).alloc (.cells #[.int .u16 0, .int .u16 0, .string ⟨#[]⟩] 39))
  have G1 := hide (grown_alloc (unhide G0) (.cells #[.int .u16 0, .int .u16 0, .string ⟨#[]⟩] 39))
  have E1 : Hid (((w.alloc (.cells #[.int .u16 0, .int .u16 0, .string ⟨#[]⟩] 39)).alloc (.cells #[.int .u16 0, .int .u16 0, .string ⟨#[]⟩] 39)).heap[w.heap.size + 1]? = some (.cells #[.int .u16 0, .int .u16 0, .string ⟨#[]⟩] 39 (0, 0))) := by
    have q := heap_alloc_new (w.alloc (.cells #[.int .u16 0, .int .u16 0, .string ⟨#[]⟩] 39)) (.cells #[.int .u16 0, .int .u16 0, .string ⟨#[]⟩] 39)
    rw [show (w.alloc (.cells #[.int .u16 0, .int .u16 0, .string ⟨#[]⟩] 39)).heap.size = w.heap.size + 1 by simp] at q
    exact q
  have R1 : Hid (((w.alloc (.cells #[.int .u16 0, .int .u16 0, .string ⟨#[]⟩] 39)).alloc (.cells #[.int .u16 0, .int .u16 0, .string ⟨#[]⟩] 39)).heap[w.heap.size]? = some (.cells #[.int .u16 0, .int .u16 0, .string ⟨#[]⟩] 39 (0, 0))) := by
    show _ = _
    rw [Below.heap_alloc _ _ _ (by simp)]
    exact unhide R0
  clear H0 G0 R0
  go_wp2_with fail
  refine (unhide T1 _ (unhide H1)).mono ?_
  rintro ee w2 ⟨rfl, k2, g2⟩
  have hr : w2.heap[w.heap.size]? = some (.cells #[.int .u16 0, .int .u16 0, .string ⟨#[]⟩] 39 (0, 0)) := (g2.block _ (lt_of_block (unhide R1)) (fun q => hne0 (by simpa using q))).trans (unhide R1)
  have he : w2.heap[w.heap.size + 1]? = some (.cells #[.int .u16 0, .int .u16 0, .string ⟨#[]⟩] 39 (0, 0)) := (g2.block _ (lt_of_block (unhide E1)) (fun q => hneV (by simpa using q))).trans (unhide E1)
  have c2_0 : w2.cell? ⟨w.heap.size + 1, 0, none⟩ = some (.int .u16 0) := row_cell he rfl
  have f2 := row_free he
  have E2 : Hid ((w2.setCell ⟨w.heap.size + 1, 0, none⟩ (.int .u16 x0)).heap[w.heap.size + 1]? = some (.cells #[.int .u16 x0, .int .u16 0, .string ⟨#[]⟩] 39 (0, 0))) := row_set he 0 (.int .u16 x0)
  have H2 : Hid (Rdr (w2.setCell ⟨w.heap.size + 1, 0, none⟩ (.int .u16 x0)) B (a2 :: a3 :: a4 :: a5 :: a6 :: a7 :: l)) := other k2 hneV.symm _
  have G2 : Hid (w.grownBy (w2.setCell ⟨w.heap.size + 1, 0, none⟩ (.int .u16 x0)) (some B)) := grown_new (grown_trans (unhide G1) g2) (Nat.le_of_lt hlt0) _
  have R2 : Hid ((w2.setCell ⟨w.heap.size + 1, 0, none⟩ (.int .u16 x0)).heap[w.heap.size]? = some (.cells #[.int .u16 0, .int .u16 0, .string ⟨#[]⟩] 39 (0, 0))) := by
    show _ = _
    rw [Below.heap_setCell _ _ _ _ (Nat.ne_of_lt hlt0)]; exact hr
  clear hr k2 g2 H1 G1 R1 he E1
  go_wp2_with fail
  refine (unhide T2 _ (unhide H2)).mono ?_
  rintro ee w3 ⟨rfl, k3, g3⟩
  have hr : w3.heap[w.heap.size]? = some (.cells #[.int .u16 0, .int .u16 0, .string ⟨#[]⟩] 39 (0, 0)) := (g3.block _ (lt_of_block (unhide R2)) (fun q => hne0 (by simpa using q))).trans (unhide R2)
  have he : w3.heap[w.heap.size + 1]? = some (.cells #[.int .u16 x0, .int .u16 0, .string ⟨#[]⟩] 39 (0, 0)) := (g3.block _ (lt_of_block (unhide E2)) (fun q => hneV (by simpa using q))).trans (unhide E2)
  have c3_1 : w3.cell? ⟨w.heap.size + 1, 1, none⟩ = some (.int .u16 0) := row_cell he rfl
  have f3 := row_free he
  have E3 : Hid ((w3.setCell ⟨w.heap.size + 1, 1, none⟩ (.int .u16 x2)).heap[w.heap.size + 1]? = some (.cells #[.int .u16 x0, .int .u16 x2, .string ⟨#[]⟩] 39 (0, 0))) := row_set he 1 (.int .u16 x2)
  have H3 : Hid (Rdr (w3.setCell ⟨w.heap.size + 1, 1, none⟩ (.int .u16 x2)) B (a4 :: a5 :: a6 :: a7 :: l)) := other k3 hneV.symm _
  have G3 : Hid (w.grownBy (w3.setCell ⟨w.heap.size + 1, 1, none⟩ (.int .u16 x2)) (some B)) := grown_new (grown_trans (unhide G2) g3) (Nat.le_of_lt hlt0) _
  have R3 : Hid ((w3.setCell ⟨w.heap.size + 1, 1, none⟩ (.int .u16 x2)).heap[w.heap.size]? = some (.cells #[.int .u16 0, .int .u16 0, .string ⟨#[]⟩] 39 (0, 0))) := by
    show _ = _
    rw [Below.heap_setCell _ _ _ _ (Nat.ne_of_lt hlt0)]; exact hr
  clear hr k3 g3 H2 G2 R2 he E2
  go_wp2_with fail
  refine (unhide T3 _ (unhide H3)).mono ?_
  rintro ee w4 ⟨rfl, k4, g4⟩
  have hr : w4.heap[w.heap.size]? = some (.cells #[.int .u16 0, .int .u16 0, .string ⟨#[]⟩] 39 (0, 0)) := (g4.block _ (lt_of_block (unhide R3)) (fun q => hne0 (by simpa using q))).trans (unhide R3)
  have he : w4.heap[w.heap.size + 1]? = some (.cells #[.int .u16 x0, .int .u16 x2, .string ⟨#[]⟩] 39 (0, 0)) := (g4.block _ (lt_of_block (unhide E3)) (fun q => hneV (by simpa using q))).trans (unhide E3)
  have H4 := hide k4
  have G4 := hide (grown_trans (unhide G3) g4)
  have R4 := hide hr
  have E4 := hide he
  clear hr k4 g4 H3 G3 R3 he E3
  go_wp2_with fail
  refine (unhide T4 _ (unhide H4)).mono ?_
  rintro ee w5 ⟨rfl, k5, g5⟩
  have hr : w5.heap[w.heap.size]? = some (.cells #[.int .u16 0, .int .u16 0, .string ⟨#[]⟩] 39 (0, 0)) := (g5.block _ (lt_of_block (unhide R4)) (fun q => hne0 (by simpa using q))).trans (unhide R4)
  have he : w5.heap[w.heap.size + 1]? = some (.cells #[.int .u16 x0, .int .u16 x2, .string ⟨#[]⟩] 39 (0, 0)) := (g5.block _ (lt_of_block (unhide E4)) (fun q => hneV (by simpa using q))).trans (unhide E4)
  have H5 := hide k5
  have G5 := hide (grown_trans (unhide G4) g5)
  have R5 := hide hr
  have E5 := hide he
  clear hr k5 g5 H4 G4 R4 he E4
  go_wp2_with fail
  refine (must_if _ (by simp) _ _).mono ?_
  rintro ee wz ⟨rfl, hwz⟩
  rw [hwz]
  clear hwz wz
  go_wp2_with fail
  refine (unhide T5 _ (unhide H5)).mono ?_
  rintro ee w6 ⟨rfl, k6, g6⟩
  have hr : w6.heap[w.heap.size]? = some (.cells #[.int .u16 0, .int .u16 0, .string ⟨#[]⟩] 39 (0, 0)) := (g6.block _ (lt_of_block (unhide R5)) (fun q => hne0 (by simpa using q))).trans (unhide R5)
  have he : w6.heap[w.heap.size + 1]? = some (.cells #[.int .u16 x0, .int .u16 x2, .string ⟨#[]⟩] 39 (0, 0)) := (g6.block _ (lt_of_block (unhide E5)) (fun q => hneV (by simpa using q))).trans (unhide E5)
  have c6_0 : w6.cell? ⟨w.heap.size + 1, 0, none⟩ = some (.int .u16 x0) := row_cell he rfl
  have c6_1 : w6.cell? ⟨w.heap.size + 1, 1, none⟩ = some (.int .u16 x2) := row_cell he rfl
  have c6_2 : w6.cell? ⟨w.heap.size + 1, 2, none⟩ = some (.string ⟨#[]⟩) := row_cell he rfl
  have f6 := row_free he
  have d0 : w6.cell? ⟨w.heap.size, 0, none⟩ = some (.int .u16 0) := row_cell hr rfl
  have d1 : w6.cell? ⟨w.heap.size, 1, none⟩ = some (.int .u16 0) := row_cell hr rfl
  have d2 : w6.cell? ⟨w.heap.size, 2, none⟩ = some (.string ⟨#[]⟩) := row_cell hr rfl
  have kd := row_free hr
  have E6 : Hid ((w6.setCell ⟨w.heap.size + 1, 2, none⟩ (.string ⟨(l.take k).toArray⟩)).heap[w.heap.size + 1]? = some (.cells #[.int .u16 x0, .int .u16 x2, .string ⟨(l.take k).toArray⟩] 39 (0, 0))) := row_set he 2 (.string ⟨(l.take k).toArray⟩)
  have H6 : Hid (Rdr (w6.setCell ⟨w.heap.size + 1, 2, none⟩ (.string ⟨(l.take k).toArray⟩)) B (l.drop k)) := other k6 hneV.symm _
  have G6 : Hid (w.grownBy (w6.setCell ⟨w.heap.size + 1, 2, none⟩ (.string ⟨(l.take k).toArray⟩)) (some B)) := grown_new (grown_trans (unhide G5) g6) (Nat.le_of_lt hlt0) _
  have R6 : Hid ((w6.setCell ⟨w.heap.size + 1, 2, none⟩ (.string ⟨(l.take k).toArray⟩)).heap[w.heap.size]? = some (.cells #[.int .u16 0, .int .u16 0, .string ⟨#[]⟩] 39 (0, 0))) := by
    show _ = _
    rw [Below.heap_setCell _ _ _ _ (Nat.ne_of_lt hlt0)]; exact hr
  clear hr k6 g6 H5 G5 R5 he E5
  go_wp2
  refine bodyPost_ret (v := .agg #[.int .u16 x0, .int .u16 x2, .string ⟨(l.take k).toArray⟩]) (by simp [results, Try.results28, go_sem, d0, d1, d2]) rfl ⟨rfl, ?_⟩
  iterate 3 refine grown_new ?_ (Nat.le_refl _) _
  exact unhide G6

set_option maxHeartbeats 2000000 in
theorem udp_ok1 (B : Nat) (a0 a1 a2 a3 a4 a5 a6 a7 : UInt8) (l : List UInt8) (fr ta : Int) (w : World) (h : Rdr w B (a0 :: a1 :: a2 :: a3 :: a4 :: a5 :: a6 :: a7 :: l)) (hs : (a0 :: a1 :: a2 :: a3 :: a4 :: a5 :: a6 :: a7 :: l).length ≤ maxLen) (hf : 0 ≤ fr ∧ fr ≤ 4294967295) (ho : 0 ≤ ta ∧ ta ≤ 4294967295) (m k : Nat) (hmk : m = 8 + k) (hn : (256 * (a4.toNat : Int) + (a5.toNat : Int)) = (m : Int)) (hk : k ≤ l.length) (hm : m ≤ 65535) (hq0 : (256 * (a6.toNat : Int) + (a7.toNat : Int)) ≠ 0) (hsum : chk (udpP fr ta (m : Int) ++ (a0 :: a1 :: a2 :: a3 :: a4 :: a5 :: a6 :: a7 :: l).take m) = 0) (hL : l.length ≤ 1099511627776) :
    Calls Try.prog 28 #[.pointer (some ⟨B, 0, none⟩), .int .u32 fr, .int .u32 ta] w fun ee w' => ee = .returned (.agg #[.int .u16 (256 * (a0.toNat : Int) + (a1.toNat : Int)), .int .u16 (256 * (a2.toNat : Int) + (a3.toNat : Int)), .string ⟨(l.take k).toArray⟩]) ∧ w.grownBy w' (some B) := by
  obtain ⟨s, hS⟩ : ∃ s : ByteArray, s = ⟨(a0 :: a1 :: a2 :: a3 :: a4 :: a5 :: a6 :: a7 :: l).toArray⟩ := ⟨_, rfl⟩
  have hz : s.size = l.length + 8 := by rw [hS, str_size]; simp
  have hmx : (s.size : Int) ≤ 9223372036854775807 := by rw [hz]; simp only [List.length_cons, maxLen] at hs; omega
  have hk8 : (8 : Int) ≤ (s.size : Int) := by omega
  have hB := h.lt
  have hne0 : w.heap.size ≠ B := by omega
  have H0 := hide (h.alloc (.cells #[.int .u16 0, .int .u16 0, .string ⟨#[]⟩] 39))
  have G0 := hide (grown_alloc (grown_refl w (some B)) (.cells #[.int .u16 0, .int .u16 0, .string ⟨#[]⟩] 39))
  have R0 : Hid ((w.alloc (.cells #[.int .u16 0, .int .u16 0, .string ⟨#[]⟩] 39)).heap[w.heap.size]? = some (.cells #[.int .u16 0, .int .u16 0, .string ⟨#[]⟩] 39 (0, 0))) := heap_alloc_new w _
  have hc0 : (w.alloc (.cells #[.int .u16 0, .int .u16 0, .string ⟨#[]⟩] 39)).cell? ⟨B, 0, none⟩ = some (.string s) := by rw [hS]; exact cell_of_one (unhide H0)
  have hn0 : (8 : Int) ≤ ((a0 :: a1 :: a2 :: a3 :: a4 :: a5 :: a6 :: a7 :: l).length : Int) := by simp only [List.length_cons]; omega
  have HN0 := hide hn0
  clear h hn0
  have T1 := hide (fun u hu => word_ok B a0 a1 (a2 :: a3 :: a4 :: a5 :: a6 :: a7 :: l) u hu (by simp only [List.length_cons, maxLen] at hs ⊢; omega))
  have T2 := hide (fun u hu => word_ok B a2 a3 (a4 :: a5 :: a6 :: a7 :: l) u hu (by simp only [List.length_cons, maxLen] at hs ⊢; omega))
  obtain ⟨x0, hx0⟩ : ∃ x, x = (256 * (a0.toNat : Int) + (a1.toNat : Int)) := ⟨_, rfl⟩
  obtain ⟨x2, hx2⟩ : ∃ x, x = (256 * (a2.toNat : Int) + (a3.toNat : Int)) := ⟨_, rfl⟩
  rw [← hx0] at T1 ⊢
  rw [← hx2] at T2 ⊢
  have T3 := (fun u hu => length_ok B a4 a5 (a6 :: a7 :: l) 8 (s.size : Int) u hu (by simp only [List.length_cons, maxLen] at hs ⊢; omega) (by omega) (by omega))
  rw [hn] at T3
  have T3 := hide T3
  have T4 := (fun u hu => word_ok B a6 a7 l u hu (by simp only [List.length_cons, maxLen] at hs ⊢; omega))
  have hm1 : (m : Int) ≤ (s.size : Int) := by omega
  obtain ⟨x6, hx6⟩ : ∃ x, x = (256 * (a6.toNat : Int) + (a7.toNat : Int)) := ⟨_, rfl⟩
  rw [← hx6] at T4 hq0
  have hqn : (x6 == 0) = false := by simpa using hq0
  have TC := (fun u => udpCheck_any (s.extract 0 m) fr ta u (by rw [ByteArray.size_extract]; omega) hf ho)
  have esz : ((s.extract 0 m).size : Int) = (m : Int) := by rw [ByteArray.size_extract]; omega
  have edt : (s.extract 0 m).data.toList = (a0 :: a1 :: a2 :: a3 :: a4 :: a5 :: a6 :: a7 :: l).take m := by rw [hS, str_take]
  rw [esz, edt] at TC
  obtain ⟨c, hc⟩ : ∃ c, c = chk (udpP fr ta (m : Int) ++ (a0 :: a1 :: a2 :: a3 :: a4 :: a5 :: a6 :: a7 :: l).take m) := ⟨_, rfl⟩
  rw [← hc] at TC hsum
  have TC := hide TC
  subst hsum
  clear esz edt hc hx6
  have T4 := hide T4
  have T5 := hide (fun u hu => text_ok B l k u hu (by omega) (by omega))
  have hq : IntKind.i64.wrap ((m : Int) - 8) = (k : Int) := by rw [wrap_i64 _ (by omega) (by omega)]; omega
  have hq2 : (m : Int) - 8 = (k : Int) := by omega
  clear hS hz hx0 hx2 hn hmk
  go_enter Try.func28, Try.ntmps28
  go_wp2_with fail
  refine (need_ok _ _ _ _ (unhide H0) (unhide HN0)).mono ?_
  rintro ee wz ⟨rfl, hwz⟩
  rw [hwz]
  clear hwz wz
  have hneV : w.heap.size + 1 ≠ B := by omega
  have hlt0 : w.heap.size < w.heap.size + 1 := by omega
  have H1 := hide ((unhide H0).alloc (.cells #[.int .u16 0, .int .u16 0, .string ⟨#[]⟩] 39))
  have G1 := hide (grown_alloc (unhide G0) (.cells #[.int .u16 0, .int .u16 0, .string ⟨#[]⟩] 39))
  have E1 : Hid (((w.alloc (.cells #[.int .u16 0, .int .u16 0, .string ⟨#[]⟩] 39)).alloc (.cells #[.int .u16 0, .int .u16 0, .string ⟨#[]⟩] 39)).heap[w.heap.size + 1]? = some (.cells #[.int .u16 0, .int .u16 0, .string ⟨#[]⟩] 39 (0, 0))) := by
    have q := heap_alloc_new (w.alloc (.cells #[.int .u16 0, .int .u16 0, .string ⟨#[]⟩] 39)) (.cells #[.int .u16 0, .int .u16 0, .string ⟨#[]⟩] 39)
    rw [show (w.alloc (.cells #[.int .u16 0, .int .u16 0, .string ⟨#[]⟩] 39)).heap.size = w.heap.size + 1 by simp] at q
    exact q
  have R1 : Hid (((w.alloc (.cells #[.int .u16 0, .int .u16 0, .string ⟨#[]⟩] 39)).alloc (.cells #[.int .u16 0, .int .u16 0, .string ⟨#[]⟩] 39)).heap[w.heap.size]? = some (.cells #[.int .u16 0, .int .u16 0, .string ⟨#[]⟩] 39 (0, 0))) := by
    show _ = _
    rw [Below.heap_alloc _ _ _ (by simp)]
    exact unhide R0
  clear H0 G0 R0
  go_wp2_with fail
  refine (unhide T1 _ (unhide H1)).mono ?_
  rintro ee w2 ⟨rfl, k2, g2⟩
  have hr : w2.heap[w.heap.size]? = some (.cells #[.int .u16 0, .int .u16 0, .string ⟨#[]⟩] 39 (0, 0)) := (g2.block _ (lt_of_block (unhide R1)) (fun q => hne0 (by simpa using q))).trans (unhide R1)
  have he : w2.heap[w.heap.size + 1]? = some (.cells #[.int .u16 0, .int .u16 0, .string ⟨#[]⟩] 39 (0, 0)) := (g2.block _ (lt_of_block (unhide E1)) (fun q => hneV (by simpa using q))).trans (unhide E1)
  have c2_0 : w2.cell? ⟨w.heap.size + 1, 0, none⟩ = some (.int .u16 0) := row_cell he rfl
  have f2 := row_free he
  have E2 : Hid ((w2.setCell ⟨w.heap.size + 1, 0, none⟩ (.int .u16 x0)).heap[w.heap.size + 1]? = some (.cells #[.int .u16 x0, .int .u16 0, .string ⟨#[]⟩] 39 (0, 0))) := row_set he 0 (.int .u16 x0)
  have H2 : Hid (Rdr (w2.setCell ⟨w.heap.size + 1, 0, none⟩ (.int .u16 x0)) B (a2 :: a3 :: a4 :: a5 :: a6 :: a7 :: l)) := other k2 hneV.symm _
  have G2 : Hid (w.grownBy (w2.setCell ⟨w.heap.size + 1, 0, none⟩ (.int .u16 x0)) (some B)) := grown_new (grown_trans (unhide G1) g2) (Nat.le_of_lt hlt0) _
  have R2 : Hid ((w2.setCell ⟨w.heap.size + 1, 0, none⟩ (.int .u16 x0)).heap[w.heap.size]? = some (.cells #[.int .u16 0, .int .u16 0, .string ⟨#[]⟩] 39 (0, 0))) := by
    show _ = _
    rw [Below.heap_setCell _ _ _ _ (Nat.ne_of_lt hlt0)]; exact hr
  clear hr k2 g2 H1 G1 R1 he E1
  go_wp2_with fail
  refine (unhide T2 _ (unhide H2)).mono ?_
  rintro ee w3 ⟨rfl, k3, g3⟩
  have hr : w3.heap[w.heap.size]? = some (.cells #[.int .u16 0, .int .u16 0, .string ⟨#[]⟩] 39 (0, 0)) := (g3.block _ (lt_of_block (unhide R2)) (fun q => hne0 (by simpa using q))).trans (unhide R2)
  have he : w3.heap[w.heap.size + 1]? = some (.cells #[.int .u16 x0, .int .u16 0, .string ⟨#[]⟩] 39 (0, 0)) := (g3.block _ (lt_of_block (unhide E2)) (fun q => hneV (by simpa using q))).trans (unhide E2)
  have c3_1 : w3.cell? ⟨w.heap.size + 1, 1, none⟩ = some (.int .u16 0) := row_cell he rfl
  have f3 := row_free he
  have E3 : Hid ((w3.setCell ⟨w.heap.size + 1, 1, none⟩ (.int .u16 x2)).heap[w.heap.size + 1]? = some (.cells #[.int .u16 x0, .int .u16 x2, .string ⟨#[]⟩] 39 (0, 0))) := row_set he 1 (.int .u16 x2)
  have H3 : Hid (Rdr (w3.setCell ⟨w.heap.size + 1, 1, none⟩ (.int .u16 x2)) B (a4 :: a5 :: a6 :: a7 :: l)) := other k3 hneV.symm _
  have G3 : Hid (w.grownBy (w3.setCell ⟨w.heap.size + 1, 1, none⟩ (.int .u16 x2)) (some B)) := grown_new (grown_trans (unhide G2) g3) (Nat.le_of_lt hlt0) _
  have R3 : Hid ((w3.setCell ⟨w.heap.size + 1, 1, none⟩ (.int .u16 x2)).heap[w.heap.size]? = some (.cells #[.int .u16 0, .int .u16 0, .string ⟨#[]⟩] 39 (0, 0))) := by
    show _ = _
    rw [Below.heap_setCell _ _ _ _ (Nat.ne_of_lt hlt0)]; exact hr
  clear hr k3 g3 H2 G2 R2 he E2
  go_wp2_with fail
  refine (unhide T3 _ (unhide H3)).mono ?_
  rintro ee w4 ⟨rfl, k4, g4⟩
  have hr : w4.heap[w.heap.size]? = some (.cells #[.int .u16 0, .int .u16 0, .string ⟨#[]⟩] 39 (0, 0)) := (g4.block _ (lt_of_block (unhide R3)) (fun q => hne0 (by simpa using q))).trans (unhide R3)
  have he : w4.heap[w.heap.size + 1]? = some (.cells #[.int .u16 x0, .int .u16 x2, .string ⟨#[]⟩] 39 (0, 0)) := (g4.block _ (lt_of_block (unhide E3)) (fun q => hneV (by simpa using q))).trans (unhide E3)
  have H4 := hide k4
  have G4 := hide (grown_trans (unhide G3) g4)
  have R4 := hide hr
  have E4 := hide he
  clear hr k4 g4 H3 G3 R3 he E3
  go_wp2_with fail
  refine (unhide T4 _ (unhide H4)).mono ?_
  rintro ee w5 ⟨rfl, k5, g5⟩
  have hr : w5.heap[w.heap.size]? = some (.cells #[.int .u16 0, .int .u16 0, .string ⟨#[]⟩] 39 (0, 0)) := (g5.block _ (lt_of_block (unhide R4)) (fun q => hne0 (by simpa using q))).trans (unhide R4)
  have he : w5.heap[w.heap.size + 1]? = some (.cells #[.int .u16 x0, .int .u16 x2, .string ⟨#[]⟩] 39 (0, 0)) := (g5.block _ (lt_of_block (unhide E4)) (fun q => hneV (by simpa using q))).trans (unhide E4)
  have H5 := hide k5
  have G5 := hide (grown_trans (unhide G4) g5)
  have R5 := hide hr
  have E5 := hide he
  clear hr k5 g5 H4 G4 R4 he E4
  go_wp2_with fail
  refine (unhide TC _).mono ?_
  rintro ee w6 ⟨rfl, b6⟩
  have H6 : Hid (Rdr w6 B (l)) := (b6.block _ (lt_of_block (unhide H5))).trans (unhide H5)
  have G6 := hide (grown_below (unhide G5) b6)
  have R6 := hide ((b6.block _ (lt_of_block (unhide R5))).trans (unhide R5))
  have E6 := hide ((b6.block _ (lt_of_block (unhide E5))).trans (unhide E5))
  clear b6 H5 G5 R5 E5
  go_wp2_with fail
  refine (must_if _ (by simp) _ _).mono ?_
  rintro ee wz ⟨rfl, hwz⟩
  rw [hwz]
  clear hwz wz
  go_wp2_with fail
  refine (unhide T5 _ (unhide H6)).mono ?_
  rintro ee w7 ⟨rfl, k7, g7⟩
  have hr : w7.heap[w.heap.size]? = some (.cells #[.int .u16 0, .int .u16 0, .string ⟨#[]⟩] 39 (0, 0)) := (g7.block _ (lt_of_block (unhide R6)) (fun q => hne0 (by simpa using q))).trans (unhide R6)
  have he : w7.heap[w.heap.size + 1]? = some (.cells #[.int .u16 x0, .int .u16 x2, .string ⟨#[]⟩] 39 (0, 0)) := (g7.block _ (lt_of_block (unhide E6)) (fun q => hneV (by simpa using q))).trans (unhide E6)
  have c7_0 : w7.cell? ⟨w.heap.size + 1, 0, none⟩ = some (.int .u16 x0) := row_cell he rfl
  have c7_1 : w7.cell? ⟨w.heap.size + 1, 1, none⟩ = some (.int .u16 x2) := row_cell he rfl
  have c7_2 : w7.cell? ⟨w.heap.size + 1, 2, none⟩ = some (.string ⟨#[]⟩) := row_cell he rfl
  have f7 := row_free he
  have d0 : w7.cell? ⟨w.heap.size, 0, none⟩ = some (.int .u16 0) := row_cell hr rfl
  have d1 : w7.cell? ⟨w.heap.size, 1, none⟩ = some (.int .u16 0) := row_cell hr rfl
  have d2 : w7.cell? ⟨w.heap.size, 2, none⟩ = some (.string ⟨#[]⟩) := row_cell hr rfl
  have kd := row_free hr
  have E7 : Hid ((w7.setCell ⟨w.heap.size + 1, 2, none⟩ (.string ⟨(l.take k).toArray⟩)).heap[w.heap.size + 1]? = some (.cells #[.int .u16 x0, .int .u16 x2, .string ⟨(l.take k).toArray⟩] 39 (0, 0))) := row_set he 2 (.string ⟨(l.take k).toArray⟩)
  have H7 : Hid (Rdr (w7.setCell ⟨w.heap.size + 1, 2, none⟩ (.string ⟨(l.take k).toArray⟩)) B (l.drop k)) := other k7 hneV.symm _
  have G7 : Hid (w.grownBy (w7.setCell ⟨w.heap.size + 1, 2, none⟩ (.string ⟨(l.take k).toArray⟩)) (some B)) := grown_new (grown_trans (unhide G6) g7) (Nat.le_of_lt hlt0) _
  have R7 : Hid ((w7.setCell ⟨w.heap.size + 1, 2, none⟩ (.string ⟨(l.take k).toArray⟩)).heap[w.heap.size]? = some (.cells #[.int .u16 0, .int .u16 0, .string ⟨#[]⟩] 39 (0, 0))) := by
    show _ = _
    rw [Below.heap_setCell _ _ _ _ (Nat.ne_of_lt hlt0)]; exact hr
  clear hr k7 g7 H6 G6 R6 he E6
  go_wp2
  refine bodyPost_ret (v := .agg #[.int .u16 x0, .int .u16 x2, .string ⟨(l.take k).toArray⟩]) (by simp [results, Try.results28, go_sem, d0, d1, d2]) rfl ⟨rfl, ?_⟩
  iterate 3 refine grown_new ?_ (Nat.le_refl _) _
  exact unhide G7

set_option maxHeartbeats 1000000 in
theorem clo_no (B c1 c2 : Nat) (fr ta k : Int) (L : List UInt8) (w : World) (h : Rdr w B L) (l1 : c1 < w.heap.size) (l2 : c2 < w.heap.size) (h1 : w.cell? ⟨c1, 0, none⟩ = some (.int .u32 fr)) (h2 : w.cell? ⟨c2, 0, none⟩ = some (.int .u32 ta))
    (hU : ∀ u, Rdr u B L → Calls Try.prog 28 #[.pointer (some ⟨B, 0, none⟩), .int .u32 fr, .int .u32 ta] u fun ee w' => ee = .panicked (errP k) ∧ u.grownBy w' (some B)) :
    Calls Try.prog 27 #[.pointer (some ⟨B, 0, none⟩), .pointer (some ⟨c1, 0, none⟩), .pointer (some ⟨c2, 0, none⟩)] w fun ee w' => ee = .panicked (errP k) ∧ w.grownBy w' (some B) := by
  have HU := hide (hU _ (h.alloc (.cells #[.int .u16 0, .int .u16 0, .string ⟨#[]⟩] 39)))
  have n1 := (((Below.refl w.heap.size w).alloc (Nat.le_refl _) (.cells #[.int .u16 0, .int .u16 0, .string ⟨#[]⟩] 39)).cell (p := ⟨c1, 0, none⟩) l1).trans h1
  have n2 := (((Below.refl w.heap.size w).alloc (Nat.le_refl _) (.cells #[.int .u16 0, .int .u16 0, .string ⟨#[]⟩] 39)).cell (p := ⟨c2, 0, none⟩) l2).trans h2
  clear hU h
  go_enter Try.func27, Try.ntmps27
  go_wp2_with fail
  refine (unhide HU).mono ?_
  rintro ee w1 ⟨rfl, g1⟩
  exact ⟨rfl, rfl, grown_trans (grown_alloc (grown_refl w (some B)) _) g1⟩

set_option maxHeartbeats 1000000 in
theorem clo_ok (B c1 c2 : Nat) (fr ta a0 a1 : Int) (a2 : ByteArray) (L : List UInt8) (w : World) (h : Rdr w B L) (l1 : c1 < w.heap.size) (l2 : c2 < w.heap.size) (h1 : w.cell? ⟨c1, 0, none⟩ = some (.int .u32 fr)) (h2 : w.cell? ⟨c2, 0, none⟩ = some (.int .u32 ta))
    (hU : ∀ u, Rdr u B L → Calls Try.prog 28 #[.pointer (some ⟨B, 0, none⟩), .int .u32 fr, .int .u32 ta] u fun ee w' => ee = .returned (.agg #[.int .u16 a0, .int .u16 a1, .string a2]) ∧ u.grownBy w' (some B)) :
    Calls Try.prog 27 #[.pointer (some ⟨B, 0, none⟩), .pointer (some ⟨c1, 0, none⟩), .pointer (some ⟨c2, 0, none⟩)] w fun ee w' => ee = .returned (.agg #[.int .u16 a0, .int .u16 a1, .string a2]) ∧ w.grownBy w' (some B) := by
  have HU := hide (hU _ (h.alloc (.cells #[.int .u16 0, .int .u16 0, .string ⟨#[]⟩] 39)))
  have n1 := (((Below.refl w.heap.size w).alloc (Nat.le_refl _) (.cells #[.int .u16 0, .int .u16 0, .string ⟨#[]⟩] 39)).cell (p := ⟨c1, 0, none⟩) l1).trans h1
  have n2 := (((Below.refl w.heap.size w).alloc (Nat.le_refl _) (.cells #[.int .u16 0, .int .u16 0, .string ⟨#[]⟩] 39)).cell (p := ⟨c2, 0, none⟩) l2).trans h2
  have hB := h.lt
  have hne0 : w.heap.size ≠ B := by omega
  clear hU h
  go_enter Try.func27, Try.ntmps27
  go_wp2_with fail
  refine (unhide HU).mono ?_
  rintro ee w1 ⟨rfl, g1⟩
  have hr : w1.heap[w.heap.size]? = some (.cells #[.int .u16 0, .int .u16 0, .string ⟨#[]⟩] 39 (0, 0)) := (g1.block _ (by simp) (fun q => hne0 (by simpa using q))).trans (heap_alloc_new w _)
  have d0 : w1.cell? ⟨w.heap.size, 0, none⟩ = some (.int .u16 0) := row_cell hr rfl
  have d1 : w1.cell? ⟨w.heap.size, 1, none⟩ = some (.int .u16 0) := row_cell hr rfl
  have d2 : w1.cell? ⟨w.heap.size, 2, none⟩ = some (.string ⟨#[]⟩) := row_cell hr rfl
  have kd := row_free hr
  have G1 := hide (grown_trans (grown_alloc (grown_refl w (some B)) _) g1)
  clear g1 hr HU
  go_wp2
  refine bodyPost_ret (v := .agg #[.int .u16 a0, .int .u16 a1, .string a2]) (by simp [results, Try.results27, go_sem, d0, d1, d2]) rfl ⟨rfl, ?_⟩
  iterate 3 refine grown_new ?_ (Nat.le_refl _) _
  exact unhide G1
end Go.Proofs.Ytoifihhmneldeaa.UdR

import Derived.Test.YtoifihhmneldeaaDoorReaderLen
import Derived.Test.YtoifihhmneldeaaDoorEtherRh
import Derived.Test.YtoifihhmneldeaaDoorIPWriteW
namespace Go.Proofs.YtoifihhmneldeaaDoor.IpR
open Go.ChangeShapes Go.WideShapes Go.ChangeAt Go.RowKit Bs Rd
open EtR (other grown_new row_cell row_free row_set)
open Ip (chk chk_bd)
set_option linter.unusedVariables false

theorem ip_short (B : Nat) (l : List UInt8) (w : World) (h : Rdr w B l) (hn : l.length < 20) :
    Calls Tryd.prog 30 #[.pointer (some ⟨B, 0, none⟩)] w fun ee w' => ee = .panicked (errP 1) ∧ w.grownBy w' (some B) := by
  have hB := h.lt
  have hne0 : w.heap.size ≠ B := by omega
  have H0 := hide (h.alloc (.cells #[.int .u16 0, .int .u8 0, .int .u8 0, .int .u32 0, .int .u32 0, .string ⟨#[]⟩] 31))
  have G0 := hide (grown_alloc (grown_refl w (some B)) (.cells #[.int .u16 0, .int .u8 0, .int .u8 0, .int .u32 0, .int .u32 0, .string ⟨#[]⟩] 31))
  have R0 : Hid ((w.alloc (.cells #[.int .u16 0, .int .u8 0, .int .u8 0, .int .u32 0, .int .u32 0, .string ⟨#[]⟩] 31)).heap[w.heap.size]? = some (.cells #[.int .u16 0, .int .u8 0, .int .u8 0, .int .u32 0, .int .u32 0, .string ⟨#[]⟩] 31 (0, 0))) := heap_alloc_new w _
  clear h
  go_enter Tryd.func30, Tryd.ntmps30
  go_wp2_with fail
  refine (need_no _ _ _ _ (unhide H0) (by omega)).mono ?_
  rintro ee wz ⟨rfl, hwz⟩
  exact ⟨rfl, rfl, by rw [hwz]; exact unhide G0⟩

set_option maxHeartbeats 2000000 in
theorem ip_first (B : Nat) (a0 a1 a2 a3 a4 a5 a6 a7 a8 a9 a10 a11 a12 a13 a14 a15 a16 a17 a18 a19 : UInt8) (l : List UInt8) (w : World) (h : Rdr w B (a0 :: a1 :: a2 :: a3 :: a4 :: a5 :: a6 :: a7 :: a8 :: a9 :: a10 :: a11 :: a12 :: a13 :: a14 :: a15 :: a16 :: a17 :: a18 :: a19 :: l)) (hs : (a0 :: a1 :: a2 :: a3 :: a4 :: a5 :: a6 :: a7 :: a8 :: a9 :: a10 :: a11 :: a12 :: a13 :: a14 :: a15 :: a16 :: a17 :: a18 :: a19 :: l).length ≤ maxLen) (k : Int) (hx : ∀ u, Rdr u B (a0 :: a1 :: a2 :: a3 :: a4 :: a5 :: a6 :: a7 :: a8 :: a9 :: a10 :: a11 :: a12 :: a13 :: a14 :: a15 :: a16 :: a17 :: a18 :: a19 :: l) → Calls Tryd.prog 45 #[.pointer (some ⟨B, 0, none⟩)] u fun e w' => e = .panicked (errP k) ∧ u.grownBy w' (some B)) :
    Calls Tryd.prog 30 #[.pointer (some ⟨B, 0, none⟩)] w fun ee w' => ee = .panicked (errP k) ∧ w.grownBy w' (some B) := by
  obtain ⟨s, hS⟩ : ∃ s : ByteArray, s = ⟨(a0 :: a1 :: a2 :: a3 :: a4 :: a5 :: a6 :: a7 :: a8 :: a9 :: a10 :: a11 :: a12 :: a13 :: a14 :: a15 :: a16 :: a17 :: a18 :: a19 :: l).toArray⟩ := ⟨_, rfl⟩
  have hz : s.size = l.length + 20 := by rw [hS, str_size]; simp
  have hmx : (s.size : Int) ≤ 9223372036854775807 := by rw [hz]; simp only [List.length_cons, maxLen] at hs; omega
  have hk20 : (20 : Int) ≤ (s.size : Int) := by omega
  have hB := h.lt
  have hne0 : w.heap.size ≠ B := by omega
  have H0 := hide (h.alloc (.cells #[.int .u16 0, .int .u8 0, .int .u8 0, .int .u32 0, .int .u32 0, .string ⟨#[]⟩] 31))
  have G0 := hide (grown_alloc (grown_refl w (some B)) (.cells #[.int .u16 0, .int .u8 0, .int .u8 0, .int .u32 0, .int .u32 0, .string ⟨#[]⟩] 31))
  have R0 : Hid ((w.alloc (.cells #[.int .u16 0, .int .u8 0, .int .u8 0, .int .u32 0, .int .u32 0, .string ⟨#[]⟩] 31)).heap[w.heap.size]? = some (.cells #[.int .u16 0, .int .u8 0, .int .u8 0, .int .u32 0, .int .u32 0, .string ⟨#[]⟩] 31 (0, 0))) := heap_alloc_new w _
  have hc0 : (w.alloc (.cells #[.int .u16 0, .int .u8 0, .int .u8 0, .int .u32 0, .int .u32 0, .string ⟨#[]⟩] 31)).cell? ⟨B, 0, none⟩ = some (.string s) := by rw [hS]; exact cell_of_one (unhide H0)
  have hn0 : (20 : Int) ≤ ((a0 :: a1 :: a2 :: a3 :: a4 :: a5 :: a6 :: a7 :: a8 :: a9 :: a10 :: a11 :: a12 :: a13 :: a14 :: a15 :: a16 :: a17 :: a18 :: a19 :: l).length : Int) := by simp only [List.length_cons]; omega
  have HN0 := hide hn0
  clear h hn0
  have T1 := hide hx
  clear hx hS hz
  go_enter Tryd.func30, Tryd.ntmps30
  go_wp2_with fail
  refine (need_ok _ _ _ _ (unhide H0) (unhide HN0)).mono ?_
  rintro ee wz ⟨rfl, hwz⟩
  rw [hwz]
  clear hwz wz
  go_wp2_with fail
  refine (unhide T1 _ (unhide H0)).mono ?_
  rintro ee wz ⟨rfl, gz⟩
  exact ⟨rfl, rfl, grown_trans (unhide G0) gz⟩

set_option maxHeartbeats 2000000 in
theorem ip_length (B : Nat) (a0 a1 a2 a3 a4 a5 a6 a7 a8 a9 a10 a11 a12 a13 a14 a15 a16 a17 a18 a19 : UInt8) (l : List UInt8) (w : World) (h : Rdr w B (a0 :: a1 :: a2 :: a3 :: a4 :: a5 :: a6 :: a7 :: a8 :: a9 :: a10 :: a11 :: a12 :: a13 :: a14 :: a15 :: a16 :: a17 :: a18 :: a19 :: l)) (hs : (a0 :: a1 :: a2 :: a3 :: a4 :: a5 :: a6 :: a7 :: a8 :: a9 :: a10 :: a11 :: a12 :: a13 :: a14 :: a15 :: a16 :: a17 :: a18 :: a19 :: l).length ≤ maxLen) (h0 : a0.toNat = 69) (k : Int) (hx : ∀ u, Rdr u B (a2 :: a3 :: a4 :: a5 :: a6 :: a7 :: a8 :: a9 :: a10 :: a11 :: a12 :: a13 :: a14 :: a15 :: a16 :: a17 :: a18 :: a19 :: l) → Calls Tryd.prog 46 #[.pointer (some ⟨B, 0, none⟩), .int .i64 20, .int .i64 ((l.length + 20 : Nat) : Int)] u fun e w' => e = .panicked (errP k) ∧ u.grownBy w' (some B)) :
    Calls Tryd.prog 30 #[.pointer (some ⟨B, 0, none⟩)] w fun ee w' => ee = .panicked (errP k) ∧ w.grownBy w' (some B) := by
  obtain ⟨s, hS⟩ : ∃ s : ByteArray, s = ⟨(a0 :: a1 :: a2 :: a3 :: a4 :: a5 :: a6 :: a7 :: a8 :: a9 :: a10 :: a11 :: a12 :: a13 :: a14 :: a15 :: a16 :: a17 :: a18 :: a19 :: l).toArray⟩ := ⟨_, rfl⟩
  have hz : s.size = l.length + 20 := by rw [hS, str_size]; simp
  have hmx : (s.size : Int) ≤ 9223372036854775807 := by rw [hz]; simp only [List.length_cons, maxLen] at hs; omega
  have hk20 : (20 : Int) ≤ (s.size : Int) := by omega
  have hB := h.lt
  have hne0 : w.heap.size ≠ B := by omega
  have H0 := hide (h.alloc (.cells #[.int .u16 0, .int .u8 0, .int .u8 0, .int .u32 0, .int .u32 0, .string ⟨#[]⟩] 31))
  have G0 := hide (grown_alloc (grown_refl w (some B)) (.cells #[.int .u16 0, .int .u8 0, .int .u8 0, .int .u32 0, .int .u32 0, .string ⟨#[]⟩] 31))
  have R0 : Hid ((w.alloc (.cells #[.int .u16 0, .int .u8 0, .int .u8 0, .int .u32 0, .int .u32 0, .string ⟨#[]⟩] 31)).heap[w.heap.size]? = some (.cells #[.int .u16 0, .int .u8 0, .int .u8 0, .int .u32 0, .int .u32 0, .string ⟨#[]⟩] 31 (0, 0))) := heap_alloc_new w _
  have hc0 : (w.alloc (.cells #[.int .u16 0, .int .u8 0, .int .u8 0, .int .u32 0, .int .u32 0, .string ⟨#[]⟩] 31)).cell? ⟨B, 0, none⟩ = some (.string s) := by rw [hS]; exact cell_of_one (unhide H0)
  have hn0 : (20 : Int) ≤ ((a0 :: a1 :: a2 :: a3 :: a4 :: a5 :: a6 :: a7 :: a8 :: a9 :: a10 :: a11 :: a12 :: a13 :: a14 :: a15 :: a16 :: a17 :: a18 :: a19 :: l).length : Int) := by simp only [List.length_cons]; omega
  have HN0 := hide hn0
  clear h hn0
  have T1 := hide (fun u hu => ipFirst_ok B a0 a1 (a2 :: a3 :: a4 :: a5 :: a6 :: a7 :: a8 :: a9 :: a10 :: a11 :: a12 :: a13 :: a14 :: a15 :: a16 :: a17 :: a18 :: a19 :: l) u hu hs h0)
  have T2 := hide (fun u hu => hx u hu)
  rw [← hz] at T2
  clear hx h0 hS hz
  go_enter Tryd.func30, Tryd.ntmps30
  go_wp2_with fail
  refine (need_ok _ _ _ _ (unhide H0) (unhide HN0)).mono ?_
  rintro ee wz ⟨rfl, hwz⟩
  rw [hwz]
  clear hwz wz
  go_wp2_with fail
  refine (unhide T1 _ (unhide H0)).mono ?_
  rintro ee w1 ⟨rfl, k1, g1⟩
  have hr : w1.heap[w.heap.size]? = some (.cells #[.int .u16 0, .int .u8 0, .int .u8 0, .int .u32 0, .int .u32 0, .string ⟨#[]⟩] 31 (0, 0)) := (g1.block _ (lt_of_block (unhide R0)) (fun q => hne0 (by simpa using q))).trans (unhide R0)
  have H1 := hide k1
  have G1 := hide (grown_trans (unhide G0) g1)
  have R1 := hide hr
  clear hr k1 g1 H0 G0 R0
  go_wp2_with fail
  refine (unhide T2 _ (unhide H1)).mono ?_
  rintro ee wz ⟨rfl, gz⟩
  exact ⟨rfl, rfl, grown_trans (unhide G1) gz⟩

set_option maxHeartbeats 2000000 in
theorem ip_sum (B : Nat) (a0 a1 a2 a3 a4 a5 a6 a7 a8 a9 a10 a11 a12 a13 a14 a15 a16 a17 a18 a19 : UInt8) (l : List UInt8) (w : World) (h : Rdr w B (a0 :: a1 :: a2 :: a3 :: a4 :: a5 :: a6 :: a7 :: a8 :: a9 :: a10 :: a11 :: a12 :: a13 :: a14 :: a15 :: a16 :: a17 :: a18 :: a19 :: l)) (hs : (a0 :: a1 :: a2 :: a3 :: a4 :: a5 :: a6 :: a7 :: a8 :: a9 :: a10 :: a11 :: a12 :: a13 :: a14 :: a15 :: a16 :: a17 :: a18 :: a19 :: l).length ≤ maxLen) (h0 : a0.toNat = 69) (k : Nat) (hn : (256 * (a2.toNat : Int) + (a3.toNat : Int)) = 20 + (k : Int)) (hk : k ≤ l.length) (hsum : chk [a0, a1, a2, a3, a4, a5, a6, a7, a8, a9, a10, a11, a12, a13, a14, a15, a16, a17, a18, a19] ≠ 0) :
    Calls Tryd.prog 30 #[.pointer (some ⟨B, 0, none⟩)] w fun ee w' => ee = .panicked (errP 6) ∧ w.grownBy w' (some B) := by
  obtain ⟨s, hS⟩ : ∃ s : ByteArray, s = ⟨(a0 :: a1 :: a2 :: a3 :: a4 :: a5 :: a6 :: a7 :: a8 :: a9 :: a10 :: a11 :: a12 :: a13 :: a14 :: a15 :: a16 :: a17 :: a18 :: a19 :: l).toArray⟩ := ⟨_, rfl⟩
  have hz : s.size = l.length + 20 := by rw [hS, str_size]; simp
  have hmx : (s.size : Int) ≤ 9223372036854775807 := by rw [hz]; simp only [List.length_cons, maxLen] at hs; omega
  have hk20 : (20 : Int) ≤ (s.size : Int) := by omega
  have hB := h.lt
  have hne0 : w.heap.size ≠ B := by omega
  have H0 := hide (h.alloc (.cells #[.int .u16 0, .int .u8 0, .int .u8 0, .int .u32 0, .int .u32 0, .string ⟨#[]⟩] 31))
  have G0 := hide (grown_alloc (grown_refl w (some B)) (.cells #[.int .u16 0, .int .u8 0, .int .u8 0, .int .u32 0, .int .u32 0, .string ⟨#[]⟩] 31))
  have R0 : Hid ((w.alloc (.cells #[.int .u16 0, .int .u8 0, .int .u8 0, .int .u32 0, .int .u32 0, .string ⟨#[]⟩] 31)).heap[w.heap.size]? = some (.cells #[.int .u16 0, .int .u8 0, .int .u8 0, .int .u32 0, .int .u32 0, .string ⟨#[]⟩] 31 (0, 0))) := heap_alloc_new w _
  have hc0 : (w.alloc (.cells #[.int .u16 0, .int .u8 0, .int .u8 0, .int .u32 0, .int .u32 0, .string ⟨#[]⟩] 31)).cell? ⟨B, 0, none⟩ = some (.string s) := by rw [hS]; exact cell_of_one (unhide H0)
  have hn0 : (20 : Int) ≤ ((a0 :: a1 :: a2 :: a3 :: a4 :: a5 :: a6 :: a7 :: a8 :: a9 :: a10 :: a11 :: a12 :: a13 :: a14 :: a15 :: a16 :: a17 :: a18 :: a19 :: l).length : Int) := by simp only [List.length_cons]; omega
  have HN0 := hide hn0
  clear h hn0
  have T1 := hide (fun u hu => ipFirst_ok B a0 a1 (a2 :: a3 :: a4 :: a5 :: a6 :: a7 :: a8 :: a9 :: a10 :: a11 :: a12 :: a13 :: a14 :: a15 :: a16 :: a17 :: a18 :: a19 :: l) u hu hs h0)
  have T2 := (fun u hu => length_ok B a2 a3 (a4 :: a5 :: a6 :: a7 :: a8 :: a9 :: a10 :: a11 :: a12 :: a13 :: a14 :: a15 :: a16 :: a17 :: a18 :: a19 :: l) 20 (s.size : Int) u hu (by simp only [List.length_cons, maxLen] at hs ⊢; omega) (by omega) (by omega))
  rw [hn] at T2
  have T2 := hide T2
  have TC := (fun u => Chk.wire_check (s.extract 0 20) u (by rw [ByteArray.size_extract]; omega))
  have ec : 65535 - Chk.fold (Chk.wsum (s.extract 0 20).data.toList) = chk [a0, a1, a2, a3, a4, a5, a6, a7, a8, a9, a10, a11, a12, a13, a14, a15, a16, a17, a18, a19] := by
    rw [hS, str_take]; simp [chk]
  obtain ⟨c, hc⟩ : ∃ c, c = chk [a0, a1, a2, a3, a4, a5, a6, a7, a8, a9, a10, a11, a12, a13, a14, a15, a16, a17, a18, a19] := ⟨_, rfl⟩
  rw [ec, ← hc] at TC
  rw [← hc] at hsum
  have TC := hide TC
  have hcn : (c == 0) = false := by simpa using hsum
  clear hS hz ec hc h0 hn
  go_enter Tryd.func30, Tryd.ntmps30
  go_wp2_with fail
  refine (need_ok _ _ _ _ (unhide H0) (unhide HN0)).mono ?_
  rintro ee wz ⟨rfl, hwz⟩
  rw [hwz]
  clear hwz wz
  go_wp2_with fail
  refine (unhide T1 _ (unhide H0)).mono ?_
  rintro ee w1 ⟨rfl, k1, g1⟩
  have hr : w1.heap[w.heap.size]? = some (.cells #[.int .u16 0, .int .u8 0, .int .u8 0, .int .u32 0, .int .u32 0, .string ⟨#[]⟩] 31 (0, 0)) := (g1.block _ (lt_of_block (unhide R0)) (fun q => hne0 (by simpa using q))).trans (unhide R0)
  have H1 := hide k1
  have G1 := hide (grown_trans (unhide G0) g1)
  have R1 := hide hr
  clear hr k1 g1 H0 G0 R0
  go_wp2_with fail
  refine (unhide T2 _ (unhide H1)).mono ?_
  rintro ee w2 ⟨rfl, k2, g2⟩
  have hr : w2.heap[w.heap.size]? = some (.cells #[.int .u16 0, .int .u8 0, .int .u8 0, .int .u32 0, .int .u32 0, .string ⟨#[]⟩] 31 (0, 0)) := (g2.block _ (lt_of_block (unhide R1)) (fun q => hne0 (by simpa using q))).trans (unhide R1)
  have H2 := hide k2
  have G2 := hide (grown_trans (unhide G1) g2)
  have R2 := hide hr
  clear hr k2 g2 H1 G1 R1
  go_wp2_with fail
  refine (unhide TC _).mono ?_
  rintro ee wz ⟨rfl, hwz⟩
  rw [hwz]
  clear hwz wz
  go_wp2_with fail
  refine (must_else _ (by simp) _ _).mono ?_
  rintro ee wz ⟨rfl, hwz⟩
  exact ⟨rfl, rfl, by rw [hwz]; exact unhide G2⟩

set_option maxHeartbeats 2000000 in
theorem ip_flag (B : Nat) (a0 a1 a2 a3 a4 a5 a6 a7 a8 a9 a10 a11 a12 a13 a14 a15 a16 a17 a18 a19 : UInt8) (l : List UInt8) (w : World) (h : Rdr w B (a0 :: a1 :: a2 :: a3 :: a4 :: a5 :: a6 :: a7 :: a8 :: a9 :: a10 :: a11 :: a12 :: a13 :: a14 :: a15 :: a16 :: a17 :: a18 :: a19 :: l)) (hs : (a0 :: a1 :: a2 :: a3 :: a4 :: a5 :: a6 :: a7 :: a8 :: a9 :: a10 :: a11 :: a12 :: a13 :: a14 :: a15 :: a16 :: a17 :: a18 :: a19 :: l).length ≤ maxLen) (h0 : a0.toNat = 69) (k : Nat) (hn : (256 * (a2.toNat : Int) + (a3.toNat : Int)) = 20 + (k : Int)) (hk : k ≤ l.length) (hsum : chk [a0, a1, a2, a3, a4, a5, a6, a7, a8, a9, a10, a11, a12, a13, a14, a15, a16, a17, a18, a19] = 0) (hf : bits .and .u16 (256 * (a6.toNat : Int) + (a7.toNat : Int)) 32768 ≠ 0) :
    Calls Tryd.prog 30 #[.pointer (some ⟨B, 0, none⟩)] w fun ee w' => ee = .panicked (errP 2) ∧ w.grownBy w' (some B) := by
  obtain ⟨s, hS⟩ : ∃ s : ByteArray, s = ⟨(a0 :: a1 :: a2 :: a3 :: a4 :: a5 :: a6 :: a7 :: a8 :: a9 :: a10 :: a11 :: a12 :: a13 :: a14 :: a15 :: a16 :: a17 :: a18 :: a19 :: l).toArray⟩ := ⟨_, rfl⟩
  have hz : s.size = l.length + 20 := by rw [hS, str_size]; simp
  have hmx : (s.size : Int) ≤ 9223372036854775807 := by rw [hz]; simp only [List.length_cons, maxLen] at hs; omega
  have hk20 : (20 : Int) ≤ (s.size : Int) := by omega
  have hB := h.lt
  have hne0 : w.heap.size ≠ B := by omega
  have H0 := hide (h.alloc (.cells #[.int .u16 0, .int .u8 0, .int .u8 0, .int .u32 0, .int .u32 0, .string ⟨#[]⟩] 31))
  have G0 := hide (grown_alloc (grown_refl w (some B)) (.cells #[.int .u16 0, .int .u8 0, .int .u8 0, .int .u32 0, .int .u32 0, .string ⟨#[]⟩] 31))
  have R0 : Hid ((w.alloc (.cells #[.int .u16 0, .int .u8 0, .int .u8 0, .int .u32 0, .int .u32 0, .string ⟨#[]⟩] 31)).heap[w.heap.size]? = some (.cells #[.int .u16 0, .int .u8 0, .int .u8 0, .int .u32 0, .int .u32 0, .string ⟨#[]⟩] 31 (0, 0))) := heap_alloc_new w _
  have hc0 : (w.alloc (.cells #[.int .u16 0, .int .u8 0, .int .u8 0, .int .u32 0, .int .u32 0, .string ⟨#[]⟩] 31)).cell? ⟨B, 0, none⟩ = some (.string s) := by rw [hS]; exact cell_of_one (unhide H0)
  have hn0 : (20 : Int) ≤ ((a0 :: a1 :: a2 :: a3 :: a4 :: a5 :: a6 :: a7 :: a8 :: a9 :: a10 :: a11 :: a12 :: a13 :: a14 :: a15 :: a16 :: a17 :: a18 :: a19 :: l).length : Int) := by simp only [List.length_cons]; omega
  have HN0 := hide hn0
  clear h hn0
  have T1 := hide (fun u hu => ipFirst_ok B a0 a1 (a2 :: a3 :: a4 :: a5 :: a6 :: a7 :: a8 :: a9 :: a10 :: a11 :: a12 :: a13 :: a14 :: a15 :: a16 :: a17 :: a18 :: a19 :: l) u hu hs h0)
  have T2 := (fun u hu => length_ok B a2 a3 (a4 :: a5 :: a6 :: a7 :: a8 :: a9 :: a10 :: a11 :: a12 :: a13 :: a14 :: a15 :: a16 :: a17 :: a18 :: a19 :: l) 20 (s.size : Int) u hu (by simp only [List.length_cons, maxLen] at hs ⊢; omega) (by omega) (by omega))
  rw [hn] at T2
  have T2 := hide T2
  have TC := (fun u => Chk.wire_check (s.extract 0 20) u (by rw [ByteArray.size_extract]; omega))
  have ec : 65535 - Chk.fold (Chk.wsum (s.extract 0 20).data.toList) = chk [a0, a1, a2, a3, a4, a5, a6, a7, a8, a9, a10, a11, a12, a13, a14, a15, a16, a17, a18, a19] := by
    rw [hS, str_take]; simp [chk]
  obtain ⟨c, hc⟩ : ∃ c, c = chk [a0, a1, a2, a3, a4, a5, a6, a7, a8, a9, a10, a11, a12, a13, a14, a15, a16, a17, a18, a19] := ⟨_, rfl⟩
  rw [ec, ← hc] at TC
  rw [← hc] at hsum
  have TC := hide TC
  subst hsum
  have T3 := hide (fun u hu => word_ok B a4 a5 (a6 :: a7 :: a8 :: a9 :: a10 :: a11 :: a12 :: a13 :: a14 :: a15 :: a16 :: a17 :: a18 :: a19 :: l) u hu (by simp only [List.length_cons, maxLen] at hs ⊢; omega))
  have T4 := hide (fun u hu => word_ok B a6 a7 (a8 :: a9 :: a10 :: a11 :: a12 :: a13 :: a14 :: a15 :: a16 :: a17 :: a18 :: a19 :: l) u hu (by simp only [List.length_cons, maxLen] at hs ⊢; omega))
  have T5 := hide (fun u hu => byte_ok B a8 (a9 :: a10 :: a11 :: a12 :: a13 :: a14 :: a15 :: a16 :: a17 :: a18 :: a19 :: l) u hu (by simp only [List.length_cons, maxLen] at hs ⊢; omega))
  obtain ⟨x4, hx4⟩ : ∃ x, x = (256 * (a4.toNat : Int) + (a5.toNat : Int)) := ⟨_, rfl⟩
  obtain ⟨x6, hx6⟩ : ∃ x, x = (256 * (a6.toNat : Int) + (a7.toNat : Int)) := ⟨_, rfl⟩
  obtain ⟨x8, hx8⟩ : ∃ x, x = (a8.toNat : Int) := ⟨_, rfl⟩
  rw [← hx4] at T3
  rw [← hx6] at T4 hf
  rw [← hx8] at T5
  clear hx4 hx6 hx8
  clear hS hz ec hc h0 hn
  go_enter Tryd.func30, Tryd.ntmps30
  go_wp2_with fail
  refine (need_ok _ _ _ _ (unhide H0) (unhide HN0)).mono ?_
  rintro ee wz ⟨rfl, hwz⟩
  rw [hwz]
  clear hwz wz
  go_wp2_with fail
  refine (unhide T1 _ (unhide H0)).mono ?_
  rintro ee w1 ⟨rfl, k1, g1⟩
  have hr : w1.heap[w.heap.size]? = some (.cells #[.int .u16 0, .int .u8 0, .int .u8 0, .int .u32 0, .int .u32 0, .string ⟨#[]⟩] 31 (0, 0)) := (g1.block _ (lt_of_block (unhide R0)) (fun q => hne0 (by simpa using q))).trans (unhide R0)
  have H1 := hide k1
  have G1 := hide (grown_trans (unhide G0) g1)
  have R1 := hide hr
  clear hr k1 g1 H0 G0 R0
  go_wp2_with fail
  refine (unhide T2 _ (unhide H1)).mono ?_
  rintro ee w2 ⟨rfl, k2, g2⟩
  have hr : w2.heap[w.heap.size]? = some (.cells #[.int .u16 0, .int .u8 0, .int .u8 0, .int .u32 0, .int .u32 0, .string ⟨#[]⟩] 31 (0, 0)) := (g2.block _ (lt_of_block (unhide R1)) (fun q => hne0 (by simpa using q))).trans (unhide R1)
  have H2 := hide k2
  have G2 := hide (grown_trans (unhide G1) g2)
  have R2 := hide hr
  clear hr k2 g2 H1 G1 R1
  go_wp2_with fail
  refine (unhide TC _).mono ?_
  rintro ee wz ⟨rfl, hwz⟩
  rw [hwz]
  clear hwz wz
  go_wp2_with fail
  refine (must_if _ (by simp) _ _).mono ?_
  rintro ee wz ⟨rfl, hwz⟩
  rw [hwz]
  clear hwz wz
  have z3 : w.heap.size + 1 ≤ w2.heap.size := by have := (unhide G2).size; have q := lt_of_block (unhide R2); omega
  have hneV : w2.heap.size ≠ B := by have := (unhide H2).lt; omega
  have hlt0 : w.heap.size < w2.heap.size := by omega
  have H3 := hide ((unhide H2).alloc (.cells #[.int .u16 0, .int .u8 0, .int .u8 0, .int .u32 0, .int .u32 0, .string ⟨#[]⟩] 31))
  have G3 := hide (grown_alloc (unhide G2) (.cells #[.int .u16 0, .int .u8 0, .int .u8 0, .int .u32 0, .int .u32 0, .string ⟨#[]⟩] 31))
  have E3 : Hid ((w2.alloc (.cells #[.int .u16 0, .int .u8 0, .int .u8 0, .int .u32 0, .int .u32 0, .string ⟨#[]⟩] 31)).heap[w2.heap.size]? = some (.cells #[.int .u16 0, .int .u8 0, .int .u8 0, .int .u32 0, .int .u32 0, .string ⟨#[]⟩] 31 (0, 0))) := heap_alloc_new w2 _
  have R3 : Hid ((w2.alloc (.cells #[.int .u16 0, .int .u8 0, .int .u8 0, .int .u32 0, .int .u32 0, .string ⟨#[]⟩] 31)).heap[w.heap.size]? = some (.cells #[.int .u16 0, .int .u8 0, .int .u8 0, .int .u32 0, .int .u32 0, .string ⟨#[]⟩] 31 (0, 0))) := by
    show _ = _
    rw [Below.heap_alloc _ _ _ (by omega)]
    exact unhide R2
  clear H2 G2 R2
  go_wp2_with fail
  refine (unhide T3 _ (unhide H3)).mono ?_
  rintro ee w4 ⟨rfl, k4, g4⟩
  have hr : w4.heap[w.heap.size]? = some (.cells #[.int .u16 0, .int .u8 0, .int .u8 0, .int .u32 0, .int .u32 0, .string ⟨#[]⟩] 31 (0, 0)) := (g4.block _ (lt_of_block (unhide R3)) (fun q => hne0 (by simpa using q))).trans (unhide R3)
  have he : w4.heap[w2.heap.size]? = some (.cells #[.int .u16 0, .int .u8 0, .int .u8 0, .int .u32 0, .int .u32 0, .string ⟨#[]⟩] 31 (0, 0)) := (g4.block _ (lt_of_block (unhide E3)) (fun q => hneV (by simpa using q))).trans (unhide E3)
  have c4_0 : w4.cell? ⟨w2.heap.size, 0, none⟩ = some (.int .u16 0) := row_cell he rfl
  have f4 := row_free he
  have E4 : Hid ((w4.setCell ⟨w2.heap.size, 0, none⟩ (.int .u16 x4)).heap[w2.heap.size]? = some (.cells #[.int .u16 x4, .int .u8 0, .int .u8 0, .int .u32 0, .int .u32 0, .string ⟨#[]⟩] 31 (0, 0))) := row_set he 0 (.int .u16 x4)
  have H4 : Hid (Rdr (w4.setCell ⟨w2.heap.size, 0, none⟩ (.int .u16 x4)) B (a6 :: a7 :: a8 :: a9 :: a10 :: a11 :: a12 :: a13 :: a14 :: a15 :: a16 :: a17 :: a18 :: a19 :: l)) := other k4 hneV.symm _
  have G4 : Hid (w.grownBy (w4.setCell ⟨w2.heap.size, 0, none⟩ (.int .u16 x4)) (some B)) := grown_new (grown_trans (unhide G3) g4) (Nat.le_of_lt hlt0) _
  have R4 : Hid ((w4.setCell ⟨w2.heap.size, 0, none⟩ (.int .u16 x4)).heap[w.heap.size]? = some (.cells #[.int .u16 0, .int .u8 0, .int .u8 0, .int .u32 0, .int .u32 0, .string ⟨#[]⟩] 31 (0, 0))) := by
    show _ = _
    rw [Below.heap_setCell _ _ _ _ (Nat.ne_of_lt hlt0)]; exact hr
  clear hr k4 g4 H3 G3 R3 he E3
  go_wp2_with fail
  refine (unhide T4 _ (unhide H4)).mono ?_
  rintro ee w5 ⟨rfl, k5, g5⟩
  have hr : w5.heap[w.heap.size]? = some (.cells #[.int .u16 0, .int .u8 0, .int .u8 0, .int .u32 0, .int .u32 0, .string ⟨#[]⟩] 31 (0, 0)) := (g5.block _ (lt_of_block (unhide R4)) (fun q => hne0 (by simpa using q))).trans (unhide R4)
  have he : w5.heap[w2.heap.size]? = some (.cells #[.int .u16 x4, .int .u8 0, .int .u8 0, .int .u32 0, .int .u32 0, .string ⟨#[]⟩] 31 (0, 0)) := (g5.block _ (lt_of_block (unhide E4)) (fun q => hneV (by simpa using q))).trans (unhide E4)
  have H5 := hide k5
  have G5 := hide (grown_trans (unhide G4) g5)
  have R5 := hide hr
  have E5 := hide he
  clear hr k5 g5 H4 G4 R4 he E4
  go_wp2_with fail
  refine (unhide T5 _ (unhide H5)).mono ?_
  rintro ee w6 ⟨rfl, k6, g6⟩
  have hr : w6.heap[w.heap.size]? = some (.cells #[.int .u16 0, .int .u8 0, .int .u8 0, .int .u32 0, .int .u32 0, .string ⟨#[]⟩] 31 (0, 0)) := (g6.block _ (lt_of_block (unhide R5)) (fun q => hne0 (by simpa using q))).trans (unhide R5)
  have he : w6.heap[w2.heap.size]? = some (.cells #[.int .u16 x4, .int .u8 0, .int .u8 0, .int .u32 0, .int .u32 0, .string ⟨#[]⟩] 31 (0, 0)) := (g6.block _ (lt_of_block (unhide E5)) (fun q => hneV (by simpa using q))).trans (unhide E5)
  have c6_1 : w6.cell? ⟨w2.heap.size, 1, none⟩ = some (.int .u8 0) := row_cell he rfl
  have f6 := row_free he
  have E6 : Hid ((w6.setCell ⟨w2.heap.size, 1, none⟩ (.int .u8 x8)).heap[w2.heap.size]? = some (.cells #[.int .u16 x4, .int .u8 x8, .int .u8 0, .int .u32 0, .int .u32 0, .string ⟨#[]⟩] 31 (0, 0))) := row_set he 1 (.int .u8 x8)
  have H6 : Hid (Rdr (w6.setCell ⟨w2.heap.size, 1, none⟩ (.int .u8 x8)) B (a9 :: a10 :: a11 :: a12 :: a13 :: a14 :: a15 :: a16 :: a17 :: a18 :: a19 :: l)) := other k6 hneV.symm _
  have G6 : Hid (w.grownBy (w6.setCell ⟨w2.heap.size, 1, none⟩ (.int .u8 x8)) (some B)) := grown_new (grown_trans (unhide G5) g6) (Nat.le_of_lt hlt0) _
  have R6 : Hid ((w6.setCell ⟨w2.heap.size, 1, none⟩ (.int .u8 x8)).heap[w.heap.size]? = some (.cells #[.int .u16 0, .int .u8 0, .int .u8 0, .int .u32 0, .int .u32 0, .string ⟨#[]⟩] 31 (0, 0))) := by
    show _ = _
    rw [Below.heap_setCell _ _ _ _ (Nat.ne_of_lt hlt0)]; exact hr
  clear hr k6 g6 H5 G5 R5 he E5
  have cT : (w6.setCell ⟨w2.heap.size, 1, none⟩ (.int .u8 x8)).cell? ⟨w2.heap.size, 1, none⟩ = some (.int .u8 x8) := row_cell (unhide E6) rfl
  have hfn : (bits .and .u16 x6 32768 == 0) = false := by simpa using hf
  go_wp2_with fail
  refine (must_else _ (by simp) _ _).mono ?_
  rintro ee wz ⟨rfl, hwz⟩
  exact ⟨rfl, rfl, by rw [hwz]; exact unhide G6⟩

set_option maxHeartbeats 2000000 in
theorem ip_ttl (B : Nat) (a0 a1 a2 a3 a4 a5 a6 a7 a8 a9 a10 a11 a12 a13 a14 a15 a16 a17 a18 a19 : UInt8) (l : List UInt8) (w : World) (h : Rdr w B (a0 :: a1 :: a2 :: a3 :: a4 :: a5 :: a6 :: a7 :: a8 :: a9 :: a10 :: a11 :: a12 :: a13 :: a14 :: a15 :: a16 :: a17 :: a18 :: a19 :: l)) (hs : (a0 :: a1 :: a2 :: a3 :: a4 :: a5 :: a6 :: a7 :: a8 :: a9 :: a10 :: a11 :: a12 :: a13 :: a14 :: a15 :: a16 :: a17 :: a18 :: a19 :: l).length ≤ maxLen) (h0 : a0.toNat = 69) (k : Nat) (hn : (256 * (a2.toNat : Int) + (a3.toNat : Int)) = 20 + (k : Int)) (hk : k ≤ l.length) (hsum : chk [a0, a1, a2, a3, a4, a5, a6, a7, a8, a9, a10, a11, a12, a13, a14, a15, a16, a17, a18, a19] = 0) (hf : bits .and .u16 (256 * (a6.toNat : Int) + (a7.toNat : Int)) 32768 = 0) (ht : (a8.toNat : Int) = 0) :
    Calls Tryd.prog 30 #[.pointer (some ⟨B, 0, none⟩)] w fun ee w' => ee = .panicked (errP 2) ∧ w.grownBy w' (some B) := by
  obtain ⟨s, hS⟩ : ∃ s : ByteArray, s = ⟨(a0 :: a1 :: a2 :: a3 :: a4 :: a5 :: a6 :: a7 :: a8 :: a9 :: a10 :: a11 :: a12 :: a13 :: a14 :: a15 :: a16 :: a17 :: a18 :: a19 :: l).toArray⟩ := ⟨_, rfl⟩
  have hz : s.size = l.length + 20 := by rw [hS, str_size]; simp
  have hmx : (s.size : Int) ≤ 9223372036854775807 := by rw [hz]; simp only [List.length_cons, maxLen] at hs; omega
  have hk20 : (20 : Int) ≤ (s.size : Int) := by omega
  have hB := h.lt
  have hne0 : w.heap.size ≠ B := by omega
  have H0 := hide (h.alloc (.cells #[.int .u16 0, .int .u8 0, .int .u8 0, .int .u32 0, .int .u32 0, .string ⟨#[]⟩] 31))
  have G0 := hide (grown_alloc (grown_refl w (some B)) (.cells #[.int .u16 0, .int .u8 0, .int .u8 0, .int .u32 0, .int .u32 0, .string ⟨#[]⟩] 31))
  have R0 : Hid ((w.alloc (.cells #[.int .u16 0, .int .u8 0, .int .u8 0, .int .u32 0, .int .u32 0, .string ⟨#[]⟩] 31)).heap[w.heap.size]? = some (.cells #[.int .u16 0, .int .u8 0, .int .u8 0, .int .u32 0, .int .u32 0, .string ⟨#[]⟩] 31 (0, 0))) := heap_alloc_new w _
  have hc0 : (w.alloc (.cells #[.int .u16 0, .int .u8 0, .int .u8 0, .int .u32 0, .int .u32 0, .string ⟨#[]⟩] 31)).cell? ⟨B, 0, none⟩ = some (.string s) := by rw [hS]; exact cell_of_one (unhide H0)
  have hn0 : (20 : Int) ≤ ((a0 :: a1 :: a2 :: a3 :: a4 :: a5 :: a6 :: a7 :: a8 :: a9 :: a10 :: a11 :: a12 :: a13 :: a14 :: a15 :: a16 :: a17 :: a18 :: a19 :: l).length : Int) := by simp only [List.length_cons]; omega
  have HN0 := hide hn0
  clear h hn0
  have T1 := hide (fun u hu => ipFirst_ok B a0 a1 (a2 :: a3 :: a4 :: a5 :: a6 :: a7 :: a8 :: a9 :: a10 :: a11 :: a12 :: a13 :: a14 :: a15 :: a16 :: a17 :: a18 :: a19 :: l) u hu hs h0)
  have T2 := (fun u hu => length_ok B a2 a3 (a4 :: a5 :: a6 :: a7 :: a8 :: a9 :: a10 :: a11 :: a12 :: a13 :: a14 :: a15 :: a16 :: a17 :: a18 :: a19 :: l) 20 (s.size : Int) u hu (by simp only [List.length_cons, maxLen] at hs ⊢; omega) (by omega) (by omega))
  rw [hn] at T2
  have T2 := hide T2
  have TC := (fun u => Chk.wire_check (s.extract 0 20) u (by rw [ByteArray.size_extract]; omega))
  have ec : 65535 - Chk.fold (Chk.wsum (s.extract 0 20).data.toList) = chk [a0, a1, a2, a3, a4, a5, a6, a7, a8, a9, a10, a11, a12, a13, a14, a15, a16, a17, a18, a19] := by
    rw [hS, str_take]; simp [chk]
  obtain ⟨c, hc⟩ : ∃ c, c = chk [a0, a1, a2, a3, a4, a5, a6, a7, a8, a9, a10, a11, a12, a13, a14, a15, a16, a17, a18, a19] := ⟨_, rfl⟩
  rw [ec, ← hc] at TC
  rw [← hc] at hsum
  have TC := hide TC
  subst hsum
  have T3 := hide (fun u hu => word_ok B a4 a5 (a6 :: a7 :: a8 :: a9 :: a10 :: a11 :: a12 :: a13 :: a14 :: a15 :: a16 :: a17 :: a18 :: a19 :: l) u hu (by simp only [List.length_cons, maxLen] at hs ⊢; omega))
  have T4 := hide (fun u hu => word_ok B a6 a7 (a8 :: a9 :: a10 :: a11 :: a12 :: a13 :: a14 :: a15 :: a16 :: a17 :: a18 :: a19 :: l) u hu (by simp only [List.length_cons, maxLen] at hs ⊢; omega))
  have T5 := hide (fun u hu => byte_ok B a8 (a9 :: a10 :: a11 :: a12 :: a13 :: a14 :: a15 :: a16 :: a17 :: a18 :: a19 :: l) u hu (by simp only [List.length_cons, maxLen] at hs ⊢; omega))
  obtain ⟨x4, hx4⟩ : ∃ x, x = (256 * (a4.toNat : Int) + (a5.toNat : Int)) := ⟨_, rfl⟩
  obtain ⟨x6, hx6⟩ : ∃ x, x = (256 * (a6.toNat : Int) + (a7.toNat : Int)) := ⟨_, rfl⟩
  obtain ⟨x8, hx8⟩ : ∃ x, x = (a8.toNat : Int) := ⟨_, rfl⟩
  rw [← hx4] at T3
  rw [← hx6] at T4 hf
  rw [← hx8] at T5 ht
  clear hx4 hx6 hx8
  subst ht
  clear hS hz ec hc h0 hn
  go_enter Tryd.func30, Tryd.ntmps30
  go_wp2_with fail
  refine (need_ok _ _ _ _ (unhide H0) (unhide HN0)).mono ?_
  rintro ee wz ⟨rfl, hwz⟩
  rw [hwz]
  clear hwz wz
  go_wp2_with fail
  refine (unhide T1 _ (unhide H0)).mono ?_
  rintro ee w1 ⟨rfl, k1, g1⟩
  have hr : w1.heap[w.heap.size]? = some (.cells #[.int .u16 0, .int .u8 0, .int .u8 0, .int .u32 0, .int .u32 0, .string ⟨#[]⟩] 31 (0, 0)) := (g1.block _ (lt_of_block (unhide R0)) (fun q => hne0 (by simpa using q))).trans (unhide R0)
  have H1 := hide k1
  have G1 := hide (grown_trans (unhide G0) g1)
  have R1 := hide hr
  clear hr k1 g1 H0 G0 R0
  go_wp2_with fail
  refine (unhide T2 _ (unhide H1)).mono ?_
  rintro ee w2 ⟨rfl, k2, g2⟩
  have hr : w2.heap[w.heap.size]? = some (.cells #[.int .u16 0, .int .u8 0, .int .u8 0, .int .u32 0, .int .u32 0, .string ⟨#[]⟩] 31 (0, 0)) := (g2.block _ (lt_of_block (unhide R1)) (fun q => hne0 (by simpa using q))).trans (unhide R1)
  have H2 := hide k2
  have G2 := hide (grown_trans (unhide G1) g2)
  have R2 := hide hr
  clear hr k2 g2 H1 G1 R1
  go_wp2_with fail
  refine (unhide TC _).mono ?_
  rintro ee wz ⟨rfl, hwz⟩
  rw [hwz]
  clear hwz wz
  go_wp2_with fail
  refine (must_if _ (by simp) _ _).mono ?_
  rintro ee wz ⟨rfl, hwz⟩
  rw [hwz]
  clear hwz wz
  have z3 : w.heap.size + 1 ≤ w2.heap.size := by have := (unhide G2).size; have q := lt_of_block (unhide R2); omega
  have hneV : w2.heap.size ≠ B := by have := (unhide H2).lt; omega
  have hlt0 : w.heap.size < w2.heap.size := by omega
  have H3 := hide ((unhide H2).alloc (.cells #[.int .u16 0, .int .u8 0, .int .u8 0, .int .u32 0, .int .u32 0, .string ⟨#[]⟩] 31))
  have G3 := hide (grown_alloc (unhide G2) (.cells #[.int .u16 0, .int .u8 0, .int .u8 0, .int .u32 0, .int .u32 0, .string ⟨#[]⟩] 31))
  have E3 : Hid ((w2.alloc (.cells #[.int .u16 0, .int .u8 0, .int .u8 0, .int .u32 0, .int .u32 0, .string ⟨#[]⟩] 31)).heap[w2.heap.size]? = some (.cells #[.int .u16 0, .int .u8 0, .int .u8 0, .int .u32 0, .int .u32 0, .string ⟨#[]⟩] 31 (0, 0))) := heap_alloc_new w2 _
  have R3 : Hid ((w2.alloc (.cells #[.int .u16 0, .int .u8 0, .int .u8 0, .int .u32 0, .int .u32 0, .string ⟨#[]⟩] 31)).heap[w.heap.size]? = some (.cells #[.int .u16 0, .int .u8 0, .int .u8 0, .int .u32 0, .int .u32 0, .string ⟨#[]⟩] 31 (0, 0))) := by
    show _ = _
    rw [Below.heap_alloc _ _ _ (by omega)]
    exact unhide R2
  clear H2 G2 R2
  go_wp2_with fail
  refine (unhide T3 _ (unhide H3)).mono ?_
  rintro ee w4 ⟨rfl, k4, g4⟩
  have hr : w4.heap[w.heap.size]? = some (.cells #[.int .u16 0, .int .u8 0, .int .u8 0, .int .u32 0, .int .u32 0, .string ⟨#[]⟩] 31 (0, 0)) := (g4.block _ (lt_of_block (unhide R3)) (fun q => hne0 (by simpa using q))).trans (unhide R3)
  have he : w4.heap[w2.heap.size]? = some (.cells #[.int .u16 0, .int .u8 0, .int .u8 0, .int .u32 0, .int .u32 0, .string ⟨#[]⟩] 31 (0, 0)) := (g4.block _ (lt_of_block (unhide E3)) (fun q => hneV (by simpa using q))).trans (unhide E3)
  have c4_0 : w4.cell? ⟨w2.heap.size, 0, none⟩ = some (.int .u16 0) := row_cell he rfl
  have f4 := row_free he
  have E4 : Hid ((w4.setCell ⟨w2.heap.size, 0, none⟩ (.int .u16 x4)).heap[w2.heap.size]? = some (.cells #[.int .u16 x4, .int .u8 0, .int .u8 0, .int .u32 0, .int .u32 0, .string ⟨#[]⟩] 31 (0, 0))) := row_set he 0 (.int .u16 x4)
  have H4 : Hid (Rdr (w4.setCell ⟨w2.heap.size, 0, none⟩ (.int .u16 x4)) B (a6 :: a7 :: a8 :: a9 :: a10 :: a11 :: a12 :: a13 :: a14 :: a15 :: a16 :: a17 :: a18 :: a19 :: l)) := other k4 hneV.symm _
  have G4 : Hid (w.grownBy (w4.setCell ⟨w2.heap.size, 0, none⟩ (.int .u16 x4)) (some B)) := grown_new (grown_trans (unhide G3) g4) (Nat.le_of_lt hlt0) _
  have R4 : Hid ((w4.setCell ⟨w2.heap.size, 0, none⟩ (.int .u16 x4)).heap[w.heap.size]? = some (.cells #[.int .u16 0, .int .u8 0, .int .u8 0, .int .u32 0, .int .u32 0, .string ⟨#[]⟩] 31 (0, 0))) := by
    show _ = _
    rw [Below.heap_setCell _ _ _ _ (Nat.ne_of_lt hlt0)]; exact hr
  clear hr k4 g4 H3 G3 R3 he E3
  go_wp2_with fail
  refine (unhide T4 _ (unhide H4)).mono ?_
  rintro ee w5 ⟨rfl, k5, g5⟩
  have hr : w5.heap[w.heap.size]? = some (.cells #[.int .u16 0, .int .u8 0, .int .u8 0, .int .u32 0, .int .u32 0, .string ⟨#[]⟩] 31 (0, 0)) := (g5.block _ (lt_of_block (unhide R4)) (fun q => hne0 (by simpa using q))).trans (unhide R4)
  have he : w5.heap[w2.heap.size]? = some (.cells #[.int .u16 x4, .int .u8 0, .int .u8 0, .int .u32 0, .int .u32 0, .string ⟨#[]⟩] 31 (0, 0)) := (g5.block _ (lt_of_block (unhide E4)) (fun q => hneV (by simpa using q))).trans (unhide E4)
  have H5 := hide k5
  have G5 := hide (grown_trans (unhide G4) g5)
  have R5 := hide hr
  have E5 := hide he
  clear hr k5 g5 H4 G4 R4 he E4
  go_wp2_with fail
  refine (unhide T5 _ (unhide H5)).mono ?_
  rintro ee w6 ⟨rfl, k6, g6⟩
  have hr : w6.heap[w.heap.size]? = some (.cells #[.int .u16 0, .int .u8 0, .int .u8 0, .int .u32 0, .int .u32 0, .string ⟨#[]⟩] 31 (0, 0)) := (g6.block _ (lt_of_block (unhide R5)) (fun q => hne0 (by simpa using q))).trans (unhide R5)
  have he : w6.heap[w2.heap.size]? = some (.cells #[.int .u16 x4, .int .u8 0, .int .u8 0, .int .u32 0, .int .u32 0, .string ⟨#[]⟩] 31 (0, 0)) := (g6.block _ (lt_of_block (unhide E5)) (fun q => hneV (by simpa using q))).trans (unhide E5)
  have c6_1 : w6.cell? ⟨w2.heap.size, 1, none⟩ = some (.int .u8 0) := row_cell he rfl
  have f6 := row_free he
  have E6 : Hid ((w6.setCell ⟨w2.heap.size, 1, none⟩ (.int .u8 0)).heap[w2.heap.size]? = some (.cells #[.int .u16 x4, .int .u8 0, .int .u8 0, .int .u32 0, .int .u32 0, .string ⟨#[]⟩] 31 (0, 0))) := row_set he 1 (.int .u8 0)
  have H6 : Hid (Rdr (w6.setCell ⟨w2.heap.size, 1, none⟩ (.int .u8 0)) B (a9 :: a10 :: a11 :: a12 :: a13 :: a14 :: a15 :: a16 :: a17 :: a18 :: a19 :: l)) := other k6 hneV.symm _
  have G6 : Hid (w.grownBy (w6.setCell ⟨w2.heap.size, 1, none⟩ (.int .u8 0)) (some B)) := grown_new (grown_trans (unhide G5) g6) (Nat.le_of_lt hlt0) _
  have R6 : Hid ((w6.setCell ⟨w2.heap.size, 1, none⟩ (.int .u8 0)).heap[w.heap.size]? = some (.cells #[.int .u16 0, .int .u8 0, .int .u8 0, .int .u32 0, .int .u32 0, .string ⟨#[]⟩] 31 (0, 0))) := by
    show _ = _
    rw [Below.heap_setCell _ _ _ _ (Nat.ne_of_lt hlt0)]; exact hr
  clear hr k6 g6 H5 G5 R5 he E5
  have cT : (w6.setCell ⟨w2.heap.size, 1, none⟩ (.int .u8 0)).cell? ⟨w2.heap.size, 1, none⟩ = some (.int .u8 0) := row_cell (unhide E6) rfl
  go_wp2_with fail
  refine (must_else _ (by simp) _ _).mono ?_
  rintro ee wz ⟨rfl, hwz⟩
  exact ⟨rfl, rfl, by rw [hwz]; exact unhide G6⟩

set_option maxHeartbeats 2000000 in
theorem ip_frag (B : Nat) (a0 a1 a2 a3 a4 a5 a6 a7 a8 a9 a10 a11 a12 a13 a14 a15 a16 a17 a18 a19 : UInt8) (l : List UInt8) (w : World) (h : Rdr w B (a0 :: a1 :: a2 :: a3 :: a4 :: a5 :: a6 :: a7 :: a8 :: a9 :: a10 :: a11 :: a12 :: a13 :: a14 :: a15 :: a16 :: a17 :: a18 :: a19 :: l)) (hs : (a0 :: a1 :: a2 :: a3 :: a4 :: a5 :: a6 :: a7 :: a8 :: a9 :: a10 :: a11 :: a12 :: a13 :: a14 :: a15 :: a16 :: a17 :: a18 :: a19 :: l).length ≤ maxLen) (h0 : a0.toNat = 69) (k : Nat) (hn : (256 * (a2.toNat : Int) + (a3.toNat : Int)) = 20 + (k : Int)) (hk : k ≤ l.length) (hsum : chk [a0, a1, a2, a3, a4, a5, a6, a7, a8, a9, a10, a11, a12, a13, a14, a15, a16, a17, a18, a19] = 0) (hf : bits .and .u16 (256 * (a6.toNat : Int) + (a7.toNat : Int)) 32768 = 0) (ht : (a8.toNat : Int) ≠ 0) (hp : bits .and .u16 (256 * (a6.toNat : Int) + (a7.toNat : Int)) 16383 ≠ 0) :
    Calls Tryd.prog 30 #[.pointer (some ⟨B, 0, none⟩)] w fun ee w' => ee = .panicked (errP 5) ∧ w.grownBy w' (some B) := by
  obtain ⟨s, hS⟩ : ∃ s : ByteArray, s = ⟨(a0 :: a1 :: a2 :: a3 :: a4 :: a5 :: a6 :: a7 :: a8 :: a9 :: a10 :: a11 :: a12 :: a13 :: a14 :: a15 :: a16 :: a17 :: a18 :: a19 :: l).toArray⟩ := ⟨_, rfl⟩
  have hz : s.size = l.length + 20 := by rw [hS, str_size]; simp
  have hmx : (s.size : Int) ≤ 9223372036854775807 := by rw [hz]; simp only [List.length_cons, maxLen] at hs; omega
  have hk20 : (20 : Int) ≤ (s.size : Int) := by omega
  have hB := h.lt
  have hne0 : w.heap.size ≠ B := by omega
  have H0 := hide (h.alloc (.cells #[.int .u16 0, .int .u8 0, .int .u8 0, .int .u32 0, .int .u32 0, .string ⟨#[]⟩] 31))
  have G0 := hide (grown_alloc (grown_refl w (some B)) (.cells #[.int .u16 0, .int .u8 0, .int .u8 0, .int .u32 0, .int .u32 0, .string ⟨#[]⟩] 31))
  have R0 : Hid ((w.alloc (.cells #[.int .u16 0, .int .u8 0, .int .u8 0, .int .u32 0, .int .u32 0, .string ⟨#[]⟩] 31)).heap[w.heap.size]? = some (.cells #[.int .u16 0, .int .u8 0, .int .u8 0, .int .u32 0, .int .u32 0, .string ⟨#[]⟩] 31 (0, 0))) := heap_alloc_new w _
  have hc0 : (w.alloc (.cells #[.int .u16 0, .int .u8 0, .int .u8 0, .int .u32 0, .int .u32 0, .string ⟨#[]⟩] 31)).cell? ⟨B, 0, none⟩ = some (.string s) := by rw [hS]; exact cell_of_one (unhide H0)
  have hn0 : (20 : Int) ≤ ((a0 :: a1 :: a2 :: a3 :: a4 :: a5 :: a6 :: a7 :: a8 :: a9 :: a10 :: a11 :: a12 :: a13 :: a14 :: a15 :: a16 :: a17 :: a18 :: a19 :: l).length : Int) := by simp only [List.length_cons]; omega
  have HN0 := hide hn0
  clear h hn0
  have T1 := hide (fun u hu => ipFirst_ok B a0 a1 (a2 :: a3 :: a4 :: a5 :: a6 :: a7 :: a8 :: a9 :: a10 :: a11 :: a12 :: a13 :: a14 :: a15 :: a16 :: a17 :: a18 :: a19 :: l) u hu hs h0)
  have T2 := (fun u hu => length_ok B a2 a3 (a4 :: a5 :: a6 :: a7 :: a8 :: a9 :: a10 :: a11 :: a12 :: a13 :: a14 :: a15 :: a16 :: a17 :: a18 :: a19 :: l) 20 (s.size : Int) u hu (by simp only [List.length_cons, maxLen] at hs ⊢; omega) (by omega) (by omega))
  rw [hn] at T2
  have T2 := hide T2
  have TC := (fun u => Chk.wire_check (s.extract 0 20) u (by rw [ByteArray.size_extract]; omega))
  have ec : 65535 - Chk.fold (Chk.wsum (s.extract 0 20).data.toList) = chk [a0, a1, a2, a3, a4, a5, a6, a7, a8, a9, a10, a11, a12, a13, a14, a15, a16, a17, a18, a19] := by
    rw [hS, str_take]; simp [chk]
  obtain ⟨c, hc⟩ : ∃ c, c = chk [a0, a1, a2, a3, a4, a5, a6, a7, a8, a9, a10, a11, a12, a13, a14, a15, a16, a17, a18, a19] := ⟨_, rfl⟩
  rw [ec, ← hc] at TC
  rw [← hc] at hsum
  have TC := hide TC
  subst hsum
  have T3 := hide (fun u hu => word_ok B a4 a5 (a6 :: a7 :: a8 :: a9 :: a10 :: a11 :: a12 :: a13 :: a14 :: a15 :: a16 :: a17 :: a18 :: a19 :: l) u hu (by simp only [List.length_cons, maxLen] at hs ⊢; omega))
  have T4 := hide (fun u hu => word_ok B a6 a7 (a8 :: a9 :: a10 :: a11 :: a12 :: a13 :: a14 :: a15 :: a16 :: a17 :: a18 :: a19 :: l) u hu (by simp only [List.length_cons, maxLen] at hs ⊢; omega))
  have T5 := hide (fun u hu => byte_ok B a8 (a9 :: a10 :: a11 :: a12 :: a13 :: a14 :: a15 :: a16 :: a17 :: a18 :: a19 :: l) u hu (by simp only [List.length_cons, maxLen] at hs ⊢; omega))
  obtain ⟨x4, hx4⟩ : ∃ x, x = (256 * (a4.toNat : Int) + (a5.toNat : Int)) := ⟨_, rfl⟩
  obtain ⟨x6, hx6⟩ : ∃ x, x = (256 * (a6.toNat : Int) + (a7.toNat : Int)) := ⟨_, rfl⟩
  obtain ⟨x8, hx8⟩ : ∃ x, x = (a8.toNat : Int) := ⟨_, rfl⟩
  rw [← hx4] at T3
  rw [← hx6] at T4 hf hp
  rw [← hx8] at T5 ht
  clear hx4 hx6 hx8
  clear hS hz ec hc h0 hn
  go_enter Tryd.func30, Tryd.ntmps30
  go_wp2_with fail
  refine (need_ok _ _ _ _ (unhide H0) (unhide HN0)).mono ?_
  rintro ee wz ⟨rfl, hwz⟩
  rw [hwz]
  clear hwz wz
  go_wp2_with fail
  refine (unhide T1 _ (unhide H0)).mono ?_
  rintro ee w1 ⟨rfl, k1, g1⟩
  have hr : w1.heap[w.heap.size]? = some (.cells #[.int .u16 0, .int .u8 0, .int .u8 0, .int .u32 0, .int .u32 0, .string ⟨#[]⟩] 31 (0, 0)) := (g1.block _ (lt_of_block (unhide R0)) (fun q => hne0 (by simpa using q))).trans (unhide R0)
  have H1 := hide k1
  have G1 := hide (grown_trans (unhide G0) g1)
  have R1 := hide hr
  clear hr k1 g1 H0 G0 R0
  go_wp2_with fail
  refine (unhide T2 _ (unhide H1)).mono ?_
  rintro ee w2 ⟨rfl, k2, g2⟩
  have hr : w2.heap[w.heap.size]? = some (.cells #[.int .u16 0, .int .u8 0, .int .u8 0, .int .u32 0, .int .u32 0, .string ⟨#[]⟩] 31 (0, 0)) := (g2.block _ (lt_of_block (unhide R1)) (fun q => hne0 (by simpa using q))).trans (unhide R1)
  have H2 := hide k2
  have G2 := hide (grown_trans (unhide G1) g2)
  have R2 := hide hr
  clear hr k2 g2 H1 G1 R1
  go_wp2_with fail
  refine (unhide TC _).mono ?_
  rintro ee wz ⟨rfl, hwz⟩
  rw [hwz]
  clear hwz wz
  go_wp2_with fail
  refine (must_if _ (by simp) _ _).mono ?_
  rintro ee wz ⟨rfl, hwz⟩
  rw [hwz]
  clear hwz wz
  have z3 : w.heap.size + 1 ≤ w2.heap.size := by have := (unhide G2).size; have q := lt_of_block (unhide R2); omega
  have hneV : w2.heap.size ≠ B := by have := (unhide H2).lt; omega
  have hlt0 : w.heap.size < w2.heap.size := by omega
  have H3 := hide ((unhide H2).alloc (.cells #[.int .u16 0, .int .u8 0, .int .u8 0, .int .u32 0, .int .u32 0, .string ⟨#[]⟩] 31))
  have G3 := hide (grown_alloc (unhide G2) (.cells #[.int .u16 0, .int .u8 0, .int .u8 0, .int .u32 0, .int .u32 0, .string ⟨#[]⟩] 31))
  have E3 : Hid ((w2.alloc (.cells #[.int .u16 0, .int .u8 0, .int .u8 0, .int .u32 0, .int .u32 0, .string ⟨#[]⟩] 31)).heap[w2.heap.size]? = some (.cells #[.int .u16 0, .int .u8 0, .int .u8 0, .int .u32 0, .int .u32 0, .string ⟨#[]⟩] 31 (0, 0))) := heap_alloc_new w2 _
  have R3 : Hid ((w2.alloc (.cells #[.int .u16 0, .int .u8 0, .int .u8 0, .int .u32 0, .int .u32 0, .string ⟨#[]⟩] 31)).heap[w.heap.size]? = some (.cells #[.int .u16 0, .int .u8 0, .int .u8 0, .int .u32 0, .int .u32 0, .string ⟨#[]⟩] 31 (0, 0))) := by
    show _ = _
    rw [Below.heap_alloc _ _ _ (by omega)]
    exact unhide R2
  clear H2 G2 R2
  go_wp2_with fail
  refine (unhide T3 _ (unhide H3)).mono ?_
  rintro ee w4 ⟨rfl, k4, g4⟩
  have hr : w4.heap[w.heap.size]? = some (.cells #[.int .u16 0, .int .u8 0, .int .u8 0, .int .u32 0, .int .u32 0, .string ⟨#[]⟩] 31 (0, 0)) := (g4.block _ (lt_of_block (unhide R3)) (fun q => hne0 (by simpa using q))).trans (unhide R3)
  have he : w4.heap[w2.heap.size]? = some (.cells #[.int .u16 0, .int .u8 0, .int .u8 0, .int .u32 0, .int .u32 0, .string ⟨#[]⟩] 31 (0, 0)) := (g4.block _ (lt_of_block (unhide E3)) (fun q => hneV (by simpa using q))).trans (unhide E3)
  have c4_0 : w4.cell? ⟨w2.heap.size, 0, none⟩ = some (.int .u16 0) := row_cell he rfl
  have f4 := row_free he
  have E4 : Hid ((w4.setCell ⟨w2.heap.size, 0, none⟩ (.int .u16 x4)).heap[w2.heap.size]? = some (.cells #[.int .u16 x4, .int .u8 0, .int .u8 0, .int .u32 0, .int .u32 0, .string ⟨#[]⟩] 31 (0, 0))) := row_set he 0 (.int .u16 x4)
  have H4 : Hid (Rdr (w4.setCell ⟨w2.heap.size, 0, none⟩ (.int .u16 x4)) B (a6 :: a7 :: a8 :: a9 :: a10 :: a11 :: a12 :: a13 :: a14 :: a15 :: a16 :: a17 :: a18 :: a19 :: l)) := other k4 hneV.symm _
  have G4 : Hid (w.grownBy (w4.setCell ⟨w2.heap.size, 0, none⟩ (.int .u16 x4)) (some B)) := grown_new (grown_trans (unhide G3) g4) (Nat.le_of_lt hlt0) _
  have R4 : Hid ((w4.setCell ⟨w2.heap.size, 0, none⟩ (.int .u16 x4)).heap[w.heap.size]? = some (.cells #[.int .u16 0, .int .u8 0, .int .u8 0, .int .u32 0, .int .u32 0, .string ⟨#[]⟩] 31 (0, 0))) := by
    show _ = _
    rw [Below.heap_setCell _ _ _ _ (Nat.ne_of_lt hlt0)]; exact hr
  clear hr k4 g4 H3 G3 R3 he E3
  go_wp2_with fail
  refine (unhide T4 _ (unhide H4)).mono ?_
  rintro ee w5 ⟨rfl, k5, g5⟩
  have hr : w5.heap[w.heap.size]? = some (.cells #[.int .u16 0, .int .u8 0, .int .u8 0, .int .u32 0, .int .u32 0, .string ⟨#[]⟩] 31 (0, 0)) := (g5.block _ (lt_of_block (unhide R4)) (fun q => hne0 (by simpa using q))).trans (unhide R4)
  have he : w5.heap[w2.heap.size]? = some (.cells #[.int .u16 x4, .int .u8 0, .int .u8 0, .int .u32 0, .int .u32 0, .string ⟨#[]⟩] 31 (0, 0)) := (g5.block _ (lt_of_block (unhide E4)) (fun q => hneV (by simpa using q))).trans (unhide E4)
  have H5 := hide k5
  have G5 := hide (grown_trans (unhide G4) g5)
  have R5 := hide hr
  have E5 := hide he
  clear hr k5 g5 H4 G4 R4 he E4
  go_wp2_with fail
  refine (unhide T5 _ (unhide H5)).mono ?_
  rintro ee w6 ⟨rfl, k6, g6⟩
  have hr : w6.heap[w.heap.size]? = some (.cells #[.int .u16 0, .int .u8 0, .int .u8 0, .int .u32 0, .int .u32 0, .string ⟨#[]⟩] 31 (0, 0)) := (g6.block _ (lt_of_block (unhide R5)) (fun q => hne0 (by simpa using q))).trans (unhide R5)
  have he : w6.heap[w2.heap.size]? = some (.cells #[.int .u16 x4, .int .u8 0, .int .u8 0, .int .u32 0, .int .u32 0, .string ⟨#[]⟩] 31 (0, 0)) := (g6.block _ (lt_of_block (unhide E5)) (fun q => hneV (by simpa using q))).trans (unhide E5)
  have c6_1 : w6.cell? ⟨w2.heap.size, 1, none⟩ = some (.int .u8 0) := row_cell he rfl
  have f6 := row_free he
  have E6 : Hid ((w6.setCell ⟨w2.heap.size, 1, none⟩ (.int .u8 x8)).heap[w2.heap.size]? = some (.cells #[.int .u16 x4, .int .u8 x8, .int .u8 0, .int .u32 0, .int .u32 0, .string ⟨#[]⟩] 31 (0, 0))) := row_set he 1 (.int .u8 x8)
  have H6 : Hid (Rdr (w6.setCell ⟨w2.heap.size, 1, none⟩ (.int .u8 x8)) B (a9 :: a10 :: a11 :: a12 :: a13 :: a14 :: a15 :: a16 :: a17 :: a18 :: a19 :: l)) := other k6 hneV.symm _
  have G6 : Hid (w.grownBy (w6.setCell ⟨w2.heap.size, 1, none⟩ (.int .u8 x8)) (some B)) := grown_new (grown_trans (unhide G5) g6) (Nat.le_of_lt hlt0) _
  have R6 : Hid ((w6.setCell ⟨w2.heap.size, 1, none⟩ (.int .u8 x8)).heap[w.heap.size]? = some (.cells #[.int .u16 0, .int .u8 0, .int .u8 0, .int .u32 0, .int .u32 0, .string ⟨#[]⟩] 31 (0, 0))) := by
    show _ = _
    rw [Below.heap_setCell _ _ _ _ (Nat.ne_of_lt hlt0)]; exact hr
  clear hr k6 g6 H5 G5 R5 he E5
  have cT : (w6.setCell ⟨w2.heap.size, 1, none⟩ (.int .u8 x8)).cell? ⟨w2.heap.size, 1, none⟩ = some (.int .u8 x8) := row_cell (unhide E6) rfl
  have htn : (x8 == 0) = false := by simpa using ht
  go_wp2_with fail
  refine (must_if _ (by simpa using ht) _ _).mono ?_
  rintro ee wz ⟨rfl, hwz⟩
  rw [hwz]
  clear hwz wz
  have hpn : (bits .and .u16 x6 16383 == 0) = false := by simpa using hp
  go_wp2_with fail
  refine (must_else _ (by simp) _ _).mono ?_
  rintro ee wz ⟨rfl, hwz⟩
  exact ⟨rfl, rfl, by rw [hwz]; exact unhide G6⟩

set_option maxHeartbeats 2000000 in
theorem ip_ok (B : Nat) (a0 a1 a2 a3 a4 a5 a6 a7 a8 a9 a10 a11 a12 a13 a14 a15 a16 a17 a18 a19 : UInt8) (l : List UInt8) (w : World) (h : Rdr w B (a0 :: a1 :: a2 :: a3 :: a4 :: a5 :: a6 :: a7 :: a8 :: a9 :: a10 :: a11 :: a12 :: a13 :: a14 :: a15 :: a16 :: a17 :: a18 :: a19 :: l)) (hs : (a0 :: a1 :: a2 :: a3 :: a4 :: a5 :: a6 :: a7 :: a8 :: a9 :: a10 :: a11 :: a12 :: a13 :: a14 :: a15 :: a16 :: a17 :: a18 :: a19 :: l).length ≤ maxLen) (h0 : a0.toNat = 69) (k : Nat) (hn : (256 * (a2.toNat : Int) + (a3.toNat : Int)) = 20 + (k : Int)) (hk : k ≤ l.length) (hsum : chk [a0, a1, a2, a3, a4, a5, a6, a7, a8, a9, a10, a11, a12, a13, a14, a15, a16, a17, a18, a19] = 0) (hf : bits .and .u16 (256 * (a6.toNat : Int) + (a7.toNat : Int)) 32768 = 0) (ht : (a8.toNat : Int) ≠ 0) (hp : bits .and .u16 (256 * (a6.toNat : Int) + (a7.toNat : Int)) 16383 = 0) (hL : l.length ≤ 1099511627776) :
    Calls Tryd.prog 30 #[.pointer (some ⟨B, 0, none⟩)] w fun ee w' => ee = .returned (.agg #[.int .u16 (256 * (a4.toNat : Int) + (a5.toNat : Int)), .int .u8 (a8.toNat : Int), .int .u8 (a9.toNat : Int), .int .u32 (16777216 * (a12.toNat : Int) + 65536 * (a13.toNat : Int) + 256 * (a14.toNat : Int) + (a15.toNat : Int)), .int .u32 (16777216 * (a16.toNat : Int) + 65536 * (a17.toNat : Int) + 256 * (a18.toNat : Int) + (a19.toNat : Int)), .string ⟨(l.take k).toArray⟩]) ∧ w.grownBy w' (some B) := by
  obtain ⟨s, hS⟩ : ∃ s : ByteArray, s = ⟨(a0 :: a1 :: a2 :: a3 :: a4 :: a5 :: a6 :: a7 :: a8 :: a9 :: a10 :: a11 :: a12 :: a13 :: a14 :: a15 :: a16 :: a17 :: a18 :: a19 :: l).toArray⟩ := ⟨_, rfl⟩
  have hz : s.size = l.length + 20 := by rw [hS, str_size]; simp
  have hmx : (s.size : Int) ≤ 9223372036854775807 := by rw [hz]; simp only [List.length_cons, maxLen] at hs; omega
  have hk20 : (20 : Int) ≤ (s.size : Int) := by omega
  have hB := h.lt
  have hne0 : w.heap.size ≠ B := by omega
  have H0 := hide (h.alloc (.cells #[.int .u16 0, .int .u8 0, .int .u8 0, .int .u32 0, .int .u32 0, .string ⟨#[]⟩] 31))
  have G0 := hide (grown_alloc (grown_refl w (some B)) (.cells #[.int .u16 0, .int .u8 0, .int .u8 0, .int .u32 0, .int .u32 0, .string ⟨#[]⟩] 31))
  have R0 : Hid ((w.alloc (.cells #[.int .u16 0, .int .u8 0, .int .u8 0, .int .u32 0, .int .u32 0, .string ⟨#[]⟩] 31)).heap[w.heap.size]? = some (.cells #[.int .u16 0, .int .u8 0, .int .u8 0, .int .u32 0, .int .u32 0, .string ⟨#[]⟩] 31 (0, 0))) := heap_alloc_new w _
  have hc0 : (w.alloc (.cells #[.int .u16 0, .int .u8 0, .int .u8 0, .int .u32 0, .int .u32 0, .string ⟨#[]⟩] 31)).cell? ⟨B, 0, none⟩ = some (.string s) := by rw [hS]; exact cell_of_one (unhide H0)
  have hn0 : (20 : Int) ≤ ((a0 :: a1 :: a2 :: a3 :: a4 :: a5 :: a6 :: a7 :: a8 :: a9 :: a10 :: a11 :: a12 :: a13 :: a14 :: a15 :: a16 :: a17 :: a18 :: a19 :: l).length : Int) := by simp only [List.length_cons]; omega
  have HN0 := hide hn0
  clear h hn0
  have T1 := hide (fun u hu => ipFirst_ok B a0 a1 (a2 :: a3 :: a4 :: a5 :: a6 :: a7 :: a8 :: a9 :: a10 :: a11 :: a12 :: a13 :: a14 :: a15 :: a16 :: a17 :: a18 :: a19 :: l) u hu hs h0)
  have T2 := (fun u hu => length_ok B a2 a3 (a4 :: a5 :: a6 :: a7 :: a8 :: a9 :: a10 :: a11 :: a12 :: a13 :: a14 :: a15 :: a16 :: a17 :: a18 :: a19 :: l) 20 (s.size : Int) u hu (by simp only [List.length_cons, maxLen] at hs ⊢; omega) (by omega) (by omega))
  rw [hn] at T2
  have T2 := hide T2
  have TC := (fun u => Chk.wire_check (s.extract 0 20) u (by rw [ByteArray.size_extract]; omega))
  have ec : 65535 - Chk.fold (Chk.wsum (s.extract 0 20).data.toList) = chk [a0, a1, a2, a3, a4, a5, a6, a7, a8, a9, a10, a11, a12, a13, a14, a15, a16, a17, a18, a19] := by
    rw [hS, str_take]; simp [chk]
  obtain ⟨c, hc⟩ : ∃ c, c = chk [a0, a1, a2, a3, a4, a5, a6, a7, a8, a9, a10, a11, a12, a13, a14, a15, a16, a17, a18, a19] := ⟨_, rfl⟩
  rw [ec, ← hc] at TC
  rw [← hc] at hsum
  have TC := hide TC
  subst hsum
  have T3 := hide (fun u hu => word_ok B a4 a5 (a6 :: a7 :: a8 :: a9 :: a10 :: a11 :: a12 :: a13 :: a14 :: a15 :: a16 :: a17 :: a18 :: a19 :: l) u hu (by simp only [List.length_cons, maxLen] at hs ⊢; omega))
  have T4 := hide (fun u hu => word_ok B a6 a7 (a8 :: a9 :: a10 :: a11 :: a12 :: a13 :: a14 :: a15 :: a16 :: a17 :: a18 :: a19 :: l) u hu (by simp only [List.length_cons, maxLen] at hs ⊢; omega))
  have T5 := hide (fun u hu => byte_ok B a8 (a9 :: a10 :: a11 :: a12 :: a13 :: a14 :: a15 :: a16 :: a17 :: a18 :: a19 :: l) u hu (by simp only [List.length_cons, maxLen] at hs ⊢; omega))
  obtain ⟨x4, hx4⟩ : ∃ x, x = (256 * (a4.toNat : Int) + (a5.toNat : Int)) := ⟨_, rfl⟩
  obtain ⟨x6, hx6⟩ : ∃ x, x = (256 * (a6.toNat : Int) + (a7.toNat : Int)) := ⟨_, rfl⟩
  obtain ⟨x8, hx8⟩ : ∃ x, x = (a8.toNat : Int) := ⟨_, rfl⟩
  rw [← hx4] at T3
  rw [← hx6] at T4 hf hp
  rw [← hx8] at T5 ht
  have T6 := hide (fun u hu => byte_ok B a9 (a10 :: a11 :: a12 :: a13 :: a14 :: a15 :: a16 :: a17 :: a18 :: a19 :: l) u hu (by simp only [List.length_cons, maxLen] at hs ⊢; omega))
  have T7 := hide (fun u hu => word_ok B a10 a11 (a12 :: a13 :: a14 :: a15 :: a16 :: a17 :: a18 :: a19 :: l) u hu (by simp only [List.length_cons, maxLen] at hs ⊢; omega))
  have T8 := hide (fun u hu => address_ok B a12 a13 a14 a15 (a16 :: a17 :: a18 :: a19 :: l) u hu (by simp only [List.length_cons, maxLen] at hs ⊢; omega))
  have T9 := hide (fun u hu => address_ok B a16 a17 a18 a19 l u hu (by simp only [List.length_cons, maxLen] at hs ⊢; omega))
  have T10 := hide (fun u hu => text_ok B l k u hu (by omega) (by omega))
  obtain ⟨x9, hx9⟩ : ∃ x, x = (a9.toNat : Int) := ⟨_, rfl⟩
  obtain ⟨x12, hx12⟩ : ∃ x, x = (16777216 * (a12.toNat : Int) + 65536 * (a13.toNat : Int) + 256 * (a14.toNat : Int) + (a15.toNat : Int)) := ⟨_, rfl⟩
  obtain ⟨x16, hx16⟩ : ∃ x, x = (16777216 * (a16.toNat : Int) + 65536 * (a17.toNat : Int) + 256 * (a18.toNat : Int) + (a19.toNat : Int)) := ⟨_, rfl⟩
  rw [← hx9] at T6 ⊢
  rw [← hx12] at T8 ⊢
  rw [← hx16] at T9 ⊢
  rw [← hx4, ← hx8]
  have hq : IntKind.i64.wrap (20 + (k : Int) - 20) = (k : Int) := by rw [wrap_i64 _ (by omega) (by omega)]; omega
  have hq2 : (20 + (k : Int) - 20) = (k : Int) := by omega
  clear hx9 hx12 hx16
  clear hx4 hx6 hx8
  clear hS hz ec hc h0 hn
  go_enter Tryd.func30, Tryd.ntmps30
  go_wp2_with fail
  refine (need_ok _ _ _ _ (unhide H0) (unhide HN0)).mono ?_
  rintro ee wz ⟨rfl, hwz⟩
  rw [hwz]
  clear hwz wz
  go_wp2_with fail
  refine (unhide T1 _ (unhide H0)).mono ?_
  rintro ee w1 ⟨rfl, k1, g1⟩
  have hr : w1.heap[w.heap.size]? = some (.cells #[.int .u16 0, .int .u8 0, .int .u8 0, .int .u32 0, .int .u32 0, .string ⟨#[]⟩] 31 (0, 0)) := (g1.block _ (lt_of_block (unhide R0)) (fun q => hne0 (by simpa using q))).trans (unhide R0)
  have H1 := hide k1
  have G1 := hide (grown_trans (unhide G0) g1)
  have R1 := hide hr
  clear hr k1 g1 H0 G0 R0
  go_wp2_with fail
  refine (unhide T2 _ (unhide H1)).mono ?_
  rintro ee w2 ⟨rfl, k2, g2⟩
  have hr : w2.heap[w.heap.size]? = some (.cells #[.int .u16 0, .int .u8 0, .int .u8 0, .int .u32 0, .int .u32 0, .string ⟨#[]⟩] 31 (0, 0)) := (g2.block _ (lt_of_block (unhide R1)) (fun q => hne0 (by simpa using q))).trans (unhide R1)
  have H2 := hide k2
  have G2 := hide (grown_trans (unhide G1) g2)
  have R2 := hide hr
  clear hr k2 g2 H1 G1 R1
  go_wp2_with fail
  refine (unhide TC _).mono ?_
  rintro ee wz ⟨rfl, hwz⟩
  rw [hwz]
  clear hwz wz
  go_wp2_with fail
  refine (must_if _ (by simp) _ _).mono ?_
  rintro ee wz ⟨rfl, hwz⟩
  rw [hwz]
  clear hwz wz
  have z3 : w.heap.size + 1 ≤ w2.heap.size := by have := (unhide G2).size; have q := lt_of_block (unhide R2); omega
  have hneV : w2.heap.size ≠ B := by have := (unhide H2).lt; omega
  have hlt0 : w.heap.size < w2.heap.size := by omega
  have H3 := hide ((unhide H2).alloc (.cells #[.int .u16 0, .int .u8 0, .int .u8 0, .int .u32 0, .int .u32 0, .string ⟨#[]⟩] 31))
  have G3 := hide (grown_alloc (unhide G2) (.cells #[.int .u16 0, .int .u8 0, .int .u8 0, .int .u32 0, .int .u32 0, .string ⟨#[]⟩] 31))
  have E3 : Hid ((w2.alloc (.cells #[.int .u16 0, .int .u8 0, .int .u8 0, .int .u32 0, .int .u32 0, .string ⟨#[]⟩] 31)).heap[w2.heap.size]? = some (.cells #[.int .u16 0, .int .u8 0, .int .u8 0, .int .u32 0, .int .u32 0, .string ⟨#[]⟩] 31 (0, 0))) := heap_alloc_new w2 _
  have R3 : Hid ((w2.alloc (.cells #[.int .u16 0, .int .u8 0, .int .u8 0, .int .u32 0, .int .u32 0, .string ⟨#[]⟩] 31)).heap[w.heap.size]? = some (.cells #[.int .u16 0, .int .u8 0, .int .u8 0, .int .u32 0, .int .u32 0, .string ⟨#[]⟩] 31 (0, 0))) := by
    show _ = _
    rw [Below.heap_alloc _ _ _ (by omega)]
    exact unhide R2
  clear H2 G2 R2
  go_wp2_with fail
  refine (unhide T3 _ (unhide H3)).mono ?_
  rintro ee w4 ⟨rfl, k4, g4⟩
  have hr : w4.heap[w.heap.size]? = some (.cells #[.int .u16 0, .int .u8 0, .int .u8 0, .int .u32 0, .int .u32 0, .string ⟨#[]⟩] 31 (0, 0)) := (g4.block _ (lt_of_block (unhide R3)) (fun q => hne0 (by simpa using q))).trans (unhide R3)
  have he : w4.heap[w2.heap.size]? = some (.cells #[.int .u16 0, .int .u8 0, .int .u8 0, .int .u32 0, .int .u32 0, .string ⟨#[]⟩] 31 (0, 0)) := (g4.block _ (lt_of_block (unhide E3)) (fun q => hneV (by simpa using q))).trans (unhide E3)
  have c4_0 : w4.cell? ⟨w2.heap.size, 0, none⟩ = some (.int .u16 0) := row_cell he rfl
  have f4 := row_free he
  have E4 : Hid ((w4.setCell ⟨w2.heap.size, 0, none⟩ (.int .u16 x4)).heap[w2.heap.size]? = some (.cells #[.int .u16 x4, .int .u8 0, .int .u8 0, .int .u32 0, .int .u32 0, .string ⟨#[]⟩] 31 (0, 0))) := row_set he 0 (.int .u16 x4)
  have H4 : Hid (Rdr (w4.setCell ⟨w2.heap.size, 0, none⟩ (.int .u16 x4)) B (a6 :: a7 :: a8 :: a9 :: a10 :: a11 :: a12 :: a13 :: a14 :: a15 :: a16 :: a17 :: a18 :: a19 :: l)) := other k4 hneV.symm _
  have G4 : Hid (w.grownBy (w4.setCell ⟨w2.heap.size, 0, none⟩ (.int .u16 x4)) (some B)) := grown_new (grown_trans (unhide G3) g4) (Nat.le_of_lt hlt0) _
  have R4 : Hid ((w4.setCell ⟨w2.heap.size, 0, none⟩ (.int .u16 x4)).heap[w.heap.size]? = some (.cells #[.int .u16 0, .int .u8 0, .int .u8 0, .int .u32 0, .int .u32 0, .string ⟨#[]⟩] 31 (0, 0))) := by
    show _ = _
    rw [Below.heap_setCell _ _ _ _ (Nat.ne_of_lt hlt0)]; exact hr
  clear hr k4 g4 H3 G3 R3 he E3
  go_wp2_with fail
  refine (unhide T4 _ (unhide H4)).mono ?_
  rintro ee w5 ⟨rfl, k5, g5⟩
  have hr : w5.heap[w.heap.size]? = some (.cells #[.int .u16 0, .int .u8 0, .int .u8 0, .int .u32 0, .int .u32 0, .string ⟨#[]⟩] 31 (0, 0)) := (g5.block _ (lt_of_block (unhide R4)) (fun q => hne0 (by simpa using q))).trans (unhide R4)
  have he : w5.heap[w2.heap.size]? = some (.cells #[.int .u16 x4, .int .u8 0, .int .u8 0, .int .u32 0, .int .u32 0, .string ⟨#[]⟩] 31 (0, 0)) := (g5.block _ (lt_of_block (unhide E4)) (fun q => hneV (by simpa using q))).trans (unhide E4)
  have H5 := hide k5
  have G5 := hide (grown_trans (unhide G4) g5)
  have R5 := hide hr
  have E5 := hide he
  clear hr k5 g5 H4 G4 R4 he E4
  go_wp2_with fail
  refine (unhide T5 _ (unhide H5)).mono ?_
  rintro ee w6 ⟨rfl, k6, g6⟩
  have hr : w6.heap[w.heap.size]? = some (.cells #[.int .u16 0, .int .u8 0, .int .u8 0, .int .u32 0, .int .u32 0, .string ⟨#[]⟩] 31 (0, 0)) := (g6.block _ (lt_of_block (unhide R5)) (fun q => hne0 (by simpa using q))).trans (unhide R5)
  have he : w6.heap[w2.heap.size]? = some (.cells #[.int .u16 x4, .int .u8 0, .int .u8 0, .int .u32 0, .int .u32 0, .string ⟨#[]⟩] 31 (0, 0)) := (g6.block _ (lt_of_block (unhide E5)) (fun q => hneV (by simpa using q))).trans (unhide E5)
  have c6_1 : w6.cell? ⟨w2.heap.size, 1, none⟩ = some (.int .u8 0) := row_cell he rfl
  have f6 := row_free he
  have E6 : Hid ((w6.setCell ⟨w2.heap.size, 1, none⟩ (.int .u8 x8)).heap[w2.heap.size]? = some (.cells #[.int .u16 x4, .int .u8 x8, .int .u8 0, .int .u32 0, .int .u32 0, .string ⟨#[]⟩] 31 (0, 0))) := row_set he 1 (.int .u8 x8)
  have H6 : Hid (Rdr (w6.setCell ⟨w2.heap.size, 1, none⟩ (.int .u8 x8)) B (a9 :: a10 :: a11 :: a12 :: a13 :: a14 :: a15 :: a16 :: a17 :: a18 :: a19 :: l)) := other k6 hneV.symm _
  have G6 : Hid (w.grownBy (w6.setCell ⟨w2.heap.size, 1, none⟩ (.int .u8 x8)) (some B)) := grown_new (grown_trans (unhide G5) g6) (Nat.le_of_lt hlt0) _
  have R6 : Hid ((w6.setCell ⟨w2.heap.size, 1, none⟩ (.int .u8 x8)).heap[w.heap.size]? = some (.cells #[.int .u16 0, .int .u8 0, .int .u8 0, .int .u32 0, .int .u32 0, .string ⟨#[]⟩] 31 (0, 0))) := by
    show _ = _
    rw [Below.heap_setCell _ _ _ _ (Nat.ne_of_lt hlt0)]; exact hr
  clear hr k6 g6 H5 G5 R5 he E5
  have cT : (w6.setCell ⟨w2.heap.size, 1, none⟩ (.int .u8 x8)).cell? ⟨w2.heap.size, 1, none⟩ = some (.int .u8 x8) := row_cell (unhide E6) rfl
  have htn : (x8 == 0) = false := by simpa using ht
  go_wp2_with fail
  refine (must_if _ (by simpa using ht) _ _).mono ?_
  rintro ee wz ⟨rfl, hwz⟩
  rw [hwz]
  clear hwz wz
  go_wp2_with fail
  refine (must_if _ (by simp) _ _).mono ?_
  rintro ee wz ⟨rfl, hwz⟩
  rw [hwz]
  clear hwz wz
  clear cT
  go_wp2_with fail
  refine (unhide T6 _ (unhide H6)).mono ?_
  rintro ee w7 ⟨rfl, k7, g7⟩
  have hr : w7.heap[w.heap.size]? = some (.cells #[.int .u16 0, .int .u8 0, .int .u8 0, .int .u32 0, .int .u32 0, .string ⟨#[]⟩] 31 (0, 0)) := (g7.block _ (lt_of_block (unhide R6)) (fun q => hne0 (by simpa using q))).trans (unhide R6)
  have he : w7.heap[w2.heap.size]? = some (.cells #[.int .u16 x4, .int .u8 x8, .int .u8 0, .int .u32 0, .int .u32 0, .string ⟨#[]⟩] 31 (0, 0)) := (g7.block _ (lt_of_block (unhide E6)) (fun q => hneV (by simpa using q))).trans (unhide E6)
  have c7_2 : w7.cell? ⟨w2.heap.size, 2, none⟩ = some (.int .u8 0) := row_cell he rfl
  have f7 := row_free he
  have E7 : Hid ((w7.setCell ⟨w2.heap.size, 2, none⟩ (.int .u8 x9)).heap[w2.heap.size]? = some (.cells #[.int .u16 x4, .int .u8 x8, .int .u8 x9, .int .u32 0, .int .u32 0, .string ⟨#[]⟩] 31 (0, 0))) := row_set he 2 (.int .u8 x9)
  have H7 : Hid (Rdr (w7.setCell ⟨w2.heap.size, 2, none⟩ (.int .u8 x9)) B (a10 :: a11 :: a12 :: a13 :: a14 :: a15 :: a16 :: a17 :: a18 :: a19 :: l)) := other k7 hneV.symm _
  have G7 : Hid (w.grownBy (w7.setCell ⟨w2.heap.size, 2, none⟩ (.int .u8 x9)) (some B)) := grown_new (grown_trans (unhide G6) g7) (Nat.le_of_lt hlt0) _
  have R7 : Hid ((w7.setCell ⟨w2.heap.size, 2, none⟩ (.int .u8 x9)).heap[w.heap.size]? = some (.cells #[.int .u16 0, .int .u8 0, .int .u8 0, .int .u32 0, .int .u32 0, .string ⟨#[]⟩] 31 (0, 0))) := by
    show _ = _
    rw [Below.heap_setCell _ _ _ _ (Nat.ne_of_lt hlt0)]; exact hr
  clear hr k7 g7 H6 G6 R6 he E6
  go_wp2_with fail
  refine (unhide T7 _ (unhide H7)).mono ?_
  rintro ee w8 ⟨rfl, k8, g8⟩
  have hr : w8.heap[w.heap.size]? = some (.cells #[.int .u16 0, .int .u8 0, .int .u8 0, .int .u32 0, .int .u32 0, .string ⟨#[]⟩] 31 (0, 0)) := (g8.block _ (lt_of_block (unhide R7)) (fun q => hne0 (by simpa using q))).trans (unhide R7)
  have he : w8.heap[w2.heap.size]? = some (.cells #[.int .u16 x4, .int .u8 x8, .int .u8 x9, .int .u32 0, .int .u32 0, .string ⟨#[]⟩] 31 (0, 0)) := (g8.block _ (lt_of_block (unhide E7)) (fun q => hneV (by simpa using q))).trans (unhide E7)
  have H8 := hide k8
  have G8 := hide (grown_trans (unhide G7) g8)
  have R8 := hide hr
  have E8 := hide he
  clear hr k8 g8 H7 G7 R7 he E7
  go_wp2_with fail
  refine (unhide T8 _ (unhide H8)).mono ?_
  rintro ee w9 ⟨rfl, k9, g9⟩
  have hr : w9.heap[w.heap.size]? = some (.cells #[.int .u16 0, .int .u8 0, .int .u8 0, .int .u32 0, .int .u32 0, .string ⟨#[]⟩] 31 (0, 0)) := (g9.block _ (lt_of_block (unhide R8)) (fun q => hne0 (by simpa using q))).trans (unhide R8)
  have he : w9.heap[w2.heap.size]? = some (.cells #[.int .u16 x4, .int .u8 x8, .int .u8 x9, .int .u32 0, .int .u32 0, .string ⟨#[]⟩] 31 (0, 0)) := (g9.block _ (lt_of_block (unhide E8)) (fun q => hneV (by simpa using q))).trans (unhide E8)
  have c9_3 : w9.cell? ⟨w2.heap.size, 3, none⟩ = some (.int .u32 0) := row_cell he rfl
  have f9 := row_free he
  have E9 : Hid ((w9.setCell ⟨w2.heap.size, 3, none⟩ (.int .u32 x12)).heap[w2.heap.size]? = some (.cells #[.int .u16 x4, .int .u8 x8, .int .u8 x9, .int .u32 x12, .int .u32 0, .string ⟨#[]⟩] 31 (0, 0))) := row_set he 3 (.int .u32 x12)
  have H9 : Hid (Rdr (w9.setCell ⟨w2.heap.size, 3, none⟩ (.int .u32 x12)) B (a16 :: a17 :: a18 :: a19 :: l)) := other k9 hneV.symm _
  have G9 : Hid (w.grownBy (w9.setCell ⟨w2.heap.size, 3, none⟩ (.int .u32 x12)) (some B)) := grown_new (grown_trans (unhide G8) g9) (Nat.le_of_lt hlt0) _
  have R9 : Hid ((w9.setCell ⟨w2.heap.size, 3, none⟩ (.int .u32 x12)).heap[w.heap.size]? = some (.cells #[.int .u16 0, .int .u8 0, .int .u8 0, .int .u32 0, .int .u32 0, .string ⟨#[]⟩] 31 (0, 0))) := by
    show _ = _
    rw [Below.heap_setCell _ _ _ _ (Nat.ne_of_lt hlt0)]; exact hr
  clear hr k9 g9 H8 G8 R8 he E8
  go_wp2_with fail
  refine (unhide T9 _ (unhide H9)).mono ?_
  rintro ee w10 ⟨rfl, k10, g10⟩
  have hr : w10.heap[w.heap.size]? = some (.cells #[.int .u16 0, .int .u8 0, .int .u8 0, .int .u32 0, .int .u32 0, .string ⟨#[]⟩] 31 (0, 0)) := (g10.block _ (lt_of_block (unhide R9)) (fun q => hne0 (by simpa using q))).trans (unhide R9)
  have he : w10.heap[w2.heap.size]? = some (.cells #[.int .u16 x4, .int .u8 x8, .int .u8 x9, .int .u32 x12, .int .u32 0, .string ⟨#[]⟩] 31 (0, 0)) := (g10.block _ (lt_of_block (unhide E9)) (fun q => hneV (by simpa using q))).trans (unhide E9)
  have c10_4 : w10.cell? ⟨w2.heap.size, 4, none⟩ = some (.int .u32 0) := row_cell he rfl
  have f10 := row_free he
  have E10 : Hid ((w10.setCell ⟨w2.heap.size, 4, none⟩ (.int .u32 x16)).heap[w2.heap.size]? = some (.cells #[.int .u16 x4, .int .u8 x8, .int .u8 x9, .int .u32 x12, .int .u32 x16, .string ⟨#[]⟩] 31 (0, 0))) := row_set he 4 (.int .u32 x16)
  have H10 : Hid (Rdr (w10.setCell ⟨w2.heap.size, 4, none⟩ (.int .u32 x16)) B (l)) := other k10 hneV.symm _
  have G10 : Hid (w.grownBy (w10.setCell ⟨w2.heap.size, 4, none⟩ (.int .u32 x16)) (some B)) := grown_new (grown_trans (unhide G9) g10) (Nat.le_of_lt hlt0) _
  have R10 : Hid ((w10.setCell ⟨w2.heap.size, 4, none⟩ (.int .u32 x16)).heap[w.heap.size]? = some (.cells #[.int .u16 0, .int .u8 0, .int .u8 0, .int .u32 0, .int .u32 0, .string ⟨#[]⟩] 31 (0, 0))) := by
    show _ = _
    rw [Below.heap_setCell _ _ _ _ (Nat.ne_of_lt hlt0)]; exact hr
  clear hr k10 g10 H9 G9 R9 he E9
  go_wp2_with fail
  refine (unhide T10 _ (unhide H10)).mono ?_
  rintro ee w11 ⟨rfl, k11, g11⟩
  have hr : w11.heap[w.heap.size]? = some (.cells #[.int .u16 0, .int .u8 0, .int .u8 0, .int .u32 0, .int .u32 0, .string ⟨#[]⟩] 31 (0, 0)) := (g11.block _ (lt_of_block (unhide R10)) (fun q => hne0 (by simpa using q))).trans (unhide R10)
  have he : w11.heap[w2.heap.size]? = some (.cells #[.int .u16 x4, .int .u8 x8, .int .u8 x9, .int .u32 x12, .int .u32 x16, .string ⟨#[]⟩] 31 (0, 0)) := (g11.block _ (lt_of_block (unhide E10)) (fun q => hneV (by simpa using q))).trans (unhide E10)
  have c11_0 : w11.cell? ⟨w2.heap.size, 0, none⟩ = some (.int .u16 x4) := row_cell he rfl
  have c11_1 : w11.cell? ⟨w2.heap.size, 1, none⟩ = some (.int .u8 x8) := row_cell he rfl
  have c11_2 : w11.cell? ⟨w2.heap.size, 2, none⟩ = some (.int .u8 x9) := row_cell he rfl
  have c11_3 : w11.cell? ⟨w2.heap.size, 3, none⟩ = some (.int .u32 x12) := row_cell he rfl
  have c11_4 : w11.cell? ⟨w2.heap.size, 4, none⟩ = some (.int .u32 x16) := row_cell he rfl
  have c11_5 : w11.cell? ⟨w2.heap.size, 5, none⟩ = some (.string ⟨#[]⟩) := row_cell he rfl
  have f11 := row_free he
  have d0 : w11.cell? ⟨w.heap.size, 0, none⟩ = some (.int .u16 0) := row_cell hr rfl
  have d1 : w11.cell? ⟨w.heap.size, 1, none⟩ = some (.int .u8 0) := row_cell hr rfl
  have d2 : w11.cell? ⟨w.heap.size, 2, none⟩ = some (.int .u8 0) := row_cell hr rfl
  have d3 : w11.cell? ⟨w.heap.size, 3, none⟩ = some (.int .u32 0) := row_cell hr rfl
  have d4 : w11.cell? ⟨w.heap.size, 4, none⟩ = some (.int .u32 0) := row_cell hr rfl
  have d5 : w11.cell? ⟨w.heap.size, 5, none⟩ = some (.string ⟨#[]⟩) := row_cell hr rfl
  have kd := row_free hr
  have E11 : Hid ((w11.setCell ⟨w2.heap.size, 5, none⟩ (.string ⟨(l.take k).toArray⟩)).heap[w2.heap.size]? = some (.cells #[.int .u16 x4, .int .u8 x8, .int .u8 x9, .int .u32 x12, .int .u32 x16, .string ⟨(l.take k).toArray⟩] 31 (0, 0))) := row_set he 5 (.string ⟨(l.take k).toArray⟩)
  have H11 : Hid (Rdr (w11.setCell ⟨w2.heap.size, 5, none⟩ (.string ⟨(l.take k).toArray⟩)) B (l.drop k)) := other k11 hneV.symm _
  have G11 : Hid (w.grownBy (w11.setCell ⟨w2.heap.size, 5, none⟩ (.string ⟨(l.take k).toArray⟩)) (some B)) := grown_new (grown_trans (unhide G10) g11) (Nat.le_of_lt hlt0) _
  have R11 : Hid ((w11.setCell ⟨w2.heap.size, 5, none⟩ (.string ⟨(l.take k).toArray⟩)).heap[w.heap.size]? = some (.cells #[.int .u16 0, .int .u8 0, .int .u8 0, .int .u32 0, .int .u32 0, .string ⟨#[]⟩] 31 (0, 0))) := by
    show _ = _
    rw [Below.heap_setCell _ _ _ _ (Nat.ne_of_lt hlt0)]; exact hr
  clear hr k11 g11 H10 G10 R10 he E10
  go_wp2
  refine bodyPost_ret (v := .agg #[.int .u16 x4, .int .u8 x8, .int .u8 x9, .int .u32 x12, .int .u32 x16, .string ⟨(l.take k).toArray⟩]) (by simp [results, Tryd.results30, go_sem, d0, d1, d2, d3, d4, d5]) rfl ⟨rfl, ?_⟩
  iterate 6 refine grown_new ?_ (Nat.le_refl _) _
  exact unhide G11
end Go.Proofs.YtoifihhmneldeaaDoor.IpR

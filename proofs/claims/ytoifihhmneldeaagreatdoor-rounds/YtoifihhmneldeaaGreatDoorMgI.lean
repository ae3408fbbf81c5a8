import Derived.Test.YtoifihhmneldeaaGreatDoorReaderLen
import Derived.Test.YtoifihhmneldeaaGreatDoorEtherRh
import Derived.Test.YtoifihhmneldeaaGreatDoorIPWriteW
import Derived.Test.YtoifihhmneldeaaGreatDoorEtherRf
namespace Go.Proofs.YtoifihhmneldeaaGreatDoor.IpR
open Go.ChangeShapes Go.WideShapes Go.ChangeAt Go.RowKit Bs Rd
open EtR (other grown_new row_cell row_free row_set)
open Ip (chk chk_bd)
set_option linter.unusedVariables false

theorem ip_short (B : Nat) (l : List UInt8) (w : World) (h : Rdr w B l) (hn : l.length < 20) :
    Calls Tryz.prog 40 #[.pointer (some ⟨B, 0, none⟩)] w fun ee w' => ee = .panicked (errP 1) ∧ w.grownBy w' (some B) := by
  have hB := h.lt
  have hne0 : w.heap.size ≠ B := by omega
  have H0 := hide (h.alloc (.cells #[.int .u16 0, .int .u8 0, .int .u8 0, .int .u32 0, .int .u32 0, .string ⟨#[]⟩] 36))
  have G0 := hide (grown_alloc (grown_refl w (some B)) (.cells #[.int .u16 0, .int .u8 0, .int .u8 0, .int .u32 0, .int .u32 0, .string ⟨#[]⟩] 36))
  have R0 : Hid ((w.alloc (.cells #[.int .u16 0, .int .u8 0, .int .u8 0, .int .u32 0, .int .u32 0, .string ⟨#[]⟩] 36)).heap[w.heap.size]? = some (.cells #[.int .u16 0, .int .u8 0, .int .u8 0, .int .u32 0, .int .u32 0, .string ⟨#[]⟩] 36 (0, 0))) := heap_alloc_new w _
  clear h
  go_enter Tryz.func40, Tryz.ntmps40
  go_wp2_with fail
  refine (need_no _ _ _ _ (unhide H0) (by omega)).mono ?_
  rintro ee wz ⟨rfl, hwz⟩
  exact ⟨rfl, rfl, by rw [hwz]; exact unhide G0⟩

set_option maxHeartbeats 2000000 in
theorem ip_first (B : Nat) (a0 a1 a2 a3 a4 a5 a6 a7 a8 a9 a10 a11 a12 a13 a14 a15 a16 a17 a18 a19 : UInt8) (l : List UInt8) (w : World) (h : Rdr w B (a0 :: a1 :: a2 :: a3 :: a4 :: a5 :: a6 :: a7 :: a8 :: a9 :: a10 :: a11 :: a12 :: a13 :: a14 :: a15 :: a16 :: a17 :: a18 :: a19 :: l)) (hs : (a0 :: a1 :: a2 :: a3 :: a4 :: a5 :: a6 :: a7 :: a8 :: a9 :: a10 :: a11 :: a12 :: a13 :: a14 :: a15 :: a16 :: a17 :: a18 :: a19 :: l).length ≤ maxLen) (k : Int) (hx : ∀ u, Rdr u B (a0 :: a1 :: a2 :: a3 :: a4 :: a5 :: a6 :: a7 :: a8 :: a9 :: a10 :: a11 :: a12 :: a13 :: a14 :: a15 :: a16 :: a17 :: a18 :: a19 :: l) → Calls Tryz.prog 60 #[.pointer (some ⟨B, 0, none⟩)] u fun e w' => e = .panicked (errP k) ∧ u.grownBy w' (some B)) :
    Calls Tryz.prog 40 #[.pointer (some ⟨B, 0, none⟩)] w fun ee w' => ee = .panicked (errP k) ∧ w.grownBy w' (some B) := by
  obtain ⟨s, hS⟩ : ∃ s : ByteArray, s = ⟨(a0 :: a1 :: a2 :: a3 :: a4 :: a5 :: a6 :: a7 :: a8 :: a9 :: a10 :: a11 :: a12 :: a13 :: a14 :: a15 :: a16 :: a17 :: a18 :: a19 :: l).toArray⟩ := ⟨_, rfl⟩
  have hz : s.size = l.length + 20 := by rw [hS, str_size]; simp
  have hmx : (s.size : Int) ≤ 9223372036854775807 := by rw [hz]; simp only [List.length_cons, maxLen] at hs; omega
  have hk20 : (20 : Int) ≤ (s.size : Int) := by omega
  have hB := h.lt
  have hne0 : w.heap.size ≠ B := by omega
  have H0 := hide (h.alloc (.cells #[.int .u16 0, .int .u8 0, .int .u8 0, .int .u32 0, .int .u32 0, .string ⟨#[]⟩] 36))
  have G0 := hide (grown_alloc (grown_refl w (some B)) (.cells #[.int .u16 0, .int .u8 0, .int .u8 0, .int .u32 0, .int .u32 0, .string ⟨#[]⟩] 36))
  have R0 : Hid ((w.alloc (.cells #[.int .u16 0, .int .u8 0, .int .u8 0, .int .u32 0, .int .u32 0, .string ⟨#[]⟩] 36)).heap[w.heap.size]? = some (.cells #[.int .u16 0, .int .u8 0, .int .u8 0, .int .u32 0, .int .u32 0, .string ⟨#[]⟩] 36 (0, 0))) := heap_alloc_new w _
  have hc0 : (w.alloc (.cells #[.int .u16 0, .int .u8 0, .int .u8 0, .int .u32 0, .int .u32 0, .string ⟨#[]⟩] 36)).cell? ⟨B, 0, none⟩ = some (.string s) := by rw [hS]; exact cell_of_one (unhide H0)
  have hn0 : (20 : Int) ≤ ((a0 :: a1 :: a2 :: a3 :: a4 :: a5 :: a6 :: a7 :: a8 :: a9 :: a10 :: a11 :: a12 :: a13 :: a14 :: a15 :: a16 :: a17 :: a18 :: a19 :: l).length : Int) := by simp only [List.length_cons]; omega
  have HN0 := hide hn0
  clear h hn0
  have T1 := hide hx
  clear hx hS hz
  go_enter Tryz.func40, Tryz.ntmps40
  go_wp2_with fail
  refine (need_ok _ _ _ _ (unhide H0) (unhide HN0)).mono ?_
  rintro ee wz ⟨rfl, hwz⟩
  rw [hwz]
  clear hwz wz
  go_wp2_with fail
  refine (unhide T1 _ (unhide H0)).mono ?_
  rintro ee wz ⟨rfl, gz⟩
  exact ⟨rfl, rfl, grown_trans (unhide G0) gz⟩

set_option maxHeartbeats 2000000 in
theorem ip_length (B : Nat) (a0 a1 a2 a3 a4 a5 a6 a7 a8 a9 a10 a11 a12 a13 a14 a15 a16 a17 a18 a19 : UInt8) (l : List UInt8) (w : World) (h : Rdr w B (a0 :: a1 :: a2 :: a3 :: a4 :: a5 :: a6 :: a7 :: a8 :: a9 :: a10 :: a11 :: a12 :: a13 :: a14 :: a15 :: a16 :: a17 :: a18 :: a19 :: l)) (hs : (a0 :: a1 :: a2 :: a3 :: a4 :: a5 :: a6 :: a7 :: a8 :: a9 :: a10 :: a11 :: a12 :: a13 :: a14 :: a15 :: a16 :: a17 :: a18 :: a19 :: l).length ≤ maxLen) (h0 : a0.toNat = 69) (k : Int) (hx : ∀ u, Rdr u B (a2 :: a3 :: a4 :: a5 :: a6 :: a7 :: a8 :: a9 :: a10 :: a11 :: a12 :: a13 :: a14 :: a15 :: a16 :: a17 :: a18 :: a19 :: l) → Calls Tryz.prog 61 #[.pointer (some ⟨B, 0, none⟩), .int .i64 20, .int .i64 ((l.length + 20 : Nat) : Int)] u fun e w' => e = .panicked (errP k) ∧ u.grownBy w' (some B)) :
    Calls Tryz.prog 40 #[.pointer (some ⟨B, 0, none⟩)] w fun ee w' => ee = .panicked (errP k) ∧ w.grownBy w' (some B) := by
  obtain ⟨s, hS⟩ : ∃ s : ByteArray, s = ⟨(a0 :: a1 :: a2 :: a3 :: a4 :: a5 :: a6 :: a7 :: a8 :: a9 :: a10 :: a11 :: a12 :: a13 :: a14 :: a15 :: a16 :: a17 :: a18 :: a19 :: l).toArray⟩ := ⟨_, rfl⟩
  have hz : s.size = l.length + 20 := by rw [hS, str_size]; simp
  have hmx : (s.size : Int) ≤ 9223372036854775807 := by rw [hz]; simp only [List.length_cons, maxLen] at hs; omega
  have hk20 : (20 : Int) ≤ (s.size : Int) := by omega
  have hB := h.lt
  have hne0 : w.heap.size ≠ B := by omega
  have H0 := hide (h.alloc (.cells #[.int .u16 0, .int .u8 0, .int .u8 0, .int .u32 0, .int .u32 0, .string ⟨#[]⟩] 36))
  have G0 := hide (grown_alloc (grown_refl w (some B)) (.cells #[.int .u16 0, .int .u8 0, .int .u8 0, .int .u32 0, .int .u32 0, .string ⟨#[]⟩] 36))
  have R0 : Hid ((w.alloc (.cells #[.int .u16 0, .int .u8 0, .int .u8 0, .int .u32 0, .int .u32 0, .string ⟨#[]⟩] 36)).heap[w.heap.size]? = some (.cells #[.int .u16 0, .int .u8 0, .int .u8 0, .int .u32 0, .int .u32 0, .string ⟨#[]⟩] 36 (0, 0))) := heap_alloc_new w _
  have hc0 : (w.alloc (.cells #[.int .u16 0, .int .u8 0, .int .u8 0, .int .u32 0, .int .u32 0, .string ⟨#[]⟩] 36)).cell? ⟨B, 0, none⟩ = some (.string s) := by rw [hS]; exact cell_of_one (unhide H0)
  have hn0 : (20 : Int) ≤ ((a0 :: a1 :: a2 :: a3 :: a4 :: a5 :: a6 :: a7 :: a8 :: a9 :: a10 :: a11 :: a12 :: a13 :: a14 :: a15 :: a16 :: a17 :: a18 :: a19 :: l).length : Int) := by simp only [List.length_cons]; omega
  have HN0 := hide hn0
  clear h hn0
  have T1 := hide (fun u hu => ipFirst_ok B a0 a1 (a2 :: a3 :: a4 :: a5 :: a6 :: a7 :: a8 :: a9 :: a10 :: a11 :: a12 :: a13 :: a14 :: a15 :: a16 :: a17 :: a18 :: a19 :: l) u hu hs h0)
  have T2 := hide (fun u hu => hx u hu)
  rw [← hz] at T2
  clear hx h0 hS hz
  go_enter Tryz.func40, Tryz.ntmps40
  go_wp2_with fail
  refine (need_ok _ _ _ _ (unhide H0) (unhide HN0)).mono ?_
  rintro ee wz ⟨rfl, hwz⟩
  rw [hwz]
  clear hwz wz
  go_wp2_with fail
  refine (unhide T1 _ (unhide H0)).mono ?_
  rintro ee w1 ⟨rfl, k1, g1⟩
  have hr : w1.heap[w.heap.size]? = some (.cells #[.int .u16 0, .int .u8 0, .int .u8 0, .int .u32 0, .int .u32 0, .string ⟨#[]⟩] 36 (0, 0)) := (g1.block _ (lt_of_block (unhide R0)) (fun q => hne0 (by simpa using q))).trans (unhide R0)
  have H1 := hide k1
  have G1 := hide (grown_trans (unhide G0) g1)
  have R1 := hide hr
  clear hr k1 g1 H0 G0 R0
  go_wp2_with fail
  refine (unhide T2 _ (unhide H1)).mono ?_
  rintro ee wz ⟨rfl, gz⟩
  exact ⟨rfl, rfl, grown_trans (unhide G1) gz⟩

set_option maxHeartbeats 2000000 in
theorem ip_sum (B : Nat) (a0 a1 a2 a3 a4 a5 a6 a7 a8 a9 a10 a11 a12 a13 a14 a15 a16 a17 a18 a19 : UInt8) (l : List UInt8) (w : World) (h : Rdr w B (a0 :: a1 :: a2 :: a3 :: a4 :: a5 :: a6 :: a7 :: a8 :: a9 :: a10 :: a11 :: a12 :: a13 :: a14 :: a15 :: a16 :: a17 :: a18 :: a19 :: l)) (hs : (a0 :: a1 :: a2 :: a3 :: a4 :: a5 :: a6 :: a7 :: a8 :: a9 :: a10 :: a11 :: a12 :: a13 :: a14 :: a15 :: a16 :: a17 :: a18 :: a19 :: l).length ≤ maxLen) (h0 : a0.toNat = 69) (k : Nat) (hn : (256 * (a2.toNat : Int) + (a3.toNat : Int)) = 20 + (k : Int)) (hk : k ≤ l.length) (hsum : chk [a0, a1, a2, a3, a4, a5, a6, a7, a8, a9, a10, a11, a12, a13, a14, a15, a16, a17, a18, a19] ≠ 0) :
    Calls Tryz.prog 40 #[.pointer (some ⟨B, 0, none⟩)] w fun ee w' => ee = .panicked (errP 6) ∧ w.grownBy w' (some B) := by
  obtain ⟨s, hS⟩ : ∃ s : ByteArray, s = ⟨(a0 :: a1 :: a2 :: a3 :: a4 :: a5 :: a6 :: a7 :: a8 :: a9 :: a10 :: a11 :: a12 :: a13 :: a14 :: a15 :: a16 :: a17 :: a18 :: a19 :: l).toArray⟩ := ⟨_, rfl⟩
  have hz : s.size = l.length + 20 := by rw [hS, str_size]; simp
  have hmx : (s.size : Int) ≤ 9223372036854775807 := by rw [hz]; simp only [List.length_cons, maxLen] at hs; omega
  have hk20 : (20 : Int) ≤ (s.size : Int) := by omega
  have hB := h.lt
  have hne0 : w.heap.size ≠ B := by omega
  have H0 := hide (h.alloc (.cells #[.int .u16 0, .int .u8 0, .int .u8 0, .int .u32 0, .int .u32 0, .string ⟨#[]⟩] 36))
  have G0 := hide (grown_alloc (grown_refl w (some B)) (.cells #[.int .u16 0, .int .u8 0, .int .u8 0, .int .u32 0, .int .u32 0, .string ⟨#[]⟩] 36))
  have R0 : Hid ((w.alloc (.cells #[.int .u16 0, .int .u8 0, .int .u8 0, .int .u32 0, .int .u32 0, .string ⟨#[]⟩] 36)).heap[w.heap.size]? = some (.cells #[.int .u16 0, .int .u8 0, .int .u8 0, .int .u32 0, .int .u32 0, .string ⟨#[]⟩] 36 (0, 0))) := heap_alloc_new w _
  have hc0 : (w.alloc (.cells #[.int .u16 0, .int .u8 0, .int .u8 0, .int .u32 0, .int .u32 0, .string ⟨#[]⟩] 36)).cell? ⟨B, 0, none⟩ = some (.string s) := by rw [hS]; exact cell_of_one (unhide H0)
  have hn0 : (20 : Int) ≤ ((a0 :: a1 :: a2 :: a3 :: a4 :: a5 :: a6 :: a7 :: a8 :: a9 :: a10 :: a11 :: a12 :: a13 :: a14 :: a15 :: a16 :: a17 :: a18 :: a19 :: l).length : Int) := by simp only [List.length_cons]; omega
  have HN0 := hide hn0
  clear h hn0
  have T1 := hide (fun u hu => ipFirst_ok B a0 a1 (a2 :: a3 :: a4 :: a5 :: a6 :: a7 :: a8 :: a9 :: a10 :: a11 :: a12 :: a13 :: a14 :: a15 :: a16 :: a17 :: a18 :: a19 :: l) u hu hs h0)
  have T2 := (fun u hu => length_ok B a2 a3 (a4 :: a5 :: a6 :: a7 :: a8 :: a9 :: a10 :: a11 :: a12 :: a13 :: a14 :: a15 :: a16 :: a17 :: a18 :: a19 :: l) 20 (s.size : Int) u hu (by simp only [List.length_cons, maxLen] at hs ⊢; omega) (by omega) (by omega))
  rw [hn] at T2
  have T2 := hide T2
  have TC := (fun u => Chk.wire_check (s.extract 0 20) u (by rw [ByteArray.size_extract]; omega))
  have ec : 65535 - Chk.fold (Chk.wsum (s.extract 0 20).data.toList) = chk [a0, a1, a2, a3, a4, a5, a6, a7, a8, a9, a10, a11, a12, a13, a14, a15, a16, a17, a18, a19] := by
    rw [hS, str_take]; simp [chk]
  obtain ⟨c, hc⟩ : ∃ c, c = chk [a0, a1, a2, a3, a4, a5, a6, a7, a8, a9, a10, a11, a12, a13, a14, a15, a16, a17, a18, a19] := ⟨_, rfl⟩
  rw [ec, ← hc] at TC
  rw [← hc] at hsum
  have TC := hide TC
  have hcn : (c == 0) = false := by simpa using hsum
  clear hS hz ec hc h0 hn
  go_enter Tryz.func40, Tryz.ntmps40
  go_wp2_with fail
  refine (need_ok _ _ _ _ (unhide H0) (unhide HN0)).mono ?_
  rintro ee wz ⟨rfl, hwz⟩
  rw [hwz]
  clear hwz wz
  go_wp2_with fail
  refine (unhide T1 _ (unhide H0)).mono ?_
  rintro ee w1 ⟨rfl, k1, g1⟩
  have hr : w1.heap[w.heap.size]? = some (.cells #[.int .u16 0, .int .u8 0, .int .u8 0, .int .u32 0, .int .u32 0, .string ⟨#[]⟩] 36 (0, 0)) := (g1.block _ (lt_of_block (unhide R0)) (fun q => hne0 (by simpa using q))).trans (unhide R0)
  have H1 := hide k1
  have G1 := hide (grown_trans (unhide G0) g1)
  have R1 := hide hr
  clear hr k1 g1 H0 G0 R0
  go_wp2_with fail
  refine (unhide T2 _ (unhide H1)).mono ?_
  rintro ee w2 ⟨rfl, k2, g2⟩
  have hr : w2.heap[w.heap.size]? = some (.cells #[.int .u16 0, .int .u8 0, .int .u8 0, .int .u32 0, .int .u32 0, .string ⟨#[]⟩] 36 (0, 0)) := (g2.block _ (lt_of_block (unhide R1)) (fun q => hne0 (by simpa using q))).trans (unhide R1)
  have H2 := hide k2
  have G2 := hide (grown_trans (unhide G1) g2)
  have R2 := hide hr
  clear hr k2 g2 H1 G1 R1
  go_wp2_with fail
  refine (unhide TC _).mono ?_
  rintro ee wz ⟨rfl, hwz⟩
  rw [hwz]
  clear hwz wz
  go_wp2_with fail
  refine (must_else _ (by simp) _ _).mono ?_
  rintro ee wz ⟨rfl, hwz⟩
  exact ⟨rfl, rfl, by rw [hwz]; exact unhide G2⟩

set_option maxHeartbeats 2000000 in
theorem ip_flag (B : Nat) (a0 a1 a2 a3 a4 a5 a6 a7 a8 a9 a10 a11 a12 a13 a14 a15 a16 a17 a18 a19 : UInt8) (l : List UInt8) (w : World) (h : Rdr w B (a0 :: a1 :: a2 :: a3 :: a4 :: a5 :: a6 :: a7 :: a8 :: a9 :: a10 :: a11 :: a12 :: a13 :: a14 :: a15 :: a16 :: a17 :: a18 :: a19 :: l)) (hs : (a0 :: a1 :: a2 :: a3 :: a4 :: a5 :: a6 :: a7 :: a8 :: a9 :: a10 :: a11 :: a12 :: a13 :: a14 :: a15 :: a16 :: a17 :: a18 :: a19 :: l).length ≤ maxLen) (h0 : a0.toNat = 69) (k : Nat) (hn : (256 * (a2.toNat : Int) + (a3.toNat : Int)) = 20 + (k : Int)) (hk : k ≤ l.length) (hsum : chk [a0, a1, a2, a3, a4, a5, a6, a7, a8, a9, a10, a11, a12, a13, a14, a15, a16, a17, a18, a19] = 0) (hf : bits .and .u16 (256 * (a6.toNat : Int) + (a7.toNat : Int)) 32768 ≠ 0) :
    Calls Tryz.prog 40 #[.pointer (some ⟨B, 0, none⟩)] w fun ee w' => ee = .panicked (errP 2) ∧ w.grownBy w' (some B) := by
  obtain ⟨s, hS⟩ : ∃ s : ByteArray, s = ⟨(a0 :: a1 :: a2 :: a3 :: a4 :: a5 :: a6 :: a7 :: a8 :: a9 :: a10 :: a11 :: a12 :: a13 :: a14 :: a15 :: a16 :: a17 :: a18 :: a19 :: l).toArray⟩ := ⟨_, rfl⟩
  have hz : s.size = l.length + 20 := by rw [hS, str_size]; simp
  have hmx : (s.size : Int) ≤ 9223372036854775807 := by rw [hz]; simp only [List.length_cons, maxLen] at hs; omega
  have hk20 : (20 : Int) ≤ (s.size : Int) := by omega
  have hB := h.lt
  have hne0 : w.heap.size ≠ B := by omega
  have H0 := hide (h.alloc (.cells #[.int .u16 0, .int .u8 0, .int .u8 0, .int .u32 0, .int .u32 0, .string ⟨#[]⟩] 36))
  have G0 := hide (grown_alloc (grown_refl w (some B)) (.cells #[.int .u16 0, .int .u8 0, .int .u8 0, .int .u32 0, .int .u32 0, .string ⟨#[]⟩] 36))
  have R0 : Hid ((w.alloc (.cells #[.int .u16 0, .int .u8 0, .int .u8 0, .int .u32 0, .int .u32 0, .string ⟨#[]⟩] 36)).heap[w.heap.size]? = some (.cells #[.int .u16 0, .int .u8 0, .int .u8 0, .int .u32 0, .int .u32 0, .string ⟨#[]⟩] 36 (0, 0))) := heap_alloc_new w _
  have hc0 : (w.alloc (.cells #[.int .u16 0, .int .u8 0, .int .u8 0, .int .u32 0, .int .u32 0, .string ⟨#[]⟩] 36)).cell? ⟨B, 0, none⟩ = some (.string s) := by rw [hS]; exact cell_of_one (unhide H0)
  have hn0 : (20 : Int) ≤ ((a0 :: a1 :: a2 :: a3 :: a4 :: a5 :: a6 :: a7 :: a8 :: a9 :: a10 :: a11 :: a12 :: a13 :: a14 :: a15 :: a16 :: a17 :: a18 :: a19 :: l).length : Int) := by simp only [List.length_cons]; omega
  have HN0 := hide hn0
  clear h hn0
  have T1 := hide (fun u hu => ipFirst_ok B a0 a1 (a2 :: a3 :: a4 :: a5 :: a6 :: a7 :: a8 :: a9 :: a10 :: a11 :: a12 :: a13 :: a14 :: a15 :: a16 :: a17 :: a18 :: a19 :: l) u hu hs h0)
  have T2 := (fun u hu => length_ok B a2 a3 (a4 :: a5 :: a6 :: a7 :: a8 :: a9 :: a10 :: a11 :: a12 :: a13 :: a14 :: a15 :: a16 :: a17 :: a18 :: a19 :: l) 20 (s.size : Int) u hu (by simp only [List.length_cons, maxLen] at hs ⊢; omega) (by omega) (by omega))
  rw [hn] at T2
  have T2 := hide T2
  have TC := (fun u => Chk.wire_check (s.extract 0 20) u (by rw [ByteArray.size_extract]; omega))
  have ec : 65535 - Chk.fold (Chk.wsum (s.extract 0 20).data.toList) = chk [a0, a1, a2, a3, a4, a5, a6, a7, a8, a9, a10, a11, a12, a13, a14, a15, a16, a17, a18, a19] := by
    rw [hS, str_take]; simp [chk]
  obtain ⟨c, hc⟩ : ∃ c, c = chk [a0, a1, a2, a3, a4, a5, a6, a7, a8, a9, a10, a11, a12, a13, a14, a15, a16, a17, a18, a19] := ⟨_, rfl⟩
  rw [ec, ← hc] at TC
  rw [← hc] at hsum
  have TC := hide TC
  subst hsum
  have T3 := hide (fun u hu => word_ok B a4 a5 (a6 :: a7 :: a8 :: a9 :: a10 :: a11 :: a12 :: a13 :: a14 :: a15 :: a16 :: a17 :: a18 :: a19 :: l) u hu (by simp only [List.length_cons, maxLen] at hs ⊢; omega))
  have T4 := hide (fun u hu => word_ok B a6 a7 (a8 :: a9 :: a10 :: a11 :: a12 :: a13 :: a14 :: a15 :: a16 :: a17 :: a18 :: a19 :: l) u hu (by simp only [List.length_cons, maxLen] at hs ⊢; omega))
  have T5 := hide (fun u hu => byte_ok B a8 (a9 :: a10 :: a11 :: a12 :: a13 :: a14 :: a15 :: a16 :: a17 :: a18 :: a19 :: l) u hu (by simp only [List.length_cons, maxLen] at hs ⊢; omega))
  obtain ⟨x4, hx4⟩ : ∃ x, x = (256 * (a4.toNat : Int) + (a5.toNat : Int)) := ⟨_, rfl⟩
  obtain ⟨x6, hx6⟩ : ∃ x, x = (256 * (a6.toNat : Int) + (a7.toNat : Int)) := ⟨_, rfl⟩
  obtain ⟨x8, hx8⟩ : ∃ x, x = (a8.toNat : Int) := ⟨_, rfl⟩
  rw [← hx4] at T3
  rw [← hx6] at T4 hf
  rw [← hx8] at T5
  clear hx4 hx6 hx8
  clear hS hz ec hc h0 hn
  go_enter Tryz.func40, Tryz.ntmps40
  go_wp2_with fail
  refine (need_ok _ _ _ _ (unhide H0) (unhide HN0)).mono ?_
  rintro ee wz ⟨rfl, hwz⟩
  rw [hwz]
  clear hwz wz
  go_wp2_with fail
  refine (unhide T1 _ (unhide H0)).mono ?_
  rintro ee w1 ⟨rfl, k1, g1⟩
  have hr : w1.heap[w.heap.size]? = some (.cells #[.int .u16 0, .int .u8 0, .int .u8 0, .int .u32 0, .int .u32 0, .string ⟨#[]⟩] 36 (0, 0)) := (g1.block _ (lt_of_block (unhide R0)) (fun q => hne0 (by simpa using q))).trans (unhide R0)
  have H1 := hide k1
  have G1 := hide (grown_trans (unhide G0) g1)
  have R1 := hide hr
  clear hr k1 g1 H0 G0 R0
  go_wp2_with fail
  refine (unhide T2 _ (unhide H1)).mono ?_
  rintro ee w2 ⟨rfl, k2, g2⟩
  have hr : w2.heap[w.heap.size]? = some (.cells #[.int .u16 0, .int .u8 0, .int .u8 0, .int .u32 0, .int .u32 0, .string ⟨#[]⟩] 36 (0, 0)) := (g2.block _ (lt_of_block (unhide R1)) (fun q => hne0 (by simpa using q))).trans (unhide R1)
  have H2 := hide k2
  have G2 := hide (grown_trans (unhide G1) g2)
  have R2 := hide hr
  clear hr k2 g2 H1 G1 R1
  go_wp2_with fail
  refine (unhide TC _).mono ?_
  rintro ee wz ⟨rfl, hwz⟩
  rw [hwz]
  clear hwz wz
  go_wp2_with fail
  refine (must_if _ (by simp) _ _).mono ?_
  rintro ee wz ⟨rfl, hwz⟩
  rw [hwz]
  clear hwz wz
  have z3 : w.heap.size + 1 ≤ w2.heap.size := by have := (unhide G2).size; have q := lt_of_block (unhide R2); omega
  have hneV : w2.heap.size ≠ B := by have := (unhide H2).lt; omega
  have hlt0 : w.heap.size < w2.heap.size := by omega
  have H3 := hide ((unhide H2).alloc (.cells #[.int .u16 0, .int .u8 0, .int .u8 0, .int .u32 0, .int .u32 0, .string ⟨#[]⟩] 36))
  have G3 := hide (grown_alloc (unhide G2) (.cells #[.int .u16 0, .int .u8 0, .int .u8 0, .int .u32 0, .int .u32 0, .string ⟨#[]⟩] 36))
  have E3 : Hid ((w2.alloc (.cells #[.int .u16 0, .int .u8 0, .int .u8 0, .int .u32 0, .int .u32 0, .string ⟨#[]⟩] 36)).heap[w2.heap.size]? = some (.cells #[.int .u16 0, .int .u8 0, .int .u8 0, .int .u32 0, .int .u32 0, .string ⟨#[]⟩] 36 (0, 0))) := heap_alloc_new w2 _
  have R3 : Hid ((w2.alloc (.cells #[.int .u16 0, .int .u8 0, .int .u8 0, .int .u32 0, .int .u32 0, .string ⟨#[]⟩] 36)).heap[w.heap.size]? = some (.cells #[.int .u16 0, .int .u8 0, .int .u8 0, .int .u32 0, .int .u32 0, .string ⟨#[]⟩] 36 (0, 0))) := by
    show _ = _
    rw [Below.heap_alloc _ _ _ (by omega)]
    exact unhide R2
  clear H2 G2 R2
  go_wp2_with fail
  refine (unhide T3 _ (unhide H3)).mono ?_
  rintro ee w4 ⟨rfl, k4, g4⟩
  have hr : w4.heap[w.heap.size]? = some (.cells #[.int .u16 0, .int .u8 0, .int .u8 0, .int .u32 0, .int .u32 0, .string ⟨#[]⟩] 36 (0, 0)) := (g4.block _ (lt_of_block (unhide R3)) (fun q => hne0 (by simpa using q))).trans (unhide R3)
  have he : w4.heap[w2.heap.size]? = some (.cells #[.int .u16 0, .int .u8 0, .int .u8 0, .int .u32 0, .int .u32 0, .string ⟨#[]⟩] 36 (0, 0)) := (g4.block _ (lt_of_block (unhide E3)) (fun q => hneV (by simpa using q))).trans (unhide E3)
  have c4_0 : w4.cell? ⟨w2.heap.size, 0, none⟩ = some (.int .u16 0) := row_cell he rfl
  have f4 := row_free he
  have E4 : Hid ((w4.setCell ⟨w2.heap.size, 0, none⟩ (.int .u16 x4)).heap[w2.heap.size]? = some (.cells #[.int .u16 x4, .int .u8 0, .int .u8 0, .int .u32 0, .int .u32 0, .string ⟨#[]⟩] 36 (0, 0))) := row_set he 0 (.int .u16 x4)
  have H4 : Hid (Rdr (w4.setCell ⟨w2.heap.size, 0, none⟩ (.int .u16 x4)) B (a6 :: a7 :: a8 :: a9 :: a10 :: a11 :: a12 :: a13 :: a14 :: a15 :: a16 :: a17 :: a18 :: a19 :: l)) := other k4 hneV.symm _
  have G4 : Hid (w.grownBy (w4.setCell ⟨w2.heap.size, 0, none⟩ (.int .u16 x4)) (some B)) := grown_new (grown_trans (unhide G3) g4) (Nat.le_of_lt hlt0) _
  have R4 : Hid ((w4.setCell ⟨w2.heap.size, 0, none⟩ (.int .u16 x4)).heap[w.heap.size]? = some (.cells #[.int .u16 0, .int .u8 0, .int .u8 0, .int .u32 0, .int .u32 0, .string ⟨#[]⟩] 36 (0, 0))) := by
    show _ = _
    rw [Below.heap_setCell _ _ _ _ (Nat.ne_of_lt hlt0)]; exact hr
  clear hr k4 g4 H3 G3 R3 he E3
  go_wp2_with fail
  refine (unhide T4 _ (unhide H4)).mono ?_
  rintro ee w5 ⟨rfl, k5, g5⟩
  have hr : w5.heap[w.heap.size]? = some (.cells #[.int .u16 0, .int .u8 0, .int .u8 0, .int .u32 0, .int .u32 0, .string ⟨#[]⟩] 36 (0, 0)) := (g5.block _ (lt_of_block (unhide R4)) (fun q => hne0 (by simpa using q))).trans (unhide R4)
  have he : w5.heap[w2.heap.size]? = some (.cells #[.int .u16 x4, .int .u8 0, .int .u8 0, .int .u32 0, .int .u32 0, .string ⟨#[]⟩] 36 (0, 0)) := (g5.block _ (lt_of_block (unhide E4)) (fun q => hneV (by simpa using q))).trans (unhide E4)
  have H5 := hide k5
  have G5 := hide (grown_trans (unhide G4) g5)
  have R5 := hide hr
  have E5 := hide he
  clear hr k5 g5 H4 G4 R4 he E4
  go_wp2_with fail
  refine (unhide T5 _ (unhide H5)).mono ?_
  rintro ee w6 ⟨rfl, k6, g6⟩
  have hr : w6.heap[w.heap.size]? = some (.cells #[.int .u16 0, .int .u8 0, .int .u8 0, .int .u32 0, .int .u32 0, .string ⟨#[]⟩] 36 (0, 0)) := (g6.block _ (lt_of_block (unhide R5)) (fun q => hne0 (by simpa using q))).trans (unhide R5)
  have he : w6.heap[w2.heap.size]? = some (.cells #[.int .u16 x4, .int .u8 0, .int .u8 0, .int .u32 0, .int .u32 0, .string ⟨#[]⟩] 36 (0, 0)) := (g6.block _ (lt_of_block (unhide E5)) (fun q => hneV (by simpa using q))).trans (unhide E5)
  have c6_1 : w6.cell? ⟨w2.heap.size, 1, none⟩ = some (.int .u8 0) := row_cell he rfl
  have f6 := row_free he
  have E6 : Hid ((w6.setCell ⟨w2.heap.size, 1, none⟩ (.int .u8 x8)).heap[w2.heap.size]? = some (.cells #[.int .u16 x4, .int .u8 x8, .int .u8 0, .int .u32 0, .int .u32 0, .string ⟨#[]⟩] 36 (0, 0))) := row_set he 1 (.int .u8 x8)
  have H6 : Hid (Rdr (w6.setCell ⟨w2.heap.size, 1, none⟩ (.int .u8 x8)) B (a9 :: a10 :: a11 :: a12 :: a13 :: a14 :: a15 :: a16 :: a17 :: a18 :: a19 :: l)) := other k6 hneV.symm _
  have G6 : Hid (w.grownBy (w6.setCell ⟨w2.heap.size, 1, none⟩ (.int .u8 x8)) (some B)) := grown_new (grown_trans (unhide G5) g6) (Nat.le_of_lt hlt0) _
  have R6 : Hid ((w6.setCell ⟨w2.heap.size, 1, none⟩ (.int .u8 x8)).heap[w.heap.size]? = some (.cells #[.int .u16 0, .int .u8 0, .int .u8 0, .int .u32 0, .int .u32 0, .string ⟨#[]⟩] 36 (0, 0))) := by
    show _ = _
    rw [Below.heap_setCell _ _ _ _ (Nat.ne_of_lt hlt0)]; exact hr
  clear hr k6 g6 H5 G5 R5 he E5
  have cT : (w6.setCell ⟨w2.heap.size, 1, none⟩ (.int .u8 x8)).cell? ⟨w2.heap.size, 1, none⟩ = some (.int .u8 x8) := row_cell (unhide E6) rfl
  have hfn : (bits .and .u16 x6 32768 == 0) = false := by simpa using hf
  go_wp2_with fail
  refine (must_else _ (by simp) _ _).mono ?_
  rintro ee wz ⟨rfl, hwz⟩
  exact ⟨rfl, rfl, by rw [hwz]; exact unhide G6⟩

set_option maxHeartbeats 2000000 in
theorem ip_ttl (B : Nat) (a0 a1 a2 a3 a4 a5 a6 a7 a8 a9 a10 a11 a12 a13 a14 a15 a16 a17 a18 a19 : UInt8) (l : List UInt8) (w : World) (h : Rdr w B (a0 :: a1 :: a2 :: a3 :: a4 :: a5 :: a6 :: a7 :: a8 :: a9 :: a10 :: a11 :: a12 :: a13 :: a14 :: a15 :: a16 :: a17 :: a18 :: a19 :: l)) (hs : (a0 :: a1 :: a2 :: a3 :: a4 :: a5 :: a6 :: a7 :: a8 :: a9 :: a10 :: a11 :: a12 :: a13 :: a14 :: a15 :: a16 :: a17 :: a18 :: a19 :: l).length ≤ maxLen) (h0 : a0.toNat = 69) (k : Nat) (hn : (256 * (a2.toNat : Int) + (a3.toNat : Int)) = 20 + (k : Int)) (hk : k ≤ l.length) (hsum : chk [a0, a1, a2, a3, a4, a5, a6, a7, a8, a9, a10, a11, a12, a13, a14, a15, a16, a17, a18, a19] = 0) (hf : bits .and .u16 (256 * (a6.toNat : Int) + (a7.toNat : Int)) 32768 = 0) (ht : (a8.toNat : Int) = 0) :
    Calls Tryz.prog 40 #[.pointer (some ⟨B, 0, none⟩)] w fun ee w' => ee = .panicked (errP 2) ∧ w.grownBy w' (some B) := by
  obtain ⟨s, hS⟩ : ∃ s : ByteArray, s = ⟨(a0 :: a1 :: a2 :: a3 :: a4 :: a5 :: a6 :: a7 :: a8 :: a9 :: a10 :: a11 :: a12 :: a13 :: a14 :: a15 :: a16 :: a17 :: a18 :: a19 :: l).toArray⟩ := ⟨_, rfl⟩
  have hz : s.size = l.length + 20 := by rw [hS, str_size]; simp
  have hmx : (s.size : Int) ≤ 9223372036854775807 := by rw [hz]; simp only [List.length_cons, maxLen] at hs; omega
  have hk20 : (20 : Int) ≤ (s.size : Int) := by omega
  have hB := h.lt
  have hne0 : w.heap.size ≠ B := by omega
  have H0 := hide (h.alloc (.cells #[.int .u16 0, .int .u8 0, .int .u8 0, .int .u32 0, .int .u32 0, .string ⟨#[]⟩] 36))
  have G0 := hide (grown_alloc (grown_refl w (some B)) (.cells #[.int .u16 0, .int .u8 0, .int .u8 0, .int .u32 0, .int .u32 0, .string ⟨#[]⟩] 36))
  have R0 : Hid ((w.alloc (.cells #[.int .u16 0, .int .u8 0, .int .u8 0, .int .u32 0, .int .u32 0, .string ⟨#[]⟩] 36)).heap[w.heap.size]? = some (.cells #[.int .u16 0, .int .u8 0, .int .u8 0, .int .u32 0, .int .u32 0, .string ⟨#[]⟩] 36 (0, 0))) := heap_alloc_new w _
  have hc0 : (w.alloc (.cells #[.int .u16 0, .int .u8 0, .int .u8 0, .int .u32 0, .int .u32 0, .string ⟨#[]⟩] 36)).cell? ⟨B, 0, none⟩ = some (.string s) := by rw [hS]; exact cell_of_one (unhide H0)
  have hn0 : (20 : Int) ≤ ((a0 :: a1 :: a2 :: a3 :: a4 :: a5 :: a6 :: a7 :: a8 :: a9 :: a10 :: a11 :: a12 :: a13 :: a14 :: a15 :: a16 :: a17 :: a18 :: a19 :: l).length : Int) := by simp only [List.length_cons]; omega
  have HN0 := hide hn0
  clear h hn0
  have T1 := hide (fun u hu => ipFirst_ok B a0 a1 (a2 :: a3 :: a4 :: a5 :: a6 :: a7 :: a8 :: a9 :: a10 :: a11 :: a12 :: a13 :: a14 :: a15 :: a16 :: a17 :: a18 :: a19 :: l) u hu hs h0)
  have T2 := (fun u hu => length_ok B a2 a3 (a4 :: a5 :: a6 :: a7 :: a8 :: a9 :: a10 :: a11 :: a12 :: a13 :: a14 :: a15 :: a16 :: a17 :: a18 :: a19 :: l) 20 (s.size : Int) u hu (by simp only [List.length_cons, maxLen] at hs ⊢; omega) (by omega) (by omega))
  rw [hn] at T2
  have T2 := hide T2
  have TC := (fun u => Chk.wire_check (s.extract 0 20) u (by rw [ByteArray.size_extract]; omega))
  have ec : 65535 - Chk.fold (Chk.wsum (s.extract 0 20).data.toList) = chk [a0, a1, a2, a3, a4, a5, a6, a7, a8, a9, a10, a11, a12, a13, a14, a15, a16, a17, a18, a19] := by
    rw [hS, str_take]; simp [chk]
  obtain ⟨c, hc⟩ : ∃ c, c = chk [a0, a1, a2, a3, a4, a5, a6, a7, a8, a9, a10, a11, a12, a13, a14, a15, a16, a17, a18, a19] := ⟨_, rfl⟩
  rw [ec, ← hc] at TC
  rw [← hc] at hsum
  have TC := hide TC
  subst hsum
  have T3 := hide (fun u hu => word_ok B a4 a5 (a6 :: a7 :: a8 :: a9 :: a10 :: a11 :: a12 :: a13 :: a14 :: a15 :: a16 :: a17 :: a18 :: a19 :: l) u hu (by simp only [List.length_cons, maxLen] at hs ⊢; omega))
  have T4 := hide (fun u hu => word_ok B a6 a7 (a8 :: a9 :: a10 :: a11 :: a12 :: a13 :: a14 :: a15 :: a16 :: a17 :: a18 :: a19 :: l) u hu (by simp only [List.length_cons, maxLen] at hs ⊢; omega))
  have T5 := hide (fun u hu => byte_ok B a8 (a9 :: a10 :: a11 :: a12 :: a13 :: a14 :: a15 :: a16 :: a17 :: a18 :: a19 :: l) u hu (by simp only [List.length_cons, maxLen] at hs ⊢; omega))
  obtain ⟨x4, hx4⟩ : ∃ x, x = (256 * (a4.toNat : Int) + (a5.toNat : Int)) := ⟨_, rfl⟩
  obtain ⟨x6, hx6⟩ : ∃ x, x = (256 * (a6.toNat : Int) + (a7.toNat : Int)) := ⟨_, rfl⟩
  obtain ⟨x8, hx8⟩ : ∃ x, x = (a8.toNat : Int) := ⟨_, rfl⟩
  rw [← hx4] at T3
  rw [← hx6] at T4 hf
  rw [← hx8] at T5 ht
  clear hx4 hx6 hx8
  subst ht
  clear hS hz ec hc h0 hn
  go_enter Tryz.func40, Tryz.ntmps40
  go_wp2_with fail
  refine (need_ok _ _ _ _ (unhide H0) (unhide HN0)).mono ?_
  rintro ee wz ⟨rfl, hwz⟩
  rw [hwz]
  clear hwz wz
  go_wp2_with fail
  refine (unhide T1 _ (unhide H0)).mono ?_
  rintro ee w1 ⟨rfl, k1, g1⟩
  have hr : w1.heap[w.heap.size]? = some (.cells #[.int .u16 0, .int .u8 0, .int .u8 0, .int .u32 0, .int .u32 0, .string ⟨#[]⟩] 36 (0, 0)) := (g1.block _ (lt_of_block (unhide R0)) (fun q => hne0 (by simpa using q))).trans (unhide R0)
  have H1 := hide k1
  have G1 := hide (grown_trans (unhide G0) g1)
  have R1 := hide hr
  clear hr k1 g1 H0 G0 R0
  go_wp2_with fail
  refine (unhide T2 _ (unhide H1)).mono ?_
  rintro ee w2 ⟨rfl, k2, g2⟩
  have hr : w2.heap[w.heap.size]? = some (.cells #[.int .u16 0, .int .u8 0, .int .u8 0, .int .u32 0, .int .u32 0, .string ⟨#[]⟩] 36 (0, 0)) := (g2.block _ (lt_of_block (unhide R1)) (fun q => hne0 (by simpa using q))).trans (unhide R1)
  have H2 := hide k2
  have G2 := hide (grown_trans (unhide G1) g2)
  have R2 := hide hr
  clear hr k2 g2 H1 G1 R1
  go_wp2_with fail
  refine (unhide TC _).mono ?_
  rintro ee wz ⟨rfl, hwz⟩
  rw [hwz]
  clear hwz wz
  go_wp2_with fail
  refine (must_if _ (by simp) _ _).mono ?_
  rintro ee wz ⟨rfl, hwz⟩
  rw [hwz]
  clear hwz wz
  have z3 : w.heap.size + 1 ≤ w2.heap.size := by have := (unhide G2).size; have q := lt_of_block (unhide R2); omega
  have hneV : w2.heap.size ≠ B := by have := (unhide H2).lt; omega
  have hlt0 : w.heap.size < w2.heap.size := by omega
  have H3 := hide ((unhide H2).alloc (.cells #[.int .u16 0, .int .u8 0, .int .u8 0, .int .u32 0, .int .u32 0, .string ⟨#[]⟩] 36))
  have G3 := hide (grown_alloc (unhide G2) (.cells #[.int .u16 0, .int .u8 0, .int .u8 0, .int .u32 0, .int .u32 0, .string ⟨#[]⟩] 36))
  have E3 : Hid ((w2.alloc (.cells #[.int .u16 0, .int .u8 0, .int .u8 0, .int .u32 0, .int .u32 0, .string ⟨#[]⟩] 36)).heap[w2.heap.size]? = some (.cells #[.int .u16 0, .int .u8 0, .int .u8 0, .int .u32 0, .int .u32 0, .string ⟨#[]⟩] 36 (0, 0))) := heap_alloc_new w2 _
  have R3 : Hid ((w2.alloc (.cells #[.int .u16 0, .int .u8 0, .int .u8 0, .int .u32 0, .int .u32 0, .string ⟨#[]⟩] 36)).heap[w.heap.size]? = some (.cells #[.int .u16 0, .int .u8 0, .int .u8 0, .int .u32 0, .int .u32 0, .string ⟨#[]⟩] 36 (0, 0))) := by
    show _ = _
    rw [Below.heap_alloc _ _ _ (by omega)]
    exact unhide R2
  clear H2 G2 R2
  go_wp2_with fail
  refine (unhide T3 _ (unhide H3)).mono ?_
  rintro ee w4 ⟨rfl, k4, g4⟩
  have hr : w4.heap[w.heap.size]? = some (.cells #[.int .u16 0, .int .u8 0, .int .u8 0, .int .u32 0, .int .u32 0, .string ⟨#[]⟩] 36 (0, 0)) := (g4.block _ (lt_of_block (unhide R3)) (fun q => hne0 (by simpa using q))).trans (unhide R3)
  have he : w4.heap[w2.heap.size]? = some (.cells #[.int .u16 0, .int .u8 0, .int .u8 0, .int .u32 0, .int .u32 0, .string ⟨#[]⟩] 36 (0, 0)) := (g4.block _ (lt_of_block (unhide E3)) (fun q => hneV (by simpa using q))).trans (unhide E3)
  have c4_0 : w4.cell? ⟨w2.heap.size, 0, none⟩ = some (.int .u16 0) := row_cell he rfl
  have f4 := row_free he
  have E4 : Hid ((w4.setCell ⟨w2.heap.size, 0, none⟩ (.int .u16 x4)).heap[w2.heap.size]? = some (.cells #[.int .u16 x4, .int .u8 0, .int .u8 0, .int .u32 0, .int .u32 0, .string ⟨#[]⟩] 36 (0, 0))) := row_set he 0 (.int .u16 x4)
  have H4 : Hid (Rdr (w4.setCell ⟨w2.heap.size, 0, none⟩ (.int .u16 x4)) B (a6 :: a7 :: a8 :: a9 :: a10 :: a11 :: a12 :: a13 :: a14 :: a15 :: a16 :: a17 :: a18 :: a19 :: l)) := other k4 hneV.symm _
  have G4 : Hid (w.grownBy (w4.setCell ⟨w2.heap.size, 0, none⟩ (.int .u16 x4)) (some B)) := grown_new (grown_trans (unhide G3) g4) (Nat.le_of_lt hlt0) _
  have R4 : Hid ((w4.setCell ⟨w2.heap.size, 0, none⟩ (.int .u16 x4)).heap[w.heap.size]? = some (.cells #[.int .u16 0, .int .u8 0, .int .u8 0, .int .u32 0, .int .u32 0, .string ⟨#[]⟩] 36 (0, 0))) := by
    show _ = _
    rw [Below.heap_setCell _ _ _ _ (Nat.ne_of_lt hlt0)]; exact hr
  clear hr k4 g4 H3 G3 R3 he E3
  go_wp2_with fail
  refine (unhide T4 _ (unhide H4)).mono ?_
  rintro ee w5 ⟨rfl, k5, g5⟩
  have hr : w5.heap[w.heap.size]? = some (.cells #[.int .u16 0, .int .u8 0, .int .u8 0, .int .u32 0, .int .u32 0, .string ⟨#[]⟩] 36 (0, 0)) := (g5.block _ (lt_of_block (unhide R4)) (fun q => hne0 (by simpa using q))).trans (unhide R4)
  have he : w5.heap[w2.heap.size]? = some (.cells #[.int .u16 x4, .int .u8 0, .int .u8 0, .int .u32 0, .int .u32 0, .string ⟨#[]⟩] 36 (0, 0)) := (g5.block _ (lt_of_block (unhide E4)) (fun q => hneV (by simpa using q))).trans (unhide E4)
  have H5 := hide k5
  have G5 := hide (grown_trans (unhide G4) g5)
  have R5 := hide hr
  have E5 := hide he
  clear hr k5 g5 H4 G4 R4 he E4
  go_wp2_with fail
  refine (unhide T5 _ (unhide H5)).mono ?_
  rintro ee w6 ⟨rfl, k6, g6⟩
  have hr : w6.heap[w.heap.size]? = some (.cells #[.int .u16 0, .int .u8 0, .int .u8 0, .int .u32 0, .int .u32 0, .string ⟨#[]⟩] 36 (0, 0)) := (g6.block _ (lt_of_block (unhide R5)) (fun q => hne0 (by simpa using q))).trans (unhide R5)
  have he : w6.heap[w2.heap.size]? = some (.cells #[.int .u16 x4, .int .u8 0, .int .u8 0, .int .u32 0, .int .u32 0, .string ⟨#[]⟩] 36 (0, 0)) := (g6.block _ (lt_of_block (unhide E5)) (fun q => hneV (by simpa using q))).trans (unhide E5)
  have c6_1 : w6.cell? ⟨w2.heap.size, 1, none⟩ = some (.int .u8 0) := row_cell he rfl
  have f6 := row_free he
  have E6 : Hid ((w6.setCell ⟨w2.heap.size, 1, none⟩ (.int .u8 0)).heap[w2.heap.size]? = some (.cells #[.int .u16 x4, .int .u8 0, .int .u8 0, .int .u32 0, .int .u32 0, .string ⟨#[]⟩] 36 (0, 0))) := row_set he 1 (.int .u8 0)
  have H6 : Hid (Rdr (w6.setCell ⟨w2.heap.size, 1, none⟩ (.int .u8 0)) B (a9 :: a10 :: a11 :: a12 :: a13 :: a14 :: a15 :: a16 :: a17 :: a18 :: a19 :: l)) := other k6 hneV.symm _
  have G6 : Hid (w.grownBy (w6.setCell ⟨w2.heap.size, 1, none⟩ (.int .u8 0)) (some B)) := grown_new (grown_trans (unhide G5) g6) (Nat.le_of_lt hlt0) _
  have R6 : Hid ((w6.setCell ⟨w2.heap.size, 1, none⟩ (.int .u8 0)).heap[w.heap.size]? = some (.cells #[.int .u16 0, .int .u8 0, .int .u8 0, .int .u32 0, .int .u32 0, .string ⟨#[]⟩] 36 (0, 0))) := by
    show _ = _
    rw [Below.heap_setCell _ _ _ _ (Nat.ne_of_lt hlt0)]; exact hr
  clear hr k6 g6 H5 G5 R5 he E5
  have cT : (w6.setCell ⟨w2.heap.size, 1, none⟩ (.int .u8 0)).cell? ⟨w2.heap.size, 1, none⟩ = some (.int .u8 0) := row_cell (unhide E6) rfl
  go_wp2_with fail
  refine (must_else _ (by simp) _ _).mono ?_
  rintro ee wz ⟨rfl, hwz⟩
  exact ⟨rfl, rfl, by rw [hwz]; exact unhide G6⟩

set_option maxHeartbeats 2000000 in
theorem ip_frag (B : Nat) (a0 a1 a2 a3 a4 a5 a6 a7 a8 a9 a10 a11 a12 a13 a14 a15 a16 a17 a18 a19 : UInt8) (l : List UInt8) (w : World) (h : Rdr w B (a0 :: a1 :: a2 :: a3 :: a4 :: a5 :: a6 :: a7 :: a8 :: a9 :: a10 :: a11 :: a12 :: a13 :: a14 :: a15 :: a16 :: a17 :: a18 :: a19 :: l)) (hs : (a0 :: a1 :: a2 :: a3 :: a4 :: a5 :: a6 :: a7 :: a8 :: a9 :: a10 :: a11 :: a12 :: a13 :: a14 :: a15 :: a16 :: a17 :: a18 :: a19 :: l).length ≤ maxLen) (h0 : a0.toNat = 69) (k : Nat) (hn : (256 * (a2.toNat : Int) + (a3.toNat : Int)) = 20 + (k : Int)) (hk : k ≤ l.length) (hsum : chk [a0, a1, a2, a3, a4, a5, a6, a7, a8, a9, a10, a11, a12, a13, a14, a15, a16, a17, a18, a19] = 0) (hf : bits .and .u16 (256 * (a6.toNat : Int) + (a7.toNat : Int)) 32768 = 0) (ht : (a8.toNat : Int) ≠ 0) (hp : bits .and .u16 (256 * (a6.toNat : Int) + (a7.toNat : Int)) 16383 ≠ 0) :
    Calls Tryz.prog 40 #[.pointer (some ⟨B, 0, none⟩)] w fun ee w' => ee = .panicked (errP 5) ∧ w.grownBy w' (some B) := by
  obtain ⟨s, hS⟩ : ∃ s : ByteArray, s = ⟨(a0 :: a1 :: a2 :: a3 :: a4 :: a5 :: a6 :: a7 :: a8 :: a9 :: a10 :: a11 :: a12 :: a13 :: a14 :: a15 :: a16 :: a17 :: a18 :: a19 :: l).toArray⟩ := ⟨_, rfl⟩
  have hz : s.size = l.length + 20 := by rw [hS, str_size]; simp
  have hmx : (s.size : Int) ≤ 9223372036854775807 := by rw [hz]; simp only [List.length_cons, maxLen] at hs; omega
  have hk20 : (20 : Int) ≤ (s.size : Int) := by omega
  have hB := h.lt
  have hne0 : w.heap.size ≠ B := by omega
  have H0 := hide (h.alloc (.cells #[.int .u16 0, .int .u8 0, .int .u8 0, .int .u32 0, .int .u32 0, .string ⟨#[]⟩] 36))
  have G0 := hide (grown_alloc (grown_refl w (some B)) (.cells #[.int .u16 0, .int .u8 0, .int .u8 0, .int .u32 0, .int .u32 0, .string ⟨#[]⟩] 36))
  have R0 : Hid ((w.alloc (.cells #[.int .u16 0, .int .u8 0, .int .u8 0, .int .u32 0, .int .u32 0, .string ⟨#[]⟩] 36)).heap[w.heap.size]? = some (.cells #[.int .u16 0, .int .u8 0, .int .u8 0, .int .u32 0, .int .u32 0, .string ⟨#[]⟩] 36 (0, 0))) := heap_alloc_new w _
  have hc0 : (w.alloc (.cells #[.int .u16 0, .int .u8 0, .int .u8 0, .int .u32 0, .int .u32 0, .string ⟨#[]⟩] 36)).cell? ⟨B, 0, none⟩ = some (.string s) := by rw [hS]; exact cell_of_one (unhide H0)
  have hn0 : (20 : Int) ≤ ((a0 :: a1 :: a2 :: a3 :: a4 :: a5 :: a6 :: a7 :: a8 :: a9 :: a10 :: a11 :: a12 :: a13 :: a14 :: a15 :: a16 :: a17 :: a18 :: a19 :: l).length : Int) := by simp only [List.length_cons]; omega
  have HN0 := hide hn0
  clear h hn0
  have T1 := hide (fun u hu => ipFirst_ok B a0 a1 (a2 :: a3 :: a4 :: a5 :: a6 :: a7 :: a8 :: a9 :: a10 :: a11 :: a12 :: a13 :: a14 :: a15 :: a16 :: a17 :: a18 :: a19 :: l) u hu hs h0)
  have T2 := (fun u hu => length_ok B a2 a3 (a4 :: a5 :: a6 :: a7 :: a8 :: a9 :: a10 :: a11 :: a12 :: a13 :: a14 :: a15 :: a16 :: a17 :: a18 :: a19 :: l) 20 (s.size : Int) u hu (by simp only [List.length_cons, maxLen] at hs ⊢; omega) (by omega) (by omega))
  rw [hn] at T2
  have T2 := hide T2
  have TC := (fun u => Chk.wire_check (s.extract 0 20) u (by rw [ByteArray.size_extract]; omega))
  have ec : 65535 - Chk.fold (Chk.wsum (s.extract 0 20).data.toList) = chk [a0, a1, a2, a3, a4, a5, a6, a7, a8, a9, a10, a11, a12, a13, a14, a15, a16, a17, a18, a19] := by
    rw [hS, str_take]; simp [chk]
  obtain ⟨c, hc⟩ : ∃ c, c = chk [a0, a1, a2, a3, a4, a5, a6, a7, a8, a9, a10, a11, a12, a13, a14, a15, a16, a17, a18, a19] := ⟨_, rfl⟩
  rw [ec, ← hc] at TC
  rw [← hc] at hsum
  have TC := hide TC
  subst hsum
  have T3 := hide (fun u hu => word_ok B a4 a5 (a6 :: a7 :: a8 :: a9 :: a10 :: a11 :: a12 :: a13 :: a14 :: a15 :: a16 :: a17 :: a18 :: a19 :: l) u hu (by simp only [List.length_cons, maxLen] at hs ⊢; omega))
  have T4 := hide (fun u hu => word_ok B a6 a7 (a8 :: a9 :: a10 :: a11 :: a12 :: a13 :: a14 :: a15 :: a16 :: a17 :: a18 :: a19 :: l) u hu (by simp only [List.length_cons, maxLen] at hs ⊢; omega))
  have T5 := hide (fun u hu => byte_ok B a8 (a9 :: a10 :: a11 :: a12 :: a13 :: a14 :: a15 :: a16 :: a17 :: a18 :: a19 :: l) u hu (by simp only [List.length_cons, maxLen] at hs ⊢; omega))
  obtain ⟨x4, hx4⟩ : ∃ x, x = (256 * (a4.toNat : Int) + (a5.toNat : Int)) := ⟨_, rfl⟩
  obtain ⟨x6, hx6⟩ : ∃ x, x = (256 * (a6.toNat : Int) + (a7.toNat : Int)) := ⟨_, rfl⟩
  obtain ⟨x8, hx8⟩ : ∃ x, x = (a8.toNat : Int) := ⟨_, rfl⟩
  rw [← hx4] at T3
  rw [← hx6] at T4 hf hp
  rw [← hx8] at T5 ht
  clear hx4 hx6 hx8
  clear hS hz ec hc h0 hn
  go_enter Tryz.func40, Tryz.ntmps40
  go_wp2_with fail
  refine (need_ok _ _ _ _ (unhide H0) (unhide HN0)).mono ?_
  rintro ee wz ⟨rfl, hwz⟩
  rw [hwz]
  clear hwz wz
  go_wp2_with fail
  refine (unhide T1 _ (unhide H0)).mono ?_
  rintro ee w1 ⟨rfl, k1, g1⟩
  have hr : w1.heap[w.heap.size]? = some (.cells #[.int .u16 0, .int .u8 0, .int .u8 0, .int .u32 0, .int .u32 0, .string ⟨#[]⟩] 36 (0, 0)) := (g1.block _ (lt_of_block (unhide R0)) (fun q => hne0 (by simpa using q))).trans (unhide R0)
  have H1 := hide k1
  have G1 := hide (grown_trans (unhide G0) g1)
  have R1 := hide hr
  clear hr k1 g1 H0 G0 R0
  go_wp2_with fail
  refine (unhide T2 _ (unhide H1)).mono ?_
  rintro ee w2 ⟨rfl, k2, g2⟩
  have hr : w2.heap[w.heap.size]? = some (.cells #[.int .u16 0, .int .u8 0, .int .u8 0, .int .u32 0, .int .u32 0, .string ⟨#[]⟩] 36 (0, 0)) := (g2.block _ (lt_of_block (unhide R1)) (fun q => hne0 (by simpa using q))).trans (unhide R1)
  have H2 := hide k2
  have G2 := hide (grown_trans (unhide G1) g2)
  have R2 := hide hr
  clear hr k2 g2 H1 G1 R1
  go_wp2_with fail
  refine (unhide TC _).mono ?_
  rintro ee wz ⟨rfl, hwz⟩
  rw [hwz]
  clear hwz wz
  go_wp2_with fail
  refine (must_if _ (by simp) _ _).mono ?_
  rintro ee wz ⟨rfl, hwz⟩
  rw [hwz]
  clear hwz wz
  have z3 : w.heap.size + 1 ≤ w2.heap.size := by have := (unhide G2).size; have q := lt_of_block (unhide R2); omega
  have hneV : w2.heap.size ≠ B := by have := (unhide H2).lt; omega
  have hlt0 : w.heap.size < w2.heap.size := by omega
  have H3 := hide ((unhide H2).alloc (.cells #[.int .u16 0, .int .u8 0, .int .u8 0, .int .u32 0, .int .u32 0, .string ⟨#[]⟩] 36))
  have G3 := hide (grown_alloc (unhide G2) (.cells #[.int .u16 0, .int .u8 0, .int .u8 0, .int .u32 0, .int .u32 0, .string ⟨#[]⟩] 36))
  have E3 : Hid ((w2.alloc (.cells #[.int .u16 0, .int .u8 0, .int .u8 0, .int .u32 0, .int .u32 0, .string ⟨#[]⟩] 36)).heap[w2.heap.size]? = some (.cells #[.int .u16 0, .int .u8 0, .int .u8 0, .int .u32 0, .int .u32 0, .string ⟨#[]⟩] 36 (0, 0))) := heap_alloc_new w2 _
  have R3 : Hid ((w2.alloc (.cells #[.int .u16 0, .int .u8 0, .int .u8 0, .int .u32 0, .int .u32 0, .string ⟨#[]⟩] 36)).heap[w.heap.size]? = some (.cells #[.int .u16 0, .int .u8 0, .int .u8 0, .int .u32 0, .int .u32 0, .string ⟨#[]⟩] 36 (0, 0))) := by
    show _ = _
    rw [Below.heap_alloc _ _ _ (by omega)]
    exact unhide R2
  clear H2 G2 R2
  go_wp2_with fail
  refine (unhide T3 _ (unhide H3)).mono ?_
  rintro ee w4 ⟨rfl, k4, g4⟩
  have hr : w4.heap[w.heap.size]? = some (.cells #[.int .u16 0, .int .u8 0, .int .u8 0, .int .u32 0, .int .u32 0, .string ⟨#[]⟩] 36 (0, 0)) := (g4.block _ (lt_of_block (unhide R3)) (fun q => hne0 (by simpa using q))).trans (unhide R3)
  have he : w4.heap[w2.heap.size]? = some (.cells #[.int .u16 0, .int .u8 0, .int .u8 0, .int .u32 0, .int .u32 0, .string ⟨#[]⟩] 36 (0, 0)) := (g4.block _ (lt_of_block (unhide E3)) (fun q => hneV (by simpa using q))).trans (unhide E3)
  have c4_0 : w4.cell? ⟨w2.heap.size, 0, none⟩ = some (.int .u16 0) := row_cell he rfl
  have f4 := row_free he
  have E4 : Hid ((w4.setCell ⟨w2.heap.size, 0, none⟩ (.int .u16 x4)).heap[w2.heap.size]? = some (.cells #[.int .u16 x4, .int .u8 0, .int .u8 0, .int .u32 0, .int .u32 0, .string ⟨#[]⟩] 36 (0, 0))) := row_set he 0 (.int .u16 x4)
  have H4 : Hid (Rdr (w4.setCell ⟨w2.heap.size, 0, none⟩ (.int .u16 x4)) B (a6 :: a7 :: a8 :: a9 :: a10 :: a11 :: a12 :: a13 :: a14 :: a15 :: a16 :: a17 :: a18 :: a19 :: l)) := other k4 hneV.symm _
  have G4 : Hid (w.grownBy (w4.setCell ⟨w2.heap.size, 0, none⟩ (.int .u16 x4)) (some B)) := grown_new (grown_trans (unhide G3) g4) (Nat.le_of_lt hlt0) _
  have R4 : Hid ((w4.setCell ⟨w2.heap.size, 0, none⟩ (.int .u16 x4)).heap[w.heap.size]? = some (.cells #[.int .u16 0, .int .u8 0, .int .u8 0, .int .u32 0, .int .u32 0, .string ⟨#[]⟩] 36 (0, 0))) := by
    show _ = _
    rw [Below.heap_setCell _ _ _ _ (Nat.ne_of_lt hlt0)]; exact hr
  clear hr k4 g4 H3 G3 R3 he E3
  go_wp2_with fail
  refine (unhide T4 _ (unhide H4)).mono ?_
  rintro ee w5 ⟨rfl, k5, g5⟩
  have hr : w5.heap[w.heap.size]? = some (.cells #[.int .u16 0, .int .u8 0, .int .u8 0, .int .u32 0, .int .u32 0, .string ⟨#[]⟩] 36 (0, 0)) := (g5.block _ (lt_of_block (unhide R4)) (fun q => hne0 (by simpa using q))).trans (unhide R4)
  have he : w5.heap[w2.heap.size]? = some (.cells #[.int .u16 x4, .int .u8 0, .int .u8 0, .int .u32 0, .int .u32 0, .string ⟨#[]⟩] 36 (0, 0)) := (g5.block _ (lt_of_block (unhide E4)) (fun q => hneV (by simpa using q))).trans (unhide E4)
  have H5 := hide k5
  have G5 := hide (grown_trans (unhide G4) g5)
  have R5 := hide hr
  have E5 := hide he
  clear hr k5 g5 H4 G4 R4 he E4
  go_wp2_with fail
  refine (unhide T5 _ (unhide H5)).mono ?_
  rintro ee w6 ⟨rfl, k6, g6⟩
  have hr : w6.heap[w.heap.size]? = some (.cells #[.int .u16 0, .int .u8 0, .int .u8 0, .int .u32 0, .int .u32 0, .string ⟨#[]⟩] 36 (0, 0)) := (g6.block _ (lt_of_block (unhide R5)) (fun q => hne0 (by simpa using q))).trans (unhide R5)
  have he : w6.heap[w2.heap.size]? = some (.cells #[.int .u16 x4, .int .u8 0, .int .u8 0, .int .u32 0, .int .u32 0, .string ⟨#[]⟩] 36 (0, 0)) := (g6.block _ (lt_of_block (unhide E5)) (fun q => hneV (by simpa using q))).trans (unhide E5)
  have c6_1 : w6.cell? ⟨w2.heap.size, 1, none⟩ = some (.int .u8 0) := row_cell he rfl
  have f6 := row_free he
  have E6 : Hid ((w6.setCell ⟨w2.heap.size, 1, none⟩ (.int .u8 x8)).heap[w2.heap.size]? = some (.cells #[.int .u16 x4, .int .u8 x8, .int .u8 0, .int .u32 0, .int .u32 0, .string ⟨#[]⟩] 36 (0, 0))) := row_set he 1 (.int .u8 x8)
  have H6 : Hid (Rdr (w6.setCell ⟨w2.heap.size, 1, none⟩ (.int .u8 x8)) B (a9 :: a10 :: a11 :: a12 :: a13 :: a14 :: a15 :: a16 :: a17 :: a18 :: a19 :: l)) := other k6 hneV.symm _
  have G6 : Hid (w.grownBy (w6.setCell ⟨w2.heap.size, 1, none⟩ (.int .u8 x8)) (some B)) := grown_new (grown_trans (unhide G5) g6) (Nat.le_of_lt hlt0) _
  have R6 : Hid ((w6.setCell ⟨w2.heap.size, 1, none⟩ (.int .u8 x8)).heap[w.heap.size]? = some (.cells #[.int .u16 0, .int .u8 0, .int .u8 0, .int .u32 0, .int .u32 0, .string ⟨#[]⟩] 36 (0, 0))) := by
    show _ = _
    rw [Below.heap_setCell _ _ _ _ (Nat.ne_of_lt hlt0)]; exact hr
  clear hr k6 g6 H5 G5 R5 he E5
  have cT : (w6.setCell ⟨w2.heap.size, 1, none⟩ (.int .u8 x8)).cell? ⟨w2.heap.size, 1, none⟩ = some (.int .u8 x8) := row_cell (unhide E6) rfl
  have htn : (x8 == 0) = false := by simpa using ht
  go_wp2_with fail
  refine (must_if _ (by simpa using ht) _ _).mono ?_
  rintro ee wz ⟨rfl, hwz⟩
  rw [hwz]
  clear hwz wz
  have hpn : (bits .and .u16 x6 16383 == 0) = false := by simpa using hp
  go_wp2_with fail
  refine (must_else _ (by simp) _ _).mono ?_
  rintro ee wz ⟨rfl, hwz⟩
  exact ⟨rfl, rfl, by rw [hwz]; exact unhide G6⟩

set_option maxHeartbeats 2000000 in
theorem ip_ok (B : Nat) (a0 a1 a2 a3 a4 a5 a6 a7 a8 a9 a10 a11 a12 a13 a14 a15 a16 a17 a18 a19 : UInt8) (l : List UInt8) (w : World) (h : Rdr w B (a0 :: a1 :: a2 :: a3 :: a4 :: a5 :: a6 :: a7 :: a8 :: a9 :: a10 :: a11 :: a12 :: a13 :: a14 :: a15 :: a16 :: a17 :: a18 :: a19 :: l)) (hs : (a0 :: a1 :: a2 :: a3 :: a4 :: a5 :: a6 :: a7 :: a8 :: a9 :: a10 :: a11 :: a12 :: a13 :: a14 :: a15 :: a16 :: a17 :: a18 :: a19 :: l).length ≤ maxLen) (h0 : a0.toNat = 69) (k : Nat) (hn : (256 * (a2.toNat : Int) + (a3.toNat : Int)) = 20 + (k : Int)) (hk : k ≤ l.length) (hsum : chk [a0, a1, a2, a3, a4, a5, a6, a7, a8, a9, a10, a11, a12, a13, a14, a15, a16, a17, a18, a19] = 0) (hf : bits .and .u16 (256 * (a6.toNat : Int) + (a7.toNat : Int)) 32768 = 0) (ht : (a8.toNat : Int) ≠ 0) (hp : bits .and .u16 (256 * (a6.toNat : Int) + (a7.toNat : Int)) 16383 = 0) (hL : l.length ≤ 1099511627776) :
    Calls Tryz.prog 40 #[.pointer (some ⟨B, 0, none⟩)] w fun ee w' => ee = .returned (.agg #[.int .u16 (256 * (a4.toNat : Int) + (a5.toNat : Int)), .int .u8 (a8.toNat : Int), .int .u8 (a9.toNat : Int), .int .u32 (16777216 * (a12.toNat : Int) + 65536 * (a13.toNat : Int) + 256 * (a14.toNat : Int) + (a15.toNat : Int)), .int .u32 (16777216 * (a16.toNat : Int) + 65536 * (a17.toNat : Int) + 256 * (a18.toNat : Int) + (a19.toNat : Int)), .string ⟨(l.take k).toArray⟩]) ∧ w.grownBy w' (some B) := by
  obtain ⟨s, hS⟩ : ∃ s : ByteArray, s = ⟨(a0 :: a1 :: a2 :: a3 :: a4 :: a5 :: a6 :: a7 :: a8 :: a9 :: a10 :: a11 :: a12 :: a13 :: a14 :: a15 :: a16 :: a17 :: a18 :: a19 :: l).toArray⟩ := ⟨_, rfl⟩
  have hz : s.size = l.length + 20 := by rw [hS, str_size]; simp
  have hmx : (s.size : Int) ≤ 9223372036854775807 := by rw [hz]; simp only [List.length_cons, maxLen] at hs; omega
  have hk20 : (20 : Int) ≤ (s.size : Int) := by omega
  have hB := h.lt
  have hne0 : w.heap.size ≠ B := by omega
  have H0 := hide (h.alloc (.cells #[.int .u16 0, .int .u8 0, .int .u8 0, .int .u32 0, .int .u32 0, .string ⟨#[]⟩] 36))
  have G0 := hide (grown_alloc (grown_refl w (some B)) (.cells #[.int .u16 0, .int .u8 0, .int .u8 0, .int .u32 0, .int .u32 0, .string ⟨#[]⟩] 36))
  have R0 : Hid ((w.alloc (.cells #[.int .u16 0, .int .u8 0, .int .u8 0, .int .u32 0, .int .u32 0, .string ⟨#[]⟩] 36)).heap[w.heap.size]? = some (.cells #[.int .u16 0, .int .u8 0, .int .u8 0, .int .u32 0, .int .u32 0, .string ⟨#[]⟩] 36 (0, 0))) := heap_alloc_new w _
  have hc0 : (w.alloc (.cells #[.int .u16 0, .int .u8 0, .int .u8 0, .int .u32 0, .int .u32 0, .string ⟨#[]⟩] 36)).cell? ⟨B, 0, none⟩ = some (.string s) := by rw [hS]; exact cell_of_one (unhide H0)
  have hn0 : (20 : Int) ≤ ((a0 :: a1 :: a2 :: a3 :: a4 :: a5 :: a6 :: a7 :: a8 :: a9 :: a10 :: a11 :: a12 :: a13 :: a14 :: a15 :: a16 :: a17 :: a18 :: a19 :: l).length : Int) := by simp only [List.length_cons]; omega
  have HN0 := hide hn0
  clear h hn0
  have T1 := hide (fun u hu => ipFirst_ok B a0 a1 (a2 :: a3 :: a4 :: a5 :: a6 :: a7 :: a8 :: a9 :: a10 :: a11 :: a12 :: a13 :: a14 :: a15 :: a16 :: a17 :: a18 :: a19 :: l) u hu hs h0)
  have T2 := (fun u hu => length_ok B a2 a3 (a4 :: a5 :: a6 :: a7 :: a8 :: a9 :: a10 :: a11 :: a12 :: a13 :: a14 :: a15 :: a16 :: a17 :: a18 :: a19 :: l) 20 (s.size : Int) u hu (by simp only [List.length_cons, maxLen] at hs ⊢; omega) (by omega) (by omega))
  rw [hn] at T2
  have T2 := hide T2
  have TC := (fun u => Chk.wire_check (s.extract 0 20) u (by rw [ByteArray.size_extract]; omega))
  have ec : 65535 - Chk.fold (Chk.wsum (s.extract 0 20).data.toList) = chk [a0, a1, a2, a3, a4, a5, a6, a7, a8, a9, a10, a11, a12, a13, a14, a15, a16, a17, a18, a19] := by
    rw [hS, str_take]; simp [chk]
  obtain ⟨c, hc⟩ : ∃ c, c = chk [a0, a1, a2, a3, a4, a5, a6, a7, a8, a9, a10, a11, a12, a13, a14, a15, a16, a17, a18, a19] := ⟨_, rfl⟩
  rw [ec, ← hc] at TC
  rw [← hc] at hsum
  have TC := hide TC
  subst hsum
  have T3 := hide (fun u hu => word_ok B a4 a5 (a6 :: a7 :: a8 :: a9 :: a10 :: a11 :: a12 :: a13 :: a14 :: a15 :: a16 :: a17 :: a18 :: a19 :: l) u hu (by simp only [List.length_cons, maxLen] at hs ⊢; omega))
  have T4 := hide (fun u hu => word_ok B a6 a7 (a8 :: a9 :: a10 :: a11 :: a12 :: a13 :: a14 :: a15 :: a16 :: a17 :: a18 :: a19 :: l) u hu (by simp only [List.length_cons, maxLen] at hs ⊢; omega))
  have T5 := hide (fun u hu => byte_ok B a8 (a9 :: a10 :: a11 :: a12 :: a13 :: a14 :: a15 :: a16 :: a17 :: a18 :: a19 :: l) u hu (by simp only [List.length_cons, maxLen] at hs ⊢; omega))
  obtain ⟨x4, hx4⟩ : ∃ x, x = (256 * (a4.toNat : Int) + (a5.toNat : Int)) := ⟨_, rfl⟩
  obtain ⟨x6, hx6⟩ : ∃ x, x = (256 * (a6.toNat : Int) + (a7.toNat : Int)) := ⟨_, rfl⟩
  obtain ⟨x8, hx8⟩ : ∃ x, x = (a8.toNat : Int) := ⟨_, rfl⟩
  rw [← hx4] at T3
  rw [← hx6] at T4 hf hp
  rw [← hx8] at T5 ht
  have T6 := hide (fun u hu => byte_ok B a9 (a10 :: a11 :: a12 :: a13 :: a14 :: a15 :: a16 :: a17 :: a18 :: a19 :: l) u hu (by simp only [List.length_cons, maxLen] at hs ⊢; omega))
  have T7 := hide (fun u hu => word_ok B a10 a11 (a12 :: a13 :: a14 :: a15 :: a16 :: a17 :: a18 :: a19 :: l) u hu (by simp only [List.length_cons, maxLen] at hs ⊢; omega))
  have T8 := hide (fun u hu => address_ok B a12 a13 a14 a15 (a16 :: a17 :: a18 :: a19 :: l) u hu (by simp only [List.length_cons, maxLen] at hs ⊢; omega))
  have T9 := hide (fun u hu => address_ok B a16 a17 a18 a19 l u hu (by simp only [List.length_cons, maxLen] at hs ⊢; omega))
  have T10 := hide (fun u hu => text_ok B l k u hu (by omega) (by omega))
  obtain ⟨x9, hx9⟩ : ∃ x, x = (a9.toNat : Int) := ⟨_, rfl⟩
  obtain ⟨x12, hx12⟩ : ∃ x, x = (16777216 * (a12.toNat : Int) + 65536 * (a13.toNat : Int) + 256 * (a14.toNat : Int) + (a15.toNat : Int)) := ⟨_, rfl⟩
  obtain ⟨x16, hx16⟩ : ∃ x, x = (16777216 * (a16.toNat : Int) + 65536 * (a17.toNat : Int) + 256 * (a18.toNat : Int) + (a19.toNat : Int)) := ⟨_, rfl⟩
  rw [← hx9] at T6 ⊢
  rw [← hx12] at T8 ⊢
  rw [← hx16] at T9 ⊢
  rw [← hx4, ← hx8]
  have hq : IntKind.i64.wrap (20 + (k : Int) - 20) = (k : Int) := by rw [wrap_i64 _ (by omega) (by omega)]; omega
  have hq2 : (20 + (k : Int) - 20) = (k : Int) := by omega
  clear hx9 hx12 hx16
  clear hx4 hx6 hx8
  clear hS hz ec hc h0 hn
  go_enter Tryz.func40, Tryz.ntmps40
  go_wp2_with fail
  refine (need_ok _ _ _ _ (unhide H0) (unhide HN0)).mono ?_
  rintro ee wz ⟨rfl, hwz⟩
  rw [hwz]
  clear hwz wz
  go_wp2_with fail
  refine (unhide T1 _ (unhide H0)).mono ?_
  rintro ee w1 ⟨rfl, k1, g1⟩
  have hr : w1.heap[w.heap.size]? = some (.cells #[.int .u16 0, .int .u8 0, .int .u8 0, .int .u32 0, .int .u32 0, .string ⟨#[]⟩] 36 (0, 0)) := (g1.block _ (lt_of_block (unhide R0)) (fun q => hne0 (by simpa using q))).trans (unhide R0)
  have H1 := hide k1
  have G1 := hide (grown_trans (unhide G0) g1)
  have R1 := hide hr
  clear hr k1 g1 H0 G0 R0
  go_wp2_with fail
  refine (unhide T2 _ (unhide H1)).mono ?_
  rintro ee w2 ⟨rfl, k2, g2⟩
  have hr : w2.heap[w.heap.size]? = some (.cells #[.int .u16 0, .int .u8 0, .int .u8 0, .int .u32 0, .int .u32 0, .string ⟨#[]⟩] 36 (0, 0)) := (g2.block _ (lt_of_block (unhide R1)) (fun q => hne0 (by simpa using q))).trans (unhide R1)
  have H2 := hide k2
  have G2 := hide (grown_trans (unhide G1) g2)
  have R2 := hide hr
  clear hr k2 g2 H1 G1 R1
  go_wp2_with fail
  refine (unhide TC _).mono ?_
  rintro ee wz ⟨rfl, hwz⟩
  rw [hwz]
  clear hwz wz
  go_wp2_with fail
  refine (must_if _ (by simp) _ _).mono ?_
  rintro ee wz ⟨rfl, hwz⟩
  rw [hwz]
  clear hwz wz
  have z3 : w.heap.size + 1 ≤ w2.heap.size := by have := (unhide G2).size; have q := lt_of_block (unhide R2); omega
  have hneV : w2.heap.size ≠ B := by have := (unhide H2).lt; omega
  have hlt0 : w.heap.size < w2.heap.size := by omega
  have H3 := hide ((unhide H2).alloc (.cells #[.int .u16 0, .int .u8 0, .int .u8 0, .int .u32 0, .int .u32 0, .string ⟨#[]⟩] 36))
  have G3 := hide (grown_alloc (unhide G2) (.cells #[.int .u16 0, .int .u8 0, .int .u8 0, .int .u32 0, .int .u32 0, .string ⟨#[]⟩] 36))
  have E3 : Hid ((w2.alloc (.cells #[.int .u16 0, .int .u8 0, .int .u8 0, .int .u32 0, .int .u32 0, .string ⟨#[]⟩] 36)).heap[w2.heap.size]? = some (.cells #[.int .u16 0, .int .u8 0, .int .u8 0, .int .u32 0, .int .u32 0, .string ⟨#[]⟩] 36 (0, 0))) := heap_alloc_new w2 _
  have R3 : Hid ((w2.alloc (.cells #[.int .u16 0, .int .u8 0, .int .u8 0, .int .u32 0, .int .u32 0, .string ⟨#[]⟩] 36)).heap[w.heap.size]? = some (.cells #[.int .u16 0, .int .u8 0, .int .u8 0, .int .u32 0, .int .u32 0, .string ⟨#[]⟩] 36 (0, 0))) := by
    show _ = _
    rw [Below.heap_alloc _ _ _ (by omega)]
    exact unhide R2
  clear H2 G2 R2
  go_wp2_with fail
  refine (unhide T3 _ (unhide H3)).mono ?_
  rintro ee w4 ⟨rfl, k4, g4⟩
  have hr : w4.heap[w.heap.size]? = some (.cells #[.int .u16 0, .int .u8 0, .int .u8 0, .int .u32 0, .int .u32 0, .string ⟨#[]⟩] 36 (0, 0)) := (g4.block _ (lt_of_block (unhide R3)) (fun q => hne0 (by simpa using q))).trans (unhide R3)
  have he : w4.heap[w2.heap.size]? = some (.cells #[.int .u16 0, .int .u8 0, .int .u8 0, .int .u32 0, .int .u32 0, .string ⟨#[]⟩] 36 (0, 0)) := (g4.block _ (lt_of_block (unhide E3)) (fun q => hneV (by simpa using q))).trans (unhide E3)
  have c4_0 : w4.cell? ⟨w2.heap.size, 0, none⟩ = some (.int .u16 0) := row_cell he rfl
  have f4 := row_free he
  have E4 : Hid ((w4.setCell ⟨w2.heap.size, 0, none⟩ (.int .u16 x4)).heap[w2.heap.size]? = some (.cells #[.int .u16 x4, .int .u8 0, .int .u8 0, .int .u32 0, .int .u32 0, .string ⟨#[]⟩] 36 (0, 0))) := row_set he 0 (.int .u16 x4)
  have H4 : Hid (Rdr (w4.setCell ⟨w2.heap.size, 0, none⟩ (.int .u16 x4)) B (a6 :: a7 :: a8 :: a9 :: a10 :: a11 :: a12 :: a13 :: a14 :: a15 :: a16 :: a17 :: a18 :: a19 :: l)) := other k4 hneV.symm _
  have G4 : Hid (w.grownBy (w4.setCell ⟨w2.heap.size, 0, none⟩ (.int .u16 x4)) (some B)) := grown_new (grown_trans (unhide G3) g4) (Nat.le_of_lt hlt0) _
  have R4 : Hid ((w4.setCell ⟨w2.heap.size, 0, none⟩ (.int .u16 x4)).heap[w.heap.size]? = some (.cells #[.int .u16 0, .int .u8 0, .int .u8 0, .int .u32 0, .int .u32 0, .string ⟨#[]⟩] 36 (0, 0))) := by
    show _ = _
    rw [Below.heap_setCell _ _ _ _ (Nat.ne_of_lt hlt0)]; exact hr
  clear hr k4 g4 H3 G3 R3 he E3
  go_wp2_with fail
  refine (unhide T4 _ (unhide H4)).mono ?_
  rintro ee w5 ⟨rfl, k5, g5⟩
  have hr : w5.heap[w.heap.size]? = some (.cells #[.int .u16 0, .int .u8 0, .int .u8 0, .int .u32 0, .int .u32 0, .string ⟨#[]⟩] 36 (0, 0)) := (g5.block _ (lt_of_block (unhide R4)) (fun q => hne0 (by simpa using q))).trans (unhide R4)
  have he : w5.heap[w2.heap.size]? = some (.cells #[.int .u16 x4, .int .u8 0, .int .u8 0, .int .u32 0, .int .u32 0, .string ⟨#[]⟩] 36 (0, 0)) := (g5.block _ (lt_of_block (unhide E4)) (fun q => hneV (by simpa using q))).trans (unhide E4)
  have H5 := hide k5
  have G5 := hide (grown_trans (unhide G4) g5)
  have R5 := hide hr
  have E5 := hide he
  clear hr k5 g5 H4 G4 R4 he E4
  go_wp2_with fail
  refine (unhide T5 _ (unhide H5)).mono ?_
  rintro ee w6 ⟨rfl, k6, g6⟩
  have hr : w6.heap[w.heap.size]? = some (.cells #[.int .u16 0, .int .u8 0, .int .u8 0, .int .u32 0, .int .u32 0, .string ⟨#[]⟩] 36 (0, 0)) := (g6.block _ (lt_of_block (unhide R5)) (fun q => hne0 (by simpa using q))).trans (unhide R5)
  have he : w6.heap[w2.heap.size]? = some (.cells #[.int .u16 x4, .int .u8 0, .int .u8 0, .int .u32 0, .int .u32 0, .string ⟨#[]⟩] 36 (0, 0)) := (g6.block _ (lt_of_block (unhide E5)) (fun q => hneV (by simpa using q))).trans (unhide E5)
  have c6_1 : w6.cell? ⟨w2.heap.size, 1, none⟩ = some (.int .u8 0) := row_cell he rfl
  have f6 := row_free he
  have E6 : Hid ((w6.setCell ⟨w2.heap.size, 1, none⟩ (.int .u8 x8)).heap[w2.heap.size]? = some (.cells #[.int .u16 x4, .int .u8 x8, .int .u8 0, .int .u32 0, .int .u32 0, .string ⟨#[]⟩] 36 (0, 0))) := row_set he 1 (.int .u8 x8)
  have H6 : Hid (Rdr (w6.setCell ⟨w2.heap.size, 1, none⟩ (.int .u8 x8)) B (a9 :: a10 :: a11 :: a12 :: a13 :: a14 :: a15 :: a16 :: a17 :: a18 :: a19 :: l)) := other k6 hneV.symm _
  have G6 : Hid (w.grownBy (w6.setCell ⟨w2.heap.size, 1, none⟩ (.int .u8 x8)) (some B)) := grown_new (grown_trans (unhide G5) g6) (Nat.le_of_lt hlt0) _
  have R6 : Hid ((w6.setCell ⟨w2.heap.size, 1, none⟩ (.int .u8 x8)).heap[w.heap.size]? = some (.cells #[.int .u16 0, .int .u8 0, .int .u8 0, .int .u32 0, .int .u32 0, .string ⟨#[]⟩] 36 (0, 0))) := by
    show _ = _
    rw [Below.heap_setCell _ _ _ _ (Nat.ne_of_lt hlt0)]; exact hr
  clear hr k6 g6 H5 G5 R5 he E5
  have cT : (w6.setCell ⟨w2.heap.size, 1, none⟩ (.int .u8 x8)).cell? ⟨w2.heap.size, 1, none⟩ = some (.int .u8 x8) := row_cell (unhide E6) rfl
  have htn : (x8 == 0) = false := by simpa using ht
  go_wp2_with fail
  refine (must_if _ (by simpa using ht) _ _).mono ?_
  rintro ee wz ⟨rfl, hwz⟩
  rw [hwz]
  clear hwz wz
  go_wp2_with fail
  refine (must_if _ (by simp) _ _).mono ?_
  rintro ee wz ⟨rfl, hwz⟩
  rw [hwz]
  clear hwz wz
  clear cT
  go_wp2_with fail
  refine (unhide T6 _ (unhide H6)).mono ?_
  rintro ee w7 ⟨rfl, k7, g7⟩
  have hr : w7.heap[w.heap.size]? = some (.cells #[.int .u16 0, .int .u8 0, .int .u8 0, .int .u32 0, .int .u32 0, .string ⟨#[]⟩] 36 (0, 0)) := (g7.block _ (lt_of_block (unhide R6)) (fun q => hne0 (by simpa using q))).trans (unhide R6)
  have he : w7.heap[w2.heap.size]? = some (.cells #[.int .u16 x4, .int .u8 x8, .int .u8 0, .int .u32 0, .int .u32 0, .string ⟨#[]⟩] 36 (0, 0)) := (g7.block _ (lt_of_block (unhide E6)) (fun q => hneV (by simpa using q))).trans (unhide E6)
  have c7_2 : w7.cell? ⟨w2.heap.size, 2, none⟩ = some (.int .u8 0) := row_cell he rfl
  have f7 := row_free he
  have E7 : Hid ((w7.setCell ⟨w2.heap.size, 2, none⟩ (.int .u8 x9)).heap[w2.heap.size]? = some (.cells #[.int .u16 x4, .int .u8 x8, .int .u8 x9, .int .u32 0, .int .u32 0, .string ⟨#[]⟩] 36 (0, 0))) := row_set he 2 (.int .u8 x9)
  have H7 : Hid (Rdr (w7.setCell ⟨w2.heap.size, 2, none⟩ (.int .u8 x9)) B (a10 :: a11 :: a12 :: a13 :: a14 :: a15 :: a16 :: a17 :: a18 :: a19 :: l)) := other k7 hneV.symm _
  have G7 : Hid (w.grownBy (w7.setCell ⟨w2.heap.size, 2, none⟩ (.int .u8 x9)) (some B)) := grown_new (grown_trans (unhide G6) g7) (Nat.le_of_lt hlt0) _
  have R7 : Hid ((w7.setCell ⟨w2.heap.size, 2, none⟩ (.int .u8 x9)).heap[w.heap.size]? = some (.cells #[.int .u16 0, .int .u8 0, .int .u8 0, .int .u32 0, .int .u32 0, .string ⟨#[]⟩] 36 (0, 0))) := by
    show _ = _
    rw [Below.heap_setCell _ _ _ _ (Nat.ne_of_lt hlt0)]; exact hr
  clear hr k7 g7 H6 G6 R6 he E6
  go_wp2_with fail
  refine (unhide T7 _ (unhide H7)).mono ?_
  rintro ee w8 ⟨rfl, k8, g8⟩
  have hr : w8.heap[w.heap.size]? = some (.cells #[.int .u16 0, .int .u8 0, .int .u8 0, .int .u32 0, .int .u32 0, .string ⟨#[]⟩] 36 (0, 0)) := (g8.block _ (lt_of_block (unhide R7)) (fun q => hne0 (by simpa using q))).trans (unhide R7)
  have he : w8.heap[w2.heap.size]? = some (.cells #[.int .u16 x4, .int .u8 x8, .int .u8 x9, .int .u32 0, .int .u32 0, .string ⟨#[]⟩] 36 (0, 0)) := (g8.block _ (lt_of_block (unhide E7)) (fun q => hneV (by simpa using q))).trans (unhide E7)
  have H8 := hide k8
  have G8 := hide (grown_trans (unhide G7) g8)
  have R8 := hide hr
  have E8 := hide he
  clear hr k8 g8 H7 G7 R7 he E7
  go_wp2_with fail
  refine (unhide T8 _ (unhide H8)).mono ?_
  rintro ee w9 ⟨rfl, k9, g9⟩
  have hr : w9.heap[w.heap.size]? = some (.cells #[.int .u16 0, .int .u8 0, .int .u8 0, .int .u32 0, .int .u32 0, .string ⟨#[]⟩] 36 (0, 0)) := (g9.block _ (lt_of_block (unhide R8)) (fun q => hne0 (by simpa using q))).trans (unhide R8)
  have he : w9.heap[w2.heap.size]? = some (.cells #[.int .u16 x4, .int .u8 x8, .int .u8 x9, .int .u32 0, .int .u32 0, .string ⟨#[]⟩] 36 (0, 0)) := (g9.block _ (lt_of_block (unhide E8)) (fun q => hneV (by simpa using q))).trans (unhide E8)
  have c9_3 : w9.cell? ⟨w2.heap.size, 3, none⟩ = some (.int .u32 0) := row_cell he rfl
  have f9 := row_free he
  have E9 : Hid ((w9.setCell ⟨w2.heap.size, 3, none⟩ (.int .u32 x12)).heap[w2.heap.size]? = some (.cells #[.int .u16 x4, .int .u8 x8, .int .u8 x9, .int .u32 x12, .int .u32 0, .string ⟨#[]⟩] 36 (0, 0))) := row_set he 3 (.int .u32 x12)
  have H9 : Hid (Rdr (w9.setCell ⟨w2.heap.size, 3, none⟩ (.int .u32 x12)) B (a16 :: a17 :: a18 :: a19 :: l)) := other k9 hneV.symm _
  have G9 : Hid (w.grownBy (w9.setCell ⟨w2.heap.size, 3, none⟩ (.int .u32 x12)) (some B)) := grown_new (grown_trans (unhide G8) g9) (Nat.le_of_lt hlt0) _
  have R9 : Hid ((w9.setCell ⟨w2.heap.size, 3, none⟩ (.int .u32 x12)).heap[w.heap.size]? = some (.cells #[.int .u16 0, .int .u8 0, .int .u8 0, .int .u32 0, .int .u32 0, .string ⟨#[]⟩] 36 (0, 0))) := by
    show _ = _
    rw [Below.heap_setCell _ _ _ _ (Nat.ne_of_lt hlt0)]; exact hr
  clear hr k9 g9 H8 G8 R8 he E8
  go_wp2_with fail
  refine (unhide T9 _ (unhide H9)).mono ?_
  rintro ee w10 ⟨rfl, k10, g10⟩
  have hr : w10.heap[w.heap.size]? = some (.cells #[.int .u16 0, .int .u8 0, .int .u8 0, .int .u32 0, .int .u32 0, .string ⟨#[]⟩] 36 (0, 0)) := (g10.block _ (lt_of_block (unhide R9)) (fun q => hne0 (by simpa using q))).trans (unhide R9)
  have he : w10.heap[w2.heap.size]? = some (.cells #[.int .u16 x4, .int .u8 x8, .int .u8 x9, .int .u32 x12, .int .u32 0, .string ⟨#[]⟩] 36 (0, 0)) := (g10.block _ (lt_of_block (unhide E9)) (fun q => hneV (by simpa using q))).trans (unhide E9)
  have c10_4 : w10.cell? ⟨w2.heap.size, 4, none⟩ = some (.int .u32 0) := row_cell he rfl
  have f10 := row_free he
  have E10 : Hid ((w10.setCell ⟨w2.heap.size, 4, none⟩ (.int .u32 x16)).heap[w2.heap.size]? = some (.cells #[.int .u16 x4, .int .u8 x8, .int .u8 x9, .int .u32 x12, .int .u32 x16, .string ⟨#[]⟩] 36 (0, 0))) := row_set he 4 (.int .u32 x16)
  have H10 : Hid (Rdr (w10.setCell ⟨w2.heap.size, 4, none⟩ (.int .u32 x16)) B (l)) := other k10 hneV.symm _
  have G10 : Hid (w.grownBy (w10.setCell ⟨w2.heap.size, 4, none⟩ (.int .u32 x16)) (some B)) := grown_new (grown_trans (unhide G9) g10) (Nat.le_of_lt hlt0) _
  have R10 : Hid ((w10.setCell ⟨w2.heap.size, 4, none⟩ (.int .u32 x16)).heap[w.heap.size]? = some (.cells #[.int .u16 0, .int .u8 0, .int .u8 0, .int .u32 0, .int .u32 0, .string ⟨#[]⟩] 36 (0, 0))) := by
    show _ = _
    rw [Below.heap_setCell _ _ _ _ (Nat.ne_of_lt hlt0)]; exact hr
  clear hr k10 g10 H9 G9 R9 he E9
  go_wp2_with fail
  refine (unhide T10 _ (unhide H10)).mono ?_
  rintro ee w11 ⟨rfl, k11, g11⟩
  have hr : w11.heap[w.heap.size]? = some (.cells #[.int .u16 0, .int .u8 0, .int .u8 0, .int .u32 0, .int .u32 0, .string ⟨#[]⟩] 36 (0, 0)) := (g11.block _ (lt_of_block (unhide R10)) (fun q => hne0 (by simpa using q))).trans (unhide R10)
  have he : w11.heap[w2.heap.size]? = some (.cells #[.int .u16 x4, .int .u8 x8, .int .u8 x9, .int .u32 x12, .int .u32 x16, .string ⟨#[]⟩] 36 (0, 0)) := (g11.block _ (lt_of_block (unhide E10)) (fun q => hneV (by simpa using q))).trans (unhide E10)
  have c11_0 : w11.cell? ⟨w2.heap.size, 0, none⟩ = some (.int .u16 x4) := row_cell he rfl
  have c11_1 : w11.cell? ⟨w2.heap.size, 1, none⟩ = some (.int .u8 x8) := row_cell he rfl
  have c11_2 : w11.cell? ⟨w2.heap.size, 2, none⟩ = some (.int .u8 x9) := row_cell he rfl
  have c11_3 : w11.cell? ⟨w2.heap.size, 3, none⟩ = some (.int .u32 x12) := row_cell he rfl
  have c11_4 : w11.cell? ⟨w2.heap.size, 4, none⟩ = some (.int .u32 x16) := row_cell he rfl
  have c11_5 : w11.cell? ⟨w2.heap.size, 5, none⟩ = some (.string ⟨#[]⟩) := row_cell he rfl
  have f11 := row_free he
  have d0 : w11.cell? ⟨w.heap.size, 0, none⟩ = some (.int .u16 0) := row_cell hr rfl
  have d1 : w11.cell? ⟨w.heap.size, 1, none⟩ = some (.int .u8 0) := row_cell hr rfl
  have d2 : w11.cell? ⟨w.heap.size, 2, none⟩ = some (.int .u8 0) := row_cell hr rfl
  have d3 : w11.cell? ⟨w.heap.size, 3, none⟩ = some (.int .u32 0) := row_cell hr rfl
  have d4 : w11.cell? ⟨w.heap.size, 4, none⟩ = some (.int .u32 0) := row_cell hr rfl
  have d5 : w11.cell? ⟨w.heap.size, 5, none⟩ = some (.string ⟨#[]⟩) := row_cell hr rfl
  have kd := row_free hr
  have E11 : Hid ((w11.setCell ⟨w2.heap.size, 5, none⟩ (.string ⟨(l.take k).toArray⟩)).heap[w2.heap.size]? = some (.cells #[.int .u16 x4, .int .u8 x8, .int .u8 x9, .int .u32 x12, .int .u32 x16, .string ⟨(l.take k).toArray⟩] 36 (0, 0))) := row_set he 5 (.string ⟨(l.take k).toArray⟩)
  have H11 : Hid (Rdr (w11.setCell ⟨w2.heap.size, 5, none⟩ (.string ⟨(l.take k).toArray⟩)) B (l.drop k)) := other k11 hneV.symm _
  have G11 : Hid (w.grownBy (w11.setCell ⟨w2.heap.size, 5, none⟩ (.string ⟨(l.take k).toArray⟩)) (some B)) := grown_new (grown_trans (unhide G10) g11) (Nat.le_of_lt hlt0) _
  have R11 : Hid ((w11.setCell ⟨w2.heap.size, 5, none⟩ (.string ⟨(l.take k).toArray⟩)).heap[w.heap.size]? = some (.cells #[.int .u16 0, .int .u8 0, .int .u8 0, .int .u32 0, .int .u32 0, .string ⟨#[]⟩] 36 (0, 0))) := by
    show _ = _
    rw [Below.heap_setCell _ _ _ _ (Nat.ne_of_lt hlt0)]; exact hr
  clear hr k11 g11 H10 G10 R10 he E10
  go_wp2
  refine bodyPost_ret (v := .agg #[.int .u16 x4, .int .u8 x8, .int .u8 x9, .int .u32 x12, .int .u32 x16, .string ⟨(l.take k).toArray⟩]) (by simp [results, Tryz.results40, go_sem, d0, d1, d2, d3, d4, d5]) rfl ⟨rfl, ?_⟩
  iterate 6 refine grown_new ?_ (Nat.le_refl _) _
  exact unhide G11
end Go.Proofs.YtoifihhmneldeaaGreatDoor.IpR

namespace Go.Proofs.YtoifihhmneldeaaGreatDoor.IpR
open Go.ChangeShapes Go.WideShapes Go.ChangeAt Go.RowKit Bs Rd
open EtR (row_cell row_free row_set below_of below_at new_reader assert_errno)
set_option linter.unusedVariables false

theorem row_set6 {w : World} {g : Nat} {t : TypeId} (b0 b1 b2 b3 b4 b5 v0 v1 v2 v3 v4 v5 : Value) (h : w.heap[g]? = some (.cells #[b0, b1, b2, b3, b4, b5] t (0, 0))) :
    ((((((w.setCell ⟨g, 0, none⟩ v0).setCell ⟨g, 1, none⟩ v1).setCell ⟨g, 2, none⟩ v2).setCell ⟨g, 3, none⟩ v3).setCell ⟨g, 4, none⟩ v4).setCell ⟨g, 5, none⟩ v5).heap[g]? = some (.cells #[v0, v1, v2, v3, v4, v5] t (0, 0)) := by
  have h0 : (w.setCell ⟨g, 0, none⟩ v0).heap[g]? = some (.cells #[v0, b1, b2, b3, b4, b5] t (0, 0)) := row_set h 0 v0
  have h1 : ((w.setCell ⟨g, 0, none⟩ v0).setCell ⟨g, 1, none⟩ v1).heap[g]? = some (.cells #[v0, v1, b2, b3, b4, b5] t (0, 0)) := row_set h0 1 v1
  have h2 : (((w.setCell ⟨g, 0, none⟩ v0).setCell ⟨g, 1, none⟩ v1).setCell ⟨g, 2, none⟩ v2).heap[g]? = some (.cells #[v0, v1, v2, b3, b4, b5] t (0, 0)) := row_set h1 2 v2
  have h3 : ((((w.setCell ⟨g, 0, none⟩ v0).setCell ⟨g, 1, none⟩ v1).setCell ⟨g, 2, none⟩ v2).setCell ⟨g, 3, none⟩ v3).heap[g]? = some (.cells #[v0, v1, v2, v3, b4, b5] t (0, 0)) := row_set h2 3 v3
  have h4 : (((((w.setCell ⟨g, 0, none⟩ v0).setCell ⟨g, 1, none⟩ v1).setCell ⟨g, 2, none⟩ v2).setCell ⟨g, 3, none⟩ v3).setCell ⟨g, 4, none⟩ v4).heap[g]? = some (.cells #[v0, v1, v2, v3, v4, b5] t (0, 0)) := row_set h3 4 v4
  have h5 : ((((((w.setCell ⟨g, 0, none⟩ v0).setCell ⟨g, 1, none⟩ v1).setCell ⟨g, 2, none⟩ v2).setCell ⟨g, 3, none⟩ v3).setCell ⟨g, 4, none⟩ v4).setCell ⟨g, 5, none⟩ v5).heap[g]? = some (.cells #[v0, v1, v2, v3, v4, v5] t (0, 0)) := row_set h4 5 v5
  exact h5

theorem catch_panicking (p : Addr) (x k : Int) (older : List PanicEntry) (w : World) (hc : w.cell? p = some (.int .i64 x)) (hz : w.frozen? p = false) :
    CallsD Tryz.prog 58 #[.pointer (some p)] (.panicking ({ v := .iface 28 (.int .i64 k), recovered := false } :: older)) w fun e u' w' =>
      e = .returned (.tuple #[]) ∧ u' = .panicking ({ v := .iface 28 (.int .i64 k), recovered := true } :: older) ∧ w' = w.setCell p (.int .i64 k) := by
  refine callsD_of_wpS Tryz.func58 rfl fun c₀ cs hu => ?_
  apply wpS_seq
  apply wpS_region
  simp [wpOpsS, go_sem, recoverD, hu, Tryz.ntmps58, Exit.thenS]
  refine wpS_of_wp ?_
  change Code.wp _ _ _ { tmps := #[.pointer (some p), .iface 28 (.int .i64 k), .iface 28 (.int .i64 k), undef, undef, undef, undef], defers := [] } _
  have hta := fun u => assert_errno k u
  go_wp2
  exact ⟨rfl, _, rfl, .tuple #[], by simp [results, Tryz.results58], rfl, rfl, rfl⟩

theorem catch_idle (p : Addr) (w : World) :
    CallsD Tryz.prog 58 #[.pointer (some p)] .returning w fun e u' w' => e = .returned (.tuple #[]) ∧ u' = .returning ∧ w' = w := by
  refine callsD_of_wpS Tryz.func58 rfl fun c₀ cs hu => ?_
  apply wpS_seq
  apply wpS_region
  simp [wpOpsS, go_sem, recoverD, hu, Tryz.ntmps58, Exit.thenS]
  refine wpS_of_wp ?_
  change Code.wp _ _ _ { tmps := #[.pointer (some p), .nilIface, .nilIface, undef, undef, undef, undef], defers := [] } _
  go_wp2
  cases c₀
  simp_all [bodyPostS, results, Tryz.results58]

theorem blocks {w w1 W : World} {s : ByteArray} (g : W.grownBy w1 (some (w.heap.size + 1 + 1))) (hW : W = ((w.alloc (.cells #[.int .u16 0, .int .u8 0, .int .u8 0, .int .u32 0, .int .u32 0, .string ⟨#[]⟩] 36)).alloc (.cells #[.int .i64 0] 28)).alloc (.cells #[.string s] 99)) :
    w1.heap[w.heap.size]? = some (.cells #[.int .u16 0, .int .u8 0, .int .u8 0, .int .u32 0, .int .u32 0, .string ⟨#[]⟩] 36 (0, 0)) ∧ w1.heap[w.heap.size + 1]? = some (.cells #[.int .i64 0] 28 (0, 0)) := by
  have z2 : ((w.alloc (.cells #[.int .u16 0, .int .u8 0, .int .u8 0, .int .u32 0, .int .u32 0, .string ⟨#[]⟩] 36)).alloc (.cells #[.int .i64 0] 28)).heap.size = w.heap.size + 1 + 1 := by simp
  have z1 : (w.alloc (.cells #[.int .u16 0, .int .u8 0, .int .u8 0, .int .u32 0, .int .u32 0, .string ⟨#[]⟩] 36)).heap.size = w.heap.size + 1 := by simp
  have e0 : W.heap[w.heap.size]? = some (.cells #[.int .u16 0, .int .u8 0, .int .u8 0, .int .u32 0, .int .u32 0, .string ⟨#[]⟩] 36 (0, 0)) := by
    rw [hW, Below.heap_alloc _ _ _ (by omega), Below.heap_alloc _ _ _ (by omega)]; exact heap_alloc_new w _
  have e1 : W.heap[w.heap.size + 1]? = some (.cells #[.int .i64 0] 28 (0, 0)) := by
    rw [hW, Below.heap_alloc _ _ _ (by omega)]
    have q := heap_alloc_new (w.alloc (.cells #[.int .u16 0, .int .u8 0, .int .u8 0, .int .u32 0, .int .u32 0, .string ⟨#[]⟩] 36)) (.cells #[.int .i64 0] 28)
    rw [z1] at q
    exact q
  exact ⟨(g.block _ (lt_of_block e0) (fun q => by simp at q; omega)).trans e0, (g.block _ (lt_of_block e1) (fun q => by simp at q)).trans e1⟩

set_option maxHeartbeats 1000000 in
theorem read_no (s : ByteArray) (k : Int) (w : World)
    (hR : ∀ u B, Rdr u B s.data.toList → (∀ b o, b < w.heap.size → u.cell? ⟨b, o, none⟩ = w.cell? ⟨b, o, none⟩) → Calls Tryz.prog 40 #[.pointer (some ⟨B, 0, none⟩)] u fun ee w' => ee = .panicked (errP k) ∧ u.grownBy w' (some B)) :
    Calls Tryz.prog 39 #[.string s, .func (.func 40) #[] #[]] w fun ee w' => ee = .returned (.tuple #[.agg #[.int .u16 0, .int .u8 0, .int .u8 0, .int .u32 0, .int .u32 0, .string ⟨#[]⟩], .int .i64 k]) ∧ Below w.heap.size w w' := by
  have hmf : ∀ (fn : Fn) (first cap : Array Value) (w : World), (Instr.makeFunc fn first cap).run Tryz.prog w = .ok (.func fn first cap) w := fun _ _ _ _ => rfl
  have HR := hide hR
  clear hR
  go_enter_defers Tryz.func39, Tryz.ntmps39
  go_wp2_with fail
  refine (unhide HR _ _ (new_reader _ _ s (by simp)) (fun b o hb => ((((Below.refl _ w).alloc (Nat.le_refl _) _).alloc (by simp) _).alloc (by simp; omega) _).cell (p := ⟨b, o, none⟩) hb)).mono ?_
  rintro ee w1 ⟨rfl, g1⟩
  obtain ⟨hr, he⟩ := blocks g1 rfl
  have d0 : w1.cell? ⟨w.heap.size, 0, none⟩ = some (.int .u16 0) := row_cell hr rfl
  have d1 : w1.cell? ⟨w.heap.size, 1, none⟩ = some (.int .u8 0) := row_cell hr rfl
  have d2 : w1.cell? ⟨w.heap.size, 2, none⟩ = some (.int .u8 0) := row_cell hr rfl
  have d3 : w1.cell? ⟨w.heap.size, 3, none⟩ = some (.int .u32 0) := row_cell hr rfl
  have d4 : w1.cell? ⟨w.heap.size, 4, none⟩ = some (.int .u32 0) := row_cell hr rfl
  have d5 : w1.cell? ⟨w.heap.size, 5, none⟩ = some (.string ⟨#[]⟩) := row_cell hr rfl
  have hc := cell_of_one he
  have hf := free_of_one he
  refine leaves_cons (f := 58) (args := #[.pointer (some ⟨w.heap.size + 1, 0, none⟩)]) (by simp) (by simp [go_sem]) ?_
  refine (catch_panicking ⟨w.heap.size + 1, 0, none⟩ 0 k [] _ hc hf).mono ?_
  rintro e u' w'' ⟨rfl, rfl, rfl⟩
  simp [Leaves, settle, results, Tryz.results39, go_sem, d0, d1, d2, d3, d4, d5, hc]
  exact (below_of g1 ((((Below.refl _ w).alloc (Nat.le_refl _) _).alloc (by simp) _).alloc (by simp; omega) _) (by omega)).setCell (by simp) _

set_option maxHeartbeats 1000000 in
theorem read_ok (s : ByteArray) (a0 a1 a2 a3 a4 : Int) (a5 : ByteArray) (w : World)
    (hR : ∀ u B, Rdr u B s.data.toList → (∀ b o, b < w.heap.size → u.cell? ⟨b, o, none⟩ = w.cell? ⟨b, o, none⟩) → Calls Tryz.prog 40 #[.pointer (some ⟨B, 0, none⟩)] u fun ee w' => ee = .returned (.agg #[.int .u16 a0, .int .u8 a1, .int .u8 a2, .int .u32 a3, .int .u32 a4, .string a5]) ∧ u.grownBy w' (some B)) :
    Calls Tryz.prog 39 #[.string s, .func (.func 40) #[] #[]] w fun ee w' => ee = .returned (.tuple #[.agg #[.int .u16 a0, .int .u8 a1, .int .u8 a2, .int .u32 a3, .int .u32 a4, .string a5], .int .i64 0]) ∧ Below w.heap.size w w' := by
  have hmf : ∀ (fn : Fn) (first cap : Array Value) (w : World), (Instr.makeFunc fn first cap).run Tryz.prog w = .ok (.func fn first cap) w := fun _ _ _ _ => rfl
  have HR := hide hR
  clear hR
  go_enter_defers Tryz.func39, Tryz.ntmps39
  go_wp2_with fail
  refine (unhide HR _ _ (new_reader _ _ s (by simp)) (fun b o hb => ((((Below.refl _ w).alloc (Nat.le_refl _) _).alloc (by simp) _).alloc (by simp; omega) _).cell (p := ⟨b, o, none⟩) hb)).mono ?_
  rintro ee w1 ⟨rfl, g1⟩
  obtain ⟨hr, he⟩ := blocks g1 rfl
  have d0 : w1.cell? ⟨w.heap.size, 0, none⟩ = some (.int .u16 0) := row_cell hr rfl
  have d1 : w1.cell? ⟨w.heap.size, 1, none⟩ = some (.int .u8 0) := row_cell hr rfl
  have d2 : w1.cell? ⟨w.heap.size, 2, none⟩ = some (.int .u8 0) := row_cell hr rfl
  have d3 : w1.cell? ⟨w.heap.size, 3, none⟩ = some (.int .u32 0) := row_cell hr rfl
  have d4 : w1.cell? ⟨w.heap.size, 4, none⟩ = some (.int .u32 0) := row_cell hr rfl
  have d5 : w1.cell? ⟨w.heap.size, 5, none⟩ = some (.string ⟨#[]⟩) := row_cell hr rfl
  have fr := row_free hr
  have hc := cell_of_one he
  have hf := free_of_one he
  have HB := hide (below_of g1 ((((Below.refl _ w).alloc (Nat.le_refl _) _).alloc (by simp) _).alloc (by simp; omega) _) (by omega))
  obtain ⟨U, hU⟩ : ∃ U, U = (((((((w1.setCell ⟨w.heap.size, 0, none⟩ (.int .u16 a0)).setCell ⟨w.heap.size, 1, none⟩ (.int .u8 a1)).setCell ⟨w.heap.size, 2, none⟩ (.int .u8 a2)).setCell ⟨w.heap.size, 3, none⟩ (.int .u32 a3)).setCell ⟨w.heap.size, 4, none⟩ (.int .u32 a4)).setCell ⟨w.heap.size, 5, none⟩ (.string a5)).setCell ⟨w.heap.size + 1, 0, none⟩ (.int .i64 0)) := ⟨_, rfl⟩
  have hu : U.heap[w.heap.size]? = some (.cells #[.int .u16 a0, .int .u8 a1, .int .u8 a2, .int .u32 a3, .int .u32 a4, .string a5] 36 (0, 0)) := by
    rw [hU, Below.heap_setCell _ _ _ _ (by simp)]
    exact row_set6 _ _ _ _ _ _ _ _ _ _ _ _ hr
  have u0 : U.cell? ⟨w.heap.size, 0, none⟩ = some (.int .u16 a0) := row_cell hu rfl
  have u1 : U.cell? ⟨w.heap.size, 1, none⟩ = some (.int .u8 a1) := row_cell hu rfl
  have u2 : U.cell? ⟨w.heap.size, 2, none⟩ = some (.int .u8 a2) := row_cell hu rfl
  have u3 : U.cell? ⟨w.heap.size, 3, none⟩ = some (.int .u32 a3) := row_cell hu rfl
  have u4 : U.cell? ⟨w.heap.size, 4, none⟩ = some (.int .u32 a4) := row_cell hu rfl
  have u5 : U.cell? ⟨w.heap.size, 5, none⟩ = some (.string a5) := row_cell hu rfl
  have hv : U.heap[w.heap.size + 1]? = some (.cells #[.int .i64 0] 28 (0, 0)) := by
    rw [hU]
    refine one_setCell (v := .int .i64 0) ?_
    rw [Below.heap_setCell _ _ _ _ (by simp), Below.heap_setCell _ _ _ _ (by simp), Below.heap_setCell _ _ _ _ (by simp), Below.heap_setCell _ _ _ _ (by simp), Below.heap_setCell _ _ _ _ (by simp), Below.heap_setCell _ _ _ _ (by simp)]
    exact he
  have HBU : Hid (Below w.heap.size w U) := by
    show Below w.heap.size w U
    rw [hU]
    refine Below.setCell ?_ (by simp) _
    iterate 6 refine below_at ?_
    exact unhide HB
  have uv := cell_of_one hv
  have HU := hide hU
  clear g1 hr he hu hv hU
  go_wp2
  rw [← unhide HU]
  clear HU d0 d1 d2 d3 d4 d5 hc hf fr
  refine leaves_cons (f := 58) (args := #[.pointer (some ⟨w.heap.size + 1, 0, none⟩)]) (by simp) (by simp [go_sem]) ?_
  refine (catch_idle ⟨w.heap.size + 1, 0, none⟩ _).mono ?_
  rintro e u' w'' ⟨rfl, rfl, rfl⟩
  simp [Leaves, settle, results, Tryz.results39, go_sem, u0, u1, u2, u3, u4, u5, uv]
  exact unhide HBU

set_option maxHeartbeats 1000000 in
theorem wire_of (s : ByteArray) (a0 a1 a2 a3 a4 : Int) (a5 : ByteArray) (k : Int) (w : World)
    (hR : ∀ u : World, Calls Tryz.prog 39 #[.string s, .func (.func 40) #[] #[]] u fun ee w' => ee = .returned (.tuple #[.agg #[.int .u16 a0, .int .u8 a1, .int .u8 a2, .int .u32 a3, .int .u32 a4, .string a5], .int .i64 k]) ∧ Below u.heap.size u w') :
    Calls Tryz.prog 16 #[.string s] w fun ee w' => ee = .returned (.tuple #[.agg #[.int .u16 a0, .int .u8 a1, .int .u8 a2, .int .u32 a3, .int .u32 a4, .string a5], .int .i64 k]) ∧ Below w.heap.size w w' := by
  have HR := hide hR
  clear hR
  go_enter Tryz.func16, Tryz.ntmps16
  go_wp2_with fail
  refine (unhide HR _).mono ?_
  rintro ee w1 ⟨rfl, hb⟩
  have hr : w1.heap[w.heap.size]? = some (.cells #[.int .u16 0, .int .u8 0, .int .u8 0, .int .u32 0, .int .u32 0, .string ⟨#[]⟩] 36 (0, 0)) := (hb.block _ (by simp)).trans (heap_alloc_new w _)
  have d0 : w1.cell? ⟨w.heap.size, 0, none⟩ = some (.int .u16 0) := row_cell hr rfl
  have d1 : w1.cell? ⟨w.heap.size, 1, none⟩ = some (.int .u8 0) := row_cell hr rfl
  have d2 : w1.cell? ⟨w.heap.size, 2, none⟩ = some (.int .u8 0) := row_cell hr rfl
  have d3 : w1.cell? ⟨w.heap.size, 3, none⟩ = some (.int .u32 0) := row_cell hr rfl
  have d4 : w1.cell? ⟨w.heap.size, 4, none⟩ = some (.int .u32 0) := row_cell hr rfl
  have d5 : w1.cell? ⟨w.heap.size, 5, none⟩ = some (.string ⟨#[]⟩) := row_cell hr rfl
  have fr := row_free hr
  have HB : Hid (Below w.heap.size w w1) := hide (((Below.refl _ w).alloc (Nat.le_refl _) _).trans (hb.mono (by simp)))
  obtain ⟨U, hU⟩ : ∃ U, U = ((((((w1.setCell ⟨w.heap.size, 0, none⟩ (.int .u16 a0)).setCell ⟨w.heap.size, 1, none⟩ (.int .u8 a1)).setCell ⟨w.heap.size, 2, none⟩ (.int .u8 a2)).setCell ⟨w.heap.size, 3, none⟩ (.int .u32 a3)).setCell ⟨w.heap.size, 4, none⟩ (.int .u32 a4)).setCell ⟨w.heap.size, 5, none⟩ (.string a5)) := ⟨_, rfl⟩
  have hu : U.heap[w.heap.size]? = some (.cells #[.int .u16 a0, .int .u8 a1, .int .u8 a2, .int .u32 a3, .int .u32 a4, .string a5] 36 (0, 0)) := by
    rw [hU]
    exact row_set6 _ _ _ _ _ _ _ _ _ _ _ _ hr
  have u0 : U.cell? ⟨w.heap.size, 0, none⟩ = some (.int .u16 a0) := row_cell hu rfl
  have u1 : U.cell? ⟨w.heap.size, 1, none⟩ = some (.int .u8 a1) := row_cell hu rfl
  have u2 : U.cell? ⟨w.heap.size, 2, none⟩ = some (.int .u8 a2) := row_cell hu rfl
  have u3 : U.cell? ⟨w.heap.size, 3, none⟩ = some (.int .u32 a3) := row_cell hu rfl
  have u4 : U.cell? ⟨w.heap.size, 4, none⟩ = some (.int .u32 a4) := row_cell hu rfl
  have u5 : U.cell? ⟨w.heap.size, 5, none⟩ = some (.string a5) := row_cell hu rfl
  have HBU : Hid (Below w.heap.size w U) := by
    show Below w.heap.size w U
    rw [hU]
    iterate 6 refine below_at ?_
    exact unhide HB
  have HU := hide hU
  clear hr hu hU hb HR
  go_wp2
  rw [← unhide HU]
  clear HU d0 d1 d2 d3 d4 d5 fr
  exact bodyPost_ret (v := .tuple #[.agg #[.int .u16 a0, .int .u8 a1, .int .u8 a2, .int .u32 a3, .int .u32 a4, .string a5], .int .i64 k]) (by simp [results, Tryz.results16, go_sem, u0, u1, u2, u3, u4, u5]) rfl ⟨rfl, unhide HBU⟩

set_option maxHeartbeats 1000000 in
theorem boot_of (s : ByteArray) (a0 a1 a2 a3 a4 : Int) (a5 : ByteArray) (k : Int) (w : World)
    (hR : ∀ u : World, Calls Tryz.prog 16 #[.string s] u fun ee w' => ee = .returned (.tuple #[.agg #[.int .u16 a0, .int .u8 a1, .int .u8 a2, .int .u32 a3, .int .u32 a4, .string a5], .int .i64 k]) ∧ Below u.heap.size u w') :
    Calls Tryz.prog 8 #[.string s] w fun ee w' => ee = .returned (.tuple #[.agg #[.int .u16 a0, .int .u8 a1, .int .u8 a2, .int .u32 a3, .int .u32 a4, .string a5], .int .i64 k]) ∧ Below w.heap.size w w' := by
  have HR := hide hR
  clear hR
  go_enter Tryz.func8, Tryz.ntmps8
  go_wp2_with fail
  refine (unhide HR _).mono ?_
  rintro ee w1 ⟨rfl, hb⟩
  have hr : w1.heap[w.heap.size]? = some (.cells #[.int .u16 0, .int .u8 0, .int .u8 0, .int .u32 0, .int .u32 0, .string ⟨#[]⟩] 36 (0, 0)) := (hb.block _ (by simp)).trans (heap_alloc_new w _)
  have d0 : w1.cell? ⟨w.heap.size, 0, none⟩ = some (.int .u16 0) := row_cell hr rfl
  have d1 : w1.cell? ⟨w.heap.size, 1, none⟩ = some (.int .u8 0) := row_cell hr rfl
  have d2 : w1.cell? ⟨w.heap.size, 2, none⟩ = some (.int .u8 0) := row_cell hr rfl
  have d3 : w1.cell? ⟨w.heap.size, 3, none⟩ = some (.int .u32 0) := row_cell hr rfl
  have d4 : w1.cell? ⟨w.heap.size, 4, none⟩ = some (.int .u32 0) := row_cell hr rfl
  have d5 : w1.cell? ⟨w.heap.size, 5, none⟩ = some (.string ⟨#[]⟩) := row_cell hr rfl
  have fr := row_free hr
  have HB : Hid (Below w.heap.size w w1) := hide (((Below.refl _ w).alloc (Nat.le_refl _) _).trans (hb.mono (by simp)))
  obtain ⟨U, hU⟩ : ∃ U, U = ((((((w1.setCell ⟨w.heap.size, 0, none⟩ (.int .u16 a0)).setCell ⟨w.heap.size, 1, none⟩ (.int .u8 a1)).setCell ⟨w.heap.size, 2, none⟩ (.int .u8 a2)).setCell ⟨w.heap.size, 3, none⟩ (.int .u32 a3)).setCell ⟨w.heap.size, 4, none⟩ (.int .u32 a4)).setCell ⟨w.heap.size, 5, none⟩ (.string a5)) := ⟨_, rfl⟩
  have hu : U.heap[w.heap.size]? = some (.cells #[.int .u16 a0, .int .u8 a1, .int .u8 a2, .int .u32 a3, .int .u32 a4, .string a5] 36 (0, 0)) := by
    rw [hU]
    exact row_set6 _ _ _ _ _ _ _ _ _ _ _ _ hr
  have u0 : U.cell? ⟨w.heap.size, 0, none⟩ = some (.int .u16 a0) := row_cell hu rfl
  have u1 : U.cell? ⟨w.heap.size, 1, none⟩ = some (.int .u8 a1) := row_cell hu rfl
  have u2 : U.cell? ⟨w.heap.size, 2, none⟩ = some (.int .u8 a2) := row_cell hu rfl
  have u3 : U.cell? ⟨w.heap.size, 3, none⟩ = some (.int .u32 a3) := row_cell hu rfl
  have u4 : U.cell? ⟨w.heap.size, 4, none⟩ = some (.int .u32 a4) := row_cell hu rfl
  have u5 : U.cell? ⟨w.heap.size, 5, none⟩ = some (.string a5) := row_cell hu rfl
  have HBU : Hid (Below w.heap.size w U) := by
    show Below w.heap.size w U
    rw [hU]
    iterate 6 refine below_at ?_
    exact unhide HB
  have HU := hide hU
  clear hr hu hU hb HR
  go_wp2
  rw [← unhide HU]
  clear HU d0 d1 d2 d3 d4 d5 fr
  exact bodyPost_ret (v := .tuple #[.agg #[.int .u16 a0, .int .u8 a1, .int .u8 a2, .int .u32 a3, .int .u32 a4, .string a5], .int .i64 k]) (by simp [results, Tryz.results8, go_sem, u0, u1, u2, u3, u4, u5]) rfl ⟨rfl, unhide HBU⟩

end Go.Proofs.YtoifihhmneldeaaGreatDoor.IpR

namespace Go.Proofs.YtoifihhmneldeaaGreatDoor.IpK
open Go.ChangeShapes Go.WideShapes Go.ChangeAt Go.RowKit Bs Rd
open Ip (chk chk_bd)
set_option linter.unusedVariables false

/-- a byte, two, four of a text -/
def bt (l : List UInt8) (i : Nat) : Int := ((l.getD i 0).toNat : Int)
def w2 (l : List UInt8) (i : Nat) : Int := 256 * bt l i + bt l (i + 1)
def w4 (l : List UInt8) (i : Nat) : Int := 16777216 * bt l i + 65536 * bt l (i + 1) + 256 * bt l (i + 2) + bt l (i + 3)
/-- which error it is, of bytes as a packet -/
def ipK (l : List UInt8) : Int :=
  if l.length < 20 then 1 else if bt l 0 / 16 ≠ 4 ∨ bt l 0 % 16 < 5 then 2 else if 5 < bt l 0 % 16 then 4
  else if w2 l 2 < 20 then 2 else if ((l.length : Nat) : Int) < w2 l 2 then 1 else if chk (l.take 20) ≠ 0 then 6
  else if 32768 ≤ w2 l 6 ∨ bt l 8 = 0 then 2 else if w2 l 6 % 16384 ≠ 0 then 5 else 0
def ipF (l : List UInt8) (x : Int) : Int := if ipK l = 0 then x else 0
def ipLd (l : List UInt8) : ByteArray := if ipK l = 0 then ⟨((l.drop 20).take ((w2 l 2).toNat - 20)).toArray⟩ else ⟨#[]⟩
theorem ipF_err {l : List UInt8} {k : Int} (h : ipK l = k) (hk : k ≠ 0) (x : Int) : ipF l x = 0 := by unfold ipF; rw [if_neg (by rw [h]; exact hk)]
theorem ipLd_err {l : List UInt8} {k : Int} (h : ipK l = k) (hk : k ≠ 0) : ipLd l = ⟨#[]⟩ := by unfold ipLd; rw [if_neg (by rw [h]; exact hk)]
theorem ipF_ok {l : List UInt8} (h : ipK l = 0) (x : Int) : ipF l x = x := by unfold ipF; rw [if_pos h]
theorem ipLd_ok {l : List UInt8} (h : ipK l = 0) : ipLd l = ⟨((l.drop 20).take ((w2 l 2).toNat - 20)).toArray⟩ := by unfold ipLd; rw [if_pos h]
/-- no error: the sum is right -/
theorem ipK_sum {l : List UInt8} (h : ipK l = 0) : chk (l.take 20) = 0 := by
  unfold ipK at h
  by_cases hc : chk (l.take 20) = 0
  · exact hc
  · exfalso
    rw [if_pos hc] at h
    repeat' split at h
    all_goals omega
theorem flag_iff (a b : UInt8) : bits .and .u16 (256 * (a.toNat : Int) + (b.toNat : Int)) 32768 = 0 ↔ 256 * (a.toNat : Int) + (b.toNat : Int) < 32768 := by
  have ha := a.toNat_lt; have hb := b.toNat_lt
  have e : 256 * (a.toNat : Int) + (b.toNat : Int) = ((256 * a.toNat + b.toNat : Nat) : Int) := by omega
  rw [e, and_flag _ (by omega)]; omega
theorem part_iff (a b : UInt8) : bits .and .u16 (256 * (a.toNat : Int) + (b.toNat : Int)) 16383 = 0 ↔ (256 * (a.toNat : Int) + (b.toNat : Int)) % 16384 = 0 := by
  have ha := a.toNat_lt; have hb := b.toNat_lt
  have e : 256 * (a.toNat : Int) + (b.toNat : Int) = ((256 * a.toNat + b.toNat : Nat) : Int) := by omega
  rw [e, and_part _ (by omega)]; omega
theorem twenty (l : List UInt8) (h : 20 ≤ l.length) : ∃ a0 a1 a2 a3 a4 a5 a6 a7 a8 a9 a10 a11 a12 a13 a14 a15 a16 a17 a18 a19 r, l = a0 :: a1 :: a2 :: a3 :: a4 :: a5 :: a6 :: a7 :: a8 :: a9 :: a10 :: a11 :: a12 :: a13 :: a14 :: a15 :: a16 :: a17 :: a18 :: a19 :: r := by
  obtain ⟨a0, a1, a2, a3, a4, a5, l1, rfl⟩ := EtR.sixth l (by omega)
  simp only [List.length_cons] at h
  obtain ⟨a6, a7, a8, a9, a10, a11, l2, rfl⟩ := EtR.sixth l1 (by omega)
  simp only [List.length_cons] at h
  obtain ⟨a12, a13, a14, a15, a16, a17, l3, rfl⟩ := EtR.sixth l2 (by omega)
  simp only [List.length_cons] at h
  obtain ⟨a18, a19, r, rfl⟩ := EtR.second l3 (by omega)
  exact ⟨a0, a1, a2, a3, a4, a5, a6, a7, a8, a9, a10, a11, a12, a13, a14, a15, a16, a17, a18, a19, r, rfl⟩
end Go.Proofs.YtoifihhmneldeaaGreatDoor.IpK

namespace Go.Proofs.YtoifihhmneldeaaGreatDoor.IpR
open Go.ChangeShapes Go.WideShapes Go.ChangeAt Go.RowKit Bs Rd IpK
open Ip (chk chk_bd)
set_option linter.unusedVariables false

theorem code_any (s : ByteArray) (L : List UInt8) (hL : s.data.toList = L) (w : World) (hm : s.size ≤ 262144) :
    Calls Tryz.prog 8 #[.string s] w fun ee w' => ee = .returned (.tuple #[.agg #[.int .u16 (ipF L (w2 L 4)), .int .u8 (ipF L (bt L 8)), .int .u8 (ipF L (bt L 9)), .int .u32 (ipF L (w4 L 12)), .int .u32 (ipF L (w4 L 16)), .string (ipLd L)], .int .i64 (ipK L)]) ∧ Below w.heap.size w w' := by
  have hl := len_str s
  rw [hL] at hl
  have E : ∀ k, ipK L = k → k ≠ 0 → (∀ u : World, Calls Tryz.prog 8 #[.string s] u fun ee w' => ee = .returned (.tuple #[.agg #[.int .u16 0, .int .u8 0, .int .u8 0, .int .u32 0, .int .u32 0, .string ⟨#[]⟩], .int .i64 k]) ∧ Below u.heap.size u w') →
      Calls Tryz.prog 8 #[.string s] w fun ee w' => ee = .returned (.tuple #[.agg #[.int .u16 (ipF L (w2 L 4)), .int .u8 (ipF L (bt L 8)), .int .u8 (ipF L (bt L 9)), .int .u32 (ipF L (w4 L 12)), .int .u32 (ipF L (w4 L 16)), .string (ipLd L)], .int .i64 (ipK L)]) ∧ Below w.heap.size w w' := by
    intro k h0 h1 h2
    rw [ipF_err h0 h1, ipF_err h0 h1, ipF_err h0 h1, ipF_err h0 h1, ipF_err h0 h1, ipLd_err h0 h1, h0]
    exact h2 w
  by_cases hn : L.length < 20
  · exact E 1 (by unfold ipK; rw [if_pos hn]) (by decide) (fun u => boot_of s 0 0 0 0 0 ⟨#[]⟩ 1 u (fun u => wire_of s 0 0 0 0 0 ⟨#[]⟩ 1 u (fun u => read_no s 1 u (fun u B h _ => by rw [hL] at h; exact ip_short B L u h hn))))
  · obtain ⟨a0, a1, a2, a3, a4, a5, a6, a7, a8, a9, a10, a11, a12, a13, a14, a15, a16, a17, a18, a19, r, hlist⟩ := twenty L (by omega)
    have heta := str_eta s
    rw [hL] at heta
    have b0 : bt L 0 = (a0.toNat : Int) := by rw [hlist]; rfl
    have b2 : w2 L 2 = (256 * (a2.toNat : Int) + (a3.toNat : Int)) := by rw [hlist]; rfl
    have b6 : w2 L 6 = (256 * (a6.toNat : Int) + (a7.toNat : Int)) := by rw [hlist]; rfl
    have b8 : bt L 8 = (a8.toNat : Int) := by rw [hlist]; rfl
    have tk : L.take 20 = [a0, a1, a2, a3, a4, a5, a6, a7, a8, a9, a10, a11, a12, a13, a14, a15, a16, a17, a18, a19] := by rw [hlist]; rfl
    have dr : L.drop 20 = r := by rw [hlist]; rfl
    have ln : L.length = r.length + 20 := by rw [hlist]; simp
    have hml : (a0 :: a1 :: a2 :: a3 :: a4 :: a5 :: a6 :: a7 :: a8 :: a9 :: a10 :: a11 :: a12 :: a13 :: a14 :: a15 :: a16 :: a17 :: a18 :: a19 :: r).length ≤ maxLen := by rw [← hlist]; unfold maxLen; omega
    have p0 := a0.toNat_lt
    have hK : ipK L = if bt L 0 / 16 ≠ 4 ∨ bt L 0 % 16 < 5 then 2 else if 5 < bt L 0 % 16 then 4
        else if w2 L 2 < 20 then 2 else if ((L.length : Nat) : Int) < w2 L 2 then 1 else if chk (L.take 20) ≠ 0 then 6
        else if 32768 ≤ w2 L 6 ∨ bt L 8 = 0 then 2 else if w2 L 6 % 16384 ≠ 0 then 5 else 0 := by unfold ipK; rw [if_neg hn]
    rw [b0, b2, b6, b8, tk, ln] at hK
    by_cases h1 : a0.toNat / 16 = 4
    · by_cases h2 : a0.toNat % 16 < 5
      · rw [if_pos (by omega)] at hK
        exact E 2 hK (by decide) (fun u => boot_of s 0 0 0 0 0 ⟨#[]⟩ 2 u (fun u => wire_of s 0 0 0 0 0 ⟨#[]⟩ 2 u (fun u => read_no s 2 u (fun u B h _ => by rw [hL, hlist] at h; exact ip_first B a0 a1 a2 a3 a4 a5 a6 a7 a8 a9 a10 a11 a12 a13 a14 a15 a16 a17 a18 a19 r u h hml 2 (fun u hu => ipFirst_few B _ _ _ u hu hml h1 h2)))))
      · rw [if_neg (by omega)] at hK
        by_cases h3 : 5 < a0.toNat % 16
        · rw [if_pos (by omega)] at hK
          exact E 4 hK (by decide) (fun u => boot_of s 0 0 0 0 0 ⟨#[]⟩ 4 u (fun u => wire_of s 0 0 0 0 0 ⟨#[]⟩ 4 u (fun u => read_no s 4 u (fun u B h _ => by rw [hL, hlist] at h; exact ip_first B a0 a1 a2 a3 a4 a5 a6 a7 a8 a9 a10 a11 a12 a13 a14 a15 a16 a17 a18 a19 r u h hml 4 (fun u hu => ipFirst_opt B _ _ _ u hu hml h1 h3)))))
        · have h69 : a0.toNat = 69 := by omega
          rw [if_neg (by omega)] at hK
          by_cases h4 : (256 * (a2.toNat : Int) + (a3.toNat : Int)) < 20
          · rw [if_pos h4] at hK
            exact E 2 hK (by decide) (fun u => boot_of s 0 0 0 0 0 ⟨#[]⟩ 2 u (fun u => wire_of s 0 0 0 0 0 ⟨#[]⟩ 2 u (fun u => read_no s 2 u (fun u B h _ => by rw [hL, hlist] at h; exact ip_length B a0 a1 a2 a3 a4 a5 a6 a7 a8 a9 a10 a11 a12 a13 a14 a15 a16 a17 a18 a19 r u h hml h69 2 (fun u hu => length_form B _ _ _ _ _ u hu (by simp only [List.length_cons] at hml ⊢; unfold maxLen at hml ⊢; omega) (by omega))))))
          · rw [if_neg h4] at hK
            by_cases h5 : ((r.length + 20 : Nat) : Int) < (256 * (a2.toNat : Int) + (a3.toNat : Int))
            · rw [if_pos h5] at hK
              exact E 1 hK (by decide) (fun u => boot_of s 0 0 0 0 0 ⟨#[]⟩ 1 u (fun u => wire_of s 0 0 0 0 0 ⟨#[]⟩ 1 u (fun u => read_no s 1 u (fun u B h _ => by rw [hL, hlist] at h; exact ip_length B a0 a1 a2 a3 a4 a5 a6 a7 a8 a9 a10 a11 a12 a13 a14 a15 a16 a17 a18 a19 r u h hml h69 1 (fun u hu => length_short B _ _ _ _ _ u hu (by simp only [List.length_cons] at hml ⊢; unfold maxLen at hml ⊢; omega) (by omega) (by omega))))))
            · rw [if_neg h5] at hK
              obtain ⟨k, hk⟩ : ∃ k : Nat, (256 * (a2.toNat : Int) + (a3.toNat : Int)) = 20 + (k : Int) := ⟨((256 * (a2.toNat : Int) + (a3.toNat : Int)) - 20).toNat, by omega⟩
              have hkr : k ≤ r.length := by omega
              by_cases h6 : chk [a0, a1, a2, a3, a4, a5, a6, a7, a8, a9, a10, a11, a12, a13, a14, a15, a16, a17, a18, a19] = 0
              · rw [if_neg (fun q => q h6)] at hK
                by_cases h7 : 32768 ≤ (256 * (a6.toNat : Int) + (a7.toNat : Int))
                · rw [if_pos (Or.inl h7)] at hK
                  exact E 2 hK (by decide) (fun u => boot_of s 0 0 0 0 0 ⟨#[]⟩ 2 u (fun u => wire_of s 0 0 0 0 0 ⟨#[]⟩ 2 u (fun u => read_no s 2 u (fun u B h _ => by rw [hL, hlist] at h; exact ip_flag B a0 a1 a2 a3 a4 a5 a6 a7 a8 a9 a10 a11 a12 a13 a14 a15 a16 a17 a18 a19 r u h hml h69 k hk hkr h6 (fun q => h7 |> fun h7 => by rw [flag_iff] at q; omega)))))
                · by_cases h8 : (a8.toNat : Int) = 0
                  · rw [if_pos (Or.inr h8)] at hK
                    exact E 2 hK (by decide) (fun u => boot_of s 0 0 0 0 0 ⟨#[]⟩ 2 u (fun u => wire_of s 0 0 0 0 0 ⟨#[]⟩ 2 u (fun u => read_no s 2 u (fun u B h _ => by rw [hL, hlist] at h; exact ip_ttl B a0 a1 a2 a3 a4 a5 a6 a7 a8 a9 a10 a11 a12 a13 a14 a15 a16 a17 a18 a19 r u h hml h69 k hk hkr h6 ((flag_iff _ _).2 (by omega)) h8))))
                  · rw [if_neg (by omega)] at hK
                    by_cases h9 : (256 * (a6.toNat : Int) + (a7.toNat : Int)) % 16384 = 0
                    · rw [if_neg (fun q => q h9)] at hK
                      have e5 : ipLd L = ⟨(r.take k).toArray⟩ := by rw [ipLd_ok hK, dr, b2, hk]; congr 3; omega
                      rw [ipF_ok hK, ipF_ok hK, ipF_ok hK, ipF_ok hK, ipF_ok hK, e5, hK]
                      have b4 : w2 L 4 = (256 * (a4.toNat : Int) + (a5.toNat : Int)) := by rw [hlist]; rfl
                      have b9 : bt L 9 = (a9.toNat : Int) := by rw [hlist]; rfl
                      have b12 : w4 L 12 = (16777216 * (a12.toNat : Int) + 65536 * (a13.toNat : Int) + 256 * (a14.toNat : Int) + (a15.toNat : Int)) := by rw [hlist]; rfl
                      have b16 : w4 L 16 = (16777216 * (a16.toNat : Int) + 65536 * (a17.toNat : Int) + 256 * (a18.toNat : Int) + (a19.toNat : Int)) := by rw [hlist]; rfl
                      rw [b4, b8, b9, b12, b16]
                      refine boot_of s _ _ _ _ _ _ 0 w (fun u => wire_of s _ _ _ _ _ _ 0 u (fun u => read_ok s _ _ _ _ _ _ u (fun u B h _ => ?_)))
                      rw [hL, hlist] at h
                      exact ip_ok B a0 a1 a2 a3 a4 a5 a6 a7 a8 a9 a10 a11 a12 a13 a14 a15 a16 a17 a18 a19 r u h hml h69 k hk hkr h6 ((flag_iff _ _).2 (by omega)) h8 ((part_iff _ _).2 h9) (by omega)
                    · rw [if_pos h9] at hK
                      exact E 5 hK (by decide) (fun u => boot_of s 0 0 0 0 0 ⟨#[]⟩ 5 u (fun u => wire_of s 0 0 0 0 0 ⟨#[]⟩ 5 u (fun u => read_no s 5 u (fun u B h _ => by rw [hL, hlist] at h; exact ip_frag B a0 a1 a2 a3 a4 a5 a6 a7 a8 a9 a10 a11 a12 a13 a14 a15 a16 a17 a18 a19 r u h hml h69 k hk hkr h6 ((flag_iff _ _).2 (by omega)) h8 (fun q => h9 ((part_iff _ _).1 q))))))
              · rw [if_pos h6] at hK
                exact E 6 hK (by decide) (fun u => boot_of s 0 0 0 0 0 ⟨#[]⟩ 6 u (fun u => wire_of s 0 0 0 0 0 ⟨#[]⟩ 6 u (fun u => read_no s 6 u (fun u B h _ => by rw [hL, hlist] at h; exact ip_sum B a0 a1 a2 a3 a4 a5 a6 a7 a8 a9 a10 a11 a12 a13 a14 a15 a16 a17 a18 a19 r u h hml h69 k hk hkr h6))))
    · rw [if_pos (by omega)] at hK
      exact E 2 hK (by decide) (fun u => boot_of s 0 0 0 0 0 ⟨#[]⟩ 2 u (fun u => wire_of s 0 0 0 0 0 ⟨#[]⟩ 2 u (fun u => read_no s 2 u (fun u B h _ => by rw [hL, hlist] at h; exact ip_first B a0 a1 a2 a3 a4 a5 a6 a7 a8 a9 a10 a11 a12 a13 a14 a15 a16 a17 a18 a19 r u h hml 2 (fun u hu => ipFirst_ver B _ _ _ u hu hml h1)))))
end Go.Proofs.YtoifihhmneldeaaGreatDoor.IpR

import Derived.Test.YtoifihhmneldeaaGreatDoorEtherRf
namespace Go.Proofs.YtoifihhmneldeaaGreatDoor.EtR
open Go.ChangeShapes Go.WideShapes Go.ChangeAt Go.RowKit Bs Rd
set_option linter.unusedVariables false

set_option maxHeartbeats 2000000 in
theorem ether_short1 (B : Nat) (l : List UInt8) (w : World) (h : Rdr w B (l)) (hn : l.length < 6) :
    Calls Tryz.prog 35 #[.pointer (some ⟨B, 0, none⟩)] w fun ee w' => ee = .panicked (errP 1) ∧ w.grownBy w' (some B) := by
  have hB := h.lt
  have hne1 : w.heap.size + 1 ≠ B := by omega
  have hne0 : w.heap.size ≠ B := by omega
  have H0 := hide ((h.alloc (.cells #[.int .u8 0, .int .u8 0, .int .u8 0, .int .u8 0, .int .u8 0, .int .u8 0, .int .u8 0, .int .u8 0, .int .u8 0, .int .u8 0, .int .u8 0, .int .u8 0, .int .u16 0, .string ⟨#[]⟩] 27)).alloc (.cells #[.int .u8 0, .int .u8 0, .int .u8 0, .int .u8 0, .int .u8 0, .int .u8 0, .int .u8 0, .int .u8 0, .int .u8 0, .int .u8 0, .int .u8 0, .int .u8 0, .int .u16 0, .string ⟨#[]⟩] 27))
  have G0 := hide (grown_alloc (grown_alloc (grown_refl w (some B)) (.cells #[.int .u8 0, .int .u8 0, .int .u8 0, .int .u8 0, .int .u8 0, .int .u8 0, .int .u8 0, .int .u8 0, .int .u8 0, .int .u8 0, .int .u8 0, .int .u8 0, .int .u16 0, .string ⟨#[]⟩] 27)) (.cells #[.int .u8 0, .int .u8 0, .int .u8 0, .int .u8 0, .int .u8 0, .int .u8 0, .int .u8 0, .int .u8 0, .int .u8 0, .int .u8 0, .int .u8 0, .int .u8 0, .int .u16 0, .string ⟨#[]⟩] 27))
  have E0 : Hid (((w.alloc (.cells #[.int .u8 0, .int .u8 0, .int .u8 0, .int .u8 0, .int .u8 0, .int .u8 0, .int .u8 0, .int .u8 0, .int .u8 0, .int .u8 0, .int .u8 0, .int .u8 0, .int .u16 0, .string ⟨#[]⟩] 27)).alloc (.cells #[.int .u8 0, .int .u8 0, .int .u8 0, .int .u8 0, .int .u8 0, .int .u8 0, .int .u8 0, .int .u8 0, .int .u8 0, .int .u8 0, .int .u8 0, .int .u8 0, .int .u16 0, .string ⟨#[]⟩] 27)).heap[w.heap.size + 1]? = some (.cells #[.int .u8 0, .int .u8 0, .int .u8 0, .int .u8 0, .int .u8 0, .int .u8 0, .int .u8 0, .int .u8 0, .int .u8 0, .int .u8 0, .int .u8 0, .int .u8 0, .int .u16 0, .string ⟨#[]⟩] 27 (0, 0))) := by
    have q := heap_alloc_new (w.alloc (.cells #[.int .u8 0, .int .u8 0, .int .u8 0, .int .u8 0, .int .u8 0, .int .u8 0, .int .u8 0, .int .u8 0, .int .u8 0, .int .u8 0, .int .u8 0, .int .u8 0, .int .u16 0, .string ⟨#[]⟩] 27)) (.cells #[.int .u8 0, .int .u8 0, .int .u8 0, .int .u8 0, .int .u8 0, .int .u8 0, .int .u8 0, .int .u8 0, .int .u8 0, .int .u8 0, .int .u8 0, .int .u8 0, .int .u16 0, .string ⟨#[]⟩] 27)
    rw [show (w.alloc (.cells #[.int .u8 0, .int .u8 0, .int .u8 0, .int .u8 0, .int .u8 0, .int .u8 0, .int .u8 0, .int .u8 0, .int .u8 0, .int .u8 0, .int .u8 0, .int .u8 0, .int .u16 0, .string ⟨#[]⟩] 27)).heap.size = w.heap.size + 1 by simp] at q
    exact q
  have R0 : Hid (((w.alloc (.cells #[.int .u8 0, .int .u8 0, .int .u8 0, .int .u8 0, .int .u8 0, .int .u8 0, .int .u8 0, .int .u8 0, .int .u8 0, .int .u8 0, .int .u8 0, .int .u8 0, .int .u16 0, .string ⟨#[]⟩] 27)).alloc (.cells #[.int .u8 0, .int .u8 0, .int .u8 0, .int .u8 0, .int .u8 0, .int .u8 0, .int .u8 0, .int .u8 0, .int .u8 0, .int .u8 0, .int .u8 0, .int .u8 0, .int .u16 0, .string ⟨#[]⟩] 27)).heap[w.heap.size]? = some (.cells #[.int .u8 0, .int .u8 0, .int .u8 0, .int .u8 0, .int .u8 0, .int .u8 0, .int .u8 0, .int .u8 0, .int .u8 0, .int .u8 0, .int .u8 0, .int .u8 0, .int .u16 0, .string ⟨#[]⟩] 27 (0, 0))) := by
    show _ = _
    rw [Below.heap_alloc _ _ _ (by simp)]; exact heap_alloc_new w _
  clear h
  go_enter Tryz.func35, Tryz.ntmps35
  go_wp2_with fail
  refine (card_no _ _ _ (unhide H0) hn).mono ?_
  rintro ee wz ⟨rfl, gz⟩
  exact ⟨rfl, rfl, grown_trans (unhide G0) gz⟩

set_option maxHeartbeats 2000000 in
theorem ether_short2 (B : Nat) (a b c d e f : UInt8) (l : List UInt8) (w : World) (h : Rdr w B (a :: b :: c :: d :: e :: f :: l)) (hn : l.length < 6) :
    Calls Tryz.prog 35 #[.pointer (some ⟨B, 0, none⟩)] w fun ee w' => ee = .panicked (errP 1) ∧ w.grownBy w' (some B) := by
  have hB := h.lt
  have hne1 : w.heap.size + 1 ≠ B := by omega
  have hne0 : w.heap.size ≠ B := by omega
  have H0 := hide ((h.alloc (.cells #[.int .u8 0, .int .u8 0, .int .u8 0, .int .u8 0, .int .u8 0, .int .u8 0, .int .u8 0, .int .u8 0, .int .u8 0, .int .u8 0, .int .u8 0, .int .u8 0, .int .u16 0, .string ⟨#[]⟩] 27)).alloc (.cells #[.int .u8 0, .int .u8 0, .int .u8 0, .int .u8 0, .int .u8 0, .int .u8 0, .int .u8 0, .int .u8 0, .int .u8 0, .int .u8 0, .int .u8 0, .int .u8 0, .int .u16 0, .string ⟨#[]⟩] 27))
  have G0 := hide (grown_alloc (grown_alloc (grown_refl w (some B)) (.cells #[.int .u8 0, .int .u8 0, .int .u8 0, .int .u8 0, .int .u8 0, .int .u8 0, .int .u8 0, .int .u8 0, .int .u8 0, .int .u8 0, .int .u8 0, .int .u8 0, .int .u16 0, .string ⟨#[]⟩] 27)) (.cells #[.int .u8 0, .int .u8 0, .int .u8 0, .int .u8 0, .int .u8 0, .int .u8 0, .int .u8 0, .int .u8 0, .int .u8 0, .int .u8 0, .int .u8 0, .int .u8 0, .int .u16 0, .string ⟨#[]⟩] 27))
  have E0 : Hid (((w.alloc (.cells #[.int .u8 0, .int .u8 0, .int .u8 0, .int .u8 0, .int .u8 0, .int .u8 0, .int .u8 0, .int .u8 0, .int .u8 0, .int .u8 0, .int .u8 0, .int .u8 0, .int .u16 0, .string ⟨#[]⟩] 27)).alloc (.cells #[.int .u8 0, .int .u8 0, .int .u8 0, .int .u8 0, .int .u8 0, .int .u8 0, .int .u8 0, .int .u8 0, .int .u8 0, .int .u8 0, .int .u8 0, .int .u8 0, .int .u16 0, .string ⟨#[]⟩] 27)).heap[w.heap.size + 1]? = some (.cells #[.int .u8 0, .int .u8 0, .int .u8 0, .int .u8 0, .int .u8 0, .int .u8 0, .int .u8 0, .int .u8 0, .int .u8 0, .int .u8 0, .int .u8 0, .int .u8 0, .int .u16 0, .string ⟨#[]⟩] 27 (0, 0))) := by
    have q := heap_alloc_new (w.alloc (.cells #[.int .u8 0, .int .u8 0, .int .u8 0, .int .u8 0, .int .u8 0, .int .u8 0, .int .u8 0, .int .u8 0, .int .u8 0, .int .u8 0, .int .u8 0, .int .u8 0, .int .u16 0, .string ⟨#[]⟩] 27)) (.cells #[.int .u8 0, .int .u8 0, .int .u8 0, .int .u8 0, .int .u8 0, .int .u8 0, .int .u8 0, .int .u8 0, .int .u8 0, .int .u8 0, .int .u8 0, .int .u8 0, .int .u16 0, .string ⟨#[]⟩] 27)
    rw [show (w.alloc (.cells #[.int .u8 0, .int .u8 0, .int .u8 0, .int .u8 0, .int .u8 0, .int .u8 0, .int .u8 0, .int .u8 0, .int .u8 0, .int .u8 0, .int .u8 0, .int .u8 0, .int .u16 0, .string ⟨#[]⟩] 27)).heap.size = w.heap.size + 1 by simp] at q
    exact q
  have R0 : Hid (((w.alloc (.cells #[.int .u8 0, .int .u8 0, .int .u8 0, .int .u8 0, .int .u8 0, .int .u8 0, .int .u8 0, .int .u8 0, .int .u8 0, .int .u8 0, .int .u8 0, .int .u8 0, .int .u16 0, .string ⟨#[]⟩] 27)).alloc (.cells #[.int .u8 0, .int .u8 0, .int .u8 0, .int .u8 0, .int .u8 0, .int .u8 0, .int .u8 0, .int .u8 0, .int .u8 0, .int .u8 0, .int .u8 0, .int .u8 0, .int .u16 0, .string ⟨#[]⟩] 27)).heap[w.heap.size]? = some (.cells #[.int .u8 0, .int .u8 0, .int .u8 0, .int .u8 0, .int .u8 0, .int .u8 0, .int .u8 0, .int .u8 0, .int .u8 0, .int .u8 0, .int .u8 0, .int .u8 0, .int .u16 0, .string ⟨#[]⟩] 27 (0, 0))) := by
    show _ = _
    rw [Below.heap_alloc _ _ _ (by simp)]; exact heap_alloc_new w _
  clear h
  go_enter Tryz.func35, Tryz.ntmps35
  go_wp2_with fail
  refine (card_ok _ _ _ _ _ _ _ _ _ (unhide H0) (by simp only [List.length_cons, maxLen]; omega)).mono ?_
  rintro ee w1 ⟨rfl, h1, g1⟩
  have he : w1.heap[w.heap.size + 1]? = some (.cells #[.int .u8 0, .int .u8 0, .int .u8 0, .int .u8 0, .int .u8 0, .int .u8 0, .int .u8 0, .int .u8 0, .int .u8 0, .int .u8 0, .int .u8 0, .int .u8 0, .int .u16 0, .string ⟨#[]⟩] 27 (0, 0)) := (g1.block _ (lt_of_block (unhide E0)) (fun q => hne1 (by simpa using q))).trans (unhide E0)
  have hr : w1.heap[w.heap.size]? = some (.cells #[.int .u8 0, .int .u8 0, .int .u8 0, .int .u8 0, .int .u8 0, .int .u8 0, .int .u8 0, .int .u8 0, .int .u8 0, .int .u8 0, .int .u8 0, .int .u8 0, .int .u16 0, .string ⟨#[]⟩] 27 (0, 0)) := (g1.block _ (lt_of_block (unhide R0)) (fun q => hne0 (by simpa using q))).trans (unhide R0)
  have cw1_0 : w1.cell? ⟨w.heap.size + 1, 0, none⟩ = some (.int .u8 0) := row_cell he rfl
  have cw1_1 : w1.cell? ⟨w.heap.size + 1, 1, none⟩ = some (.int .u8 0) := row_cell he rfl
  have cw1_2 : w1.cell? ⟨w.heap.size + 1, 2, none⟩ = some (.int .u8 0) := row_cell he rfl
  have cw1_3 : w1.cell? ⟨w.heap.size + 1, 3, none⟩ = some (.int .u8 0) := row_cell he rfl
  have cw1_4 : w1.cell? ⟨w.heap.size + 1, 4, none⟩ = some (.int .u8 0) := row_cell he rfl
  have cw1_5 : w1.cell? ⟨w.heap.size + 1, 5, none⟩ = some (.int .u8 0) := row_cell he rfl
  have fw1 := row_free he
  have E1 : Hid (((((((w1.setCell ⟨w.heap.size + 1, 0, none⟩ (.int .u8 a.toNat)).setCell ⟨w.heap.size + 1, 1, none⟩ (.int .u8 b.toNat)).setCell ⟨w.heap.size + 1, 2, none⟩ (.int .u8 c.toNat)).setCell ⟨w.heap.size + 1, 3, none⟩ (.int .u8 d.toNat)).setCell ⟨w.heap.size + 1, 4, none⟩ (.int .u8 e.toNat)).setCell ⟨w.heap.size + 1, 5, none⟩ (.int .u8 f.toNat)).heap[w.heap.size + 1]? = some (.cells #[.int .u8 a.toNat, .int .u8 b.toNat, .int .u8 c.toNat, .int .u8 d.toNat, .int .u8 e.toNat, .int .u8 f.toNat, .int .u8 0, .int .u8 0, .int .u8 0, .int .u8 0, .int .u8 0, .int .u8 0, .int .u16 0, .string ⟨#[]⟩] 27 (0, 0))) := row_set (row_set (row_set (row_set (row_set (row_set (he) 0 (.int .u8 a.toNat)) 1 (.int .u8 b.toNat)) 2 (.int .u8 c.toNat)) 3 (.int .u8 d.toNat)) 4 (.int .u8 e.toNat)) 5 (.int .u8 f.toNat)
  have H1 : Hid (Rdr ((((((w1.setCell ⟨w.heap.size + 1, 0, none⟩ (.int .u8 a.toNat)).setCell ⟨w.heap.size + 1, 1, none⟩ (.int .u8 b.toNat)).setCell ⟨w.heap.size + 1, 2, none⟩ (.int .u8 c.toNat)).setCell ⟨w.heap.size + 1, 3, none⟩ (.int .u8 d.toNat)).setCell ⟨w.heap.size + 1, 4, none⟩ (.int .u8 e.toNat)).setCell ⟨w.heap.size + 1, 5, none⟩ (.int .u8 f.toNat)) B (l)) := other (other (other (other (other (other (h1) hne1.symm _) hne1.symm _) hne1.symm _) hne1.symm _) hne1.symm _) hne1.symm _
  have G1 : Hid (w.grownBy ((((((w1.setCell ⟨w.heap.size + 1, 0, none⟩ (.int .u8 a.toNat)).setCell ⟨w.heap.size + 1, 1, none⟩ (.int .u8 b.toNat)).setCell ⟨w.heap.size + 1, 2, none⟩ (.int .u8 c.toNat)).setCell ⟨w.heap.size + 1, 3, none⟩ (.int .u8 d.toNat)).setCell ⟨w.heap.size + 1, 4, none⟩ (.int .u8 e.toNat)).setCell ⟨w.heap.size + 1, 5, none⟩ (.int .u8 f.toNat)) (some B)) := grown_new (grown_new (grown_new (grown_new (grown_new (grown_new (grown_trans (unhide G0) g1) (Nat.le_succ _) _) (Nat.le_succ _) _) (Nat.le_succ _) _) (Nat.le_succ _) _) (Nat.le_succ _) _) (Nat.le_succ _) _
  have R1 : Hid (((((((w1.setCell ⟨w.heap.size + 1, 0, none⟩ (.int .u8 a.toNat)).setCell ⟨w.heap.size + 1, 1, none⟩ (.int .u8 b.toNat)).setCell ⟨w.heap.size + 1, 2, none⟩ (.int .u8 c.toNat)).setCell ⟨w.heap.size + 1, 3, none⟩ (.int .u8 d.toNat)).setCell ⟨w.heap.size + 1, 4, none⟩ (.int .u8 e.toNat)).setCell ⟨w.heap.size + 1, 5, none⟩ (.int .u8 f.toNat)).heap[w.heap.size]? = some (.cells #[.int .u8 0, .int .u8 0, .int .u8 0, .int .u8 0, .int .u8 0, .int .u8 0, .int .u8 0, .int .u8 0, .int .u8 0, .int .u8 0, .int .u8 0, .int .u8 0, .int .u16 0, .string ⟨#[]⟩] 27 (0, 0))) := by
    show _ = _
    rw [Below.heap_setCell _ _ _ _ (by simp), Below.heap_setCell _ _ _ _ (by simp), Below.heap_setCell _ _ _ _ (by simp), Below.heap_setCell _ _ _ _ (by simp), Below.heap_setCell _ _ _ _ (by simp), Below.heap_setCell _ _ _ _ (by simp)]; exact hr
  clear he hr h1 g1 H0 G0 E0 R0
  go_wp2_with fail
  refine (card_no _ _ _ (unhide H1) hn).mono ?_
  rintro ee wz ⟨rfl, gz⟩
  exact ⟨rfl, rfl, grown_trans (unhide G1) gz⟩

set_option maxHeartbeats 2000000 in
theorem ether_short3 (B : Nat) (a b c d e f a' b' c' d' e' f' : UInt8) (l : List UInt8) (w : World) (h : Rdr w B (a :: b :: c :: d :: e :: f :: a' :: b' :: c' :: d' :: e' :: f' :: l)) (hn : l.length < 2) :
    Calls Tryz.prog 35 #[.pointer (some ⟨B, 0, none⟩)] w fun ee w' => ee = .panicked (errP 1) ∧ w.grownBy w' (some B) := by
  have hB := h.lt
  have hne1 : w.heap.size + 1 ≠ B := by omega
  have hne0 : w.heap.size ≠ B := by omega
  have H0 := hide ((h.alloc (.cells #[.int .u8 0, .int .u8 0, .int .u8 0, .int .u8 0, .int .u8 0, .int .u8 0, .int .u8 0, .int .u8 0, .int .u8 0, .int .u8 0, .int .u8 0, .int .u8 0, .int .u16 0, .string ⟨#[]⟩] 27)).alloc (.cells #[.int .u8 0, .int .u8 0, .int .u8 0, .int .u8 0, .int .u8 0, .int .u8 0, .int .u8 0, .int .u8 0, .int .u8 0, .int .u8 0, .int .u8 0, .int .u8 0, .int .u16 0, .string ⟨#[]⟩] 27))
  have G0 := hide (grown_alloc (grown_alloc (grown_refl w (some B)) (.cells #[.int .u8 0, .int .u8 0, .int .u8 0, .int .u8 0, .int .u8 0, .int .u8 0, .int .u8 0, .int .u8 0, .int .u8 0, .int .u8 0, .int .u8 0, .int .u8 0, .int .u16 0, .string ⟨#[]⟩] 27)) (.cells #[.int .u8 0, .int .u8 0, .int .u8 0, .int .u8 0, .int .u8 0, .int .u8 0, .int .u8 0, .int .u8 0, .int .u8 0, .int .u8 0, .int .u8 0, .int .u8 0, .int .u16 0, .string ⟨#[]⟩] 27))
  have E0 : Hid (((w.alloc (.cells #[.int .u8 0, .int .u8 0, .int .u8 0, .int .u8 0, .int .u8 0, .int .u8 0, .int .u8 0, .int .u8 0, .int .u8 0, .int .u8 0, .int .u8 0, .int .u8 0, .int .u16 0, .string ⟨#[]⟩] 27)).alloc (.cells #[.int .u8 0, .int .u8 0, .int .u8 0, .int .u8 0, .int .u8 0, .int .u8 0, .int .u8 0, .int .u8 0, .int .u8 0, .int .u8 0, .int .u8 0, .int .u8 0, .int .u16 0, .string ⟨#[]⟩] 27)).heap[w.heap.size + 1]? = some (.cells #[.int .u8 0, .int .u8 0, .int .u8 0, .int .u8 0, .int .u8 0, .int .u8 0, .int .u8 0, .int .u8 0, .int .u8 0, .int .u8 0, .int .u8 0, .int .u8 0, .int .u16 0, .string ⟨#[]⟩] 27 (0, 0))) := by
    have q := heap_alloc_new (w.alloc (.cells #[.int .u8 0, .int .u8 0, .int .u8 0, .int .u8 0, .int .u8 0, .int .u8 0, .int .u8 0, .int .u8 0, .int .u8 0, .int .u8 0, .int .u8 0, .int .u8 0, .int .u16 0, .string ⟨#[]⟩] 27)) (.cells #[.int .u8 0, .int .u8 0, .int .u8 0, .int .u8 0, .int .u8 0, .int .u8 0, .int .u8 0, .int .u8 0, .int .u8 0, .int .u8 0, .int .u8 0, .int .u8 0, .int .u16 0, .string ⟨#[]⟩] 27)
    rw [show (w.alloc (.cells #[.int .u8 0, .int .u8 0, .int .u8 0, .int .u8 0, .int .u8 0, .int .u8 0, .int .u8 0, .int .u8 0, .int .u8 0, .int .u8 0, .int .u8 0, .int .u8 0, .int .u16 0, .string ⟨#[]⟩] 27)).heap.size = w.heap.size + 1 by simp] at q
    exact q
  have R0 : Hid (((w.alloc (.cells #[.int .u8 0, .int .u8 0, .int .u8 0, .int .u8 0, .int .u8 0, .int .u8 0, .int .u8 0, .int .u8 0, .int .u8 0, .int .u8 0, .int .u8 0, .int .u8 0, .int .u16 0, .string ⟨#[]⟩] 27)).alloc (.cells #[.int .u8 0, .int .u8 0, .int .u8 0, .int .u8 0, .int .u8 0, .int .u8 0, .int .u8 0, .int .u8 0, .int .u8 0, .int .u8 0, .int .u8 0, .int .u8 0, .int .u16 0, .string ⟨#[]⟩] 27)).heap[w.heap.size]? = some (.cells #[.int .u8 0, .int .u8 0, .int .u8 0, .int .u8 0, .int .u8 0, .int .u8 0, .int .u8 0, .int .u8 0, .int .u8 0, .int .u8 0, .int .u8 0, .int .u8 0, .int .u16 0, .string ⟨#[]⟩] 27 (0, 0))) := by
    show _ = _
    rw [Below.heap_alloc _ _ _ (by simp)]; exact heap_alloc_new w _
  clear h
  go_enter Tryz.func35, Tryz.ntmps35
  go_wp2_with fail
  refine (card_ok _ _ _ _ _ _ _ _ _ (unhide H0) (by simp only [List.length_cons, maxLen]; omega)).mono ?_
  rintro ee w1 ⟨rfl, h1, g1⟩
  have he : w1.heap[w.heap.size + 1]? = some (.cells #[.int .u8 0, .int .u8 0, .int .u8 0, .int .u8 0, .int .u8 0, .int .u8 0, .int .u8 0, .int .u8 0, .int .u8 0, .int .u8 0, .int .u8 0, .int .u8 0, .int .u16 0, .string ⟨#[]⟩] 27 (0, 0)) := (g1.block _ (lt_of_block (unhide E0)) (fun q => hne1 (by simpa using q))).trans (unhide E0)
  have hr : w1.heap[w.heap.size]? = some (.cells #[.int .u8 0, .int .u8 0, .int .u8 0, .int .u8 0, .int .u8 0, .int .u8 0, .int .u8 0, .int .u8 0, .int .u8 0, .int .u8 0, .int .u8 0, .int .u8 0, .int .u16 0, .string ⟨#[]⟩] 27 (0, 0)) := (g1.block _ (lt_of_block (unhide R0)) (fun q => hne0 (by simpa using q))).trans (unhide R0)
  have cw1_0 : w1.cell? ⟨w.heap.size + 1, 0, none⟩ = some (.int .u8 0) := row_cell he rfl
  have cw1_1 : w1.cell? ⟨w.heap.size + 1, 1, none⟩ = some (.int .u8 0) := row_cell he rfl
  have cw1_2 : w1.cell? ⟨w.heap.size + 1, 2, none⟩ = some (.int .u8 0) := row_cell he rfl
  have cw1_3 : w1.cell? ⟨w.heap.size + 1, 3, none⟩ = some (.int .u8 0) := row_cell he rfl
  have cw1_4 : w1.cell? ⟨w.heap.size + 1, 4, none⟩ = some (.int .u8 0) := row_cell he rfl
  have cw1_5 : w1.cell? ⟨w.heap.size + 1, 5, none⟩ = some (.int .u8 0) := row_cell he rfl
  have fw1 := row_free he
  have E1 : Hid (((((((w1.setCell ⟨w.heap.size + 1, 0, none⟩ (.int .u8 a.toNat)).setCell ⟨w.heap.size + 1, 1, none⟩ (.int .u8 b.toNat)).setCell ⟨w.heap.size + 1, 2, none⟩ (.int .u8 c.toNat)).setCell ⟨w.heap.size + 1, 3, none⟩ (.int .u8 d.toNat)).setCell ⟨w.heap.size + 1, 4, none⟩ (.int .u8 e.toNat)).setCell ⟨w.heap.size + 1, 5, none⟩ (.int .u8 f.toNat)).heap[w.heap.size + 1]? = some (.cells #[.int .u8 a.toNat, .int .u8 b.toNat, .int .u8 c.toNat, .int .u8 d.toNat, .int .u8 e.toNat, .int .u8 f.toNat, .int .u8 0, .int .u8 0, .int .u8 0, .int .u8 0, .int .u8 0, .int .u8 0, .int .u16 0, .string ⟨#[]⟩] 27 (0, 0))) := row_set (row_set (row_set (row_set (row_set (row_set (he) 0 (.int .u8 a.toNat)) 1 (.int .u8 b.toNat)) 2 (.int .u8 c.toNat)) 3 (.int .u8 d.toNat)) 4 (.int .u8 e.toNat)) 5 (.int .u8 f.toNat)
  have H1 : Hid (Rdr ((((((w1.setCell ⟨w.heap.size + 1, 0, none⟩ (.int .u8 a.toNat)).setCell ⟨w.heap.size + 1, 1, none⟩ (.int .u8 b.toNat)).setCell ⟨w.heap.size + 1, 2, none⟩ (.int .u8 c.toNat)).setCell ⟨w.heap.size + 1, 3, none⟩ (.int .u8 d.toNat)).setCell ⟨w.heap.size + 1, 4, none⟩ (.int .u8 e.toNat)).setCell ⟨w.heap.size + 1, 5, none⟩ (.int .u8 f.toNat)) B (a' :: b' :: c' :: d' :: e' :: f' :: l)) := other (other (other (other (other (other (h1) hne1.symm _) hne1.symm _) hne1.symm _) hne1.symm _) hne1.symm _) hne1.symm _
  have G1 : Hid (w.grownBy ((((((w1.setCell ⟨w.heap.size + 1, 0, none⟩ (.int .u8 a.toNat)).setCell ⟨w.heap.size + 1, 1, none⟩ (.int .u8 b.toNat)).setCell ⟨w.heap.size + 1, 2, none⟩ (.int .u8 c.toNat)).setCell ⟨w.heap.size + 1, 3, none⟩ (.int .u8 d.toNat)).setCell ⟨w.heap.size + 1, 4, none⟩ (.int .u8 e.toNat)).setCell ⟨w.heap.size + 1, 5, none⟩ (.int .u8 f.toNat)) (some B)) := grown_new (grown_new (grown_new (grown_new (grown_new (grown_new (grown_trans (unhide G0) g1) (Nat.le_succ _) _) (Nat.le_succ _) _) (Nat.le_succ _) _) (Nat.le_succ _) _) (Nat.le_succ _) _) (Nat.le_succ _) _
  have R1 : Hid (((((((w1.setCell ⟨w.heap.size + 1, 0, none⟩ (.int .u8 a.toNat)).setCell ⟨w.heap.size + 1, 1, none⟩ (.int .u8 b.toNat)).setCell ⟨w.heap.size + 1, 2, none⟩ (.int .u8 c.toNat)).setCell ⟨w.heap.size + 1, 3, none⟩ (.int .u8 d.toNat)).setCell ⟨w.heap.size + 1, 4, none⟩ (.int .u8 e.toNat)).setCell ⟨w.heap.size + 1, 5, none⟩ (.int .u8 f.toNat)).heap[w.heap.size]? = some (.cells #[.int .u8 0, .int .u8 0, .int .u8 0, .int .u8 0, .int .u8 0, .int .u8 0, .int .u8 0, .int .u8 0, .int .u8 0, .int .u8 0, .int .u8 0, .int .u8 0, .int .u16 0, .string ⟨#[]⟩] 27 (0, 0))) := by
    show _ = _
    rw [Below.heap_setCell _ _ _ _ (by simp), Below.heap_setCell _ _ _ _ (by simp), Below.heap_setCell _ _ _ _ (by simp), Below.heap_setCell _ _ _ _ (by simp), Below.heap_setCell _ _ _ _ (by simp), Below.heap_setCell _ _ _ _ (by simp)]; exact hr
  clear he hr h1 g1 H0 G0 E0 R0
  go_wp2_with fail
  refine (card_ok _ _ _ _ _ _ _ _ _ (unhide H1) (by simp only [List.length_cons, maxLen]; omega)).mono ?_
  rintro ee w2 ⟨rfl, h2, g2⟩
  have he : w2.heap[w.heap.size + 1]? = some (.cells #[.int .u8 a.toNat, .int .u8 b.toNat, .int .u8 c.toNat, .int .u8 d.toNat, .int .u8 e.toNat, .int .u8 f.toNat, .int .u8 0, .int .u8 0, .int .u8 0, .int .u8 0, .int .u8 0, .int .u8 0, .int .u16 0, .string ⟨#[]⟩] 27 (0, 0)) := (g2.block _ (lt_of_block (unhide E1)) (fun q => hne1 (by simpa using q))).trans (unhide E1)
  have hr : w2.heap[w.heap.size]? = some (.cells #[.int .u8 0, .int .u8 0, .int .u8 0, .int .u8 0, .int .u8 0, .int .u8 0, .int .u8 0, .int .u8 0, .int .u8 0, .int .u8 0, .int .u8 0, .int .u8 0, .int .u16 0, .string ⟨#[]⟩] 27 (0, 0)) := (g2.block _ (lt_of_block (unhide R1)) (fun q => hne0 (by simpa using q))).trans (unhide R1)
  have cw2_6 : w2.cell? ⟨w.heap.size + 1, 6, none⟩ = some (.int .u8 0) := row_cell he rfl
  have cw2_7 : w2.cell? ⟨w.heap.size + 1, 7, none⟩ = some (.int .u8 0) := row_cell he rfl
  have cw2_8 : w2.cell? ⟨w.heap.size + 1, 8, none⟩ = some (.int .u8 0) := row_cell he rfl
  have cw2_9 : w2.cell? ⟨w.heap.size + 1, 9, none⟩ = some (.int .u8 0) := row_cell he rfl
  have cw2_10 : w2.cell? ⟨w.heap.size + 1, 10, none⟩ = some (.int .u8 0) := row_cell he rfl
  have cw2_11 : w2.cell? ⟨w.heap.size + 1, 11, none⟩ = some (.int .u8 0) := row_cell he rfl
  have fw2 := row_free he
  have E2 : Hid (((((((w2.setCell ⟨w.heap.size + 1, 6, none⟩ (.int .u8 a'.toNat)).setCell ⟨w.heap.size + 1, 7, none⟩ (.int .u8 b'.toNat)).setCell ⟨w.heap.size + 1, 8, none⟩ (.int .u8 c'.toNat)).setCell ⟨w.heap.size + 1, 9, none⟩ (.int .u8 d'.toNat)).setCell ⟨w.heap.size + 1, 10, none⟩ (.int .u8 e'.toNat)).setCell ⟨w.heap.size + 1, 11, none⟩ (.int .u8 f'.toNat)).heap[w.heap.size + 1]? = some (.cells #[.int .u8 a.toNat, .int .u8 b.toNat, .int .u8 c.toNat, .int .u8 d.toNat, .int .u8 e.toNat, .int .u8 f.toNat, .int .u8 a'.toNat, .int .u8 b'.toNat, .int .u8 c'.toNat, .int .u8 d'.toNat, .int .u8 e'.toNat, .int .u8 f'.toNat, .int .u16 0, .string ⟨#[]⟩] 27 (0, 0))) := row_set (row_set (row_set (row_set (row_set (row_set (he) 6 (.int .u8 a'.toNat)) 7 (.int .u8 b'.toNat)) 8 (.int .u8 c'.toNat)) 9 (.int .u8 d'.toNat)) 10 (.int .u8 e'.toNat)) 11 (.int .u8 f'.toNat)
  have H2 : Hid (Rdr ((((((w2.setCell ⟨w.heap.size + 1, 6, none⟩ (.int .u8 a'.toNat)).setCell ⟨w.heap.size + 1, 7, none⟩ (.int .u8 b'.toNat)).setCell ⟨w.heap.size + 1, 8, none⟩ (.int .u8 c'.toNat)).setCell ⟨w.heap.size + 1, 9, none⟩ (.int .u8 d'.toNat)).setCell ⟨w.heap.size + 1, 10, none⟩ (.int .u8 e'.toNat)).setCell ⟨w.heap.size + 1, 11, none⟩ (.int .u8 f'.toNat)) B (l)) := other (other (other (other (other (other (h2) hne1.symm _) hne1.symm _) hne1.symm _) hne1.symm _) hne1.symm _) hne1.symm _
  have G2 : Hid (w.grownBy ((((((w2.setCell ⟨w.heap.size + 1, 6, none⟩ (.int .u8 a'.toNat)).setCell ⟨w.heap.size + 1, 7, none⟩ (.int .u8 b'.toNat)).setCell ⟨w.heap.size + 1, 8, none⟩ (.int .u8 c'.toNat)).setCell ⟨w.heap.size + 1, 9, none⟩ (.int .u8 d'.toNat)).setCell ⟨w.heap.size + 1, 10, none⟩ (.int .u8 e'.toNat)).setCell ⟨w.heap.size + 1, 11, none⟩ (.int .u8 f'.toNat)) (some B)) := grown_new (grown_new (grown_new (grown_new (grown_new (grown_new (grown_trans (unhide G1) g2) (Nat.le_succ _) _) (Nat.le_succ _) _) (Nat.le_succ _) _) (Nat.le_succ _) _) (Nat.le_succ _) _) (Nat.le_succ _) _
  have R2 : Hid (((((((w2.setCell ⟨w.heap.size + 1, 6, none⟩ (.int .u8 a'.toNat)).setCell ⟨w.heap.size + 1, 7, none⟩ (.int .u8 b'.toNat)).setCell ⟨w.heap.size + 1, 8, none⟩ (.int .u8 c'.toNat)).setCell ⟨w.heap.size + 1, 9, none⟩ (.int .u8 d'.toNat)).setCell ⟨w.heap.size + 1, 10, none⟩ (.int .u8 e'.toNat)).setCell ⟨w.heap.size + 1, 11, none⟩ (.int .u8 f'.toNat)).heap[w.heap.size]? = some (.cells #[.int .u8 0, .int .u8 0, .int .u8 0, .int .u8 0, .int .u8 0, .int .u8 0, .int .u8 0, .int .u8 0, .int .u8 0, .int .u8 0, .int .u8 0, .int .u8 0, .int .u16 0, .string ⟨#[]⟩] 27 (0, 0))) := by
    show _ = _
    rw [Below.heap_setCell _ _ _ _ (by simp), Below.heap_setCell _ _ _ _ (by simp), Below.heap_setCell _ _ _ _ (by simp), Below.heap_setCell _ _ _ _ (by simp), Below.heap_setCell _ _ _ _ (by simp), Below.heap_setCell _ _ _ _ (by simp)]; exact hr
  clear he hr h2 g2 H1 G1 E1 R1
  go_wp2_with fail
  refine (getType_short _ _ _ (unhide H2) hn).mono ?_
  rintro ee wz ⟨rfl, gz⟩
  exact ⟨rfl, rfl, grown_trans (unhide G2) gz⟩

set_option maxHeartbeats 2000000 in
theorem ether_type (B : Nat) (a b c d e f a' b' c' d' e' f' t t' : UInt8) (l : List UInt8) (w : World) (h : Rdr w B (a :: b :: c :: d :: e :: f :: a' :: b' :: c' :: d' :: e' :: f' :: t :: t' :: l)) (hs : l.length ≤ 1099511627000) (ht : Eth.okTy (256 * (t.toNat : Int) + (t'.toNat : Int)) = false) :
    Calls Tryz.prog 35 #[.pointer (some ⟨B, 0, none⟩)] w fun ee w' => ee = .panicked (errP 3) ∧ w.grownBy w' (some B) := by
  have hB := h.lt
  have hne1 : w.heap.size + 1 ≠ B := by omega
  have hne0 : w.heap.size ≠ B := by omega
  have H0 := hide ((h.alloc (.cells #[.int .u8 0, .int .u8 0, .int .u8 0, .int .u8 0, .int .u8 0, .int .u8 0, .int .u8 0, .int .u8 0, .int .u8 0, .int .u8 0, .int .u8 0, .int .u8 0, .int .u16 0, .string ⟨#[]⟩] 27)).alloc (.cells #[.int .u8 0, .int .u8 0, .int .u8 0, .int .u8 0, .int .u8 0, .int .u8 0, .int .u8 0, .int .u8 0, .int .u8 0, .int .u8 0, .int .u8 0, .int .u8 0, .int .u16 0, .string ⟨#[]⟩] 27))
  have G0 := hide (grown_alloc (grown_alloc (grown_refl w (some B)) (.cells #[.int .u8 0, .int .u8 0, .int .u8 0, .int .u8 0, .int .u8 0, .int .u8 0, .int .u8 0, .int .u8 0, .int .u8 0, .int .u8 0, .int .u8 0, .int .u8 0, .int .u16 0, .string ⟨#[]⟩] 27)) (.cells #[.int .u8 0, .int .u8 0, .int .u8 0, .int .u8 0, .int .u8 0, .int .u8 0, .int .u8 0, .int .u8 0, .int .u8 0, .int .u8 0, .int .u8 0, .int .u8 0, .int .u16 0, .string ⟨#[]⟩] 27))
  have E0 : Hid (((w.alloc (.cells #[.int .u8 0, .int .u8 0, .int .u8 0, .int .u8 0, .int .u8 0, .int .u8 0, .int .u8 0, .int .u8 0, .int .u8 0, .int .u8 0, .int .u8 0, .int .u8 0, .int .u16 0, .string ⟨#[]⟩] 27)).alloc (.cells #[.int .u8 0, .int .u8 0, .int .u8 0, .int .u8 0, .int .u8 0, .int .u8 0, .int .u8 0, .int .u8 0, .int .u8 0, .int .u8 0, .int .u8 0, .int .u8 0, .int .u16 0, .string ⟨#[]⟩] 27)).heap[w.heap.size + 1]? = some (.cells #[.int .u8 0, .int .u8 0, .int .u8 0, .int .u8 0, .int .u8 0, .int .u8 0, .int .u8 0, .int .u8 0, .int .u8 0, .int .u8 0, .int .u8 0, .int .u8 0, .int .u16 0, .string ⟨#[]⟩] 27 (0, 0))) := by
    have q := heap_alloc_new (w.alloc (.cells #[.int .u8 0, .int .u8 0, .int .u8 0, .int .u8 0, .int .u8 0, .int .u8 0, .int .u8 0, .int .u8 0, .int .u8 0, .int .u8 0, .int .u8 0, .int .u8 0, .int .u16 0, .string ⟨#[]⟩] 27)) (.cells #[.int .u8 0, .int .u8 0, .int .u8 0, .int .u8 0, .int .u8 0, .int .u8 0, .int .u8 0, .int .u8 0, .int .u8 0, .int .u8 0, .int .u8 0, .int .u8 0, .int .u16 0, .string ⟨#[]⟩] 27)
    rw [show (w.alloc (.cells #[.int .u8 0, .int .u8 0, .int .u8 0, .int .u8 0, .int .u8 0, .int .u8 0, .int .u8 0, .int .u8 0, .int .u8 0, .int .u8 0, .int .u8 0, .int .u8 0, .int .u16 0, .string ⟨#[]⟩] 27)).heap.size = w.heap.size + 1 by simp] at q
    exact q
  have R0 : Hid (((w.alloc (.cells #[.int .u8 0, .int .u8 0, .int .u8 0, .int .u8 0, .int .u8 0, .int .u8 0, .int .u8 0, .int .u8 0, .int .u8 0, .int .u8 0, .int .u8 0, .int .u8 0, .int .u16 0, .string ⟨#[]⟩] 27)).alloc (.cells #[.int .u8 0, .int .u8 0, .int .u8 0, .int .u8 0, .int .u8 0, .int .u8 0, .int .u8 0, .int .u8 0, .int .u8 0, .int .u8 0, .int .u8 0, .int .u8 0, .int .u16 0, .string ⟨#[]⟩] 27)).heap[w.heap.size]? = some (.cells #[.int .u8 0, .int .u8 0, .int .u8 0, .int .u8 0, .int .u8 0, .int .u8 0, .int .u8 0, .int .u8 0, .int .u8 0, .int .u8 0, .int .u8 0, .int .u8 0, .int .u16 0, .string ⟨#[]⟩] 27 (0, 0))) := by
    show _ = _
    rw [Below.heap_alloc _ _ _ (by simp)]; exact heap_alloc_new w _
  clear h
  have T3 := hide (fun u hu => getType_no B t t' l u hu (by simp only [List.length_cons, maxLen]; omega) ht)
  clear ht
  go_enter Tryz.func35, Tryz.ntmps35
  go_wp2_with fail
  refine (card_ok _ _ _ _ _ _ _ _ _ (unhide H0) (by simp only [List.length_cons, maxLen]; omega)).mono ?_
  rintro ee w1 ⟨rfl, h1, g1⟩
  have he : w1.heap[w.heap.size + 1]? = some (.cells #[.int .u8 0, .int .u8 0, .int .u8 0, .int .u8 0, .int .u8 0, .int .u8 0, .int .u8 0, .int .u8 0, .int .u8 0, .int .u8 0, .int .u8 0, .int .u8 0, .int .u16 0, .string ⟨#[]⟩] 27 (0, 0)) := (g1.block _ (lt_of_block (unhide E0)) (fun q => hne1 (by simpa using q))).trans (unhide E0)
  have hr : w1.heap[w.heap.size]? = some (.cells #[.int .u8 0, .int .u8 0, .int .u8 0, .int .u8 0, .int .u8 0, .int .u8 0, .int .u8 0, .int .u8 0, .int .u8 0, .int .u8 0, .int .u8 0, .int .u8 0, .int .u16 0, .string ⟨#[]⟩] 27 (0, 0)) := (g1.block _ (lt_of_block (unhide R0)) (fun q => hne0 (by simpa using q))).trans (unhide R0)
  have cw1_0 : w1.cell? ⟨w.heap.size + 1, 0, none⟩ = some (.int .u8 0) := row_cell he rfl
  have cw1_1 : w1.cell? ⟨w.heap.size + 1, 1, none⟩ = some (.int .u8 0) := row_cell he rfl
  have cw1_2 : w1.cell? ⟨w.heap.size + 1, 2, none⟩ = some (.int .u8 0) := row_cell he rfl
  have cw1_3 : w1.cell? ⟨w.heap.size + 1, 3, none⟩ = some (.int .u8 0) := row_cell he rfl
  have cw1_4 : w1.cell? ⟨w.heap.size + 1, 4, none⟩ = some (.int .u8 0) := row_cell he rfl
  have cw1_5 : w1.cell? ⟨w.heap.size + 1, 5, none⟩ = some (.int .u8 0) := row_cell he rfl
  have fw1 := row_free he
  have E1 : Hid (((((((w1.setCell ⟨w.heap.size + 1, 0, none⟩ (.int .u8 a.toNat)).setCell ⟨w.heap.size + 1, 1, none⟩ (.int .u8 b.toNat)).setCell ⟨w.heap.size + 1, 2, none⟩ (.int .u8 c.toNat)).setCell ⟨w.heap.size + 1, 3, none⟩ (.int .u8 d.toNat)).setCell ⟨w.heap.size + 1, 4, none⟩ (.int .u8 e.toNat)).setCell ⟨w.heap.size + 1, 5, none⟩ (.int .u8 f.toNat)).heap[w.heap.size + 1]? = some (.cells #[.int .u8 a.toNat, .int .u8 b.toNat, .int .u8 c.toNat, .int .u8 d.toNat, .int .u8 e.toNat, .int .u8 f.toNat, .int .u8 0, .int .u8 0, .int .u8 0, .int .u8 0, .int .u8 0, .int .u8 0, .int .u16 0, .string ⟨#[]⟩] 27 (0, 0))) := row_set (row_set (row_set (row_set (row_set (row_set (he) 0 (.int .u8 a.toNat)) 1 (.int .u8 b.toNat)) 2 (.int .u8 c.toNat)) 3 (.int .u8 d.toNat)) 4 (.int .u8 e.toNat)) 5 (.int .u8 f.toNat)
  have H1 : Hid (Rdr ((((((w1.setCell ⟨w.heap.size + 1, 0, none⟩ (.int .u8 a.toNat)).setCell ⟨w.heap.size + 1, 1, none⟩ (.int .u8 b.toNat)).setCell ⟨w.heap.size + 1, 2, none⟩ (.int .u8 c.toNat)).setCell ⟨w.heap.size + 1, 3, none⟩ (.int .u8 d.toNat)).setCell ⟨w.heap.size + 1, 4, none⟩ (.int .u8 e.toNat)).setCell ⟨w.heap.size + 1, 5, none⟩ (.int .u8 f.toNat)) B (a' :: b' :: c' :: d' :: e' :: f' :: t :: t' :: l)) := other (other (other (other (other (other (h1) hne1.symm _) hne1.symm _) hne1.symm _) hne1.symm _) hne1.symm _) hne1.symm _
  have G1 : Hid (w.grownBy ((((((w1.setCell ⟨w.heap.size + 1, 0, none⟩ (.int .u8 a.toNat)).setCell ⟨w.heap.size + 1, 1, none⟩ (.int .u8 b.toNat)).setCell ⟨w.heap.size + 1, 2, none⟩ (.int .u8 c.toNat)).setCell ⟨w.heap.size + 1, 3, none⟩ (.int .u8 d.toNat)).setCell ⟨w.heap.size + 1, 4, none⟩ (.int .u8 e.toNat)).setCell ⟨w.heap.size + 1, 5, none⟩ (.int .u8 f.toNat)) (some B)) := grown_new (grown_new (grown_new (grown_new (grown_new (grown_new (grown_trans (unhide G0) g1) (Nat.le_succ _) _) (Nat.le_succ _) _) (Nat.le_succ _) _) (Nat.le_succ _) _) (Nat.le_succ _) _) (Nat.le_succ _) _
  have R1 : Hid (((((((w1.setCell ⟨w.heap.size + 1, 0, none⟩ (.int .u8 a.toNat)).setCell ⟨w.heap.size + 1, 1, none⟩ (.int .u8 b.toNat)).setCell ⟨w.heap.size + 1, 2, none⟩ (.int .u8 c.toNat)).setCell ⟨w.heap.size + 1, 3, none⟩ (.int .u8 d.toNat)).setCell ⟨w.heap.size + 1, 4, none⟩ (.int .u8 e.toNat)).setCell ⟨w.heap.size + 1, 5, none⟩ (.int .u8 f.toNat)).heap[w.heap.size]? = some (.cells #[.int .u8 0, .int .u8 0, .int .u8 0, .int .u8 0, .int .u8 0, .int .u8 0, .int .u8 0, .int .u8 0, .int .u8 0, .int .u8 0, .int .u8 0, .int .u8 0, .int .u16 0, .string ⟨#[]⟩] 27 (0, 0))) := by
    show _ = _
    rw [Below.heap_setCell _ _ _ _ (by simp), Below.heap_setCell _ _ _ _ (by simp), Below.heap_setCell _ _ _ _ (by simp), Below.heap_setCell _ _ _ _ (by simp), Below.heap_setCell _ _ _ _ (by simp), Below.heap_setCell _ _ _ _ (by simp)]; exact hr
  clear he hr h1 g1 H0 G0 E0 R0
  go_wp2_with fail
  refine (card_ok _ _ _ _ _ _ _ _ _ (unhide H1) (by simp only [List.length_cons, maxLen]; omega)).mono ?_
  rintro ee w2 ⟨rfl, h2, g2⟩
  have he : w2.heap[w.heap.size + 1]? = some (.cells #[.int .u8 a.toNat, .int .u8 b.toNat, .int .u8 c.toNat, .int .u8 d.toNat, .int .u8 e.toNat, .int .u8 f.toNat, .int .u8 0, .int .u8 0, .int .u8 0, .int .u8 0, .int .u8 0, .int .u8 0, .int .u16 0, .string ⟨#[]⟩] 27 (0, 0)) := (g2.block _ (lt_of_block (unhide E1)) (fun q => hne1 (by simpa using q))).trans (unhide E1)
  have hr : w2.heap[w.heap.size]? = some (.cells #[.int .u8 0, .int .u8 0, .int .u8 0, .int .u8 0, .int .u8 0, .int .u8 0, .int .u8 0, .int .u8 0, .int .u8 0, .int .u8 0, .int .u8 0, .int .u8 0, .int .u16 0, .string ⟨#[]⟩] 27 (0, 0)) := (g2.block _ (lt_of_block (unhide R1)) (fun q => hne0 (by simpa using q))).trans (unhide R1)
  have cw2_6 : w2.cell? ⟨w.heap.size + 1, 6, none⟩ = some (.int .u8 0) := row_cell he rfl
  have cw2_7 : w2.cell? ⟨w.heap.size + 1, 7, none⟩ = some (.int .u8 0) := row_cell he rfl
  have cw2_8 : w2.cell? ⟨w.heap.size + 1, 8, none⟩ = some (.int .u8 0) := row_cell he rfl
  have cw2_9 : w2.cell? ⟨w.heap.size + 1, 9, none⟩ = some (.int .u8 0) := row_cell he rfl
  have cw2_10 : w2.cell? ⟨w.heap.size + 1, 10, none⟩ = some (.int .u8 0) := row_cell he rfl
  have cw2_11 : w2.cell? ⟨w.heap.size + 1, 11, none⟩ = some (.int .u8 0) := row_cell he rfl
  have fw2 := row_free he
  have E2 : Hid (((((((w2.setCell ⟨w.heap.size + 1, 6, none⟩ (.int .u8 a'.toNat)).setCell ⟨w.heap.size + 1, 7, none⟩ (.int .u8 b'.toNat)).setCell ⟨w.heap.size + 1, 8, none⟩ (.int .u8 c'.toNat)).setCell ⟨w.heap.size + 1, 9, none⟩ (.int .u8 d'.toNat)).setCell ⟨w.heap.size + 1, 10, none⟩ (.int .u8 e'.toNat)).setCell ⟨w.heap.size + 1, 11, none⟩ (.int .u8 f'.toNat)).heap[w.heap.size + 1]? = some (.cells #[.int .u8 a.toNat, .int .u8 b.toNat, .int .u8 c.toNat, .int .u8 d.toNat, .int .u8 e.toNat, .int .u8 f.toNat, .int .u8 a'.toNat, .int .u8 b'.toNat, .int .u8 c'.toNat, .int .u8 d'.toNat, .int .u8 e'.toNat, .int .u8 f'.toNat, .int .u16 0, .string ⟨#[]⟩] 27 (0, 0))) := row_set (row_set (row_set (row_set (row_set (row_set (he) 6 (.int .u8 a'.toNat)) 7 (.int .u8 b'.toNat)) 8 (.int .u8 c'.toNat)) 9 (.int .u8 d'.toNat)) 10 (.int .u8 e'.toNat)) 11 (.int .u8 f'.toNat)
  have H2 : Hid (Rdr ((((((w2.setCell ⟨w.heap.size + 1, 6, none⟩ (.int .u8 a'.toNat)).setCell ⟨w.heap.size + 1, 7, none⟩ (.int .u8 b'.toNat)).setCell ⟨w.heap.size + 1, 8, none⟩ (.int .u8 c'.toNat)).setCell ⟨w.heap.size + 1, 9, none⟩ (.int .u8 d'.toNat)).setCell ⟨w.heap.size + 1, 10, none⟩ (.int .u8 e'.toNat)).setCell ⟨w.heap.size + 1, 11, none⟩ (.int .u8 f'.toNat)) B (t :: t' :: l)) := other (other (other (other (other (other (h2) hne1.symm _) hne1.symm _) hne1.symm _) hne1.symm _) hne1.symm _) hne1.symm _
  have G2 : Hid (w.grownBy ((((((w2.setCell ⟨w.heap.size + 1, 6, none⟩ (.int .u8 a'.toNat)).setCell ⟨w.heap.size + 1, 7, none⟩ (.int .u8 b'.toNat)).setCell ⟨w.heap.size + 1, 8, none⟩ (.int .u8 c'.toNat)).setCell ⟨w.heap.size + 1, 9, none⟩ (.int .u8 d'.toNat)).setCell ⟨w.heap.size + 1, 10, none⟩ (.int .u8 e'.toNat)).setCell ⟨w.heap.size + 1, 11, none⟩ (.int .u8 f'.toNat)) (some B)) := grown_new (grown_new (grown_new (grown_new (grown_new (grown_new (grown_trans (unhide G1) g2) (Nat.le_succ _) _) (Nat.le_succ _) _) (Nat.le_succ _) _) (Nat.le_succ _) _) (Nat.le_succ _) _) (Nat.le_succ _) _
  have R2 : Hid (((((((w2.setCell ⟨w.heap.size + 1, 6, none⟩ (.int .u8 a'.toNat)).setCell ⟨w.heap.size + 1, 7, none⟩ (.int .u8 b'.toNat)).setCell ⟨w.heap.size + 1, 8, none⟩ (.int .u8 c'.toNat)).setCell ⟨w.heap.size + 1, 9, none⟩ (.int .u8 d'.toNat)).setCell ⟨w.heap.size + 1, 10, none⟩ (.int .u8 e'.toNat)).setCell ⟨w.heap.size + 1, 11, none⟩ (.int .u8 f'.toNat)).heap[w.heap.size]? = some (.cells #[.int .u8 0, .int .u8 0, .int .u8 0, .int .u8 0, .int .u8 0, .int .u8 0, .int .u8 0, .int .u8 0, .int .u8 0, .int .u8 0, .int .u8 0, .int .u8 0, .int .u16 0, .string ⟨#[]⟩] 27 (0, 0))) := by
    show _ = _
    rw [Below.heap_setCell _ _ _ _ (by simp), Below.heap_setCell _ _ _ _ (by simp), Below.heap_setCell _ _ _ _ (by simp), Below.heap_setCell _ _ _ _ (by simp), Below.heap_setCell _ _ _ _ (by simp), Below.heap_setCell _ _ _ _ (by simp)]; exact hr
  clear he hr h2 g2 H1 G1 E1 R1
  go_wp2_with fail
  refine (unhide T3 _ (unhide H2)).mono ?_
  rintro ee wz ⟨rfl, gz⟩
  exact ⟨rfl, rfl, grown_trans (unhide G2) gz⟩

set_option maxHeartbeats 2000000 in
theorem ether_long (B : Nat) (a b c d e f a' b' c' d' e' f' t t' : UInt8) (l : List UInt8) (w : World) (h : Rdr w B (a :: b :: c :: d :: e :: f :: a' :: b' :: c' :: d' :: e' :: f' :: t :: t' :: l)) (hs : l.length ≤ 1099511627000) (ht : Eth.okTy (256 * (t.toNat : Int) + (t'.toNat : Int)) = true) (hl : Eth.okLoad ⟨l.toArray⟩ = false) :
    Calls Tryz.prog 35 #[.pointer (some ⟨B, 0, none⟩)] w fun ee w' => ee = .panicked (errP 7) ∧ w.grownBy w' (some B) := by
  have hB := h.lt
  have hne1 : w.heap.size + 1 ≠ B := by omega
  have hne0 : w.heap.size ≠ B := by omega
  have H0 := hide ((h.alloc (.cells #[.int .u8 0, .int .u8 0, .int .u8 0, .int .u8 0, .int .u8 0, .int .u8 0, .int .u8 0, .int .u8 0, .int .u8 0, .int .u8 0, .int .u8 0, .int .u8 0, .int .u16 0, .string ⟨#[]⟩] 27)).alloc (.cells #[.int .u8 0, .int .u8 0, .int .u8 0, .int .u8 0, .int .u8 0, .int .u8 0, .int .u8 0, .int .u8 0, .int .u8 0, .int .u8 0, .int .u8 0, .int .u8 0, .int .u16 0, .string ⟨#[]⟩] 27))
  have G0 := hide (grown_alloc (grown_alloc (grown_refl w (some B)) (.cells #[.int .u8 0, .int .u8 0, .int .u8 0, .int .u8 0, .int .u8 0, .int .u8 0, .int .u8 0, .int .u8 0, .int .u8 0, .int .u8 0, .int .u8 0, .int .u8 0, .int .u16 0, .string ⟨#[]⟩] 27)) (.cells #[.int .u8 0, .int .u8 0, .int .u8 0, .int .u8 0, .int .u8 0, .int .u8 0, .int .u8 0, .int .u8 0, .int .u8 0, .int .u8 0, .int .u8 0, .int .u8 0, .int .u16 0, .string ⟨#[]⟩] 27))
  have E0 : Hid (((w.alloc (.cells #[.int .u8 0, .int .u8 0, .int .u8 0, .int .u8 0, .int .u8 0, .int .u8 0, .int .u8 0, .int .u8 0, .int .u8 0, .int .u8 0, .int .u8 0, .int .u8 0, .int .u16 0, .string ⟨#[]⟩] 27)).alloc (.cells #[.int .u8 0, .int .u8 0, .int .u8 0, .int .u8 0, .int .u8 0, .int .u8 0, .int .u8 0, .int .u8 0, .int .u8 0, .int .u8 0, .int .u8 0, .int .u8 0, .int .u16 0, .string ⟨#[]⟩] 27)).heap[w.heap.size + 1]? = some (.cells #[.int .u8 0, .int .u8 0, .int .u8 0, .int .u8 0, .int .u8 0, .int .u8 0, .int .u8 0, .int .u8 0, .int .u8 0, .int .u8 0, .int .u8 0, .int .u8 0, .int .u16 0, .string ⟨#[]⟩] 27 (0, 0))) := by
    have q := heap_alloc_new (w.alloc (.cells #[.int .u8 0, .int .u8 0, .int .u8 0, .int .u8 0, .int .u8 0, .int .u8 0, .int .u8 0, .int .u8 0, .int .u8 0, .int .u8 0, .int .u8 0, .int .u8 0, .int .u16 0, .string ⟨#[]⟩] 27)) (.cells #[.int .u8 0, .int .u8 0, .int .u8 0, .int .u8 0, .int .u8 0, .int .u8 0, .int .u8 0, .int .u8 0, .int .u8 0, .int .u8 0, .int .u8 0, .int .u8 0, .int .u16 0, .string ⟨#[]⟩] 27)
    rw [show (w.alloc (.cells #[.int .u8 0, .int .u8 0, .int .u8 0, .int .u8 0, .int .u8 0, .int .u8 0, .int .u8 0, .int .u8 0, .int .u8 0, .int .u8 0, .int .u8 0, .int .u8 0, .int .u16 0, .string ⟨#[]⟩] 27)).heap.size = w.heap.size + 1 by simp] at q
    exact q
  have R0 : Hid (((w.alloc (.cells #[.int .u8 0, .int .u8 0, .int .u8 0, .int .u8 0, .int .u8 0, .int .u8 0, .int .u8 0, .int .u8 0, .int .u8 0, .int .u8 0, .int .u8 0, .int .u8 0, .int .u16 0, .string ⟨#[]⟩] 27)).alloc (.cells #[.int .u8 0, .int .u8 0, .int .u8 0, .int .u8 0, .int .u8 0, .int .u8 0, .int .u8 0, .int .u8 0, .int .u8 0, .int .u8 0, .int .u8 0, .int .u8 0, .int .u16 0, .string ⟨#[]⟩] 27)).heap[w.heap.size]? = some (.cells #[.int .u8 0, .int .u8 0, .int .u8 0, .int .u8 0, .int .u8 0, .int .u8 0, .int .u8 0, .int .u8 0, .int .u8 0, .int .u8 0, .int .u8 0, .int .u8 0, .int .u16 0, .string ⟨#[]⟩] 27 (0, 0))) := by
    show _ = _
    rw [Below.heap_alloc _ _ _ (by simp)]; exact heap_alloc_new w _
  clear h
  have T3 := hide (fun u hu => getType_ok B t t' l u hu (by simp only [List.length_cons, maxLen]; omega) ht)
  have T4 := hide (fun u hu => getLoad_no B l u hu (by omega) hl)
  obtain ⟨x, hx⟩ : ∃ x, x = 256 * (t.toNat : Int) + (t'.toNat : Int) := ⟨_, rfl⟩
  rw [← hx] at T3
  clear ht hl hx
  go_enter Tryz.func35, Tryz.ntmps35
  go_wp2_with fail
  refine (card_ok _ _ _ _ _ _ _ _ _ (unhide H0) (by simp only [List.length_cons, maxLen]; omega)).mono ?_
  rintro ee w1 ⟨rfl, h1, g1⟩
  have he : w1.heap[w.heap.size + 1]? = some (.cells #[.int .u8 0, .int .u8 0, .int .u8 0, .int .u8 0, .int .u8 0, .int .u8 0, .int .u8 0, .int .u8 0, .int .u8 0, .int .u8 0, .int .u8 0, .int .u8 0, .int .u16 0, .string ⟨#[]⟩] 27 (0, 0)) := (g1.block _ (lt_of_block (unhide E0)) (fun q => hne1 (by simpa using q))).trans (unhide E0)
  have hr : w1.heap[w.heap.size]? = some (.cells #[.int .u8 0, .int .u8 0, .int .u8 0, .int .u8 0, .int .u8 0, .int .u8 0, .int .u8 0, .int .u8 0, .int .u8 0, .int .u8 0, .int .u8 0, .int .u8 0, .int .u16 0, .string ⟨#[]⟩] 27 (0, 0)) := (g1.block _ (lt_of_block (unhide R0)) (fun q => hne0 (by simpa using q))).trans (unhide R0)
  have cw1_0 : w1.cell? ⟨w.heap.size + 1, 0, none⟩ = some (.int .u8 0) := row_cell he rfl
  have cw1_1 : w1.cell? ⟨w.heap.size + 1, 1, none⟩ = some (.int .u8 0) := row_cell he rfl
  have cw1_2 : w1.cell? ⟨w.heap.size + 1, 2, none⟩ = some (.int .u8 0) := row_cell he rfl
  have cw1_3 : w1.cell? ⟨w.heap.size + 1, 3, none⟩ = some (.int .u8 0) := row_cell he rfl
  have cw1_4 : w1.cell? ⟨w.heap.size + 1, 4, none⟩ = some (.int .u8 0) := row_cell he rfl
  have cw1_5 : w1.cell? ⟨w.heap.size + 1, 5, none⟩ = some (.int .u8 0) := row_cell he rfl
  have fw1 := row_free he
  have E1 : Hid (((((((w1.setCell ⟨w.heap.size + 1, 0, none⟩ (.int .u8 a.toNat)).setCell ⟨w.heap.size + 1, 1, none⟩ (.int .u8 b.toNat)).setCell ⟨w.heap.size + 1, 2, none⟩ (.int .u8 c.toNat)).setCell ⟨w.heap.size + 1, 3, none⟩ (.int .u8 d.toNat)).setCell ⟨w.heap.size + 1, 4, none⟩ (.int .u8 e.toNat)).setCell ⟨w.heap.size + 1, 5, none⟩ (.int .u8 f.toNat)).heap[w.heap.size + 1]? = some (.cells #[.int .u8 a.toNat, .int .u8 b.toNat, .int .u8 c.toNat, .int .u8 d.toNat, .int .u8 e.toNat, .int .u8 f.toNat, .int .u8 0, .int .u8 0, .int .u8 0, .int .u8 0, .int .u8 0, .int .u8 0, .int .u16 0, .string ⟨#[]⟩] 27 (0, 0))) := row_set (row_set (row_set (row_set (row_set (row_set (he) 0 (.int .u8 a.toNat)) 1 (.int .u8 b.toNat)) 2 (.int .u8 c.toNat)) 3 (.int .u8 d.toNat)) 4 (.int .u8 e.toNat)) 5 (.int .u8 f.toNat)
  have H1 : Hid (Rdr ((((((w1.setCell ⟨w.heap.size + 1, 0, none⟩ (.int .u8 a.toNat)).setCell ⟨w.heap.size + 1, 1, none⟩ (.int .u8 b.toNat)).setCell ⟨w.heap.size + 1, 2, none⟩ (.int .u8 c.toNat)).setCell ⟨w.heap.size + 1, 3, none⟩ (.int .u8 d.toNat)).setCell ⟨w.heap.size + 1, 4, none⟩ (.int .u8 e.toNat)).setCell ⟨w.heap.size + 1, 5, none⟩ (.int .u8 f.toNat)) B (a' :: b' :: c' :: d' :: e' :: f' :: t :: t' :: l)) := other (other (other (other (other (other (h1) hne1.symm _) hne1.symm _) hne1.symm _) hne1.symm _) hne1.symm _) hne1.symm _
  have G1 : Hid (w.grownBy ((((((w1.setCell ⟨w.heap.size + 1, 0, none⟩ (.int .u8 a.toNat)).setCell ⟨w.heap.size + 1, 1, none⟩ (.int .u8 b.toNat)).setCell ⟨w.heap.size + 1, 2, none⟩ (.int .u8 c.toNat)).setCell ⟨w.heap.size + 1, 3, none⟩ (.int .u8 d.toNat)).setCell ⟨w.heap.size + 1, 4, none⟩ (.int .u8 e.toNat)).setCell ⟨w.heap.size + 1, 5, none⟩ (.int .u8 f.toNat)) (some B)) := grown_new (grown_new (grown_new (grown_new (grown_new (grown_new (grown_trans (unhide G0) g1) (Nat.le_succ _) _) (Nat.le_succ _) _) (Nat.le_succ _) _) (Nat.le_succ _) _) (Nat.le_succ _) _) (Nat.le_succ _) _
  have R1 : Hid (((((((w1.setCell ⟨w.heap.size + 1, 0, none⟩ (.int .u8 a.toNat)).setCell ⟨w.heap.size + 1, 1, none⟩ (.int .u8 b.toNat)).setCell ⟨w.heap.size + 1, 2, none⟩ (.int .u8 c.toNat)).setCell ⟨w.heap.size + 1, 3, none⟩ (.int .u8 d.toNat)).setCell ⟨w.heap.size + 1, 4, none⟩ (.int .u8 e.toNat)).setCell ⟨w.heap.size + 1, 5, none⟩ (.int .u8 f.toNat)).heap[w.heap.size]? = some (.cells #[.int .u8 0, .int .u8 0, .int .u8 0, .int .u8 0, .int .u8 0, .int .u8 0, .int .u8 0, .int .u8 0, .int .u8 0, .int .u8 0, .int .u8 0, .int .u8 0, .int .u16 0, .string ⟨#[]⟩] 27 (0, 0))) := by
    show _ = _
    rw [Below.heap_setCell _ _ _ _ (by simp), Below.heap_setCell _ _ _ _ (by simp), Below.heap_setCell _ _ _ _ (by simp), Below.heap_setCell _ _ _ _ (by simp), Below.heap_setCell _ _ _ _ (by simp), Below.heap_setCell _ _ _ _ (by simp)]; exact hr
  clear he hr h1 g1 H0 G0 E0 R0
  go_wp2_with fail
  refine (card_ok _ _ _ _ _ _ _ _ _ (unhide H1) (by simp only [List.length_cons, maxLen]; omega)).mono ?_
  rintro ee w2 ⟨rfl, h2, g2⟩
  have he : w2.heap[w.heap.size + 1]? = some (.cells #[.int .u8 a.toNat, .int .u8 b.toNat, .int .u8 c.toNat, .int .u8 d.toNat, .int .u8 e.toNat, .int .u8 f.toNat, .int .u8 0, .int .u8 0, .int .u8 0, .int .u8 0, .int .u8 0, .int .u8 0, .int .u16 0, .string ⟨#[]⟩] 27 (0, 0)) := (g2.block _ (lt_of_block (unhide E1)) (fun q => hne1 (by simpa using q))).trans (unhide E1)
  have hr : w2.heap[w.heap.size]? = some (.cells #[.int .u8 0, .int .u8 0, .int .u8 0, .int .u8 0, .int .u8 0, .int .u8 0, .int .u8 0, .int .u8 0, .int .u8 0, .int .u8 0, .int .u8 0, .int .u8 0, .int .u16 0, .string ⟨#[]⟩] 27 (0, 0)) := (g2.block _ (lt_of_block (unhide R1)) (fun q => hne0 (by simpa using q))).trans (unhide R1)
  have cw2_6 : w2.cell? ⟨w.heap.size + 1, 6, none⟩ = some (.int .u8 0) := row_cell he rfl
  have cw2_7 : w2.cell? ⟨w.heap.size + 1, 7, none⟩ = some (.int .u8 0) := row_cell he rfl
  have cw2_8 : w2.cell? ⟨w.heap.size + 1, 8, none⟩ = some (.int .u8 0) := row_cell he rfl
  have cw2_9 : w2.cell? ⟨w.heap.size + 1, 9, none⟩ = some (.int .u8 0) := row_cell he rfl
  have cw2_10 : w2.cell? ⟨w.heap.size + 1, 10, none⟩ = some (.int .u8 0) := row_cell he rfl
  have cw2_11 : w2.cell? ⟨w.heap.size + 1, 11, none⟩ = some (.int .u8 0) := row_cell he rfl
  have fw2 := row_free he
  have E2 : Hid (((((((w2.setCell ⟨w.heap.size + 1, 6, none⟩ (.int .u8 a'.toNat)).setCell ⟨w.heap.size + 1, 7, none⟩ (.int .u8 b'.toNat)).setCell ⟨w.heap.size + 1, 8, none⟩ (.int .u8 c'.toNat)).setCell ⟨w.heap.size + 1, 9, none⟩ (.int .u8 d'.toNat)).setCell ⟨w.heap.size + 1, 10, none⟩ (.int .u8 e'.toNat)).setCell ⟨w.heap.size + 1, 11, none⟩ (.int .u8 f'.toNat)).heap[w.heap.size + 1]? = some (.cells #[.int .u8 a.toNat, .int .u8 b.toNat, .int .u8 c.toNat, .int .u8 d.toNat, .int .u8 e.toNat, .int .u8 f.toNat, .int .u8 a'.toNat, .int .u8 b'.toNat, .int .u8 c'.toNat, .int .u8 d'.toNat, .int .u8 e'.toNat, .int .u8 f'.toNat, .int .u16 0, .string ⟨#[]⟩] 27 (0, 0))) := row_set (row_set (row_set (row_set (row_set (row_set (he) 6 (.int .u8 a'.toNat)) 7 (.int .u8 b'.toNat)) 8 (.int .u8 c'.toNat)) 9 (.int .u8 d'.toNat)) 10 (.int .u8 e'.toNat)) 11 (.int .u8 f'.toNat)
  have H2 : Hid (Rdr ((((((w2.setCell ⟨w.heap.size + 1, 6, none⟩ (.int .u8 a'.toNat)).setCell ⟨w.heap.size + 1, 7, none⟩ (.int .u8 b'.toNat)).setCell ⟨w.heap.size + 1, 8, none⟩ (.int .u8 c'.toNat)).setCell ⟨w.heap.size + 1, 9, none⟩ (.int .u8 d'.toNat)).setCell ⟨w.heap.size + 1, 10, none⟩ (.int .u8 e'.toNat)).setCell ⟨w.heap.size + 1, 11, none⟩ (.int .u8 f'.toNat)) B (t :: t' :: l)) := other (other (other (other (other (other (h2) hne1.symm _) hne1.symm _) hne1.symm _) hne1.symm _) hne1.symm _) hne1.symm _
  have G2 : Hid (w.grownBy ((((((w2.setCell ⟨w.heap.size + 1, 6, none⟩ (.int .u8 a'.toNat)).setCell ⟨w.heap.size + 1, 7, none⟩ (.int .u8 b'.toNat)).setCell ⟨w.heap.size + 1, 8, none⟩ (.int .u8 c'.toNat)).setCell ⟨w.heap.size + 1, 9, none⟩ (.int .u8 d'.toNat)).setCell ⟨w.heap.size + 1, 10, none⟩ (.int .u8 e'.toNat)).setCell ⟨w.heap.size + 1, 11, none⟩ (.int .u8 f'.toNat)) (some B)) := grown_new (grown_new (grown_new (grown_new (grown_new (grown_new (grown_trans (unhide G1) g2) (Nat.le_succ _) _) (Nat.le_succ _) _) (Nat.le_succ _) _) (Nat.le_succ _) _) (Nat.le_succ _) _) (Nat.le_succ _) _
  have R2 : Hid (((((((w2.setCell ⟨w.heap.size + 1, 6, none⟩ (.int .u8 a'.toNat)).setCell ⟨w.heap.size + 1, 7, none⟩ (.int .u8 b'.toNat)).setCell ⟨w.heap.size + 1, 8, none⟩ (.int .u8 c'.toNat)).setCell ⟨w.heap.size + 1, 9, none⟩ (.int .u8 d'.toNat)).setCell ⟨w.heap.size + 1, 10, none⟩ (.int .u8 e'.toNat)).setCell ⟨w.heap.size + 1, 11, none⟩ (.int .u8 f'.toNat)).heap[w.heap.size]? = some (.cells #[.int .u8 0, .int .u8 0, .int .u8 0, .int .u8 0, .int .u8 0, .int .u8 0, .int .u8 0, .int .u8 0, .int .u8 0, .int .u8 0, .int .u8 0, .int .u8 0, .int .u16 0, .string ⟨#[]⟩] 27 (0, 0))) := by
    show _ = _
    rw [Below.heap_setCell _ _ _ _ (by simp), Below.heap_setCell _ _ _ _ (by simp), Below.heap_setCell _ _ _ _ (by simp), Below.heap_setCell _ _ _ _ (by simp), Below.heap_setCell _ _ _ _ (by simp), Below.heap_setCell _ _ _ _ (by simp)]; exact hr
  clear he hr h2 g2 H1 G1 E1 R1
  go_wp2_with fail
  refine (unhide T3 _ (unhide H2)).mono ?_
  rintro ee w3 ⟨rfl, h3, g3⟩
  have he : w3.heap[w.heap.size + 1]? = some (.cells #[.int .u8 a.toNat, .int .u8 b.toNat, .int .u8 c.toNat, .int .u8 d.toNat, .int .u8 e.toNat, .int .u8 f.toNat, .int .u8 a'.toNat, .int .u8 b'.toNat, .int .u8 c'.toNat, .int .u8 d'.toNat, .int .u8 e'.toNat, .int .u8 f'.toNat, .int .u16 0, .string ⟨#[]⟩] 27 (0, 0)) := (g3.block _ (lt_of_block (unhide E2)) (fun q => hne1 (by simpa using q))).trans (unhide E2)
  have hr : w3.heap[w.heap.size]? = some (.cells #[.int .u8 0, .int .u8 0, .int .u8 0, .int .u8 0, .int .u8 0, .int .u8 0, .int .u8 0, .int .u8 0, .int .u8 0, .int .u8 0, .int .u8 0, .int .u8 0, .int .u16 0, .string ⟨#[]⟩] 27 (0, 0)) := (g3.block _ (lt_of_block (unhide R2)) (fun q => hne0 (by simpa using q))).trans (unhide R2)
  have cw3_12 : w3.cell? ⟨w.heap.size + 1, 12, none⟩ = some (.int .u16 0) := row_cell he rfl
  have fw3 := row_free he
  have E3 : Hid ((w3.setCell ⟨w.heap.size + 1, 12, none⟩ (.int .u16 x)).heap[w.heap.size + 1]? = some (.cells #[.int .u8 a.toNat, .int .u8 b.toNat, .int .u8 c.toNat, .int .u8 d.toNat, .int .u8 e.toNat, .int .u8 f.toNat, .int .u8 a'.toNat, .int .u8 b'.toNat, .int .u8 c'.toNat, .int .u8 d'.toNat, .int .u8 e'.toNat, .int .u8 f'.toNat, .int .u16 x, .string ⟨#[]⟩] 27 (0, 0))) := row_set (he) 12 (.int .u16 x)
  have H3 : Hid (Rdr (w3.setCell ⟨w.heap.size + 1, 12, none⟩ (.int .u16 x)) B (l)) := other (h3) hne1.symm _
  have G3 : Hid (w.grownBy (w3.setCell ⟨w.heap.size + 1, 12, none⟩ (.int .u16 x)) (some B)) := grown_new (grown_trans (unhide G2) g3) (Nat.le_succ _) _
  have R3 : Hid ((w3.setCell ⟨w.heap.size + 1, 12, none⟩ (.int .u16 x)).heap[w.heap.size]? = some (.cells #[.int .u8 0, .int .u8 0, .int .u8 0, .int .u8 0, .int .u8 0, .int .u8 0, .int .u8 0, .int .u8 0, .int .u8 0, .int .u8 0, .int .u8 0, .int .u8 0, .int .u16 0, .string ⟨#[]⟩] 27 (0, 0))) := by
    show _ = _
    rw [Below.heap_setCell _ _ _ _ (by simp)]; exact hr
  clear he hr h3 g3 H2 G2 E2 R2
  go_wp2_with fail
  refine (unhide T4 _ (unhide H3)).mono ?_
  rintro ee wz ⟨rfl, gz⟩
  exact ⟨rfl, rfl, grown_trans (unhide G3) gz⟩

end Go.Proofs.YtoifihhmneldeaaGreatDoor.EtR

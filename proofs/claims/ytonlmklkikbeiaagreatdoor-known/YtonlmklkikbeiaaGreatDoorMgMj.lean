import Derived.Test.YtonlmklkikbeiaaGreatDoorMgMi
import Derived.Test.YtonlmklkikbeiaaGreatDoorMgMg
import Derived.Test.YtonlmklkikbeiaaGreatDoorMgHe
namespace Go.Proofs.YtonlmklkikbeiaaGreatDoor.Mac
open Go.ChangeShapes Go.WideShapes Go.ChangeAt Go.RowKit Bs
set_option linter.unusedVariables false
set_option linter.unusedSimpArgs false
variable {w0 : World} {P : Nat → Prop} {w w' : World} {B Q : Nat} {m m' : Mc}

theorem Mx.under (h : Mx w (fun _ => False) w' B m) (hb : Below w0.heap.size w0 w) (hng : 3 ≤ w0.heap.size) (hgl : Gl w0) : Mx w0 (fun _ => False) w' B m :=
  { os := h.os.trans hb.os, tape := h.tape.trans hb.tape, output := h.output.trans hb.output, size := Nat.le_trans hb.size h.size
    kept := fun k hk hP => (h.kept k (Nat.lt_of_lt_of_le hk hb.size) hP).trans (hb.block k hk)
    own := fun k hk => Or.inr (by
      rcases h.own k hk with e | e
      · exact e.elim
      · exact Nat.le_trans hb.size e)
    low := ⟨hng, fun k h => h.elim⟩, gl := hgl, row := h.row, map := h.map, came := h.came, goes := h.goes, apart := h.apart, image := h.image }
theorem Gl.below (h : Gl w) (hb : Below w.heap.size w w') (hng : 3 ≤ w.heap.size) : Gl w' := fun j hj => (hb.cell (p := ⟨1, j, none⟩) (Nat.lt_of_lt_of_le (show 1 < 3 by decide) hng)).trans (h j hj)
set_option maxHeartbeats 2000000 in
theorem bootNew_good (k0 k1 k2 k3 k4 k5 : UInt8) (name : ByteArray) (cap : Int) (dig : ByteArray) (blk win : Int) (rx tx : Nat) (hg : (Cfg.mk k0 k1 k2 k3 k4 k5 name cap dig blk win rx tx).Good) (w : World) (hng : 3 ≤ w.heap.size) (hgl : Gl w) : Calls Tryz.prog 6 #[.agg #[.int .u8 k0.toNat, .int .u8 k1.toNat, .int .u8 k2.toNat, .int .u8 k3.toNat, .int .u8 k4.toNat, .int .u8 k5.toNat, .string name, .int .i64 cap, .string dig, .int .i64 blk, .int .i64 win, .int .i64 rx, .int .i64 tx]] w fun e w' => ∃ Q B bm cg gg, e = .returned (.tuple #[.pointer (some ⟨Q, 0, none⟩), .int .i64 0]) ∧ Bx w (fun _ => False) w' Q B (mk0 (Cfg.mk k0 k1 k2 k3 k4 k5 name cap dig blk win rx tx) bm cg gg) := by
  have hb0 := (Below.refl w.heap.size w).alloc (Nat.le_refl _) (.cells #[.int .u8 k0.toNat, .int .u8 k1.toNat, .int .u8 k2.toNat, .int .u8 k3.toNat, .int .u8 k4.toNat, .int .u8 k5.toNat, .string name, .int .i64 cap, .string dig, .int .i64 blk, .int .i64 win, .int .i64 rx, .int .i64 tx] 25)
  have HN := hide (new_good k0 k1 k2 k3 k4 k5 name cap dig blk win rx tx hg (w.alloc (.cells #[.int .u8 k0.toNat, .int .u8 k1.toNat, .int .u8 k2.toNat, .int .u8 k3.toNat, .int .u8 k4.toNat, .int .u8 k5.toNat, .string name, .int .i64 cap, .string dig, .int .i64 blk, .int .i64 win, .int .i64 rx, .int .i64 tx] 25)) (Nat.le_trans hng hb0.size) (hgl.below hb0 hng))
  have HB0 := hide hb0
  clear hb0 hg
  go_enter Tryz.func6, Tryz.ntmps6
  go_wp2_with fail
  refine (unhide HN).mono ?_
  rintro ee u ⟨B, bm, cg, gg, rfl, hu⟩
  have HU := hide (hu.under (unhide HB0) hng hgl)
  clear hu HN HB0
  go_wp2
  go_ret2
  exact ⟨_, B, bm, cg, gg, rfl, (unhide HU).alloc _, heap_alloc_new u _⟩
/-- the card of the statements -/
def Cd (w : World) : Prop := w.cell? ⟨0, 0, none⟩ = some (.int .u8 2) ∧ w.cell? ⟨0, 1, none⟩ = some (.int .u8 0) ∧ w.cell? ⟨0, 2, none⟩ = some (.int .u8 0) ∧ w.cell? ⟨0, 3, none⟩ = some (.int .u8 0) ∧ w.cell? ⟨0, 4, none⟩ = some (.int .u8 0) ∧ w.cell? ⟨0, 5, none⟩ = some (.int .u8 42)
theorem Cd.lt (h : Cd w) : 0 < w.heap.size := World.block_lt_of_cell? w _ h.1
theorem Cd.kept (h : Cd w) (hk : w'.heap[0]? = w.heap[0]?) : Cd w' := by
  obtain ⟨a, b, c, d, e, f⟩ := h
  exact ⟨(World.cell?_of_block hk).trans a, (World.cell?_of_block hk).trans b, (World.cell?_of_block hk).trans c, (World.cell?_of_block hk).trans d, (World.cell?_of_block hk).trans e, (World.cell?_of_block hk).trans f⟩
set_option maxHeartbeats 2000000 in
set_option maxRecDepth 10000 in
theorem config_any (s : ByteArray) (l : List UInt8) (K : Nat → Nat) (b n : Int) (w : World) (hsl : s.data.toList = l) (hl : l.length ≤ 1048576) (hG : Hs.RG w 2 K) (hK : ∀ j, K j < 4294967296) (hcd : Cd w) :
    Calls Tryz.prog 5 #[.string s, .int .i64 b, .int .i64 n] w fun e w' => e = .returned (.agg #[.int .u8 2, .int .u8 0, .int .u8 0, .int .u8 0, .int .u8 0, .int .u8 42, .string ⟨#[107, 101, 114, 110, 101, 108]⟩, .int .i64 600000, .string ⟨(Hs.shaL K l).toArray⟩, .int .i64 b, .int .i64 n, .int .i64 16, .int .i64 16]) ∧ Below w.heap.size w w' := by
  have HB0 := hide ((Below.refl w.heap.size w).alloc (Nat.le_refl _) (.cells #[.int .u8 0, .int .u8 0, .int .u8 0, .int .u8 0, .int .u8 0, .int .u8 0, .string ⟨#[]⟩, .int .i64 0, .string ⟨#[]⟩, .int .i64 0, .int .i64 0, .int .i64 0, .int .i64 0] 25))
  have hng := hcd.lt
  have HH := hide (Hs.hash_any s l K (w.alloc (.cells #[.int .u8 0, .int .u8 0, .int .u8 0, .int .u8 0, .int .u8 0, .int .u8 0, .string ⟨#[]⟩, .int .i64 0, .string ⟨#[]⟩, .int .i64 0, .int .i64 0, .int .i64 0, .int .i64 0] 25)).drew hsl hl (hG.below (unhide HB0).drew (by obtain ⟨t, fz, h⟩ := hG; exact lt_of_block h)) hK)
  obtain ⟨dg, hdg⟩ : ∃ dg : ByteArray, dg = ⟨(Hs.shaL K l).toArray⟩ := ⟨_, rfl⟩
  rw [← hdg] at HH
  rw [← hdg]
  obtain ⟨x0, x1, x2, x3, x4, x5⟩ := hcd
  have hne : w.heap.size ≠ 0 := Nat.ne_of_gt hng
  clear hG hK hsl hdg hl
  go_enter Tryz.func5, Tryz.ntmps5
  go_wp2
  go_region_held3 (fun u => u.cell? ⟨0, 0, none⟩ = some (.int .u8 2) ∧ u.cell? ⟨0, 1, none⟩ = some (.int .u8 0) ∧ u.cell? ⟨0, 2, none⟩ = some (.int .u8 0) ∧ u.cell? ⟨0, 3, none⟩ = some (.int .u8 0) ∧ u.cell? ⟨0, 4, none⟩ = some (.int .u8 0) ∧ u.cell? ⟨0, 5, none⟩ = some (.int .u8 42)) (go_keep)
    (first | (go_at_call 19; refine (unhide HH).mono ?_; rintro ee u ⟨rfl, hb⟩; have y0 := (hb.cell (p := ⟨0, 0, none⟩) (by exact Nat.lt_of_lt_of_le hng (unhide HB0).size)).trans (((unhide HB0).cell (p := ⟨0, 0, none⟩) hng).trans x0); have y1 := (hb.cell (p := ⟨0, 1, none⟩) (by exact Nat.lt_of_lt_of_le hng (unhide HB0).size)).trans (((unhide HB0).cell (p := ⟨0, 1, none⟩) hng).trans x1); have y2 := (hb.cell (p := ⟨0, 2, none⟩) (by exact Nat.lt_of_lt_of_le hng (unhide HB0).size)).trans (((unhide HB0).cell (p := ⟨0, 2, none⟩) hng).trans x2); have y3 := (hb.cell (p := ⟨0, 3, none⟩) (by exact Nat.lt_of_lt_of_le hng (unhide HB0).size)).trans (((unhide HB0).cell (p := ⟨0, 3, none⟩) hng).trans x3); have y4 := (hb.cell (p := ⟨0, 4, none⟩) (by exact Nat.lt_of_lt_of_le hng (unhide HB0).size)).trans (((unhide HB0).cell (p := ⟨0, 4, none⟩) hng).trans x4); have y5 := (hb.cell (p := ⟨0, 5, none⟩) (by exact Nat.lt_of_lt_of_le hng (unhide HB0).size)).trans (((unhide HB0).cell (p := ⟨0, 5, none⟩) hng).trans x5); have hrow := (hb.block w.heap.size (by simp)).trans (heap_alloc_new w (.cells #[.int .u8 0, .int .u8 0, .int .u8 0, .int .u8 0, .int .u8 0, .int .u8 0, .string ⟨#[]⟩, .int .i64 0, .string ⟨#[]⟩, .int .i64 0, .int .i64 0, .int .i64 0, .int .i64 0] 25)); obtain ⟨e0, e1, e2, e3, e4, e5, e6, e7, e8, e9, e10, e11, e12⟩ := row13 hrow; have fz : ∀ j, u.frozen? ⟨w.heap.size, j, none⟩ = false := fun j => by simp [World.frozen?, hrow]))
  obtain ⟨l2, hl2⟩ : ∃ l2 : List (Nat × Value), l2 = [(0, .int .u8 2), (1, .int .u8 0), (2, .int .u8 0), (3, .int .u8 0), (4, .int .u8 0), (5, .int .u8 42), (6, .string ⟨#[107, 101, 114, 110, 101, 108]⟩), (7, .int .i64 600000), (8, .string dg), (9, .int .i64 b), (10, .int .i64 n), (11, .int .i64 16), (12, .int .i64 16)] := ⟨_, rfl⟩
  have hr2 := many_row w.heap.size l2 u _ hrow
  have hcs : setCs #[.int .u8 0, .int .u8 0, .int .u8 0, .int .u8 0, .int .u8 0, .int .u8 0, .string ⟨#[]⟩, .int .i64 0, .string ⟨#[]⟩, .int .i64 0, .int .i64 0, .int .i64 0, .int .i64 0] l2 = #[.int .u8 2, .int .u8 0, .int .u8 0, .int .u8 0, .int .u8 0, .int .u8 42, .string ⟨#[107, 101, 114, 110, 101, 108]⟩, .int .i64 600000, .string dg, .int .i64 b, .int .i64 n, .int .i64 16, .int .i64 16] := by rw [hl2]; kernel_rfl
  rw [hcs] at hr2
  have HW : Hid (Below w.heap.size w (setMany u w.heap.size l2)) := hide (by
    have q := (unhide HB0).drew.trans (hb.mono (by simp))
    obtain ⟨o1, o2, o3⟩ := many_os w.heap.size l2 u
    exact ⟨o1.trans q.os, o2.trans q.tape, o3.trans q.output, by rw [many_size]; exact q.size, fun k hk => (many_other _ k (by omega) l2 u).trans (q.block k hk)⟩)
  obtain ⟨U, hU⟩ : ∃ U, U = setMany u w.heap.size l2 := ⟨_, rfl⟩
  rw [← hU] at HW hr2
  obtain ⟨r0, r1, r2, r3, r4, r5, r6, r7, r8, r9, r10, r11, r12⟩ := row13 hr2
  rw [hl2] at hU
  simp only [setMany] at hU
  rw [← hU]
  clear hU hb hrow hr2 hcs hl2 y0 y1 y2 y3 y4 y5 e0 e1 e2 e3 e4 e5 e6 e7 e8 e9 e10 e11 e12 fz
  go_wp2
  refine bodyPost_ret (v := .agg #[.int .u8 2, .int .u8 0, .int .u8 0, .int .u8 0, .int .u8 0, .int .u8 42, .string ⟨#[107, 101, 114, 110, 101, 108]⟩, .int .i64 600000, .string dg, .int .i64 b, .int .i64 n, .int .i64 16, .int .i64 16]) (by simp [results, Tryz.results5, go_sem, r0, r1, r2, r3, r4, r5, r6, r7, r8, r9, r10, r11, r12]) rfl ?_
  exact ⟨rfl, unhide HW⟩
end Go.Proofs.YtonlmklkikbeiaaGreatDoor.Mac

namespace Go.Proofs.YtonlmklkikbeiaaGreatDoor.Mac
open Go.ChangeShapes Go.WideShapes Go.ChangeAt Go.RowKit Bs
set_option linter.unusedVariables false
set_option linter.unusedSimpArgs false

theorem isIn_no (n a b : Int) (w : World) (h : ¬ (a ≤ n ∧ n ≤ b)) : Calls Tryz.prog 57 #[.int .i64 n, .int .i64 a, .int .i64 b] w fun e w' => e = .returned (.bool false) ∧ w' = w := by
  have q := isIn_any n a b w
  have e : (decide (a ≤ n) && decide (n ≤ b)) = false := by
    rw [Bool.and_eq_false_iff]
    by_cases h1 : a ≤ n
    · exact Or.inr (decide_eq_false (fun h2 => h ⟨h1, h2⟩))
    · exact Or.inl (decide_eq_false h1)
  rw [e] at q
  exact q
set_option maxHeartbeats 1000000 in
theorem mayBe_0 (k0 k1 k2 k3 k4 k5 : UInt8) (name : ByteArray) (cap : Int) (dig : ByteArray) (blk win rx tx : Int) (g0 : cardB k0 k1 k2 k3 k4 k5 = false) (w : World) : Calls Tryz.prog 32 #[.agg #[.int .u8 k0.toNat, .int .u8 k1.toNat, .int .u8 k2.toNat, .int .u8 k3.toNat, .int .u8 k4.toNat, .int .u8 k5.toNat, .string name, .int .i64 cap, .string dig, .int .i64 blk, .int .i64 win, .int .i64 rx, .int .i64 tx]] w fun e w' => e = .returned (.bool false) ∧ Below w.heap.size w w' := by
  have HC := fun u => hide (isCard_any k0 k1 k2 k3 k4 k5 u)
  rw [g0] at HC
  clear g0
  go_enter Tryz.func32, Tryz.ntmps32
  go_wp2_with fail
  refine (unhide (HC _)).mono ?_
  rintro ee u ⟨rfl, hb⟩
  have hc := Arp.below_cells hb
  have HB := hide hb
  clear hb HC
  go_wp2
  go_ret
  exact ⟨rfl, ((Below.refl w.heap.size w).alloc (Nat.le_refl _) _).trans ((unhide HB).mono (by simp))⟩
set_option maxHeartbeats 1000000 in
theorem mayBe_1 (k0 k1 k2 k3 k4 k5 : UInt8) (name : ByteArray) (cap : Int) (dig : ByteArray) (blk win rx tx : Int) (g0 : cardB k0 k1 k2 k3 k4 k5 = true) (g1 : ¬ name.size ≤ 20) (w : World) : Calls Tryz.prog 32 #[.agg #[.int .u8 k0.toNat, .int .u8 k1.toNat, .int .u8 k2.toNat, .int .u8 k3.toNat, .int .u8 k4.toNat, .int .u8 k5.toNat, .string name, .int .i64 cap, .string dig, .int .i64 blk, .int .i64 win, .int .i64 rx, .int .i64 tx]] w fun e w' => e = .returned (.bool false) ∧ Below w.heap.size w w' := by
  have HC := fun u => hide (isCard_any k0 k1 k2 k3 k4 k5 u)
  rw [g0] at HC
  have hlen : ¬ (name.size : Int) ≤ 20 := by omega
  clear g1
  clear g0
  go_enter Tryz.func32, Tryz.ntmps32
  go_wp2_with fail
  refine (unhide (HC _)).mono ?_
  rintro ee u ⟨rfl, hb⟩
  have hc := Arp.below_cells hb
  have HB := hide hb
  clear hb HC
  go_wp2
  go_ret
  exact ⟨rfl, ((Below.refl w.heap.size w).alloc (Nat.le_refl _) _).trans ((unhide HB).mono (by simp))⟩
set_option maxHeartbeats 1000000 in
theorem mayBe_2 (k0 k1 k2 k3 k4 k5 : UInt8) (name : ByteArray) (cap : Int) (dig : ByteArray) (blk win rx tx : Int) (g0 : cardB k0 k1 k2 k3 k4 k5 = true) (g1 : name.size ≤ 20) (g2 : Tf.nameB name.data.toList = false) (w : World) : Calls Tryz.prog 32 #[.agg #[.int .u8 k0.toNat, .int .u8 k1.toNat, .int .u8 k2.toNat, .int .u8 k3.toNat, .int .u8 k4.toNat, .int .u8 k5.toNat, .string name, .int .i64 cap, .string dig, .int .i64 blk, .int .i64 win, .int .i64 rx, .int .i64 tx]] w fun e w' => e = .returned (.bool false) ∧ Below w.heap.size w w' := by
  have HC := fun u => hide (isCard_any k0 k1 k2 k3 k4 k5 u)
  rw [g0] at HC
  have HN := fun u => hide (Tf.isName_any name _ u rfl (by rw [len_str]; omega))
  rw [g2] at HN
  have hlen : (name.size : Int) ≤ 20 := by omega
  clear g1 g2
  clear g0
  go_enter Tryz.func32, Tryz.ntmps32
  go_wp2_with fail
  refine (unhide (HC _)).mono ?_
  rintro ee u ⟨rfl, hb⟩
  have hc := Arp.below_cells hb
  have HB := hide hb
  clear hb HC
  go_wp2_with fail
  refine (unhide (HN _)).mono ?_
  rintro ee u2 ⟨rfl, rfl⟩
  go_wp2
  go_ret
  exact ⟨rfl, ((Below.refl w.heap.size w).alloc (Nat.le_refl _) _).trans ((unhide HB).mono (by simp))⟩
set_option maxHeartbeats 1000000 in
theorem mayBe_3 (k0 k1 k2 k3 k4 k5 : UInt8) (name : ByteArray) (cap : Int) (dig : ByteArray) (blk win rx tx : Int) (g0 : cardB k0 k1 k2 k3 k4 k5 = true) (g1 : name.size ≤ 20) (g2 : Tf.nameB name.data.toList = true) (g3 : ¬ dig.size = 32) (w : World) : Calls Tryz.prog 32 #[.agg #[.int .u8 k0.toNat, .int .u8 k1.toNat, .int .u8 k2.toNat, .int .u8 k3.toNat, .int .u8 k4.toNat, .int .u8 k5.toNat, .string name, .int .i64 cap, .string dig, .int .i64 blk, .int .i64 win, .int .i64 rx, .int .i64 tx]] w fun e w' => e = .returned (.bool false) ∧ Below w.heap.size w w' := by
  have HC := fun u => hide (isCard_any k0 k1 k2 k3 k4 k5 u)
  rw [g0] at HC
  have HN := fun u => hide (Tf.isName_any name _ u rfl (by rw [len_str]; omega))
  rw [g2] at HN
  have hlen : (name.size : Int) ≤ 20 := by omega
  clear g1 g2
  have hdig : ((dig.size : Int) == 32) = false := by simp; omega
  clear g3
  clear g0
  go_enter Tryz.func32, Tryz.ntmps32
  go_wp2_with fail
  refine (unhide (HC _)).mono ?_
  rintro ee u ⟨rfl, hb⟩
  have hc := Arp.below_cells hb
  have HB := hide hb
  clear hb HC
  go_wp2_with fail
  refine (unhide (HN _)).mono ?_
  rintro ee u2 ⟨rfl, rfl⟩
  go_wp2
  go_ret
  exact ⟨rfl, ((Below.refl w.heap.size w).alloc (Nat.le_refl _) _).trans ((unhide HB).mono (by simp))⟩
set_option maxHeartbeats 1000000 in
theorem mayBe_4 (k0 k1 k2 k3 k4 k5 : UInt8) (name : ByteArray) (cap : Int) (dig : ByteArray) (blk win rx tx : Int) (g0 : cardB k0 k1 k2 k3 k4 k5 = true) (g1 : name.size ≤ 20) (g2 : Tf.nameB name.data.toList = true) (g3 : dig.size = 32) (g4 : ¬ (1 ≤ cap ∧ cap ≤ 600000)) (w : World) : Calls Tryz.prog 32 #[.agg #[.int .u8 k0.toNat, .int .u8 k1.toNat, .int .u8 k2.toNat, .int .u8 k3.toNat, .int .u8 k4.toNat, .int .u8 k5.toNat, .string name, .int .i64 cap, .string dig, .int .i64 blk, .int .i64 win, .int .i64 rx, .int .i64 tx]] w fun e w' => e = .returned (.bool false) ∧ Below w.heap.size w w' := by
  have HC := fun u => hide (isCard_any k0 k1 k2 k3 k4 k5 u)
  rw [g0] at HC
  have HN := fun u => hide (Tf.isName_any name _ u rfl (by rw [len_str]; omega))
  rw [g2] at HN
  have hlen : (name.size : Int) ≤ 20 := by omega
  clear g1 g2
  have hdig : ((dig.size : Int) == 32) = true := by rw [g3]; rfl
  clear g3
  clear g0
  go_enter Tryz.func32, Tryz.ntmps32
  go_wp2_with fail
  refine (unhide (HC _)).mono ?_
  rintro ee u ⟨rfl, hb⟩
  have hc := Arp.below_cells hb
  have HB := hide hb
  clear hb HC
  go_wp2_with fail
  refine (unhide (HN _)).mono ?_
  rintro ee u2 ⟨rfl, rfl⟩
  go_wp2_with fail
  refine (isIn_no _ _ _ _ g4).mono ?_
  rintro ee u3 ⟨rfl, rfl⟩
  go_wp2
  go_ret
  exact ⟨rfl, ((Below.refl w.heap.size w).alloc (Nat.le_refl _) _).trans ((unhide HB).mono (by simp))⟩
set_option maxHeartbeats 1000000 in
theorem mayBe_5 (k0 k1 k2 k3 k4 k5 : UInt8) (name : ByteArray) (cap : Int) (dig : ByteArray) (blk win rx tx : Int) (g0 : cardB k0 k1 k2 k3 k4 k5 = true) (g1 : name.size ≤ 20) (g2 : Tf.nameB name.data.toList = true) (g3 : dig.size = 32) (g4 : (1 ≤ cap ∧ cap ≤ 600000)) (g5 : ¬ (8 ≤ blk ∧ blk ≤ 1024)) (w : World) : Calls Tryz.prog 32 #[.agg #[.int .u8 k0.toNat, .int .u8 k1.toNat, .int .u8 k2.toNat, .int .u8 k3.toNat, .int .u8 k4.toNat, .int .u8 k5.toNat, .string name, .int .i64 cap, .string dig, .int .i64 blk, .int .i64 win, .int .i64 rx, .int .i64 tx]] w fun e w' => e = .returned (.bool false) ∧ Below w.heap.size w w' := by
  have HC := fun u => hide (isCard_any k0 k1 k2 k3 k4 k5 u)
  rw [g0] at HC
  have HN := fun u => hide (Tf.isName_any name _ u rfl (by rw [len_str]; omega))
  rw [g2] at HN
  have hlen : (name.size : Int) ≤ 20 := by omega
  clear g1 g2
  have hdig : ((dig.size : Int) == 32) = true := by rw [g3]; rfl
  clear g3
  clear g0
  go_enter Tryz.func32, Tryz.ntmps32
  go_wp2_with fail
  refine (unhide (HC _)).mono ?_
  rintro ee u ⟨rfl, hb⟩
  have hc := Arp.below_cells hb
  have HB := hide hb
  clear hb HC
  go_wp2_with fail
  refine (unhide (HN _)).mono ?_
  rintro ee u2 ⟨rfl, rfl⟩
  go_wp2_with fail
  refine (isIn_yes _ _ _ _ g4.1 g4.2).mono ?_
  rintro ee u3 ⟨rfl, rfl⟩
  go_wp2_with fail
  refine (isIn_no _ _ _ _ g5).mono ?_
  rintro ee u4 ⟨rfl, rfl⟩
  go_wp2
  go_ret
  exact ⟨rfl, ((Below.refl w.heap.size w).alloc (Nat.le_refl _) _).trans ((unhide HB).mono (by simp))⟩
set_option maxHeartbeats 1000000 in
theorem mayBe_6 (k0 k1 k2 k3 k4 k5 : UInt8) (name : ByteArray) (cap : Int) (dig : ByteArray) (blk win rx tx : Int) (g0 : cardB k0 k1 k2 k3 k4 k5 = true) (g1 : name.size ≤ 20) (g2 : Tf.nameB name.data.toList = true) (g3 : dig.size = 32) (g4 : (1 ≤ cap ∧ cap ≤ 600000)) (g5 : (8 ≤ blk ∧ blk ≤ 1024)) (g6 : ¬ (1 ≤ win ∧ win ≤ 8)) (w : World) : Calls Tryz.prog 32 #[.agg #[.int .u8 k0.toNat, .int .u8 k1.toNat, .int .u8 k2.toNat, .int .u8 k3.toNat, .int .u8 k4.toNat, .int .u8 k5.toNat, .string name, .int .i64 cap, .string dig, .int .i64 blk, .int .i64 win, .int .i64 rx, .int .i64 tx]] w fun e w' => e = .returned (.bool false) ∧ Below w.heap.size w w' := by
  have HC := fun u => hide (isCard_any k0 k1 k2 k3 k4 k5 u)
  rw [g0] at HC
  have HN := fun u => hide (Tf.isName_any name _ u rfl (by rw [len_str]; omega))
  rw [g2] at HN
  have hlen : (name.size : Int) ≤ 20 := by omega
  clear g1 g2
  have hdig : ((dig.size : Int) == 32) = true := by rw [g3]; rfl
  clear g3
  clear g0
  go_enter Tryz.func32, Tryz.ntmps32
  go_wp2_with fail
  refine (unhide (HC _)).mono ?_
  rintro ee u ⟨rfl, hb⟩
  have hc := Arp.below_cells hb
  have HB := hide hb
  clear hb HC
  go_wp2_with fail
  refine (unhide (HN _)).mono ?_
  rintro ee u2 ⟨rfl, rfl⟩
  go_wp2_with fail
  refine (isIn_yes _ _ _ _ g4.1 g4.2).mono ?_
  rintro ee u3 ⟨rfl, rfl⟩
  go_wp2_with fail
  refine (isIn_yes _ _ _ _ g5.1 g5.2).mono ?_
  rintro ee u4 ⟨rfl, rfl⟩
  go_wp2_with fail
  refine (isIn_no _ _ _ _ g6).mono ?_
  rintro ee u5 ⟨rfl, rfl⟩
  go_wp2
  go_ret
  exact ⟨rfl, ((Below.refl w.heap.size w).alloc (Nat.le_refl _) _).trans ((unhide HB).mono (by simp))⟩
set_option maxHeartbeats 1000000 in
theorem mayBe_7 (k0 k1 k2 k3 k4 k5 : UInt8) (name : ByteArray) (cap : Int) (dig : ByteArray) (blk win rx tx : Int) (g0 : cardB k0 k1 k2 k3 k4 k5 = true) (g1 : name.size ≤ 20) (g2 : Tf.nameB name.data.toList = true) (g3 : dig.size = 32) (g4 : (1 ≤ cap ∧ cap ≤ 600000)) (g5 : (8 ≤ blk ∧ blk ≤ 1024)) (g6 : (1 ≤ win ∧ win ≤ 8)) (g7 : ¬ (1 ≤ rx ∧ rx ≤ 16)) (w : World) : Calls Tryz.prog 32 #[.agg #[.int .u8 k0.toNat, .int .u8 k1.toNat, .int .u8 k2.toNat, .int .u8 k3.toNat, .int .u8 k4.toNat, .int .u8 k5.toNat, .string name, .int .i64 cap, .string dig, .int .i64 blk, .int .i64 win, .int .i64 rx, .int .i64 tx]] w fun e w' => e = .returned (.bool false) ∧ Below w.heap.size w w' := by
  have HC := fun u => hide (isCard_any k0 k1 k2 k3 k4 k5 u)
  rw [g0] at HC
  have HN := fun u => hide (Tf.isName_any name _ u rfl (by rw [len_str]; omega))
  rw [g2] at HN
  have hlen : (name.size : Int) ≤ 20 := by omega
  clear g1 g2
  have hdig : ((dig.size : Int) == 32) = true := by rw [g3]; rfl
  clear g3
  clear g0
  go_enter Tryz.func32, Tryz.ntmps32
  go_wp2_with fail
  refine (unhide (HC _)).mono ?_
  rintro ee u ⟨rfl, hb⟩
  have hc := Arp.below_cells hb
  have HB := hide hb
  clear hb HC
  go_wp2_with fail
  refine (unhide (HN _)).mono ?_
  rintro ee u2 ⟨rfl, rfl⟩
  go_wp2_with fail
  refine (isIn_yes _ _ _ _ g4.1 g4.2).mono ?_
  rintro ee u3 ⟨rfl, rfl⟩
  go_wp2_with fail
  refine (isIn_yes _ _ _ _ g5.1 g5.2).mono ?_
  rintro ee u4 ⟨rfl, rfl⟩
  go_wp2_with fail
  refine (isIn_yes _ _ _ _ g6.1 g6.2).mono ?_
  rintro ee u5 ⟨rfl, rfl⟩
  go_wp2_with fail
  refine (isIn_no _ _ _ _ g7).mono ?_
  rintro ee u6 ⟨rfl, rfl⟩
  go_wp2
  go_ret
  exact ⟨rfl, ((Below.refl w.heap.size w).alloc (Nat.le_refl _) _).trans ((unhide HB).mono (by simp))⟩
set_option maxHeartbeats 1000000 in
theorem mayBe_8 (k0 k1 k2 k3 k4 k5 : UInt8) (name : ByteArray) (cap : Int) (dig : ByteArray) (blk win rx tx : Int) (g0 : cardB k0 k1 k2 k3 k4 k5 = true) (g1 : name.size ≤ 20) (g2 : Tf.nameB name.data.toList = true) (g3 : dig.size = 32) (g4 : (1 ≤ cap ∧ cap ≤ 600000)) (g5 : (8 ≤ blk ∧ blk ≤ 1024)) (g6 : (1 ≤ win ∧ win ≤ 8)) (g7 : (1 ≤ rx ∧ rx ≤ 16)) (g8 : ¬ (1 ≤ tx ∧ tx ≤ 16)) (w : World) : Calls Tryz.prog 32 #[.agg #[.int .u8 k0.toNat, .int .u8 k1.toNat, .int .u8 k2.toNat, .int .u8 k3.toNat, .int .u8 k4.toNat, .int .u8 k5.toNat, .string name, .int .i64 cap, .string dig, .int .i64 blk, .int .i64 win, .int .i64 rx, .int .i64 tx]] w fun e w' => e = .returned (.bool false) ∧ Below w.heap.size w w' := by
  have HC := fun u => hide (isCard_any k0 k1 k2 k3 k4 k5 u)
  rw [g0] at HC
  have HN := fun u => hide (Tf.isName_any name _ u rfl (by rw [len_str]; omega))
  rw [g2] at HN
  have hlen : (name.size : Int) ≤ 20 := by omega
  clear g1 g2
  have hdig : ((dig.size : Int) == 32) = true := by rw [g3]; rfl
  clear g3
  clear g0
  go_enter Tryz.func32, Tryz.ntmps32
  go_wp2_with fail
  refine (unhide (HC _)).mono ?_
  rintro ee u ⟨rfl, hb⟩
  have hc := Arp.below_cells hb
  have HB := hide hb
  clear hb HC
  go_wp2_with fail
  refine (unhide (HN _)).mono ?_
  rintro ee u2 ⟨rfl, rfl⟩
  go_wp2_with fail
  refine (isIn_yes _ _ _ _ g4.1 g4.2).mono ?_
  rintro ee u3 ⟨rfl, rfl⟩
  go_wp2_with fail
  refine (isIn_yes _ _ _ _ g5.1 g5.2).mono ?_
  rintro ee u4 ⟨rfl, rfl⟩
  go_wp2_with fail
  refine (isIn_yes _ _ _ _ g6.1 g6.2).mono ?_
  rintro ee u5 ⟨rfl, rfl⟩
  go_wp2_with fail
  refine (isIn_yes _ _ _ _ g7.1 g7.2).mono ?_
  rintro ee u6 ⟨rfl, rfl⟩
  go_wp2_with fail
  refine (isIn_no _ _ _ _ g8).mono ?_
  rintro ee u7 ⟨rfl, rfl⟩
  go_wp2
  go_ret
  exact ⟨rfl, ((Below.refl w.heap.size w).alloc (Nat.le_refl _) _).trans ((unhide HB).mono (by simp))⟩
theorem mayBe_no (k0 k1 k2 k3 k4 k5 : UInt8) (name : ByteArray) (cap : Int) (dig : ByteArray) (blk win rx tx : Int) (hg : ¬ (Cfg.mk k0 k1 k2 k3 k4 k5 name cap dig blk win rx tx).Good) (w : World) : Calls Tryz.prog 32 #[.agg #[.int .u8 k0.toNat, .int .u8 k1.toNat, .int .u8 k2.toNat, .int .u8 k3.toNat, .int .u8 k4.toNat, .int .u8 k5.toNat, .string name, .int .i64 cap, .string dig, .int .i64 blk, .int .i64 win, .int .i64 rx, .int .i64 tx]] w fun e w' => e = .returned (.bool false) ∧ Below w.heap.size w w' := by
  cases g0 : cardB k0 k1 k2 k3 k4 k5 with
  | false => exact mayBe_0 k0 k1 k2 k3 k4 k5 name cap dig blk win rx tx g0 w
  | true =>
    by_cases g1 : name.size ≤ 20
    · cases g2 : Tf.nameB name.data.toList with
      | false => exact mayBe_2 k0 k1 k2 k3 k4 k5 name cap dig blk win rx tx g0 g1 g2 w
      | true =>
        by_cases g3 : dig.size = 32
        · by_cases g4 : 1 ≤ cap ∧ cap ≤ 600000
          · by_cases g5 : 8 ≤ blk ∧ blk ≤ 1024
            · by_cases g6 : 1 ≤ win ∧ win ≤ 8
              · by_cases g7 : 1 ≤ rx ∧ rx ≤ 16
                · by_cases g8 : 1 ≤ tx ∧ tx ≤ 16
                  · exact absurd ⟨g0, g2, g1, g3, g4, g5, g6, g7, g8⟩ hg
                  · exact mayBe_8 k0 k1 k2 k3 k4 k5 name cap dig blk win rx tx g0 g1 g2 g3 g4 g5 g6 g7 g8 w
                · exact mayBe_7 k0 k1 k2 k3 k4 k5 name cap dig blk win rx tx g0 g1 g2 g3 g4 g5 g6 g7 w
              · exact mayBe_6 k0 k1 k2 k3 k4 k5 name cap dig blk win rx tx g0 g1 g2 g3 g4 g5 g6 w
            · exact mayBe_5 k0 k1 k2 k3 k4 k5 name cap dig blk win rx tx g0 g1 g2 g3 g4 g5 w
          · exact mayBe_4 k0 k1 k2 k3 k4 k5 name cap dig blk win rx tx g0 g1 g2 g3 g4 w
        · exact mayBe_3 k0 k1 k2 k3 k4 k5 name cap dig blk win rx tx g0 g1 g2 g3 w
    · exact mayBe_1 k0 k1 k2 k3 k4 k5 name cap dig blk win rx tx g0 g1 w
set_option maxHeartbeats 1000000 in
theorem new_no (k0 k1 k2 k3 k4 k5 : UInt8) (name : ByteArray) (cap : Int) (dig : ByteArray) (blk win rx tx : Int) (hg : ¬ (Cfg.mk k0 k1 k2 k3 k4 k5 name cap dig blk win rx tx).Good) (w : World) : Calls Tryz.prog 20 #[.agg #[.int .u8 k0.toNat, .int .u8 k1.toNat, .int .u8 k2.toNat, .int .u8 k3.toNat, .int .u8 k4.toNat, .int .u8 k5.toNat, .string name, .int .i64 cap, .string dig, .int .i64 blk, .int .i64 win, .int .i64 rx, .int .i64 tx]] w fun e w' => e = .returned (.tuple #[.pointer none, .int .i64 8]) ∧ Below w.heap.size w w' := by
  have HM := fun u => hide (mayBe_no k0 k1 k2 k3 k4 k5 name cap dig blk win rx tx hg u)
  clear hg
  go_enter Tryz.func20, Tryz.ntmps20
  go_wp2_with fail
  refine (unhide (HM _)).mono ?_
  rintro ee u ⟨rfl, hb⟩
  have HB := hide hb
  clear hb HM
  go_wp2
  go_ret2
  exact ⟨rfl, ((Below.refl w.heap.size w).alloc (Nat.le_refl _) _).trans ((unhide HB).mono (by simp))⟩
set_option maxHeartbeats 1000000 in
theorem bootNew_no (k0 k1 k2 k3 k4 k5 : UInt8) (name : ByteArray) (cap : Int) (dig : ByteArray) (blk win rx tx : Int) (hg : ¬ (Cfg.mk k0 k1 k2 k3 k4 k5 name cap dig blk win rx tx).Good) (w : World) : Calls Tryz.prog 6 #[.agg #[.int .u8 k0.toNat, .int .u8 k1.toNat, .int .u8 k2.toNat, .int .u8 k3.toNat, .int .u8 k4.toNat, .int .u8 k5.toNat, .string name, .int .i64 cap, .string dig, .int .i64 blk, .int .i64 win, .int .i64 rx, .int .i64 tx]] w fun e w' => e = .returned (.tuple #[.pointer none, .int .i64 8]) ∧ Below w.heap.size w w' := by
  have HM := fun u => hide (new_no k0 k1 k2 k3 k4 k5 name cap dig blk win rx tx hg u)
  clear hg
  go_enter Tryz.func6, Tryz.ntmps6
  go_wp2_with fail
  refine (unhide (HM _)).mono ?_
  rintro ee u ⟨rfl, hb⟩
  have HB := hide hb
  clear hb HM
  go_wp2
  go_ret2
  exact ⟨rfl, ((Below.refl w.heap.size w).alloc (Nat.le_refl _) _).trans ((unhide HB).mono (by simp))⟩
end Go.Proofs.YtonlmklkikbeiaaGreatDoor.Mac

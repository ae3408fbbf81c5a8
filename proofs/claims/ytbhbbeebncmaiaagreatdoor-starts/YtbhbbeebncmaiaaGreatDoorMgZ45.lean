import Derived.Test.YtbhbbeebncmaiaaGreatDoorMgZ44
import Derived.Test.YtbhbbeebncmaiaaGreatDoorMgZ31
namespace Go.Proofs.YtbhbbeebncmaiaaGreatDoor.Law
open Go.ChangeShapes Go.WideShapes Go.ChangeAt Go.RowKit Bs Mac Ref
set_option linter.unusedVariables false
set_option linter.unusedSimpArgs false
variable {R : Mc → Rf → Prop} {w0 w w' : World} {Wb tb : Nat} {tv bv : Value} {L : List Pr}
theorem start_new (c : Cfg) (bm cg gg : Nat) (tb : Nat) (rx tx : Nat) (h2 : c.tx.toNat = tx) : StartR (mk0 c bm cg gg) (rf0 (.pointer (some ⟨tb, 0, none⟩)) c.k0 c.k1 c.k2 c.k3 c.k4 c.k5 c.name c.cap c.dig c.blk c.win rx tx) :=
  ⟨⟨⟨by show (0 : Int) ≤ 0 ∧ (0 : Int) ≤ 4294967295; omega, by show (0 : Int) ≤ 0 ∧ (0 : Int) ≤ 65535; omega, by show (0 : Int) ≤ 0 ∧ (0 : Int) ≤ 4294967295; omega, by show (0 : Int) ≤ 0 ∧ (0 : Int) ≤ 4294967295; omega, by show (0 : Int) ≤ 0 ∧ (0 : Int) ≤ 4294967295; omega, by show (0 : Int) ≤ 0 ∧ (0 : Int) ≤ 4; omega, by show (0 : Int) ≤ 0 ∧ (0 : Int) ≤ 4294967295; omega, by show (0 : Int) ≤ 0 ∧ (0 : Int) ≤ 4294967295; omega, by show (0 : Int) ≤ 0 ∧ (0 : Int) ≤ 4294967295; omega, by show (0 : Int) ≤ 0 ∧ (0 : Int) ≤ 4294967295; omega, by show (0 : Int) ≤ 0 ∧ (0 : Int) ≤ 4294967295; omega, by show (0 : Int) ≤ 0 ∧ (0 : Int) ≤ 4294967295; omega, by show (0 : Int) ≤ 0 ∧ (0 : Int) ≤ 4; omega, by show (0 : Int) ≤ 0 ∧ (0 : Int) ≤ 65535; omega, by show (0 : Int) ≤ 0 ∧ (0 : Int) ≤ 65535; omega, by show (0 : Nat) ≤ 262144; omega⟩, Or.inl rfl, rfl, Or.inl rfl⟩,
   ⟨rfl, rfl, rfl, rfl, rfl, rfl, by show tx = c.tx.toNat; exact h2.symm, rfl, rfl, rfl, rfl, rfl, rfl, rfl, rfl, rfl, rfl, rfl, rfl, rfl, rfl, ⟨_, rfl⟩⟩⟩
set_option maxHeartbeats 4000000 in
set_option maxRecDepth 10000 in
theorem sstep_good (h : Ws StartR w0 w Wb (.pointer (some ⟨tb, 0, none⟩)) bv L) (hLm : L.length ≤ 65536) (a n : Int) (k0 k1 k2 k3 k4 k5 : UInt8) (name : ByteArray) (cap : Int) (dig : ByteArray) (blk win : Int) (rx tx : Nat) (s : ByteArray) (hg : (Cfg.mk k0 k1 k2 k3 k4 k5 name cap dig blk win rx tx).Good) :
    Calls Tryz.prog 11 #[.pointer (some ⟨Wb, 0, none⟩), .agg #[.int .i64 1, .int .i64 a, .int .i64 n, .int .u8 k0.toNat, .int .u8 k1.toNat, .int .u8 k2.toNat, .int .u8 k3.toNat, .int .u8 k4.toNat, .int .u8 k5.toNat, .string name, .int .i64 cap, .string dig, .int .i64 blk, .int .i64 win, .int .i64 rx, .int .i64 tx, .string s]] w fun ee w' => ee = .returned (.bool true) ∧ ∃ bv' p, Ws StartR w0 w' Wb (.pointer (some ⟨tb, 0, none⟩)) bv' (L ++ [p]) := by
  have HWw := hide h
  have HW1 := hide (h.alloc (.cells #[.int .i64 1, .int .i64 a, .int .i64 n, .int .u8 k0.toNat, .int .u8 k1.toNat, .int .u8 k2.toNat, .int .u8 k3.toNat, .int .u8 k4.toNat, .int .u8 k5.toNat, .string name, .int .i64 cap, .string dig, .int .i64 blk, .int .i64 win, .int .i64 rx, .int .i64 tx, .string s] 30))
  have HOP : Hid ((w.alloc (.cells #[.int .i64 1, .int .i64 a, .int .i64 n, .int .u8 k0.toNat, .int .u8 k1.toNat, .int .u8 k2.toNat, .int .u8 k3.toNat, .int .u8 k4.toNat, .int .u8 k5.toNat, .string name, .int .i64 cap, .string dig, .int .i64 blk, .int .i64 win, .int .i64 rx, .int .i64 tx, .string s] 30)).heap[w.heap.size]? = some (.cells #[.int .i64 1, .int .i64 a, .int .i64 n, .int .u8 k0.toNat, .int .u8 k1.toNat, .int .u8 k2.toNat, .int .u8 k3.toNat, .int .u8 k4.toNat, .int .u8 k5.toNat, .string name, .int .i64 cap, .string dig, .int .i64 blk, .int .i64 win, .int .i64 rx, .int .i64 tx, .string s] 30 (0, 0))) := hide (heap_alloc_new w _)
  have hltW := lt_of_block h.row
  have hneW : Wb ≠ w.heap.size := Nat.ne_of_lt hltW
  have HX0 : Hid ((w.alloc (.cells #[.int .i64 1, .int .i64 a, .int .i64 n, .int .u8 k0.toNat, .int .u8 k1.toNat, .int .u8 k2.toNat, .int .u8 k3.toNat, .int .u8 k4.toNat, .int .u8 k5.toNat, .string name, .int .i64 cap, .string dig, .int .i64 blk, .int .i64 win, .int .i64 rx, .int .i64 tx, .string s] 30)).cell? ⟨Wb, 0, none⟩ = some (.pointer (some ⟨tb, 0, none⟩))) := hide (by rw [cell_of_row _ Wb 0 _ _ _ (h.alloc (.cells #[.int .i64 1, .int .i64 a, .int .i64 n, .int .u8 k0.toNat, .int .u8 k1.toNat, .int .u8 k2.toNat, .int .u8 k3.toNat, .int .u8 k4.toNat, .int .u8 k5.toNat, .string name, .int .i64 cap, .string dig, .int .i64 blk, .int .i64 win, .int .i64 rx, .int .i64 tx, .string s] 30)).row]; rfl)
  have HSC : Hid (Sc tb Wb w.heap.size (Cfg.mk k0 k1 k2 k3 k4 k5 name cap dig blk win rx tx) (w.alloc (.cells #[.int .i64 1, .int .i64 a, .int .i64 n, .int .u8 k0.toNat, .int .u8 k1.toNat, .int .u8 k2.toNat, .int .u8 k3.toNat, .int .u8 k4.toNat, .int .u8 k5.toNat, .string name, .int .i64 cap, .string dig, .int .i64 blk, .int .i64 win, .int .i64 rx, .int .i64 tx, .string s] 30))) := hide (by
    obtain ⟨b0, b1, b2, b3, b4, b5, b6, b7, b8, b9, b10, b11, b12, b13, b14, b15, b16⟩ := row17 (unhide HOP)
    exact ⟨unhide HX0, b3, b4, b5, b6, b7, b8, b9, b10, b11, b12, b13, b14, b15⟩)
  have HC := hide (bootNew_born k0 k1 k2 k3 k4 k5 name cap dig blk win rx tx hg (w.alloc (.cells #[.int .i64 1, .int .i64 a, .int .i64 n, .int .u8 k0.toNat, .int .u8 k1.toNat, .int .u8 k2.toNat, .int .u8 k3.toNat, .int .u8 k4.toNat, .int .u8 k5.toNat, .string name, .int .i64 cap, .string dig, .int .i64 blk, .int .i64 win, .int .i64 rx, .int .i64 tx, .string s] 30)) (h.alloc (.cells #[.int .i64 1, .int .i64 a, .int .i64 n, .int .u8 k0.toNat, .int .u8 k1.toNat, .int .u8 k2.toNat, .int .u8 k3.toNat, .int .u8 k4.toNat, .int .u8 k5.toNat, .string name, .int .i64 cap, .string dig, .int .i64 blk, .int .i64 win, .int .i64 rx, .int .i64 tx, .string s] 30)).ngw (h.alloc (.cells #[.int .i64 1, .int .i64 a, .int .i64 n, .int .u8 k0.toNat, .int .u8 k1.toNat, .int .u8 k2.toNat, .int .u8 k3.toNat, .int .u8 k4.toNat, .int .u8 k5.toNat, .string name, .int .i64 cap, .string dig, .int .i64 blk, .int .i64 win, .int .i64 rx, .int .i64 tx, .string s] 30)).glw)
  have HG := hide hg
  obtain ⟨i0, hi, hz0, hz1, hz2⟩ := info_parts infoPair
  clear h hg HX0 HOP
  go_enter Tryz.func11, Tryz.ntmps11
  go_wp2_with fail
  refine (unhide HC).mono ?_
  rintro ee u ⟨Q, B, bm, cg, gg, rfl, hu, hQn⟩
  have hbu := mx_below hu.mx
  have HSu := hide ((unhide HSC).below hbu)
  have HNG := hide (Nat.le_trans (unhide HW1).ngw hbu.size)
  have HGR := hide (Law.Gr.below (unhide HW1).grw hbu (unhide HW1).ngw)
  have HU := hide hu
  have HQQ := hide hQn
  clear hbu HC HSC hu hQn
  obtain ⟨x0, x1, x2, x3, x4, x5, x6, x7, x8, x9, x10, x11, x12, x13⟩ := unhide HSu
  have HR : Hid (Calls Tryz.prog 16 #[.pointer (some ⟨tb, 0, none⟩), .agg #[.int .u8 k0.toNat, .int .u8 k1.toNat, .int .u8 k2.toNat, .int .u8 k3.toNat, .int .u8 k4.toNat, .int .u8 k5.toNat, .string name, .int .i64 cap, .string dig, .int .i64 blk, .int .i64 win, .int .i64 rx, .int .i64 tx]] u.drew fun e u2 => ∃ G, e = .returned (.tuple #[.pointer (some ⟨G, 0, none⟩), .bool true]) ∧ Hid (Rm u (fun _ => False) u2 G (rf0 (.pointer (some ⟨tb, 0, none⟩)) k0 k1 k2 k3 k4 k5 name cap dig blk win rx tx)) ∧ Sc tb Wb w.heap.size (Cfg.mk k0 k1 k2 k3 k4 k5 name cap dig blk win rx tx) u2) := hide (by
    have q := Ref.new_yes tb k0 k1 k2 k3 k4 k5 name cap dig blk win rx tx (unhide HG) u.drew (unhide HNG) (unhide HGR)
    simp only [Int.toNat_natCast] at q
    refine q.mono ?_
    rintro e u2 ⟨G, rfl, hr⟩
    have hr' : Rm u (fun _ => False) u2 G _ := ⟨hr.os, hr.tape, hr.output, hr.size, hr.kept, hr.own, hr.low, hr.gl, hr.row, hr.came, hr.goes, hr.apart⟩
    exact ⟨G, rfl, hide hr', (unhide HSu).below (rm_below hr')⟩)
  go_wp2
  go_region_held3 (fun u => u.cell? ⟨Wb, 0, none⟩ = some (.pointer (some ⟨tb, 0, none⟩)) ∧ u.cell? ⟨w.heap.size, 3, none⟩ = some (.int .u8 k0.toNat) ∧ u.cell? ⟨w.heap.size, 4, none⟩ = some (.int .u8 k1.toNat) ∧ u.cell? ⟨w.heap.size, 5, none⟩ = some (.int .u8 k2.toNat) ∧ u.cell? ⟨w.heap.size, 6, none⟩ = some (.int .u8 k3.toNat) ∧ u.cell? ⟨w.heap.size, 7, none⟩ = some (.int .u8 k4.toNat) ∧ u.cell? ⟨w.heap.size, 8, none⟩ = some (.int .u8 k5.toNat) ∧ u.cell? ⟨w.heap.size, 9, none⟩ = some (.string name) ∧ u.cell? ⟨w.heap.size, 10, none⟩ = some (.int .i64 cap) ∧ u.cell? ⟨w.heap.size, 11, none⟩ = some (.string dig) ∧ u.cell? ⟨w.heap.size, 12, none⟩ = some (.int .i64 blk) ∧ u.cell? ⟨w.heap.size, 13, none⟩ = some (.int .i64 win) ∧ u.cell? ⟨w.heap.size, 14, none⟩ = some (.int .i64 rx) ∧ u.cell? ⟨w.heap.size, 15, none⟩ = some (.int .i64 tx)) (go_keep)
    (first | (go_at_call 16; refine (unhide HR).mono ?_; rintro ee u1 ⟨Gp, rfl, HU1, y0, y1, y2, y3, y4, y5, y6, y7, y8, y9, y10, y11, y12, y13⟩))
  have HBN := hide ((unhide HW1).born (unhide HU) (unhide HQQ) (unhide HU1) (start_new _ _ _ _ _ _ _ (by simp)))
  have HWv := hide (unhide HBN).1
  obtain ⟨ao, cp, hbv⟩ := own_sl (unhide HWv).own
  have xb : u1.cell? ⟨Wb, 1, none⟩ = some (.slice ao L.length cp) := by rw [cell_of_row u1 Wb 1 _ _ _ (unhide HWv).row, hbv]; rfl
  have fb : u1.frozen? ⟨Wb, 1, none⟩ = false := by simp [World.frozen?, (unhide HWv).row]
  have hWl : Wb < u1.heap.size := lt_of_block (unhide HWv).row
  have HBV := hide hbv
  clear hbv HR HW1 HU HU1 HNG HGR HSu HQQ x0 x1 x2 x3 x4 x5 x6 x7 x8 x9 x10 x11 x12 x13 y0 y1 y2 y3 y4 y5 y6 y7 y8 y9 y10 y11 y12 y13
  go_wp2_with (at_builtin; refine wpList_append_mine rfl (.tmp 56) (.tmp 60) 34 rfl 0 48 i0 (.agg #[.pointer none, .pointer none]) 2 16 Tryz.underlying34 hi hz0 hz1 hz2 rfl (by decide) bv L.length (cellsP L) ?ev ?own ⟨u1.heap.size, 0, none⟩ 1 1 [.pointer (some ⟨Q, 0, none⟩), .pointer (some ⟨Gp, 0, none⟩)] ?ad rfl ?c1 ?one ?h63 ?hby ?hba ?_)
  case ev => rw [unhide HBV]; rfl
  case own => exact (unhide HWv).own.alloc _
  case ad => rfl
  case c1 => exact cell_new u1 [.pointer (some ⟨Q, 0, none⟩), .pointer (some ⟨Gp, 0, none⟩)] 48
  case one => intro x hx; simp at hx; rcases hx with rfl | rfl <;> rfl
  case h63 => simp only [maxLen]; omega
  case hby => omega
  case hba => exact Nat.zero_le _
  intro v' w2 hown hgr hf
  have hA : Below u1.heap.size u1 (u1.alloc (.cells #[.pointer (some ⟨Q, 0, none⟩), .pointer (some ⟨Gp, 0, none⟩)] 48)) := (Below.refl _ _).alloc (Nat.le_refl _) _
  have hWA := (unhide HWv).alloc (.cells #[.pointer (some ⟨Q, 0, none⟩), .pointer (some ⟨Gp, 0, none⟩)] 48)
  obtain ⟨_, hOK, hF1, hF2⟩ := unhide HBN
  have hM := hWA.more _ (hOK.move (fun k hk => hA.block k (hOK.lt hk)) hA.size hWA.glw hWA.grw) hF1 hF2 hgr hown (by
    rcases hf with q | ⟨g, q1, q2⟩
    · exact Or.inl q
    · exact Or.inr ⟨g, q1, by simpa using q2⟩)
  have hrow := hgr.block Wb (lt_of_block hWA.row) (fun e => row_neW hWA.row hWA.own e.symm)
  have xb2 := (World.cell?_of_block (a := ⟨Wb, 1, none⟩) hrow).trans (cell_of_row _ Wb 1 _ _ _ hWA.row)
  have fb2 : w2.frozen? ⟨Wb, 1, none⟩ = false := by rw [World.frozen?_of_block (a := ⟨Wb, 1, none⟩) hrow]; simp [World.frozen?, hWA.row]
  obtain ⟨a2, c2, hv2⟩ := own_sl hown
  have xb3 : w2.cell? ⟨Wb, 1, none⟩ = some bv := xb2
  have HM := hide hM
  rw [unhide HBV] at xb3
  clear hM hOK hF1 hF2 hA hWA hrow xb2 hown hgr hf xb fb HBN HWv
  subst hv2
  go_wp2
  go_ret
  exact ⟨rfl, _, _, unhide HM⟩

end Go.Proofs.YtbhbbeebncmaiaaGreatDoor.Law

import Derived.Test.YtbhbbeebncmaiaaGreatDoorMgZ32
import Derived.Test.YtbhbbeebncmaiaaGreatDoorMgZ26
import Derived.Deep.DeepCutAuto
namespace Go.Proofs.YtbhbbeebncmaiaaGreatDoor.Mac
open Go.ChangeShapes Go.WideShapes Go.ChangeAt Go.RowKit Bs
set_option linter.unusedVariables false
set_option linter.unusedSimpArgs false
variable {w0 : World} {P : Nat → Prop} {w w' : World} {B : Nat} {m m' : Mc}
def mk0 (c : Cfg) (bm cg gg : Nat) : Mc := ⟨bm, .map [], c.k0, c.k1, c.k2, c.k3, c.k4, c.k5, c.name, c.cap, c.dig, c.blk, c.win, c.rx.toNat, c.tx.toNat, 0, 0, cg, 0, [], gg, 0, [], 0, 0, 0, 0, 0, 0, 0, 0, 0, 0, 0, 0, 0, false, 0, 0, 0, 0, 0, 0, 0, 0, 0, 0, 0, 0, 0, ⟨#[]⟩, 0, 0, .slice none 0 0, []⟩
theorem same_store {u : World} {g j : Nat} {v x : Value} (h : u.cell? ⟨g, j, none⟩ = some v) : (u.setCell ⟨g, j, none⟩ x).cell? ⟨g, j, none⟩ = some x := by
  unfold World.cell? at h
  cases hb : u.heap[g]? with
  | none => rw [hb] at h; cases h
  | some o =>
    rw [hb] at h
    cases o with
    | cells cs t fz =>
      have h2 : cs[j]? = some v := h
      have hj : j < cs.size := (Array.getElem?_eq_some_iff.1 h2).1
      have q : (u.setCell ⟨g, j, none⟩ x).heap[g]? = some (.cells (cs.setIfInBounds j x) t fz) := by rw [setCell_eq_setRow u g j _ _ _ _ hb, setRow_heap u g _ _ _ _ hb]
      rw [cell_of_row _ _ j _ _ _ q]
      simp [hj]
    | _ => cases h
theorem other_store {u : World} {g j i : Nat} {v x : Value} (hij : i ≠ j) (h : u.cell? ⟨g, i, none⟩ = some v) : (u.setCell ⟨g, j, none⟩ x).cell? ⟨g, i, none⟩ = some v := by
  unfold World.cell? at h
  cases hb : u.heap[g]? with
  | none => rw [hb] at h; cases h
  | some o =>
    rw [hb] at h
    cases o with
    | cells cs t fz =>
      have h2 : cs[i]? = some v := h
      have q : (u.setCell ⟨g, j, none⟩ x).heap[g]? = some (.cells (cs.setIfInBounds j x) t fz) := by rw [setCell_eq_setRow u g j _ _ _ _ hb, setRow_heap u g _ _ _ _ hb]
      rw [cell_of_row _ _ i _ _ _ q, Array.getElem?_setIfInBounds_ne (by omega)]
      exact h2
    | _ => cases h
theorem new_mx (c : Cfg) (hg : c.Good) (w X : World) (bm cg gg : Nat) (ac ag : Array Value) (hng : 9 ≤ w.heap.size) (hgl : Gl w) (hb : Below w.heap.size w X) (hm : X.heap[bm]? = some (.map #[] 0)) (hc : X.heap[cg]? = some (.cells ac 9 (0, 0))) (hac : ac.size = c.rx.toNat) (hgd : X.heap[gg]? = some (.cells ag 9 (0, 0))) (hag : ag.size = c.tx.toNat)
    (hne : cg ≠ gg) (l1 : w.heap.size ≤ bm) (l2 : w.heap.size ≤ cg) (l3 : w.heap.size ≤ gg) : Mx w (fun _ => False) (X.alloc (.cells (mk0 c bm cg gg).cells 102)) X.heap.size (mk0 c bm cg gg) := by
  have hb2 := hb.alloc hb.size (.cells (mk0 c bm cg gg).cells 102)
  have o := fun k (hk : k < X.heap.size) => Below.heap_alloc X (.cells (mk0 c bm cg gg).cells 102) k hk
  have g8 := hg.rx
  have g9 := hg.tx
  exact
  { os := hb2.os, tape := hb2.tape, output := hb2.output, size := hb2.size, kept := fun k hk _ => hb2.block k hk
    own := fun k hk => Or.inr (by
      rcases hk with rfl | rfl | rfl | rfl | hk
      · exact hb.size
      · exact l1
      · exact l2
      · exact l3
      · cases hk)
    low := ⟨hng, fun k h => h.elim⟩, gl := hgl
    row := heap_alloc_new X _
    map := ⟨#[], 0, (o _ (lt_of_block hm)).trans hm, ⟨by simp, MapKept.stamped_empty 0, by simp⟩, Nat.zero_le _, rfl⟩
    came := ⟨by show 0 < c.rx.toNat; omega, by show c.rx.toNat ≤ 16; omega, by show 0 < c.rx.toNat; omega, Nat.zero_le _, ac, (o _ (lt_of_block hc)).trans hc, hac, fun i hi => absurd hi (by show ¬ i < 0; omega)⟩
    goes := ⟨by show 0 < c.tx.toNat; omega, by show c.tx.toNat ≤ 16; omega, by show 0 < c.tx.toNat; omega, Nat.zero_le _, ag, (o _ (lt_of_block hgd)).trans hgd, hag, fun i hi => absurd hi (by show ¬ i < 0; omega)⟩
    apart := hne
    image := World.ownsRow_nil _ _ _ _ }
theorem row13 {u : World} {g : Nat} {t : TypeId} {a0 a1 a2 a3 a4 a5 a6 a7 a8 a9 a10 a11 a12 : Value} (h : u.heap[g]? = some (.cells #[a0, a1, a2, a3, a4, a5, a6, a7, a8, a9, a10, a11, a12] t (0, 0))) :
    u.cell? ⟨g, 0, none⟩ = some a0 ∧ u.cell? ⟨g, 1, none⟩ = some a1 ∧ u.cell? ⟨g, 2, none⟩ = some a2 ∧ u.cell? ⟨g, 3, none⟩ = some a3 ∧ u.cell? ⟨g, 4, none⟩ = some a4 ∧ u.cell? ⟨g, 5, none⟩ = some a5 ∧ u.cell? ⟨g, 6, none⟩ = some a6 ∧ u.cell? ⟨g, 7, none⟩ = some a7 ∧ u.cell? ⟨g, 8, none⟩ = some a8 ∧ u.cell? ⟨g, 9, none⟩ = some a9 ∧ u.cell? ⟨g, 10, none⟩ = some a10 ∧ u.cell? ⟨g, 11, none⟩ = some a11 ∧ u.cell? ⟨g, 12, none⟩ = some a12 := by
  have q := fun j => cell_of_row u g j _ _ _ h
  exact ⟨q 0, q 1, q 2, q 3, q 4, q 5, q 6, q 7, q 8, q 9, q 10, q 11, q 12⟩
set_option maxHeartbeats 2000000 in
set_option maxRecDepth 10000 in
theorem new_good (k0 k1 k2 k3 k4 k5 : UInt8) (name : ByteArray) (cap : Int) (dig : ByteArray) (blk win : Int) (rx tx : Nat) (hg : (Cfg.mk k0 k1 k2 k3 k4 k5 name cap dig blk win rx tx).Good) (w : World) (hng : 9 ≤ w.heap.size) (hgl : Gl w) : Calls Tryz.prog 30 #[.agg #[.int .u8 k0.toNat, .int .u8 k1.toNat, .int .u8 k2.toNat, .int .u8 k3.toNat, .int .u8 k4.toNat, .int .u8 k5.toNat, .string name, .int .i64 cap, .string dig, .int .i64 blk, .int .i64 win, .int .i64 rx, .int .i64 tx]] w fun e w' => ∃ B bm cg gg, e = .returned (.tuple #[.pointer (some ⟨B, 0, none⟩), .int .i64 0]) ∧ Mx w (fun _ => False) w' B (mk0 (Cfg.mk k0 k1 k2 k3 k4 k5 name cap dig blk win rx tx) bm cg gg) := by
  have HMB := hide (mayBe_good _ hg (w.alloc (.cells #[.int .u8 k0.toNat, .int .u8 k1.toNat, .int .u8 k2.toNat, .int .u8 k3.toNat, .int .u8 k4.toNat, .int .u8 k5.toNat, .string name, .int .i64 cap, .string dig, .int .i64 blk, .int .i64 win, .int .i64 rx, .int .i64 tx] 28)))
  have hcl1 := fun u => hide (Rd.clone_any name u (by have := hg.long; dsimp only at this; omega))
  have hcl2 := fun u => hide (Rd.clone_any dig u (by have := hg.dig; dsimp only at this; omega))
  have HG := hide hg
  clear hg
  go_enter Tryz.func30, Tryz.ntmps30
  go_wp2_with fail
  refine (unhide HMB).mono ?_
  rintro ee u1 ⟨rfl, hb1⟩
  have hbx : u1.heap[w.heap.size]? = some (.cells #[.int .u8 k0.toNat, .int .u8 k1.toNat, .int .u8 k2.toNat, .int .u8 k3.toNat, .int .u8 k4.toNat, .int .u8 k5.toNat, .string name, .int .i64 cap, .string dig, .int .i64 blk, .int .i64 win, .int .i64 rx, .int .i64 tx] 28 (0, 0)) := (hb1.block _ (by simp)).trans (heap_alloc_new w _)
  have e6 : u1.cell? ⟨w.heap.size, 6, none⟩ = some (.string name) := cell_of_row u1 _ 6 _ _ _ hbx
  have e8 : u1.cell? ⟨w.heap.size, 8, none⟩ = some (.string dig) := cell_of_row u1 _ 8 _ _ _ hbx
  have fz : ∀ j, u1.frozen? ⟨w.heap.size, j, none⟩ = false := fun j => by simp [World.frozen?, hbx]
  have f6 := fz 6
  have f8 := fz 8
  have hz1 : w.heap.size < u1.heap.size := lt_of_block hbx
  have HB1 : Hid (Below w.heap.size w u1) := hide (((Below.refl w.heap.size w).alloc (Nat.le_refl _) _).trans (hb1.mono (by simp)))
  have HX1 := hide hbx
  clear hb1 hbx HMB fz
  go_wp2
  go_region_held3 (fun u => u.cell? ⟨w.heap.size, 6, none⟩ = some (.string name) ∧ u.cell? ⟨w.heap.size, 8, none⟩ = some (.string dig) ∧ u.frozen? ⟨w.heap.size, 6, none⟩ = false ∧ u.frozen? ⟨w.heap.size, 8, none⟩ = false) (go_keep)
    (first | (go_at_call_of 49 (Value.string name); refine (unhide (hcl1 _)).mono ?_; rintro ee u2 ⟨rfl, hb2⟩; have hz2 := Nat.lt_of_lt_of_le hz1 hb2.size; have d6 := (hb2.cell (p := ⟨w.heap.size, 6, none⟩) hz1).trans e6; have d8 := (hb2.cell (p := ⟨w.heap.size, 8, none⟩) hz1).trans e8; have g6 := (hb2.frozen (p := ⟨w.heap.size, 6, none⟩) hz1).trans f6; have g8 := (hb2.frozen (p := ⟨w.heap.size, 8, none⟩) hz1).trans f8) | (go_at_call_of 49 (Value.string dig); refine (unhide (hcl2 _)).mono ?_; rintro ee u3 ⟨rfl, hb3⟩; have hz3 := Nat.lt_of_lt_of_le hz2 hb3.size; have d6' := (hb3.cell (p := ⟨w.heap.size, 6, none⟩) hz2).trans d6; have d8' := (hb3.cell (p := ⟨w.heap.size, 8, none⟩) hz2).trans d8; have g6' := (hb3.frozen (p := ⟨w.heap.size, 6, none⟩) hz2).trans g6; have g8' := (hb3.frozen (p := ⟨w.heap.size, 8, none⟩) hz2).trans g8; have k6 := same_store (x := .string name) d6'; have k8 := other_store (j := 6) (x := .string name) (by decide) d8'; have k66 := other_store (j := 8) (x := .string dig) (by decide) k6; have k88 := same_store (x := .string dig) k8))
  have hrx : 0 < rx ∧ rx ≤ 16 := by have := (unhide HG).rx; dsimp only at this; omega
  have htx : 0 < tx ∧ tx ≤ 16 := by have := (unhide HG).tx; dsimp only at this; omega
  obtain ⟨U, hU⟩ : ∃ U, U = (u3.setCell ⟨w.heap.size, 6, none⟩ (.string name)).setCell ⟨w.heap.size, 8, none⟩ (.string dig) := ⟨_, rfl⟩
  have hx3 : u3.heap[w.heap.size]? = some (.cells #[.int .u8 k0.toNat, .int .u8 k1.toNat, .int .u8 k2.toNat, .int .u8 k3.toNat, .int .u8 k4.toNat, .int .u8 k5.toNat, .string name, .int .i64 cap, .string dig, .int .i64 blk, .int .i64 win, .int .i64 rx, .int .i64 tx] 28 (0, 0)) := (hb3.block _ hz2).trans ((hb2.block _ hz1).trans (unhide HX1))
  have HXU : Hid (U.heap[w.heap.size]? = some (.cells #[.int .u8 k0.toNat, .int .u8 k1.toNat, .int .u8 k2.toNat, .int .u8 k3.toNat, .int .u8 k4.toNat, .int .u8 k5.toNat, .string name, .int .i64 cap, .string dig, .int .i64 blk, .int .i64 win, .int .i64 rx, .int .i64 tx] 28 (0, 0))) := hide (by
    have q := many_row w.heap.size [(6, .string name), (8, .string dig)] u3 _ hx3
    rw [hU]; exact q)
  have HBU : Hid (Below w.heap.size w U) := hide (by
    rw [hU]
    exact ((((unhide HB1).drew.trans (hb2.mono (Nat.le_of_lt hz1))).trans (hb3.mono (Nat.le_of_lt hz2))).setCell (Nat.le_refl _) _).setCell (Nat.le_refl _) _)
  have hzU : w.heap.size < U.heap.size := lt_of_block (unhide HXU)
  rw [← hU]
  obtain ⟨r0, r1, r2, r3, r4, r5, r6, r7, r8, r9, r10, r11, r12⟩ := row13 (unhide HXU)
  have hmm := @run_makeMap Tryz.prog
  have hne : w.heap.size ≠ U.heap.size := Nat.ne_of_lt hzU
  clear hU hx3 hb2 hb3 HB1 HX1 e6 e8 f6 f8 d6 d8 g6 g8 d6' d8' g6' g8' k6 k8 k66 k88 hz1 hz2 hz3 hcl1 hcl2
  go_wp2
  go_region_held3 (fun u => u.cell? ⟨w.heap.size, 0, none⟩ = some (.int .u8 k0.toNat) ∧ u.cell? ⟨w.heap.size, 1, none⟩ = some (.int .u8 k1.toNat) ∧ u.cell? ⟨w.heap.size, 2, none⟩ = some (.int .u8 k2.toNat) ∧ u.cell? ⟨w.heap.size, 3, none⟩ = some (.int .u8 k3.toNat) ∧ u.cell? ⟨w.heap.size, 4, none⟩ = some (.int .u8 k4.toNat) ∧ u.cell? ⟨w.heap.size, 5, none⟩ = some (.int .u8 k5.toNat) ∧ u.cell? ⟨w.heap.size, 6, none⟩ = some (.string name) ∧ u.cell? ⟨w.heap.size, 7, none⟩ = some (.int .i64 cap) ∧ u.cell? ⟨w.heap.size, 8, none⟩ = some (.string dig) ∧ u.cell? ⟨w.heap.size, 9, none⟩ = some (.int .i64 blk) ∧ u.cell? ⟨w.heap.size, 10, none⟩ = some (.int .i64 win) ∧ u.cell? ⟨w.heap.size, 11, none⟩ = some (.int .i64 rx) ∧ u.cell? ⟨w.heap.size, 12, none⟩ = some (.int .i64 tx)) (go_keep)
    (first | (go_at_call_of 50 (Value.int IntKind.i64 (rx : Int)); refine (ringNew_any rx hrx.1 hrx.2 _).mono ?_; rintro ee u4 ⟨gc, arc, rfl, hgc, hrc, hac, hb4⟩; have HX4 := hide ((hb4.block w.heap.size (by first | exact hzU | exact Nat.lt_succ_of_lt hzU | (simp; omega))).trans (by first | exact unhide HXU | exact (Below.heap_alloc _ _ _ hzU).trans (unhide HXU))); have hz4 := lt_of_block (unhide HX4); obtain ⟨p0, p1, p2, p3, p4, p5, p6, p7, p8, p9, p10, p11, p12⟩ := row13 (unhide HX4)) | (go_at_call_of 50 (Value.int IntKind.i64 (tx : Int)); refine (ringNew_any tx htx.1 htx.2 _).mono ?_; rintro ee u5 ⟨gg, arg, rfl, hgg, hrg, hag, hb5⟩; have HX5 := hide ((hb5.block w.heap.size (by first | exact hz4 | exact Nat.lt_succ_of_lt hz4 | (simp; omega))).trans (by first | exact unhide HX4 | exact (Below.heap_alloc _ _ _ hz4).trans (unhide HX4))); have hz5 := lt_of_block (unhide HX5); obtain ⟨q0, q1, q2, q3, q4, q5, q6, q7, q8, q9, q10, q11, q12⟩ := row13 (unhide HX5)))
  · go_wp2
    go_ret2
    refine ⟨u5.heap.size, U.heap.size, gc, gg, rfl, ?_⟩
    have hz0 := (unhide HBU).size
    have hz6 := hb4.size
    have hz7 := hb5.size
    have hlc := lt_of_block hrc
    simp at hz6 hgc
    exact new_mx _ (unhide HG) w u5 U.heap.size gc gg arc arg hng hgl (((((unhide HBU).drew).alloc (by exact hz0) _).trans (hb4.mono (by simp; omega))).trans (hb5.mono (by omega))) ((hb5.block _ (by omega)).trans ((hb4.block _ (by simp)).trans (heap_alloc_new U.drew _))) ((hb5.block _ hlc).trans hrc) hac hrg hag (by omega) hz0 (by omega) (by omega)
  · go_wp2
    go_ret2
    refine ⟨u5.heap.size, u4.heap.size, gc, gg, rfl, ?_⟩
    have hz0 := (unhide HBU).size
    have hz6 := hb4.size
    have hz7 := hb5.size
    have hlc := lt_of_block hrc
    have hgc' : U.heap.size ≤ gc := hgc
    have hz6' : U.heap.size ≤ u4.heap.size := hz6
    simp at hz7 hgg
    exact new_mx _ (unhide HG) w u5 u4.heap.size gc gg arc arg hng hgl (((((unhide HBU).drew).trans (hb4.mono (by exact hz0))).alloc (by omega) _).trans (hb5.mono (by simp; omega))) ((hb5.block _ (by simp)).trans (heap_alloc_new u4 _)) ((hb5.block _ (by simp; omega)).trans ((Below.heap_alloc _ _ _ hlc).trans hrc)) hac hrg hag (by omega) (by omega) (by omega) (by omega)
  · go_wp2
    go_ret2
    refine ⟨u5.heap.size + 1, u5.heap.size, gc, gg, rfl, ?_⟩
    have hz0 := (unhide HBU).size
    have hz6 := hb4.size
    have hz7 := hb5.size
    have hlc := lt_of_block hrc
    have hlg := lt_of_block hrg
    have hgc' : U.heap.size ≤ gc := hgc
    have hz6' : U.heap.size ≤ u4.heap.size := hz6
    have q := new_mx _ (unhide HG) w (u5.alloc (.map #[] 0)) u5.heap.size gc gg arc arg hng hgl (((((unhide HBU).drew).trans (hb4.mono (by exact hz0))).trans (hb5.mono (by omega))).alloc (by omega) _) (heap_alloc_new u5 _) ((Below.heap_alloc _ _ _ (by omega)).trans ((hb5.block _ hlc).trans hrc)) hac ((Below.heap_alloc _ _ _ hlg).trans hrg) hag (by omega) (by omega) (by omega) (by omega)
    have e : (u5.alloc (.map #[] 0)).heap.size = u5.heap.size + 1 := by simp
    rw [e] at q
    exact q
end Go.Proofs.YtbhbbeebncmaiaaGreatDoor.Mac

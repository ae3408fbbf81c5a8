import Derived.Test.YtadkcdcdgphhpaaDHWriteW
import Derived.Test.YtadkcdcdgphhpaaIPWriteH
import Derived.Deep.RegionHeld3
namespace Go.Proofs.Ytadkcdcdgphhpaa.Dh
open Go.ChangeShapes Go.WideShapes Go.ChangeAt Go.RowKit Bs Rb Wt
open Arp (big4 ip_lit below_cells)
open Ip (conv2)
set_option linter.unusedVariables false
set_option linter.unusedSimpArgs false

theorem zero_full (L : List UInt8) (n : Nat) : zeroS ⟨L.toArray⟩ n = ⟨(L ++ List.replicate (n - L.length) 0).toArray⟩ := by
  rw [zeroS, str_size]
  split
  · rename_i h
    have e3 : n - L.length = 0 := by omega
    rw [e3]; simp
  · exact add_str L _
theorem new_two (u : World) (x y : Int) (g : Nat) (hg : g = u.heap.size) : (u.alloc (.cells #[.int .u8 x, .int .u8 y] 5)).cell? ⟨g, 0, none⟩ = some (.int .u8 x) ∧ (u.alloc (.cells #[.int .u8 x, .int .u8 y] 5)).cell? ⟨g, 1, none⟩ = some (.int .u8 y) := by
  subst hg
  constructor
  · rw [cell_of_row _ u.heap.size 0 _ _ (0, 0) (heap_alloc_new u _)]; rfl
  · rw [cell_of_row _ u.heap.size 1 _ _ (0, 0) (heap_alloc_new u _)]; rfl
theorem conv_two (u : World) (x y : Int) (hx : 0 ≤ x ∧ x ≤ 255) (hy : 0 ≤ y ∧ y ≤ 255) : (convert 80 9 (.slice (some ⟨u.heap.size, 0, none⟩) 2 2)).run Try.prog (u.alloc (.cells #[.int .u8 x, .int .u8 y] 5)) = .ok (.string ⟨#[by8 x, by8 y]⟩) (u.alloc (.cells #[.int .u8 x, .int .u8 y] 5)) :=
  conv2 _ _ x y hx hy (new_two u x y _ rfl).1 (new_two u x y _ rfl).2
theorem ip_zero (w : World) : Calls Try.prog 53 #[.int .u32 0] w fun e w' => e = .returned (.string ⟨#[0, 0, 0, 0]⟩) ∧ Below w.heap.size w w' := by
  refine (ip_lit 0 w (by omega) (by omega)).mono ?_
  rintro e w1 ⟨rfl, h⟩
  exact ⟨rfl, h⟩
theorem conv_drew (u : World) (x y : Int) (hx : 0 ≤ x ∧ x ≤ 255) (hy : 0 ≤ y ∧ y ≤ 255) : (convert 80 9 (.slice (some ⟨u.heap.size, 0, none⟩) 2 2)).run Try.prog (u.alloc (.cells #[.int .u8 x, .int .u8 y] 5)).drew = .ok (.string ⟨#[by8 x, by8 y]⟩) (u.alloc (.cells #[.int .u8 x, .int .u8 y] 5)).drew :=
  conv2 _ _ x y hx hy (new_two u x y _ rfl).1 (new_two u x y _ rfl).2
theorem zero_end (X A : List UInt8) (t z : ByteArray) (hT : t = ⟨X.toArray⟩) (hA : X ++ [255] = A) (hz : z = ⟨(fullL A).toArray⟩) (hl : X.length ≤ 1000000000) (u : World) :
    Calls Try.prog 47 #[.string (t ++ ⟨#[255]⟩), .int .i64 300] u fun ee w' => ee = .returned (.string z) ∧ Below u.heap.size u w' := by
  have e1 : t ++ ⟨#[255]⟩ = ⟨A.toArray⟩ := by rw [hT, ← hA]; exact add_str X [255]
  have hAl : A.length ≤ 1000000001 := by rw [← hA, List.length_append, List.length_cons, List.length_nil]; omega
  rw [e1]
  refine (zero_any ⟨A.toArray⟩ 300 u (by rw [str_size]; omega) (by omega)).mono ?_
  rintro ee w' ⟨rfl, hb⟩
  exact ⟨by rw [zero_full, hz, fullL], hb⟩
/-- the head, as the reference puts it together -/
theorem head_join (op fl xid cl yo ne : Int) (a b c d e f : UInt8) (p q r : ByteArray) (hp : p = ⟨#[by8 op, 1, 6, 0]⟩) (hq : q = ⟨(word8 fl).toArray⟩) (hr : r = ⟨(bigL cl 4).toArray⟩) :
    zeroS (p ++ (⟨#[by8 (xid / 256 / 256 / 256), by8 (xid / 256 / 256), by8 (xid / 256), by8 xid]⟩ ++ ⟨#[0, 0]⟩) ++ q ++ r ++ ⟨#[by8 (yo / 256 / 256 / 256), by8 (yo / 256 / 256), by8 (yo / 256), by8 yo]⟩ ++ ⟨#[by8 (ne / 256 / 256 / 256), by8 (ne / 256 / 256), by8 (ne / 256), by8 ne]⟩ ++ ⟨#[0, 0, 0, 0]⟩ ++ ⟨#[a, b, c, d, e, f]⟩) 236 ++ ⟨#[99, 130, 83, 99]⟩ = ⟨(headL op fl xid cl yo ne [a, b, c, d, e, f]).toArray⟩ := by
  have e1 : p ++ (⟨#[by8 (xid / 256 / 256 / 256), by8 (xid / 256 / 256), by8 (xid / 256), by8 xid]⟩ ++ ⟨#[0, 0]⟩) ++ q ++ r ++ ⟨#[by8 (yo / 256 / 256 / 256), by8 (yo / 256 / 256), by8 (yo / 256), by8 yo]⟩ ++ ⟨#[by8 (ne / 256 / 256 / 256), by8 (ne / 256 / 256), by8 (ne / 256), by8 ne]⟩ ++ ⟨#[0, 0, 0, 0]⟩ ++ ⟨#[a, b, c, d, e, f]⟩ = ⟨(preL op fl xid cl yo ne [a, b, c, d, e, f]).toArray⟩ := by
    rw [hp, hq, hr, preL]
    simp only [dwords8, List.flatMap_cons, List.flatMap_nil, ← big4]
    apply ByteArray.ext
    apply Array.ext'
    simp [ByteArray.data_append, bigL, word8, words8]
    decide
  rw [e1, zero_full, preL_length]
  rfl

theorem six_cells' {w u : World} {cs : Array Value} {t : TypeId} (h : Below (w.alloc (.cells cs t)).heap.size (w.alloc (.cells cs t)) u) : ∀ j, u.cell? ⟨w.heap.size, j, none⟩ = cs[j]? := fun j => by
  rw [h.cell (p := ⟨w.heap.size, j, none⟩) (by simp), cell_of_row _ w.heap.size j cs t (0, 0) (heap_alloc_new w _)]
theorem cells_on {W u : World} {b n : Nat} {cs : Array Value} (h : ∀ j, W.cell? ⟨b, j, none⟩ = cs[j]?) (hb : b < n) (hB : Below n W u) : ∀ j, u.cell? ⟨b, j, none⟩ = cs[j]? := fun j => by
  rw [hB.cell (p := ⟨b, j, none⟩) hb]; exact h j

set_option maxHeartbeats 16000000 in
set_option maxRecDepth 10000 in
theorem ref_rz (xid yo ne : Int) (a b c d e f : UInt8) (sa : Option Addr) (sc : Nat) (os : Opts) (w : World) (hx : 0 ≤ xid ∧ xid ≤ 4294967295) (hy : 0 ≤ yo ∧ yo ≤ 4294967295) (hn : 0 ≤ ne ∧ ne ≤ 4294967295) (hA : At w sa os) (hl : heavy os ≤ 2097152) :
    Calls Try.prog 36 #[.agg #[.bool true, .int .u32 xid, .int .u32 0, .int .u32 yo, .int .u32 ne, .int .u8 a.toNat, .int .u8 b.toNat, .int .u8 c.toNat, .int .u8 d.toNat, .int .u8 e.toNat, .int .u8 f.toNat, .slice sa os.length sc]] w fun ee w' =>
      ee = .returned (.tuple #[.string (dhS true xid 0 yo ne [a, b, c, d, e, f] os), .int .i64 (dhE true xid 0 yo ne [a, b, c, d, e, f] os)]) ∧ Below w.heap.size w w' := by
  have hlen : os.length ≤ heavy os := by unfold heavy; omega
  have hh8 := opts8_heavy os
  obtain ⟨hx0, hx1⟩ := hx
  obtain ⟨hy0, hy1⟩ := hy
  obtain ⟨hn0, hn1⟩ := hn
  have hcl0 := True.intro
  have hcl1 := True.intro
  have hqx : IntKind.i64.wrap xid = xid := wrap_i64 _ (by omega) (by omega)
  have HBX := hide (big_any xid 4 (w.alloc (.cells #[.bool true, .int .u32 xid, .int .u32 0, .int .u32 yo, .int .u32 ne, .int .u8 a.toNat, .int .u8 b.toNat, .int .u8 c.toNat, .int .u8 d.toNat, .int .u8 e.toNat, .int .u8 f.toNat, .slice sa os.length sc] 57)) hx0 (by omega) (by omega))
  obtain ⟨H, hH⟩ : ∃ H, H = headL 2 32768 xid 0 yo ne [a, b, c, d, e, f] := ⟨_, rfl⟩
  have hHl : H.length = 240 := by rw [hH]; exact headL_length _ _ _ _ _ _ _ rfl
  have HJ : Hid (zeroS ((⟨#[2, 1, 6, 0]⟩ : ByteArray) ++ (⟨#[by8 (xid / 256 / 256 / 256), by8 (xid / 256 / 256), by8 (xid / 256), by8 xid]⟩ ++ ⟨#[0, 0]⟩) ++ (⟨#[128, 0]⟩ : ByteArray) ++ ⟨#[0, 0, 0, 0]⟩ ++ ⟨#[by8 (yo / 256 / 256 / 256), by8 (yo / 256 / 256), by8 (yo / 256), by8 yo]⟩ ++ ⟨#[by8 (ne / 256 / 256 / 256), by8 (ne / 256 / 256), by8 (ne / 256), by8 ne]⟩ ++ ⟨#[0, 0, 0, 0]⟩ ++ ⟨#[a, b, c, d, e, f]⟩) 236 ++ ⟨#[99, 130, 83, 99]⟩ = ⟨H.toArray⟩) := hide (by rw [hH]; exact head_join 2 32768 xid 0 yo ne a b c d e f _ _ _ rfl rfl (by first | rfl | decide))
  have HALL : Hid (H ++ opts8 os ++ [255] = allL true xid 0 yo ne [a, b, c, d, e, f] os) := hide (by rw [hH]; rfl)
  have hzs : (zeroS ((⟨#[2, 1, 6, 0]⟩ : ByteArray) ++ (⟨#[by8 (xid / 256 / 256 / 256), by8 (xid / 256 / 256), by8 (xid / 256), by8 xid]⟩ ++ ⟨#[0, 0]⟩) ++ (⟨#[128, 0]⟩ : ByteArray) ++ ⟨#[0, 0, 0, 0]⟩ ++ ⟨#[by8 (yo / 256 / 256 / 256), by8 (yo / 256 / 256), by8 (yo / 256), by8 yo]⟩ ++ ⟨#[by8 (ne / 256 / 256 / 256), by8 (ne / 256 / 256), by8 (ne / 256), by8 ne]⟩ ++ ⟨#[0, 0, 0, 0]⟩ ++ ⟨#[a, b, c, d, e, f]⟩) 236).size + 4 = 240 := by
    have q := congrArg ByteArray.size (unhide HJ)
    rw [ByteArray.size_append, str_size] at q
    have q2 := q.trans hHl
    exact q2
  have haddZ := fun u => run_string_add_sum (P := Try.prog) u (zeroS ((⟨#[2, 1, 6, 0]⟩ : ByteArray) ++ (⟨#[by8 (xid / 256 / 256 / 256), by8 (xid / 256 / 256), by8 (xid / 256), by8 xid]⟩ ++ ⟨#[0, 0]⟩) ++ (⟨#[128, 0]⟩ : ByteArray) ++ ⟨#[0, 0, 0, 0]⟩ ++ ⟨#[by8 (yo / 256 / 256 / 256), by8 (yo / 256 / 256), by8 (yo / 256), by8 yo]⟩ ++ ⟨#[by8 (ne / 256 / 256 / 256), by8 (ne / 256 / 256), by8 (ne / 256), by8 ne]⟩ ++ ⟨#[0, 0, 0, 0]⟩ ++ ⟨#[a, b, c, d, e, f]⟩) 236) ⟨#[99, 130, 83, 99]⟩ (by show _ + 4 ≤ _; omega)
  have HA := hide hA
  clear hA hH hzs
  go_enter Try.func36, Try.ntmps36
  go_wp2_with fail
  refine (unhide HBX).mono ?_
  rintro ee w1 ⟨rfl, hb1⟩
  have hcW := six_cells' hb1
  have hzW : w.heap.size + 1 ≤ w1.heap.size := by have := hb1.size; simpa using this
  have HW1 : Hid (Below w.heap.size w w1) := hide (((Below.refl _ _).alloc (Nat.le_refl _) _).trans (hb1.mono (by simp)))
  clear hb1 HBX
  simp only [bigL, List.nil_append, List.cons_append]
  obtain ⟨W1, hW1⟩ : ∃ W1, W1 = w1 := ⟨_, rfl⟩
  rw [← hW1] at hcW hzW HW1
  subst hW1
  have HCW := hide hcW
  have HHZ := hide (show ((⟨#[2, 1, 6, 0]⟩ : ByteArray) ++ (⟨#[by8 (xid / 256 / 256 / 256), by8 (xid / 256 / 256), by8 (xid / 256), by8 xid]⟩ ++ ⟨#[0, 0]⟩) ++ (⟨#[128, 0]⟩ : ByteArray) ++ ⟨#[0, 0, 0, 0]⟩ ++ ⟨#[by8 (yo / 256 / 256 / 256), by8 (yo / 256 / 256), by8 (yo / 256), by8 yo]⟩ ++ ⟨#[by8 (ne / 256 / 256 / 256), by8 (ne / 256 / 256), by8 (ne / 256), by8 ne]⟩ ++ ⟨#[0, 0, 0, 0]⟩ ++ ⟨#[a, b, c, d, e, f]⟩).size ≤ 1099511627776 by show 34 ≤ _; omega)
  have hB1 : Below W1.heap.size W1 W1 := Below.refl _ _
  have hcc1 := hcW
  clear hcW
  go_wp2
  go_cut [4] (fun s4 wc => s4 = .string ⟨H.toArray⟩ ∧ Hid (Below W1.heap.size W1 wc))
  case first =>
    go_region_held3 (fun u => u.cell? ⟨w.heap.size, 2, none⟩ = some (.int .u32 0) ∧ u.cell? ⟨w.heap.size, 3, none⟩ = some (.int .u32 yo) ∧ u.cell? ⟨w.heap.size, 4, none⟩ = some (.int .u32 ne) ∧ u.cell? ⟨w.heap.size, 5, none⟩ = some (.int .u8 a.toNat) ∧ u.cell? ⟨w.heap.size, 6, none⟩ = some (.int .u8 b.toNat) ∧ u.cell? ⟨w.heap.size, 7, none⟩ = some (.int .u8 c.toNat) ∧ u.cell? ⟨w.heap.size, 8, none⟩ = some (.int .u8 d.toNat) ∧ u.cell? ⟨w.heap.size, 9, none⟩ = some (.int .u8 e.toNat) ∧ u.cell? ⟨w.heap.size, 10, none⟩ = some (.int .u8 f.toNat)) (go_keep)
      (first | (go_at_call 53; refine (ip_zero _).mono ?_; rintro ee u1 ⟨rfl, hb1⟩; have hB1 : Below W1.heap.size W1 u1 := (by first | exact hB1.trans (hb1.mono hB1.size) | exact hB1.drew.trans (hb1.mono hB1.size)); have hcc1 := cells_on (unhide HCW) (by omega) hB1; have hzz1 := hB1.size; clear hb1) | (go_at_call 53; refine (ip_lit _ _ (by omega) (by omega)).mono ?_; rintro ee u1 ⟨rfl, hb1⟩; have hB1 : Below W1.heap.size W1 u1 := (by first | exact hB1.trans (hb1.mono hB1.size) | exact hB1.drew.trans (hb1.mono hB1.size)); have hcc1 := cells_on (unhide HCW) (by omega) hB1; have hzz1 := hB1.size; clear hb1) | (go_at_call 48; refine (mac_any _ _ _ _ _ _ _).mono ?_; rintro ee u1 ⟨rfl, hb1⟩; have hB1 : Below W1.heap.size W1 u1 := (by first | exact hB1.trans (hb1.mono hB1.size) | exact hB1.drew.trans (hb1.mono hB1.size)); have hcc1 := cells_on (unhide HCW) (by omega) hB1; have hzz1 := hB1.size; clear hb1) | (go_at_call 47; refine (zero_any _ 236 _ (unhide HHZ) (by omega)).mono ?_; rintro ee u1 ⟨rfl, hb1⟩; have hB1 : Below W1.heap.size W1 u1 := (by first | exact hB1.trans (hb1.mono hB1.size) | exact hB1.drew.trans (hb1.mono hB1.size)); have hcc1 := cells_on (unhide HCW) (by omega) hB1; have hzz1 := hB1.size; clear hb1))
    go_wp2
    go_meet
    exact ⟨congrArg Value.string (unhide HJ), hide hB1⟩
  case rest =>
    obtain ⟨rfl, HBC⟩ := hcut
    rename World => wc
    clear hB1 hcc1
    have c11 : wc.cell? ⟨w.heap.size, 11, none⟩ = some (.slice sa os.length sc) := by
      rw [(unhide HBC).cell (p := ⟨w.heap.size, 11, none⟩) (by show w.heap.size < _; omega), unhide HCW 11]; rfl
    have HBW : Hid (Below w.heap.size w wc) := hide ((unhide HW1).trans ((unhide HBC).mono (by omega)))
    clear HBC HCW HHZ HJ HW1 haddZ
    go_wp2
    clear c11
    go_loopw [4, 48] (fun s4 i wr => ∃ k : Nat, k ≤ os.length ∧ i = .int .i64 k ∧ s4 = .string ⟨(H ++ opts8 (os.take k)).toArray⟩ ∧ Hid (bad (os.take k) = false) ∧ Hid (Below w.heap.size w wr)) (fun _ i _ => os.length - (intOf i).toNat)
    case atStart => exact ⟨0, Nat.zero_le _, rfl, by simp [opts8], hide rfl, HBW⟩
    case round =>
      obtain ⟨k, hk, rfl, rfl, HBD, HW⟩ := hrel
      rename World => wr
      have hkl := opts8_le os k
      obtain ⟨X, hX⟩ : ∃ X, H ++ opts8 (os.take k) = X := ⟨_, rfl⟩
      have hXl : X.length ≤ 4195776 := by rw [← hX, List.length_append]; omega
      by_cases hlt : k < os.length
      · obtain ⟨ad, rfl, c0, c1⟩ := (unhide HA).below (unhide HW) (Nat.le_refl _) k hlt
        obtain ⟨oc, od, hcd⟩ : ∃ x y, os[k] = (x, y) := ⟨_, _, rfl⟩
        rw [hcd] at c0 c1
        simp only at c0 c1
        have hd : od.length ≤ 2097152 := by have := heavy_one os k hlt; rw [hcd] at this; simp only at this; omega
        have hbadk := bad_take hlt (unhide HBD)
        have hbat := @bad_at os k hlt
        rw [hcd] at hbadk hbat
        have HT := hide (opts8_take os k hlt)
        rw [hcd] at HT
        rw [hX]
        have HX := hide hX
        have hc8 := oc.toNat_lt
        clear hcd hX
        by_cases hb : badC oc = true
        · have hbd := hbat hb
          have HE1 : Hid (dhE true xid 0 yo ne [a, b, c, d, e, f] os = 2) := hide (by rw [dhE, if_pos hbd])
          have HE2 : Hid (dhS true xid 0 yo ne [a, b, c, d, e, f] os = ⟨#[]⟩) := hide (by rw [dhS, if_pos hbd])
          have hbb : oc.toNat = 0 ∨ oc.toNat = 52 ∨ oc.toNat = 255 := by simpa [badC, or_assoc] using hb
          clear hb hbat hbadk hbd
          rcases hbb with e0 | e0 | e0
          all_goals
            rw [e0] at c0
            clear e0
            go_wp2
            go_ret2
            exact ⟨by rw [unhide HE1, unhide HE2]; rfl, (unhide HW).alloc (unhide HW).size _⟩
        · have HB2 := hide (hbadk (by simpa using hb))
          have hbb : ¬ oc.toNat = 0 ∧ ¬ oc.toNat = 52 ∧ ¬ oc.toNat = 255 := by simpa [badC, and_assoc] using hb
          obtain ⟨g0, g1, g2⟩ := hbb
          have q0 : (((oc.toNat : Nat) : Int) == 0) = false := by simp; omega
          have q1 : (((oc.toNat : Nat) : Int) == 52) = false := by simp; omega
          have q2 : (((oc.toNat : Nat) : Int) == 255) = false := by simp; omega
          clear hb hbat hbadk g0 g1 g2
          obtain ⟨Wi, hWi⟩ : ∃ Wi, Wi = wr.alloc (.cells #[.int .u8 oc.toNat, .string ⟨od.toArray⟩] 87) := ⟨_, rfl⟩
          have hoc : ∀ wi, Below (wr.heap.size + 1) Wi wi → wi.cell? ⟨wr.heap.size, 0, none⟩ = some (.int .u8 oc.toNat) := fun wi hbi => by
            rw [hbi.cell (p := ⟨wr.heap.size, 0, none⟩) (by show wr.heap.size < _; omega), hWi, cell_of_row _ wr.heap.size 0 _ _ (0, 0) (heap_alloc_new wr _)]; rfl
          have HOC := hide hoc
          have HWI : Hid (Below w.heap.size w Wi ∧ Wi.heap.size = wr.heap.size + 1) := hide (by rw [hWi]; exact ⟨(unhide HW).alloc (unhide HW).size _, by simp⟩)
          have HWW := hide hWi
          clear hoc hWi
          go_wp2
          rw [← unhide HWW]
          clear HWW c0 c1 q0 q1 q2
          go_loopg [4, 7] od.length (fun g s4 s7 wi => ∃ m done : List UInt8, m.length = g ∧ g ≤ od.length ∧ s7 = .string ⟨m.toArray⟩ ∧ s4 = .string ⟨(X ++ done).toArray⟩ ∧ Hid (done ++ opt8 oc m = opt8 oc od) ∧ Hid (done.length ≤ 2 * (od.length - g)) ∧ Hid (Below (wr.heap.size + 1) Wi wi))
          case atStart => exact ⟨od, [], rfl, Nat.le_refl _, rfl, by simp, hide rfl, hide (by simp), hide (Below.refl _ _)⟩
          case round =>
            obtain ⟨m, done, hm, hg, rfl, rfl, H2, H3, H4⟩ := hrel
            rename World => wi
            have o0 := unhide HOC _ (unhide H4)
            have hgl := unhide H3
            obtain ⟨s, hS⟩ : ∃ s : ByteArray, s = ⟨m.toArray⟩ := ⟨_, rfl⟩
            have hz' : s.size = m.length := by rw [hS]; exact str_size m
            obtain ⟨t, hT⟩ : ∃ t : ByteArray, t = ⟨(X ++ done).toArray⟩ := ⟨_, rfl⟩
            have ht' : t.size ≤ 8390080 := by rw [hT, str_size, List.length_append]; omega
            by_cases hlt2 : 255 < m.length
            · have hgt : (255 : Int) < (s.size : Int) := by omega
              have hs1 : s.size ≤ 9223372036854775807 := by omega
              have hez : (s.extract 0 255).size = 255 := by rw [ByteArray.size_extract]; omega
              have hcv1 := conv_two wi oc.toNat 255 (by omega) (by omega)
              have hcv2 := conv_drew wi oc.toNat 255 (by omega) (by omega)
              have had1 := fun u => run_string_add_sum (P := Try.prog) u ⟨#[by8 (oc.toNat : Int), by8 255]⟩ (s.extract 0 255) (by show 2 + _ ≤ _; omega)
              have had2 := fun u => run_string_add_sum (P := Try.prog) u t (⟨#[by8 (oc.toNat : Int), by8 255]⟩ ++ s.extract 0 255) (by rw [ByteArray.size_append]; show _ + (2 + _) ≤ _; omega)
              have HD : Hid (s.extract 255 s.size = ⟨(m.drop 255).toArray⟩) := hide (by rw [hS]; exact str_drop m 255)
              have HE : Hid (t ++ (⟨#[by8 (oc.toNat : Int), by8 255]⟩ ++ s.extract 0 255) = ⟨(X ++ (done ++ (oc :: 255 :: m.take 255))).toArray⟩) := hide (by
                rw [hT, hS, str_take, by8_nat]
                apply ByteArray.ext
                apply Array.ext'
                simp [ByteArray.data_append]
                decide)
              have HG := hide hm
              have HLT := hide hlt2
              rw [← hS, ← hT]
              clear hS hT hz' ht' hm hgl hlt2 hez
              go_wp2
              go_region
              all_goals go_wp2
              all_goals go_roundg (gk - 255)
              all_goals first
                | (have := unhide HG; have := unhide HLT; omega)
                | (refine ⟨m.drop 255, done ++ (oc :: 255 :: m.take 255), by have := unhide HG; rw [List.length_drop]; omega, by omega, congrArg Value.string (unhide HD), congrArg Value.string (unhide HE), hide ?_, hide ?_, hide (by first | exact ((unhide H4).alloc (by have q := (unhide H4).size; rw [(unhide HWI).2] at q; exact q) _).drew | exact (unhide H4).drew.alloc (by have q := (unhide H4).size; rw [(unhide HWI).2] at q; exact q) _)⟩
                   · rw [← unhide H2, opt8_long oc m (unhide HLT)]; simp
                   · have := unhide H3
                     have := unhide HG
                     have := unhide HLT
                     rw [List.length_append, List.length_cons, List.length_cons, List.length_take]
                     omega)
            · have hgt : ¬ (255 : Int) < (s.size : Int) := by omega
              have hqs : IntKind.u8.wrap (s.size : Int) = (s.size : Int) := by rw [IntKind.wrap_u8]; omega
              have hcv1 := conv_two wi oc.toNat s.size (by omega) (by omega)
              have had1 := fun u => run_string_add_sum (P := Try.prog) u ⟨#[by8 (oc.toNat : Int), by8 (s.size : Int)]⟩ s (by show 2 + _ ≤ _; omega)
              have had2 := fun u => run_string_add_sum (P := Try.prog) u t (⟨#[by8 (oc.toNat : Int), by8 (s.size : Int)]⟩ ++ s) (by rw [ByteArray.size_append]; show _ + (2 + _) ≤ _; omega)
              have HE : Hid (t ++ (⟨#[by8 (oc.toNat : Int), by8 (s.size : Int)]⟩ ++ s) = ⟨(H ++ opts8 (os.take (k + 1))).toArray⟩) := hide (by
                rw [unhide HT, ← List.append_assoc, unhide HX, ← unhide H2, opt8_short oc m hlt2, hz', hT, hS, by8_nat, by8_len]
                apply ByteArray.ext
                apply Array.ext'
                simp [ByteArray.data_append])
              rw [← hS, ← hT]
              clear hS hT hz' ht' hm hgl hlt2
              go_wp2
              go_roundw
              case rel => exact ⟨k + 1, by omega, by go_num, congrArg Value.string (unhide HE), HB2, hide ((unhide HWI).1.trans (((unhide H4).alloc (by have q := (unhide H4).size; rw [(unhide HWI).2] at q; exact q) _).mono (by have := (unhide HW).size; omega)))⟩
              case measure => simp [intOf]; omega
      · have e0 : k = os.length := by omega
        subst e0
        rw [List.take_length] at hX hkl
        have hnb := unhide HBD
        rw [List.take_length] at hnb ⊢
        have hX255 : X ++ [255] = allL true xid 0 yo ne [a, b, c, d, e, f] os := by rw [← hX]; exact unhide HALL
        obtain ⟨t, hT⟩ : ∃ t : ByteArray, t = ⟨X.toArray⟩ := ⟨_, rfl⟩
        have ht' : t.size = X.length := by rw [hT]; exact str_size X
        have had1 := fun u => run_string_add_sum (P := Try.prog) u t ⟨#[255]⟩ (by show _ + 1 ≤ _; omega)
        obtain ⟨z, hZ⟩ : ∃ z : ByteArray, z = ⟨(fullL (allL true xid 0 yo ne [a, b, c, d, e, f] os)).toArray⟩ := ⟨_, rfl⟩
        have HZC : Hid (∀ u, Calls Try.prog 47 #[.string (t ++ ⟨#[255]⟩), .int .i64 300] u fun ee w' => ee = .returned (.string z) ∧ Below u.heap.size u w') := hide (fun u => zero_end X _ t z hT hX255 hZ (by omega) u)
        have hzl : (1472 < z.size) = (1472 < (allL true xid 0 yo ne [a, b, c, d, e, f] os).length) := by rw [hZ, str_size, fullL_length]
        have HZ := hide hZ
        rw [hX, ← hT]
        by_cases hbig : 1472 < (allL true xid 0 yo ne [a, b, c, d, e, f] os).length
        · have hzz2 : 1472 < z.size := by rw [hzl]; exact hbig
          have hgt : (1472 : Int) < (z.size : Int) := by omega
          have HE1 : Hid (dhE true xid 0 yo ne [a, b, c, d, e, f] os = 7) := hide (by rw [dhE, hnb, if_neg (by decide), if_pos hbig])
          have HE2 : Hid (dhS true xid 0 yo ne [a, b, c, d, e, f] os = ⟨#[]⟩) := hide (by rw [dhS, hnb, if_neg (by decide), if_pos hbig])
          clear hX hT hZ hzl hbig hX255 hzz2 ht' hnb
          go_wp2_with fail
          refine (unhide HZC _).mono ?_
          rintro ee w9 ⟨rfl, hb9⟩
          have HB9 := hide hb9
          clear hb9
          go_wp2
          go_ret2
          exact ⟨by rw [unhide HE1, unhide HE2]; rfl, (unhide HW).trans ((unhide HB9).mono (unhide HW).size)⟩
        · have hzz2 : ¬ 1472 < z.size := by rw [hzl]; exact hbig
          have hgt : ¬ (1472 : Int) < (z.size : Int) := by omega
          have HE1 : Hid (dhE true xid 0 yo ne [a, b, c, d, e, f] os = 0) := hide (by rw [dhE, hnb, if_neg (by decide), if_neg hbig])
          have HE2 : Hid (dhS true xid 0 yo ne [a, b, c, d, e, f] os = z) := hide (by rw [dhS, hnb, if_neg (by decide), if_neg hbig, hZ])
          clear hX hT hZ hzl hbig hX255 hzz2 ht' hnb
          go_wp2_with fail
          refine (unhide HZC _).mono ?_
          rintro ee w9 ⟨rfl, hb9⟩
          have HB9 := hide hb9
          clear hb9
          go_wp2
          go_ret2
          exact ⟨by rw [unhide HE1, unhide HE2]; rfl, (unhide HW).trans ((unhide HB9).mono (unhide HW).size)⟩

set_option maxHeartbeats 16000000 in
set_option maxRecDepth 10000 in
theorem ref_rn (xid cl yo ne : Int) (a b c d e f : UInt8) (sa : Option Addr) (sc : Nat) (os : Opts) (w : World) (hx : 0 ≤ xid ∧ xid ≤ 4294967295) (hc : 0 ≤ cl ∧ cl ≤ 4294967295) (hy : 0 ≤ yo ∧ yo ≤ 4294967295) (hn : 0 ≤ ne ∧ ne ≤ 4294967295) (hA : At w sa os) (hl : heavy os ≤ 2097152) (hz : ¬ cl = 0) :
    Calls Try.prog 36 #[.agg #[.bool true, .int .u32 xid, .int .u32 cl, .int .u32 yo, .int .u32 ne, .int .u8 a.toNat, .int .u8 b.toNat, .int .u8 c.toNat, .int .u8 d.toNat, .int .u8 e.toNat, .int .u8 f.toNat, .slice sa os.length sc]] w fun ee w' =>
      ee = .returned (.tuple #[.string (dhS true xid cl yo ne [a, b, c, d, e, f] os), .int .i64 (dhE true xid cl yo ne [a, b, c, d, e, f] os)]) ∧ Below w.heap.size w w' := by
  have hlen : os.length ≤ heavy os := by unfold heavy; omega
  have hh8 := opts8_heavy os
  obtain ⟨hx0, hx1⟩ := hx
  obtain ⟨hy0, hy1⟩ := hy
  obtain ⟨hn0, hn1⟩ := hn
  obtain ⟨hc0, hc1⟩ := hc
  have hzz : (cl == 0) = false := by simpa using hz
  have hqx : IntKind.i64.wrap xid = xid := wrap_i64 _ (by omega) (by omega)
  have HBX := hide (big_any xid 4 (w.alloc (.cells #[.bool true, .int .u32 xid, .int .u32 cl, .int .u32 yo, .int .u32 ne, .int .u8 a.toNat, .int .u8 b.toNat, .int .u8 c.toNat, .int .u8 d.toNat, .int .u8 e.toNat, .int .u8 f.toNat, .slice sa os.length sc] 57)) hx0 (by omega) (by omega))
  obtain ⟨H, hH⟩ : ∃ H, H = headL 2 0 xid cl yo ne [a, b, c, d, e, f] := ⟨_, rfl⟩
  have hHl : H.length = 240 := by rw [hH]; exact headL_length _ _ _ _ _ _ _ rfl
  have HJ : Hid (zeroS ((⟨#[2, 1, 6, 0]⟩ : ByteArray) ++ (⟨#[by8 (xid / 256 / 256 / 256), by8 (xid / 256 / 256), by8 (xid / 256), by8 xid]⟩ ++ ⟨#[0, 0]⟩) ++ (⟨#[0, 0]⟩ : ByteArray) ++ ⟨#[by8 (cl / 256 / 256 / 256), by8 (cl / 256 / 256), by8 (cl / 256), by8 cl]⟩ ++ ⟨#[by8 (yo / 256 / 256 / 256), by8 (yo / 256 / 256), by8 (yo / 256), by8 yo]⟩ ++ ⟨#[by8 (ne / 256 / 256 / 256), by8 (ne / 256 / 256), by8 (ne / 256), by8 ne]⟩ ++ ⟨#[0, 0, 0, 0]⟩ ++ ⟨#[a, b, c, d, e, f]⟩) 236 ++ ⟨#[99, 130, 83, 99]⟩ = ⟨H.toArray⟩) := hide (by rw [hH]; exact head_join 2 0 xid cl yo ne a b c d e f _ _ _ rfl rfl (by first | rfl | decide))
  have HALL : Hid (H ++ opts8 os ++ [255] = allL true xid cl yo ne [a, b, c, d, e, f] os) := hide (by rw [hH, allL, show flI cl = 0 from if_neg hz]; rfl)
  have hzs : (zeroS ((⟨#[2, 1, 6, 0]⟩ : ByteArray) ++ (⟨#[by8 (xid / 256 / 256 / 256), by8 (xid / 256 / 256), by8 (xid / 256), by8 xid]⟩ ++ ⟨#[0, 0]⟩) ++ (⟨#[0, 0]⟩ : ByteArray) ++ ⟨#[by8 (cl / 256 / 256 / 256), by8 (cl / 256 / 256), by8 (cl / 256), by8 cl]⟩ ++ ⟨#[by8 (yo / 256 / 256 / 256), by8 (yo / 256 / 256), by8 (yo / 256), by8 yo]⟩ ++ ⟨#[by8 (ne / 256 / 256 / 256), by8 (ne / 256 / 256), by8 (ne / 256), by8 ne]⟩ ++ ⟨#[0, 0, 0, 0]⟩ ++ ⟨#[a, b, c, d, e, f]⟩) 236).size + 4 = 240 := by
    have q := congrArg ByteArray.size (unhide HJ)
    rw [ByteArray.size_append, str_size] at q
    have q2 := q.trans hHl
    exact q2
  have haddZ := fun u => run_string_add_sum (P := Try.prog) u (zeroS ((⟨#[2, 1, 6, 0]⟩ : ByteArray) ++ (⟨#[by8 (xid / 256 / 256 / 256), by8 (xid / 256 / 256), by8 (xid / 256), by8 xid]⟩ ++ ⟨#[0, 0]⟩) ++ (⟨#[0, 0]⟩ : ByteArray) ++ ⟨#[by8 (cl / 256 / 256 / 256), by8 (cl / 256 / 256), by8 (cl / 256), by8 cl]⟩ ++ ⟨#[by8 (yo / 256 / 256 / 256), by8 (yo / 256 / 256), by8 (yo / 256), by8 yo]⟩ ++ ⟨#[by8 (ne / 256 / 256 / 256), by8 (ne / 256 / 256), by8 (ne / 256), by8 ne]⟩ ++ ⟨#[0, 0, 0, 0]⟩ ++ ⟨#[a, b, c, d, e, f]⟩) 236) ⟨#[99, 130, 83, 99]⟩ (by show _ + 4 ≤ _; omega)
  have HA := hide hA
  clear hA hH hzs
  go_enter Try.func36, Try.ntmps36
  go_wp2_with fail
  refine (unhide HBX).mono ?_
  rintro ee w1 ⟨rfl, hb1⟩
  have hcW := six_cells' hb1
  have hzW : w.heap.size + 1 ≤ w1.heap.size := by have := hb1.size; simpa using this
  have HW1 : Hid (Below w.heap.size w w1) := hide (((Below.refl _ _).alloc (Nat.le_refl _) _).trans (hb1.mono (by simp)))
  clear hb1 HBX
  simp only [bigL, List.nil_append, List.cons_append]
  obtain ⟨W1, hW1⟩ : ∃ W1, W1 = w1 := ⟨_, rfl⟩
  rw [← hW1] at hcW hzW HW1
  subst hW1
  have HCW := hide hcW
  have HHZ := hide (show ((⟨#[2, 1, 6, 0]⟩ : ByteArray) ++ (⟨#[by8 (xid / 256 / 256 / 256), by8 (xid / 256 / 256), by8 (xid / 256), by8 xid]⟩ ++ ⟨#[0, 0]⟩) ++ (⟨#[0, 0]⟩ : ByteArray) ++ ⟨#[by8 (cl / 256 / 256 / 256), by8 (cl / 256 / 256), by8 (cl / 256), by8 cl]⟩ ++ ⟨#[by8 (yo / 256 / 256 / 256), by8 (yo / 256 / 256), by8 (yo / 256), by8 yo]⟩ ++ ⟨#[by8 (ne / 256 / 256 / 256), by8 (ne / 256 / 256), by8 (ne / 256), by8 ne]⟩ ++ ⟨#[0, 0, 0, 0]⟩ ++ ⟨#[a, b, c, d, e, f]⟩).size ≤ 1099511627776 by show 34 ≤ _; omega)
  have hB1 : Below W1.heap.size W1 W1 := Below.refl _ _
  have hcc1 := hcW
  clear hcW
  go_wp2
  go_cut [4] (fun s4 wc => s4 = .string ⟨H.toArray⟩ ∧ Hid (Below W1.heap.size W1 wc))
  case first =>
    go_region_held3 (fun u => u.cell? ⟨w.heap.size, 2, none⟩ = some (.int .u32 cl) ∧ u.cell? ⟨w.heap.size, 3, none⟩ = some (.int .u32 yo) ∧ u.cell? ⟨w.heap.size, 4, none⟩ = some (.int .u32 ne) ∧ u.cell? ⟨w.heap.size, 5, none⟩ = some (.int .u8 a.toNat) ∧ u.cell? ⟨w.heap.size, 6, none⟩ = some (.int .u8 b.toNat) ∧ u.cell? ⟨w.heap.size, 7, none⟩ = some (.int .u8 c.toNat) ∧ u.cell? ⟨w.heap.size, 8, none⟩ = some (.int .u8 d.toNat) ∧ u.cell? ⟨w.heap.size, 9, none⟩ = some (.int .u8 e.toNat) ∧ u.cell? ⟨w.heap.size, 10, none⟩ = some (.int .u8 f.toNat)) (go_keep)
      (first | (go_at_call 53; refine (ip_zero _).mono ?_; rintro ee u1 ⟨rfl, hb1⟩; have hB1 : Below W1.heap.size W1 u1 := (by first | exact hB1.trans (hb1.mono hB1.size) | exact hB1.drew.trans (hb1.mono hB1.size)); have hcc1 := cells_on (unhide HCW) (by omega) hB1; have hzz1 := hB1.size; clear hb1) | (go_at_call 53; refine (ip_lit _ _ (by omega) (by omega)).mono ?_; rintro ee u1 ⟨rfl, hb1⟩; have hB1 : Below W1.heap.size W1 u1 := (by first | exact hB1.trans (hb1.mono hB1.size) | exact hB1.drew.trans (hb1.mono hB1.size)); have hcc1 := cells_on (unhide HCW) (by omega) hB1; have hzz1 := hB1.size; clear hb1) | (go_at_call 48; refine (mac_any _ _ _ _ _ _ _).mono ?_; rintro ee u1 ⟨rfl, hb1⟩; have hB1 : Below W1.heap.size W1 u1 := (by first | exact hB1.trans (hb1.mono hB1.size) | exact hB1.drew.trans (hb1.mono hB1.size)); have hcc1 := cells_on (unhide HCW) (by omega) hB1; have hzz1 := hB1.size; clear hb1) | (go_at_call 47; refine (zero_any _ 236 _ (unhide HHZ) (by omega)).mono ?_; rintro ee u1 ⟨rfl, hb1⟩; have hB1 : Below W1.heap.size W1 u1 := (by first | exact hB1.trans (hb1.mono hB1.size) | exact hB1.drew.trans (hb1.mono hB1.size)); have hcc1 := cells_on (unhide HCW) (by omega) hB1; have hzz1 := hB1.size; clear hb1))
    go_wp2
    go_meet
    exact ⟨congrArg Value.string (unhide HJ), hide hB1⟩
  case rest =>
    obtain ⟨rfl, HBC⟩ := hcut
    rename World => wc
    clear hB1 hcc1
    have c11 : wc.cell? ⟨w.heap.size, 11, none⟩ = some (.slice sa os.length sc) := by
      rw [(unhide HBC).cell (p := ⟨w.heap.size, 11, none⟩) (by show w.heap.size < _; omega), unhide HCW 11]; rfl
    have HBW : Hid (Below w.heap.size w wc) := hide ((unhide HW1).trans ((unhide HBC).mono (by omega)))
    clear HBC HCW HHZ HJ HW1 haddZ
    go_wp2
    clear c11
    go_loopw [4, 48] (fun s4 i wr => ∃ k : Nat, k ≤ os.length ∧ i = .int .i64 k ∧ s4 = .string ⟨(H ++ opts8 (os.take k)).toArray⟩ ∧ Hid (bad (os.take k) = false) ∧ Hid (Below w.heap.size w wr)) (fun _ i _ => os.length - (intOf i).toNat)
    case atStart => exact ⟨0, Nat.zero_le _, rfl, by simp [opts8], hide rfl, HBW⟩
    case round =>
      obtain ⟨k, hk, rfl, rfl, HBD, HW⟩ := hrel
      rename World => wr
      have hkl := opts8_le os k
      obtain ⟨X, hX⟩ : ∃ X, H ++ opts8 (os.take k) = X := ⟨_, rfl⟩
      have hXl : X.length ≤ 4195776 := by rw [← hX, List.length_append]; omega
      by_cases hlt : k < os.length
      · obtain ⟨ad, rfl, c0, c1⟩ := (unhide HA).below (unhide HW) (Nat.le_refl _) k hlt
        obtain ⟨oc, od, hcd⟩ : ∃ x y, os[k] = (x, y) := ⟨_, _, rfl⟩
        rw [hcd] at c0 c1
        simp only at c0 c1
        have hd : od.length ≤ 2097152 := by have := heavy_one os k hlt; rw [hcd] at this; simp only at this; omega
        have hbadk := bad_take hlt (unhide HBD)
        have hbat := @bad_at os k hlt
        rw [hcd] at hbadk hbat
        have HT := hide (opts8_take os k hlt)
        rw [hcd] at HT
        rw [hX]
        have HX := hide hX
        have hc8 := oc.toNat_lt
        clear hcd hX
        by_cases hb : badC oc = true
        · have hbd := hbat hb
          have HE1 : Hid (dhE true xid cl yo ne [a, b, c, d, e, f] os = 2) := hide (by rw [dhE, if_pos hbd])
          have HE2 : Hid (dhS true xid cl yo ne [a, b, c, d, e, f] os = ⟨#[]⟩) := hide (by rw [dhS, if_pos hbd])
          have hbb : oc.toNat = 0 ∨ oc.toNat = 52 ∨ oc.toNat = 255 := by simpa [badC, or_assoc] using hb
          clear hb hbat hbadk hbd
          rcases hbb with e0 | e0 | e0
          all_goals
            rw [e0] at c0
            clear e0
            go_wp2
            go_ret2
            exact ⟨by rw [unhide HE1, unhide HE2]; rfl, (unhide HW).alloc (unhide HW).size _⟩
        · have HB2 := hide (hbadk (by simpa using hb))
          have hbb : ¬ oc.toNat = 0 ∧ ¬ oc.toNat = 52 ∧ ¬ oc.toNat = 255 := by simpa [badC, and_assoc] using hb
          obtain ⟨g0, g1, g2⟩ := hbb
          have q0 : (((oc.toNat : Nat) : Int) == 0) = false := by simp; omega
          have q1 : (((oc.toNat : Nat) : Int) == 52) = false := by simp; omega
          have q2 : (((oc.toNat : Nat) : Int) == 255) = false := by simp; omega
          clear hb hbat hbadk g0 g1 g2
          obtain ⟨Wi, hWi⟩ : ∃ Wi, Wi = wr.alloc (.cells #[.int .u8 oc.toNat, .string ⟨od.toArray⟩] 87) := ⟨_, rfl⟩
          have hoc : ∀ wi, Below (wr.heap.size + 1) Wi wi → wi.cell? ⟨wr.heap.size, 0, none⟩ = some (.int .u8 oc.toNat) := fun wi hbi => by
            rw [hbi.cell (p := ⟨wr.heap.size, 0, none⟩) (by show wr.heap.size < _; omega), hWi, cell_of_row _ wr.heap.size 0 _ _ (0, 0) (heap_alloc_new wr _)]; rfl
          have HOC := hide hoc
          have HWI : Hid (Below w.heap.size w Wi ∧ Wi.heap.size = wr.heap.size + 1) := hide (by rw [hWi]; exact ⟨(unhide HW).alloc (unhide HW).size _, by simp⟩)
          have HWW := hide hWi
          clear hoc hWi
          go_wp2
          rw [← unhide HWW]
          clear HWW c0 c1 q0 q1 q2
          go_loopg [4, 7] od.length (fun g s4 s7 wi => ∃ m done : List UInt8, m.length = g ∧ g ≤ od.length ∧ s7 = .string ⟨m.toArray⟩ ∧ s4 = .string ⟨(X ++ done).toArray⟩ ∧ Hid (done ++ opt8 oc m = opt8 oc od) ∧ Hid (done.length ≤ 2 * (od.length - g)) ∧ Hid (Below (wr.heap.size + 1) Wi wi))
          case atStart => exact ⟨od, [], rfl, Nat.le_refl _, rfl, by simp, hide rfl, hide (by simp), hide (Below.refl _ _)⟩
          case round =>
            obtain ⟨m, done, hm, hg, rfl, rfl, H2, H3, H4⟩ := hrel
            rename World => wi
            have o0 := unhide HOC _ (unhide H4)
            have hgl := unhide H3
            obtain ⟨s, hS⟩ : ∃ s : ByteArray, s = ⟨m.toArray⟩ := ⟨_, rfl⟩
            have hz' : s.size = m.length := by rw [hS]; exact str_size m
            obtain ⟨t, hT⟩ : ∃ t : ByteArray, t = ⟨(X ++ done).toArray⟩ := ⟨_, rfl⟩
            have ht' : t.size ≤ 8390080 := by rw [hT, str_size, List.length_append]; omega
            by_cases hlt2 : 255 < m.length
            · have hgt : (255 : Int) < (s.size : Int) := by omega
              have hs1 : s.size ≤ 9223372036854775807 := by omega
              have hez : (s.extract 0 255).size = 255 := by rw [ByteArray.size_extract]; omega
              have hcv1 := conv_two wi oc.toNat 255 (by omega) (by omega)
              have hcv2 := conv_drew wi oc.toNat 255 (by omega) (by omega)
              have had1 := fun u => run_string_add_sum (P := Try.prog) u ⟨#[by8 (oc.toNat : Int), by8 255]⟩ (s.extract 0 255) (by show 2 + _ ≤ _; omega)
              have had2 := fun u => run_string_add_sum (P := Try.prog) u t (⟨#[by8 (oc.toNat : Int), by8 255]⟩ ++ s.extract 0 255) (by rw [ByteArray.size_append]; show _ + (2 + _) ≤ _; omega)
              have HD : Hid (s.extract 255 s.size = ⟨(m.drop 255).toArray⟩) := hide (by rw [hS]; exact str_drop m 255)
              have HE : Hid (t ++ (⟨#[by8 (oc.toNat : Int), by8 255]⟩ ++ s.extract 0 255) = ⟨(X ++ (done ++ (oc :: 255 :: m.take 255))).toArray⟩) := hide (by
                rw [hT, hS, str_take, by8_nat]
                apply ByteArray.ext
                apply Array.ext'
                simp [ByteArray.data_append]
                decide)
              have HG := hide hm
              have HLT := hide hlt2
              rw [← hS, ← hT]
              clear hS hT hz' ht' hm hgl hlt2 hez
              go_wp2
              go_region
              all_goals go_wp2
              all_goals go_roundg (gk - 255)
              all_goals first
                | (have := unhide HG; have := unhide HLT; omega)
                | (refine ⟨m.drop 255, done ++ (oc :: 255 :: m.take 255), by have := unhide HG; rw [List.length_drop]; omega, by omega, congrArg Value.string (unhide HD), congrArg Value.string (unhide HE), hide ?_, hide ?_, hide (by first | exact ((unhide H4).alloc (by have q := (unhide H4).size; rw [(unhide HWI).2] at q; exact q) _).drew | exact (unhide H4).drew.alloc (by have q := (unhide H4).size; rw [(unhide HWI).2] at q; exact q) _)⟩
                   · rw [← unhide H2, opt8_long oc m (unhide HLT)]; simp
                   · have := unhide H3
                     have := unhide HG
                     have := unhide HLT
                     rw [List.length_append, List.length_cons, List.length_cons, List.length_take]
                     omega)
            · have hgt : ¬ (255 : Int) < (s.size : Int) := by omega
              have hqs : IntKind.u8.wrap (s.size : Int) = (s.size : Int) := by rw [IntKind.wrap_u8]; omega
              have hcv1 := conv_two wi oc.toNat s.size (by omega) (by omega)
              have had1 := fun u => run_string_add_sum (P := Try.prog) u ⟨#[by8 (oc.toNat : Int), by8 (s.size : Int)]⟩ s (by show 2 + _ ≤ _; omega)
              have had2 := fun u => run_string_add_sum (P := Try.prog) u t (⟨#[by8 (oc.toNat : Int), by8 (s.size : Int)]⟩ ++ s) (by rw [ByteArray.size_append]; show _ + (2 + _) ≤ _; omega)
              have HE : Hid (t ++ (⟨#[by8 (oc.toNat : Int), by8 (s.size : Int)]⟩ ++ s) = ⟨(H ++ opts8 (os.take (k + 1))).toArray⟩) := hide (by
                rw [unhide HT, ← List.append_assoc, unhide HX, ← unhide H2, opt8_short oc m hlt2, hz', hT, hS, by8_nat, by8_len]
                apply ByteArray.ext
                apply Array.ext'
                simp [ByteArray.data_append])
              rw [← hS, ← hT]
              clear hS hT hz' ht' hm hgl hlt2
              go_wp2
              go_roundw
              case rel => exact ⟨k + 1, by omega, by go_num, congrArg Value.string (unhide HE), HB2, hide ((unhide HWI).1.trans (((unhide H4).alloc (by have q := (unhide H4).size; rw [(unhide HWI).2] at q; exact q) _).mono (by have := (unhide HW).size; omega)))⟩
              case measure => simp [intOf]; omega
      · have e0 : k = os.length := by omega
        subst e0
        rw [List.take_length] at hX hkl
        have hnb := unhide HBD
        rw [List.take_length] at hnb ⊢
        have hX255 : X ++ [255] = allL true xid cl yo ne [a, b, c, d, e, f] os := by rw [← hX]; exact unhide HALL
        obtain ⟨t, hT⟩ : ∃ t : ByteArray, t = ⟨X.toArray⟩ := ⟨_, rfl⟩
        have ht' : t.size = X.length := by rw [hT]; exact str_size X
        have had1 := fun u => run_string_add_sum (P := Try.prog) u t ⟨#[255]⟩ (by show _ + 1 ≤ _; omega)
        obtain ⟨z, hZ⟩ : ∃ z : ByteArray, z = ⟨(fullL (allL true xid cl yo ne [a, b, c, d, e, f] os)).toArray⟩ := ⟨_, rfl⟩
        have HZC : Hid (∀ u, Calls Try.prog 47 #[.string (t ++ ⟨#[255]⟩), .int .i64 300] u fun ee w' => ee = .returned (.string z) ∧ Below u.heap.size u w') := hide (fun u => zero_end X _ t z hT hX255 hZ (by omega) u)
        have hzl : (1472 < z.size) = (1472 < (allL true xid cl yo ne [a, b, c, d, e, f] os).length) := by rw [hZ, str_size, fullL_length]
        have HZ := hide hZ
        rw [hX, ← hT]
        by_cases hbig : 1472 < (allL true xid cl yo ne [a, b, c, d, e, f] os).length
        · have hzz2 : 1472 < z.size := by rw [hzl]; exact hbig
          have hgt : (1472 : Int) < (z.size : Int) := by omega
          have HE1 : Hid (dhE true xid cl yo ne [a, b, c, d, e, f] os = 7) := hide (by rw [dhE, hnb, if_neg (by decide), if_pos hbig])
          have HE2 : Hid (dhS true xid cl yo ne [a, b, c, d, e, f] os = ⟨#[]⟩) := hide (by rw [dhS, hnb, if_neg (by decide), if_pos hbig])
          clear hX hT hZ hzl hbig hX255 hzz2 ht' hnb
          go_wp2_with fail
          refine (unhide HZC _).mono ?_
          rintro ee w9 ⟨rfl, hb9⟩
          have HB9 := hide hb9
          clear hb9
          go_wp2
          go_ret2
          exact ⟨by rw [unhide HE1, unhide HE2]; rfl, (unhide HW).trans ((unhide HB9).mono (unhide HW).size)⟩
        · have hzz2 : ¬ 1472 < z.size := by rw [hzl]; exact hbig
          have hgt : ¬ (1472 : Int) < (z.size : Int) := by omega
          have HE1 : Hid (dhE true xid cl yo ne [a, b, c, d, e, f] os = 0) := hide (by rw [dhE, hnb, if_neg (by decide), if_neg hbig])
          have HE2 : Hid (dhS true xid cl yo ne [a, b, c, d, e, f] os = z) := hide (by rw [dhS, hnb, if_neg (by decide), if_neg hbig, hZ])
          clear hX hT hZ hzl hbig hX255 hzz2 ht' hnb
          go_wp2_with fail
          refine (unhide HZC _).mono ?_
          rintro ee w9 ⟨rfl, hb9⟩
          have HB9 := hide hb9
          clear hb9
          go_wp2
          go_ret2
          exact ⟨by rw [unhide HE1, unhide HE2]; rfl, (unhide HW).trans ((unhide HB9).mono (unhide HW).size)⟩

set_option maxHeartbeats 16000000 in
set_option maxRecDepth 10000 in
theorem ref_qz (xid yo ne : Int) (a b c d e f : UInt8) (sa : Option Addr) (sc : Nat) (os : Opts) (w : World) (hx : 0 ≤ xid ∧ xid ≤ 4294967295) (hy : 0 ≤ yo ∧ yo ≤ 4294967295) (hn : 0 ≤ ne ∧ ne ≤ 4294967295) (hA : At w sa os) (hl : heavy os ≤ 2097152) :
    Calls Try.prog 36 #[.agg #[.bool false, .int .u32 xid, .int .u32 0, .int .u32 yo, .int .u32 ne, .int .u8 a.toNat, .int .u8 b.toNat, .int .u8 c.toNat, .int .u8 d.toNat, .int .u8 e.toNat, .int .u8 f.toNat, .slice sa os.length sc]] w fun ee w' =>
      ee = .returned (.tuple #[.string (dhS false xid 0 yo ne [a, b, c, d, e, f] os), .int .i64 (dhE false xid 0 yo ne [a, b, c, d, e, f] os)]) ∧ Below w.heap.size w w' := by
  have hlen : os.length ≤ heavy os := by unfold heavy; omega
  have hh8 := opts8_heavy os
  obtain ⟨hx0, hx1⟩ := hx
  obtain ⟨hy0, hy1⟩ := hy
  obtain ⟨hn0, hn1⟩ := hn
  have hcl0 := True.intro
  have hcl1 := True.intro
  have hqx : IntKind.i64.wrap xid = xid := wrap_i64 _ (by omega) (by omega)
  have HBX := hide (big_any xid 4 (w.alloc (.cells #[.bool false, .int .u32 xid, .int .u32 0, .int .u32 yo, .int .u32 ne, .int .u8 a.toNat, .int .u8 b.toNat, .int .u8 c.toNat, .int .u8 d.toNat, .int .u8 e.toNat, .int .u8 f.toNat, .slice sa os.length sc] 57)) hx0 (by omega) (by omega))
  obtain ⟨H, hH⟩ : ∃ H, H = headL 1 32768 xid 0 yo ne [a, b, c, d, e, f] := ⟨_, rfl⟩
  have hHl : H.length = 240 := by rw [hH]; exact headL_length _ _ _ _ _ _ _ rfl
  have HJ : Hid (zeroS ((⟨#[1, 1, 6, 0]⟩ : ByteArray) ++ (⟨#[by8 (xid / 256 / 256 / 256), by8 (xid / 256 / 256), by8 (xid / 256), by8 xid]⟩ ++ ⟨#[0, 0]⟩) ++ (⟨#[128, 0]⟩ : ByteArray) ++ ⟨#[0, 0, 0, 0]⟩ ++ ⟨#[by8 (yo / 256 / 256 / 256), by8 (yo / 256 / 256), by8 (yo / 256), by8 yo]⟩ ++ ⟨#[by8 (ne / 256 / 256 / 256), by8 (ne / 256 / 256), by8 (ne / 256), by8 ne]⟩ ++ ⟨#[0, 0, 0, 0]⟩ ++ ⟨#[a, b, c, d, e, f]⟩) 236 ++ ⟨#[99, 130, 83, 99]⟩ = ⟨H.toArray⟩) := hide (by rw [hH]; exact head_join 1 32768 xid 0 yo ne a b c d e f _ _ _ rfl rfl (by first | rfl | decide))
  have HALL : Hid (H ++ opts8 os ++ [255] = allL false xid 0 yo ne [a, b, c, d, e, f] os) := hide (by rw [hH]; rfl)
  have hzs : (zeroS ((⟨#[1, 1, 6, 0]⟩ : ByteArray) ++ (⟨#[by8 (xid / 256 / 256 / 256), by8 (xid / 256 / 256), by8 (xid / 256), by8 xid]⟩ ++ ⟨#[0, 0]⟩) ++ (⟨#[128, 0]⟩ : ByteArray) ++ ⟨#[0, 0, 0, 0]⟩ ++ ⟨#[by8 (yo / 256 / 256 / 256), by8 (yo / 256 / 256), by8 (yo / 256), by8 yo]⟩ ++ ⟨#[by8 (ne / 256 / 256 / 256), by8 (ne / 256 / 256), by8 (ne / 256), by8 ne]⟩ ++ ⟨#[0, 0, 0, 0]⟩ ++ ⟨#[a, b, c, d, e, f]⟩) 236).size + 4 = 240 := by
    have q := congrArg ByteArray.size (unhide HJ)
    rw [ByteArray.size_append, str_size] at q
    have q2 := q.trans hHl
    exact q2
  have haddZ := fun u => run_string_add_sum (P := Try.prog) u (zeroS ((⟨#[1, 1, 6, 0]⟩ : ByteArray) ++ (⟨#[by8 (xid / 256 / 256 / 256), by8 (xid / 256 / 256), by8 (xid / 256), by8 xid]⟩ ++ ⟨#[0, 0]⟩) ++ (⟨#[128, 0]⟩ : ByteArray) ++ ⟨#[0, 0, 0, 0]⟩ ++ ⟨#[by8 (yo / 256 / 256 / 256), by8 (yo / 256 / 256), by8 (yo / 256), by8 yo]⟩ ++ ⟨#[by8 (ne / 256 / 256 / 256), by8 (ne / 256 / 256), by8 (ne / 256), by8 ne]⟩ ++ ⟨#[0, 0, 0, 0]⟩ ++ ⟨#[a, b, c, d, e, f]⟩) 236) ⟨#[99, 130, 83, 99]⟩ (by show _ + 4 ≤ _; omega)
  have HA := hide hA
  clear hA hH hzs
  go_enter Try.func36, Try.ntmps36
  go_wp2_with fail
  refine (unhide HBX).mono ?_
  rintro ee w1 ⟨rfl, hb1⟩
  have hcW := six_cells' hb1
  have hzW : w.heap.size + 1 ≤ w1.heap.size := by have := hb1.size; simpa using this
  have HW1 : Hid (Below w.heap.size w w1) := hide (((Below.refl _ _).alloc (Nat.le_refl _) _).trans (hb1.mono (by simp)))
  clear hb1 HBX
  simp only [bigL, List.nil_append, List.cons_append]
  obtain ⟨W1, hW1⟩ : ∃ W1, W1 = w1 := ⟨_, rfl⟩
  rw [← hW1] at hcW hzW HW1
  subst hW1
  have HCW := hide hcW
  have HHZ := hide (show ((⟨#[1, 1, 6, 0]⟩ : ByteArray) ++ (⟨#[by8 (xid / 256 / 256 / 256), by8 (xid / 256 / 256), by8 (xid / 256), by8 xid]⟩ ++ ⟨#[0, 0]⟩) ++ (⟨#[128, 0]⟩ : ByteArray) ++ ⟨#[0, 0, 0, 0]⟩ ++ ⟨#[by8 (yo / 256 / 256 / 256), by8 (yo / 256 / 256), by8 (yo / 256), by8 yo]⟩ ++ ⟨#[by8 (ne / 256 / 256 / 256), by8 (ne / 256 / 256), by8 (ne / 256), by8 ne]⟩ ++ ⟨#[0, 0, 0, 0]⟩ ++ ⟨#[a, b, c, d, e, f]⟩).size ≤ 1099511627776 by show 34 ≤ _; omega)
  have hB1 : Below W1.heap.size W1 W1 := Below.refl _ _
  have hcc1 := hcW
  clear hcW
  go_wp2
  go_cut [4] (fun s4 wc => s4 = .string ⟨H.toArray⟩ ∧ Hid (Below W1.heap.size W1 wc))
  case first =>
    go_region_held3 (fun u => u.cell? ⟨w.heap.size, 2, none⟩ = some (.int .u32 0) ∧ u.cell? ⟨w.heap.size, 3, none⟩ = some (.int .u32 yo) ∧ u.cell? ⟨w.heap.size, 4, none⟩ = some (.int .u32 ne) ∧ u.cell? ⟨w.heap.size, 5, none⟩ = some (.int .u8 a.toNat) ∧ u.cell? ⟨w.heap.size, 6, none⟩ = some (.int .u8 b.toNat) ∧ u.cell? ⟨w.heap.size, 7, none⟩ = some (.int .u8 c.toNat) ∧ u.cell? ⟨w.heap.size, 8, none⟩ = some (.int .u8 d.toNat) ∧ u.cell? ⟨w.heap.size, 9, none⟩ = some (.int .u8 e.toNat) ∧ u.cell? ⟨w.heap.size, 10, none⟩ = some (.int .u8 f.toNat)) (go_keep)
      (first | (go_at_call 53; refine (ip_zero _).mono ?_; rintro ee u1 ⟨rfl, hb1⟩; have hB1 : Below W1.heap.size W1 u1 := (by first | exact hB1.trans (hb1.mono hB1.size) | exact hB1.drew.trans (hb1.mono hB1.size)); have hcc1 := cells_on (unhide HCW) (by omega) hB1; have hzz1 := hB1.size; clear hb1) | (go_at_call 53; refine (ip_lit _ _ (by omega) (by omega)).mono ?_; rintro ee u1 ⟨rfl, hb1⟩; have hB1 : Below W1.heap.size W1 u1 := (by first | exact hB1.trans (hb1.mono hB1.size) | exact hB1.drew.trans (hb1.mono hB1.size)); have hcc1 := cells_on (unhide HCW) (by omega) hB1; have hzz1 := hB1.size; clear hb1) | (go_at_call 48; refine (mac_any _ _ _ _ _ _ _).mono ?_; rintro ee u1 ⟨rfl, hb1⟩; have hB1 : Below W1.heap.size W1 u1 := (by first | exact hB1.trans (hb1.mono hB1.size) | exact hB1.drew.trans (hb1.mono hB1.size)); have hcc1 := cells_on (unhide HCW) (by omega) hB1; have hzz1 := hB1.size; clear hb1) | (go_at_call 47; refine (zero_any _ 236 _ (unhide HHZ) (by omega)).mono ?_; rintro ee u1 ⟨rfl, hb1⟩; have hB1 : Below W1.heap.size W1 u1 := (by first | exact hB1.trans (hb1.mono hB1.size) | exact hB1.drew.trans (hb1.mono hB1.size)); have hcc1 := cells_on (unhide HCW) (by omega) hB1; have hzz1 := hB1.size; clear hb1))
    go_wp2
    go_meet
    exact ⟨congrArg Value.string (unhide HJ), hide hB1⟩
  case rest =>
    obtain ⟨rfl, HBC⟩ := hcut
    rename World => wc
    clear hB1 hcc1
    have c11 : wc.cell? ⟨w.heap.size, 11, none⟩ = some (.slice sa os.length sc) := by
      rw [(unhide HBC).cell (p := ⟨w.heap.size, 11, none⟩) (by show w.heap.size < _; omega), unhide HCW 11]; rfl
    have HBW : Hid (Below w.heap.size w wc) := hide ((unhide HW1).trans ((unhide HBC).mono (by omega)))
    clear HBC HCW HHZ HJ HW1 haddZ
    go_wp2
    clear c11
    go_loopw [4, 48] (fun s4 i wr => ∃ k : Nat, k ≤ os.length ∧ i = .int .i64 k ∧ s4 = .string ⟨(H ++ opts8 (os.take k)).toArray⟩ ∧ Hid (bad (os.take k) = false) ∧ Hid (Below w.heap.size w wr)) (fun _ i _ => os.length - (intOf i).toNat)
    case atStart => exact ⟨0, Nat.zero_le _, rfl, by simp [opts8], hide rfl, HBW⟩
    case round =>
      obtain ⟨k, hk, rfl, rfl, HBD, HW⟩ := hrel
      rename World => wr
      have hkl := opts8_le os k
      obtain ⟨X, hX⟩ : ∃ X, H ++ opts8 (os.take k) = X := ⟨_, rfl⟩
      have hXl : X.length ≤ 4195776 := by rw [← hX, List.length_append]; omega
      by_cases hlt : k < os.length
      · obtain ⟨ad, rfl, c0, c1⟩ := (unhide HA).below (unhide HW) (Nat.le_refl _) k hlt
        obtain ⟨oc, od, hcd⟩ : ∃ x y, os[k] = (x, y) := ⟨_, _, rfl⟩
        rw [hcd] at c0 c1
        simp only at c0 c1
        have hd : od.length ≤ 2097152 := by have := heavy_one os k hlt; rw [hcd] at this; simp only at this; omega
        have hbadk := bad_take hlt (unhide HBD)
        have hbat := @bad_at os k hlt
        rw [hcd] at hbadk hbat
        have HT := hide (opts8_take os k hlt)
        rw [hcd] at HT
        rw [hX]
        have HX := hide hX
        have hc8 := oc.toNat_lt
        clear hcd hX
        by_cases hb : badC oc = true
        · have hbd := hbat hb
          have HE1 : Hid (dhE false xid 0 yo ne [a, b, c, d, e, f] os = 2) := hide (by rw [dhE, if_pos hbd])
          have HE2 : Hid (dhS false xid 0 yo ne [a, b, c, d, e, f] os = ⟨#[]⟩) := hide (by rw [dhS, if_pos hbd])
          have hbb : oc.toNat = 0 ∨ oc.toNat = 52 ∨ oc.toNat = 255 := by simpa [badC, or_assoc] using hb
          clear hb hbat hbadk hbd
          rcases hbb with e0 | e0 | e0
          all_goals
            rw [e0] at c0
            clear e0
            go_wp2
            go_ret2
            exact ⟨by rw [unhide HE1, unhide HE2]; rfl, (unhide HW).alloc (unhide HW).size _⟩
        · have HB2 := hide (hbadk (by simpa using hb))
          have hbb : ¬ oc.toNat = 0 ∧ ¬ oc.toNat = 52 ∧ ¬ oc.toNat = 255 := by simpa [badC, and_assoc] using hb
          obtain ⟨g0, g1, g2⟩ := hbb
          have q0 : (((oc.toNat : Nat) : Int) == 0) = false := by simp; omega
          have q1 : (((oc.toNat : Nat) : Int) == 52) = false := by simp; omega
          have q2 : (((oc.toNat : Nat) : Int) == 255) = false := by simp; omega
          clear hb hbat hbadk g0 g1 g2
          obtain ⟨Wi, hWi⟩ : ∃ Wi, Wi = wr.alloc (.cells #[.int .u8 oc.toNat, .string ⟨od.toArray⟩] 87) := ⟨_, rfl⟩
          have hoc : ∀ wi, Below (wr.heap.size + 1) Wi wi → wi.cell? ⟨wr.heap.size, 0, none⟩ = some (.int .u8 oc.toNat) := fun wi hbi => by
            rw [hbi.cell (p := ⟨wr.heap.size, 0, none⟩) (by show wr.heap.size < _; omega), hWi, cell_of_row _ wr.heap.size 0 _ _ (0, 0) (heap_alloc_new wr _)]; rfl
          have HOC := hide hoc
          have HWI : Hid (Below w.heap.size w Wi ∧ Wi.heap.size = wr.heap.size + 1) := hide (by rw [hWi]; exact ⟨(unhide HW).alloc (unhide HW).size _, by simp⟩)
          have HWW := hide hWi
          clear hoc hWi
          go_wp2
          rw [← unhide HWW]
          clear HWW c0 c1 q0 q1 q2
          go_loopg [4, 7] od.length (fun g s4 s7 wi => ∃ m done : List UInt8, m.length = g ∧ g ≤ od.length ∧ s7 = .string ⟨m.toArray⟩ ∧ s4 = .string ⟨(X ++ done).toArray⟩ ∧ Hid (done ++ opt8 oc m = opt8 oc od) ∧ Hid (done.length ≤ 2 * (od.length - g)) ∧ Hid (Below (wr.heap.size + 1) Wi wi))
          case atStart => exact ⟨od, [], rfl, Nat.le_refl _, rfl, by simp, hide rfl, hide (by simp), hide (Below.refl _ _)⟩
          case round =>
            obtain ⟨m, done, hm, hg, rfl, rfl, H2, H3, H4⟩ := hrel
            rename World => wi
            have o0 := unhide HOC _ (unhide H4)
            have hgl := unhide H3
            obtain ⟨s, hS⟩ : ∃ s : ByteArray, s = ⟨m.toArray⟩ := ⟨_, rfl⟩
            have hz' : s.size = m.length := by rw [hS]; exact str_size m
            obtain ⟨t, hT⟩ : ∃ t : ByteArray, t = ⟨(X ++ done).toArray⟩ := ⟨_, rfl⟩
            have ht' : t.size ≤ 8390080 := by rw [hT, str_size, List.length_append]; omega
            by_cases hlt2 : 255 < m.length
            · have hgt : (255 : Int) < (s.size : Int) := by omega
              have hs1 : s.size ≤ 9223372036854775807 := by omega
              have hez : (s.extract 0 255).size = 255 := by rw [ByteArray.size_extract]; omega
              have hcv1 := conv_two wi oc.toNat 255 (by omega) (by omega)
              have hcv2 := conv_drew wi oc.toNat 255 (by omega) (by omega)
              have had1 := fun u => run_string_add_sum (P := Try.prog) u ⟨#[by8 (oc.toNat : Int), by8 255]⟩ (s.extract 0 255) (by show 2 + _ ≤ _; omega)
              have had2 := fun u => run_string_add_sum (P := Try.prog) u t (⟨#[by8 (oc.toNat : Int), by8 255]⟩ ++ s.extract 0 255) (by rw [ByteArray.size_append]; show _ + (2 + _) ≤ _; omega)
              have HD : Hid (s.extract 255 s.size = ⟨(m.drop 255).toArray⟩) := hide (by rw [hS]; exact str_drop m 255)
              have HE : Hid (t ++ (⟨#[by8 (oc.toNat : Int), by8 255]⟩ ++ s.extract 0 255) = ⟨(X ++ (done ++ (oc :: 255 :: m.take 255))).toArray⟩) := hide (by
                rw [hT, hS, str_take, by8_nat]
                apply ByteArray.ext
                apply Array.ext'
                simp [ByteArray.data_append]
                decide)
              have HG := hide hm
              have HLT := hide hlt2
              rw [← hS, ← hT]
              clear hS hT hz' ht' hm hgl hlt2 hez
              go_wp2
              go_region
              all_goals go_wp2
              all_goals go_roundg (gk - 255)
              all_goals first
                | (have := unhide HG; have := unhide HLT; omega)
                | (refine ⟨m.drop 255, done ++ (oc :: 255 :: m.take 255), by have := unhide HG; rw [List.length_drop]; omega, by omega, congrArg Value.string (unhide HD), congrArg Value.string (unhide HE), hide ?_, hide ?_, hide (by first | exact ((unhide H4).alloc (by have q := (unhide H4).size; rw [(unhide HWI).2] at q; exact q) _).drew | exact (unhide H4).drew.alloc (by have q := (unhide H4).size; rw [(unhide HWI).2] at q; exact q) _)⟩
                   · rw [← unhide H2, opt8_long oc m (unhide HLT)]; simp
                   · have := unhide H3
                     have := unhide HG
                     have := unhide HLT
                     rw [List.length_append, List.length_cons, List.length_cons, List.length_take]
                     omega)
            · have hgt : ¬ (255 : Int) < (s.size : Int) := by omega
              have hqs : IntKind.u8.wrap (s.size : Int) = (s.size : Int) := by rw [IntKind.wrap_u8]; omega
              have hcv1 := conv_two wi oc.toNat s.size (by omega) (by omega)
              have had1 := fun u => run_string_add_sum (P := Try.prog) u ⟨#[by8 (oc.toNat : Int), by8 (s.size : Int)]⟩ s (by show 2 + _ ≤ _; omega)
              have had2 := fun u => run_string_add_sum (P := Try.prog) u t (⟨#[by8 (oc.toNat : Int), by8 (s.size : Int)]⟩ ++ s) (by rw [ByteArray.size_append]; show _ + (2 + _) ≤ _; omega)
              have HE : Hid (t ++ (⟨#[by8 (oc.toNat : Int), by8 (s.size : Int)]⟩ ++ s) = ⟨(H ++ opts8 (os.take (k + 1))).toArray⟩) := hide (by
                rw [unhide HT, ← List.append_assoc, unhide HX, ← unhide H2, opt8_short oc m hlt2, hz', hT, hS, by8_nat, by8_len]
                apply ByteArray.ext
                apply Array.ext'
                simp [ByteArray.data_append])
              rw [← hS, ← hT]
              clear hS hT hz' ht' hm hgl hlt2
              go_wp2
              go_roundw
              case rel => exact ⟨k + 1, by omega, by go_num, congrArg Value.string (unhide HE), HB2, hide ((unhide HWI).1.trans (((unhide H4).alloc (by have q := (unhide H4).size; rw [(unhide HWI).2] at q; exact q) _).mono (by have := (unhide HW).size; omega)))⟩
              case measure => simp [intOf]; omega
      · have e0 : k = os.length := by omega
        subst e0
        rw [List.take_length] at hX hkl
        have hnb := unhide HBD
        rw [List.take_length] at hnb ⊢
        have hX255 : X ++ [255] = allL false xid 0 yo ne [a, b, c, d, e, f] os := by rw [← hX]; exact unhide HALL
        obtain ⟨t, hT⟩ : ∃ t : ByteArray, t = ⟨X.toArray⟩ := ⟨_, rfl⟩
        have ht' : t.size = X.length := by rw [hT]; exact str_size X
        have had1 := fun u => run_string_add_sum (P := Try.prog) u t ⟨#[255]⟩ (by show _ + 1 ≤ _; omega)
        obtain ⟨z, hZ⟩ : ∃ z : ByteArray, z = ⟨(fullL (allL false xid 0 yo ne [a, b, c, d, e, f] os)).toArray⟩ := ⟨_, rfl⟩
        have HZC : Hid (∀ u, Calls Try.prog 47 #[.string (t ++ ⟨#[255]⟩), .int .i64 300] u fun ee w' => ee = .returned (.string z) ∧ Below u.heap.size u w') := hide (fun u => zero_end X _ t z hT hX255 hZ (by omega) u)
        have hzl : (1472 < z.size) = (1472 < (allL false xid 0 yo ne [a, b, c, d, e, f] os).length) := by rw [hZ, str_size, fullL_length]
        have HZ := hide hZ
        rw [hX, ← hT]
        by_cases hbig : 1472 < (allL false xid 0 yo ne [a, b, c, d, e, f] os).length
        · have hzz2 : 1472 < z.size := by rw [hzl]; exact hbig
          have hgt : (1472 : Int) < (z.size : Int) := by omega
          have HE1 : Hid (dhE false xid 0 yo ne [a, b, c, d, e, f] os = 7) := hide (by rw [dhE, hnb, if_neg (by decide), if_pos hbig])
          have HE2 : Hid (dhS false xid 0 yo ne [a, b, c, d, e, f] os = ⟨#[]⟩) := hide (by rw [dhS, hnb, if_neg (by decide), if_pos hbig])
          clear hX hT hZ hzl hbig hX255 hzz2 ht' hnb
          go_wp2_with fail
          refine (unhide HZC _).mono ?_
          rintro ee w9 ⟨rfl, hb9⟩
          have HB9 := hide hb9
          clear hb9
          go_wp2
          go_ret2
          exact ⟨by rw [unhide HE1, unhide HE2]; rfl, (unhide HW).trans ((unhide HB9).mono (unhide HW).size)⟩
        · have hzz2 : ¬ 1472 < z.size := by rw [hzl]; exact hbig
          have hgt : ¬ (1472 : Int) < (z.size : Int) := by omega
          have HE1 : Hid (dhE false xid 0 yo ne [a, b, c, d, e, f] os = 0) := hide (by rw [dhE, hnb, if_neg (by decide), if_neg hbig])
          have HE2 : Hid (dhS false xid 0 yo ne [a, b, c, d, e, f] os = z) := hide (by rw [dhS, hnb, if_neg (by decide), if_neg hbig, hZ])
          clear hX hT hZ hzl hbig hX255 hzz2 ht' hnb
          go_wp2_with fail
          refine (unhide HZC _).mono ?_
          rintro ee w9 ⟨rfl, hb9⟩
          have HB9 := hide hb9
          clear hb9
          go_wp2
          go_ret2
          exact ⟨by rw [unhide HE1, unhide HE2]; rfl, (unhide HW).trans ((unhide HB9).mono (unhide HW).size)⟩

set_option maxHeartbeats 16000000 in
set_option maxRecDepth 10000 in
theorem ref_qn (xid cl yo ne : Int) (a b c d e f : UInt8) (sa : Option Addr) (sc : Nat) (os : Opts) (w : World) (hx : 0 ≤ xid ∧ xid ≤ 4294967295) (hc : 0 ≤ cl ∧ cl ≤ 4294967295) (hy : 0 ≤ yo ∧ yo ≤ 4294967295) (hn : 0 ≤ ne ∧ ne ≤ 4294967295) (hA : At w sa os) (hl : heavy os ≤ 2097152) (hz : ¬ cl = 0) :
    Calls Try.prog 36 #[.agg #[.bool false, .int .u32 xid, .int .u32 cl, .int .u32 yo, .int .u32 ne, .int .u8 a.toNat, .int .u8 b.toNat, .int .u8 c.toNat, .int .u8 d.toNat, .int .u8 e.toNat, .int .u8 f.toNat, .slice sa os.length sc]] w fun ee w' =>
      ee = .returned (.tuple #[.string (dhS false xid cl yo ne [a, b, c, d, e, f] os), .int .i64 (dhE false xid cl yo ne [a, b, c, d, e, f] os)]) ∧ Below w.heap.size w w' := by
  have hlen : os.length ≤ heavy os := by unfold heavy; omega
  have hh8 := opts8_heavy os
  obtain ⟨hx0, hx1⟩ := hx
  obtain ⟨hy0, hy1⟩ := hy
  obtain ⟨hn0, hn1⟩ := hn
  obtain ⟨hc0, hc1⟩ := hc
  have hzz : (cl == 0) = false := by simpa using hz
  have hqx : IntKind.i64.wrap xid = xid := wrap_i64 _ (by omega) (by omega)
  have HBX := hide (big_any xid 4 (w.alloc (.cells #[.bool false, .int .u32 xid, .int .u32 cl, .int .u32 yo, .int .u32 ne, .int .u8 a.toNat, .int .u8 b.toNat, .int .u8 c.toNat, .int .u8 d.toNat, .int .u8 e.toNat, .int .u8 f.toNat, .slice sa os.length sc] 57)) hx0 (by omega) (by omega))
  obtain ⟨H, hH⟩ : ∃ H, H = headL 1 0 xid cl yo ne [a, b, c, d, e, f] := ⟨_, rfl⟩
  have hHl : H.length = 240 := by rw [hH]; exact headL_length _ _ _ _ _ _ _ rfl
  have HJ : Hid (zeroS ((⟨#[1, 1, 6, 0]⟩ : ByteArray) ++ (⟨#[by8 (xid / 256 / 256 / 256), by8 (xid / 256 / 256), by8 (xid / 256), by8 xid]⟩ ++ ⟨#[0, 0]⟩) ++ (⟨#[0, 0]⟩ : ByteArray) ++ ⟨#[by8 (cl / 256 / 256 / 256), by8 (cl / 256 / 256), by8 (cl / 256), by8 cl]⟩ ++ ⟨#[by8 (yo / 256 / 256 / 256), by8 (yo / 256 / 256), by8 (yo / 256), by8 yo]⟩ ++ ⟨#[by8 (ne / 256 / 256 / 256), by8 (ne / 256 / 256), by8 (ne / 256), by8 ne]⟩ ++ ⟨#[0, 0, 0, 0]⟩ ++ ⟨#[a, b, c, d, e, f]⟩) 236 ++ ⟨#[99, 130, 83, 99]⟩ = ⟨H.toArray⟩) := hide (by rw [hH]; exact head_join 1 0 xid cl yo ne a b c d e f _ _ _ rfl rfl (by first | rfl | decide))
  have HALL : Hid (H ++ opts8 os ++ [255] = allL false xid cl yo ne [a, b, c, d, e, f] os) := hide (by rw [hH, allL, show flI cl = 0 from if_neg hz]; rfl)
  have hzs : (zeroS ((⟨#[1, 1, 6, 0]⟩ : ByteArray) ++ (⟨#[by8 (xid / 256 / 256 / 256), by8 (xid / 256 / 256), by8 (xid / 256), by8 xid]⟩ ++ ⟨#[0, 0]⟩) ++ (⟨#[0, 0]⟩ : ByteArray) ++ ⟨#[by8 (cl / 256 / 256 / 256), by8 (cl / 256 / 256), by8 (cl / 256), by8 cl]⟩ ++ ⟨#[by8 (yo / 256 / 256 / 256), by8 (yo / 256 / 256), by8 (yo / 256), by8 yo]⟩ ++ ⟨#[by8 (ne / 256 / 256 / 256), by8 (ne / 256 / 256), by8 (ne / 256), by8 ne]⟩ ++ ⟨#[0, 0, 0, 0]⟩ ++ ⟨#[a, b, c, d, e, f]⟩) 236).size + 4 = 240 := by
    have q := congrArg ByteArray.size (unhide HJ)
    rw [ByteArray.size_append, str_size] at q
    have q2 := q.trans hHl
    exact q2
  have haddZ := fun u => run_string_add_sum (P := Try.prog) u (zeroS ((⟨#[1, 1, 6, 0]⟩ : ByteArray) ++ (⟨#[by8 (xid / 256 / 256 / 256), by8 (xid / 256 / 256), by8 (xid / 256), by8 xid]⟩ ++ ⟨#[0, 0]⟩) ++ (⟨#[0, 0]⟩ : ByteArray) ++ ⟨#[by8 (cl / 256 / 256 / 256), by8 (cl / 256 / 256), by8 (cl / 256), by8 cl]⟩ ++ ⟨#[by8 (yo / 256 / 256 / 256), by8 (yo / 256 / 256), by8 (yo / 256), by8 yo]⟩ ++ ⟨#[by8 (ne / 256 / 256 / 256), by8 (ne / 256 / 256), by8 (ne / 256), by8 ne]⟩ ++ ⟨#[0, 0, 0, 0]⟩ ++ ⟨#[a, b, c, d, e, f]⟩) 236) ⟨#[99, 130, 83, 99]⟩ (by show _ + 4 ≤ _; omega)
  have HA := hide hA
  clear hA hH hzs
  go_enter Try.func36, Try.ntmps36
  go_wp2_with fail
  refine (unhide HBX).mono ?_
  rintro ee w1 ⟨rfl, hb1⟩
  have hcW := six_cells' hb1
  have hzW : w.heap.size + 1 ≤ w1.heap.size := by have := hb1.size; simpa using this
  have HW1 : Hid (Below w.heap.size w w1) := hide (((Below.refl _ _).alloc (Nat.le_refl _) _).trans (hb1.mono (by simp)))
  clear hb1 HBX
  simp only [bigL, List.nil_append, List.cons_append]
  obtain ⟨W1, hW1⟩ : ∃ W1, W1 = w1 := ⟨_, rfl⟩
  rw [← hW1] at hcW hzW HW1
  subst hW1
  have HCW := hide hcW
  have HHZ := hide (show ((⟨#[1, 1, 6, 0]⟩ : ByteArray) ++ (⟨#[by8 (xid / 256 / 256 / 256), by8 (xid / 256 / 256), by8 (xid / 256), by8 xid]⟩ ++ ⟨#[0, 0]⟩) ++ (⟨#[0, 0]⟩ : ByteArray) ++ ⟨#[by8 (cl / 256 / 256 / 256), by8 (cl / 256 / 256), by8 (cl / 256), by8 cl]⟩ ++ ⟨#[by8 (yo / 256 / 256 / 256), by8 (yo / 256 / 256), by8 (yo / 256), by8 yo]⟩ ++ ⟨#[by8 (ne / 256 / 256 / 256), by8 (ne / 256 / 256), by8 (ne / 256), by8 ne]⟩ ++ ⟨#[0, 0, 0, 0]⟩ ++ ⟨#[a, b, c, d, e, f]⟩).size ≤ 1099511627776 by show 34 ≤ _; omega)
  have hB1 : Below W1.heap.size W1 W1 := Below.refl _ _
  have hcc1 := hcW
  clear hcW
  go_wp2
  go_cut [4] (fun s4 wc => s4 = .string ⟨H.toArray⟩ ∧ Hid (Below W1.heap.size W1 wc))
  case first =>
    go_region_held3 (fun u => u.cell? ⟨w.heap.size, 2, none⟩ = some (.int .u32 cl) ∧ u.cell? ⟨w.heap.size, 3, none⟩ = some (.int .u32 yo) ∧ u.cell? ⟨w.heap.size, 4, none⟩ = some (.int .u32 ne) ∧ u.cell? ⟨w.heap.size, 5, none⟩ = some (.int .u8 a.toNat) ∧ u.cell? ⟨w.heap.size, 6, none⟩ = some (.int .u8 b.toNat) ∧ u.cell? ⟨w.heap.size, 7, none⟩ = some (.int .u8 c.toNat) ∧ u.cell? ⟨w.heap.size, 8, none⟩ = some (.int .u8 d.toNat) ∧ u.cell? ⟨w.heap.size, 9, none⟩ = some (.int .u8 e.toNat) ∧ u.cell? ⟨w.heap.size, 10, none⟩ = some (.int .u8 f.toNat)) (go_keep)
      (first | (go_at_call 53; refine (ip_zero _).mono ?_; rintro ee u1 ⟨rfl, hb1⟩; have hB1 : Below W1.heap.size W1 u1 := (by first | exact hB1.trans (hb1.mono hB1.size) | exact hB1.drew.trans (hb1.mono hB1.size)); have hcc1 := cells_on (unhide HCW) (by omega) hB1; have hzz1 := hB1.size; clear hb1) | (go_at_call 53; refine (ip_lit _ _ (by omega) (by omega)).mono ?_; rintro ee u1 ⟨rfl, hb1⟩; have hB1 : Below W1.heap.size W1 u1 := (by first | exact hB1.trans (hb1.mono hB1.size) | exact hB1.drew.trans (hb1.mono hB1.size)); have hcc1 := cells_on (unhide HCW) (by omega) hB1; have hzz1 := hB1.size; clear hb1) | (go_at_call 48; refine (mac_any _ _ _ _ _ _ _).mono ?_; rintro ee u1 ⟨rfl, hb1⟩; have hB1 : Below W1.heap.size W1 u1 := (by first | exact hB1.trans (hb1.mono hB1.size) | exact hB1.drew.trans (hb1.mono hB1.size)); have hcc1 := cells_on (unhide HCW) (by omega) hB1; have hzz1 := hB1.size; clear hb1) | (go_at_call 47; refine (zero_any _ 236 _ (unhide HHZ) (by omega)).mono ?_; rintro ee u1 ⟨rfl, hb1⟩; have hB1 : Below W1.heap.size W1 u1 := (by first | exact hB1.trans (hb1.mono hB1.size) | exact hB1.drew.trans (hb1.mono hB1.size)); have hcc1 := cells_on (unhide HCW) (by omega) hB1; have hzz1 := hB1.size; clear hb1))
    go_wp2
    go_meet
    exact ⟨congrArg Value.string (unhide HJ), hide hB1⟩
  case rest =>
    obtain ⟨rfl, HBC⟩ := hcut
    rename World => wc
    clear hB1 hcc1
    have c11 : wc.cell? ⟨w.heap.size, 11, none⟩ = some (.slice sa os.length sc) := by
      rw [(unhide HBC).cell (p := ⟨w.heap.size, 11, none⟩) (by show w.heap.size < _; omega), unhide HCW 11]; rfl
    have HBW : Hid (Below w.heap.size w wc) := hide ((unhide HW1).trans ((unhide HBC).mono (by omega)))
    clear HBC HCW HHZ HJ HW1 haddZ
    go_wp2
    clear c11
    go_loopw [4, 48] (fun s4 i wr => ∃ k : Nat, k ≤ os.length ∧ i = .int .i64 k ∧ s4 = .string ⟨(H ++ opts8 (os.take k)).toArray⟩ ∧ Hid (bad (os.take k) = false) ∧ Hid (Below w.heap.size w wr)) (fun _ i _ => os.length - (intOf i).toNat)
    case atStart => exact ⟨0, Nat.zero_le _, rfl, by simp [opts8], hide rfl, HBW⟩
    case round =>
      obtain ⟨k, hk, rfl, rfl, HBD, HW⟩ := hrel
      rename World => wr
      have hkl := opts8_le os k
      obtain ⟨X, hX⟩ : ∃ X, H ++ opts8 (os.take k) = X := ⟨_, rfl⟩
      have hXl : X.length ≤ 4195776 := by rw [← hX, List.length_append]; omega
      by_cases hlt : k < os.length
      · obtain ⟨ad, rfl, c0, c1⟩ := (unhide HA).below (unhide HW) (Nat.le_refl _) k hlt
        obtain ⟨oc, od, hcd⟩ : ∃ x y, os[k] = (x, y) := ⟨_, _, rfl⟩
        rw [hcd] at c0 c1
        simp only at c0 c1
        have hd : od.length ≤ 2097152 := by have := heavy_one os k hlt; rw [hcd] at this; simp only at this; omega
        have hbadk := bad_take hlt (unhide HBD)
        have hbat := @bad_at os k hlt
        rw [hcd] at hbadk hbat
        have HT := hide (opts8_take os k hlt)
        rw [hcd] at HT
        rw [hX]
        have HX := hide hX
        have hc8 := oc.toNat_lt
        clear hcd hX
        by_cases hb : badC oc = true
        · have hbd := hbat hb
          have HE1 : Hid (dhE false xid cl yo ne [a, b, c, d, e, f] os = 2) := hide (by rw [dhE, if_pos hbd])
          have HE2 : Hid (dhS false xid cl yo ne [a, b, c, d, e, f] os = ⟨#[]⟩) := hide (by rw [dhS, if_pos hbd])
          have hbb : oc.toNat = 0 ∨ oc.toNat = 52 ∨ oc.toNat = 255 := by simpa [badC, or_assoc] using hb
          clear hb hbat hbadk hbd
          rcases hbb with e0 | e0 | e0
          all_goals
            rw [e0] at c0
            clear e0
            go_wp2
            go_ret2
            exact ⟨by rw [unhide HE1, unhide HE2]; rfl, (unhide HW).alloc (unhide HW).size _⟩
        · have HB2 := hide (hbadk (by simpa using hb))
          have hbb : ¬ oc.toNat = 0 ∧ ¬ oc.toNat = 52 ∧ ¬ oc.toNat = 255 := by simpa [badC, and_assoc] using hb
          obtain ⟨g0, g1, g2⟩ := hbb
          have q0 : (((oc.toNat : Nat) : Int) == 0) = false := by simp; omega
          have q1 : (((oc.toNat : Nat) : Int) == 52) = false := by simp; omega
          have q2 : (((oc.toNat : Nat) : Int) == 255) = false := by simp; omega
          clear hb hbat hbadk g0 g1 g2
          obtain ⟨Wi, hWi⟩ : ∃ Wi, Wi = wr.alloc (.cells #[.int .u8 oc.toNat, .string ⟨od.toArray⟩] 87) := ⟨_, rfl⟩
          have hoc : ∀ wi, Below (wr.heap.size + 1) Wi wi → wi.cell? ⟨wr.heap.size, 0, none⟩ = some (.int .u8 oc.toNat) := fun wi hbi => by
            rw [hbi.cell (p := ⟨wr.heap.size, 0, none⟩) (by show wr.heap.size < _; omega), hWi, cell_of_row _ wr.heap.size 0 _ _ (0, 0) (heap_alloc_new wr _)]; rfl
          have HOC := hide hoc
          have HWI : Hid (Below w.heap.size w Wi ∧ Wi.heap.size = wr.heap.size + 1) := hide (by rw [hWi]; exact ⟨(unhide HW).alloc (unhide HW).size _, by simp⟩)
          have HWW := hide hWi
          clear hoc hWi
          go_wp2
          rw [← unhide HWW]
          clear HWW c0 c1 q0 q1 q2
          go_loopg [4, 7] od.length (fun g s4 s7 wi => ∃ m done : List UInt8, m.length = g ∧ g ≤ od.length ∧ s7 = .string ⟨m.toArray⟩ ∧ s4 = .string ⟨(X ++ done).toArray⟩ ∧ Hid (done ++ opt8 oc m = opt8 oc od) ∧ Hid (done.length ≤ 2 * (od.length - g)) ∧ Hid (Below (wr.heap.size + 1) Wi wi))
          case atStart => exact ⟨od, [], rfl, Nat.le_refl _, rfl, by simp, hide rfl, hide (by simp), hide (Below.refl _ _)⟩
          case round =>
            obtain ⟨m, done, hm, hg, rfl, rfl, H2, H3, H4⟩ := hrel
            rename World => wi
            have o0 := unhide HOC _ (unhide H4)
            have hgl := unhide H3
            obtain ⟨s, hS⟩ : ∃ s : ByteArray, s = ⟨m.toArray⟩ := ⟨_, rfl⟩
            have hz' : s.size = m.length := by rw [hS]; exact str_size m
            obtain ⟨t, hT⟩ : ∃ t : ByteArray, t = ⟨(X ++ done).toArray⟩ := ⟨_, rfl⟩
            have ht' : t.size ≤ 8390080 := by rw [hT, str_size, List.length_append]; omega
            by_cases hlt2 : 255 < m.length
            · have hgt : (255 : Int) < (s.size : Int) := by omega
              have hs1 : s.size ≤ 9223372036854775807 := by omega
              have hez : (s.extract 0 255).size = 255 := by rw [ByteArray.size_extract]; omega
              have hcv1 := conv_two wi oc.toNat 255 (by omega) (by omega)
              have hcv2 := conv_drew wi oc.toNat 255 (by omega) (by omega)
              have had1 := fun u => run_string_add_sum (P := Try.prog) u ⟨#[by8 (oc.toNat : Int), by8 255]⟩ (s.extract 0 255) (by show 2 + _ ≤ _; omega)
              have had2 := fun u => run_string_add_sum (P := Try.prog) u t (⟨#[by8 (oc.toNat : Int), by8 255]⟩ ++ s.extract 0 255) (by rw [ByteArray.size_append]; show _ + (2 + _) ≤ _; omega)
              have HD : Hid (s.extract 255 s.size = ⟨(m.drop 255).toArray⟩) := hide (by rw [hS]; exact str_drop m 255)
              have HE : Hid (t ++ (⟨#[by8 (oc.toNat : Int), by8 255]⟩ ++ s.extract 0 255) = ⟨(X ++ (done ++ (oc :: 255 :: m.take 255))).toArray⟩) := hide (by
                rw [hT, hS, str_take, by8_nat]
                apply ByteArray.ext
                apply Array.ext'
                simp [ByteArray.data_append]
                decide)
              have HG := hide hm
              have HLT := hide hlt2
              rw [← hS, ← hT]
              clear hS hT hz' ht' hm hgl hlt2 hez
              go_wp2
              go_region
              all_goals go_wp2
              all_goals go_roundg (gk - 255)
              all_goals first
                | (have := unhide HG; have := unhide HLT; omega)
                | (refine ⟨m.drop 255, done ++ (oc :: 255 :: m.take 255), by have := unhide HG; rw [List.length_drop]; omega, by omega, congrArg Value.string (unhide HD), congrArg Value.string (unhide HE), hide ?_, hide ?_, hide (by first | exact ((unhide H4).alloc (by have q := (unhide H4).size; rw [(unhide HWI).2] at q; exact q) _).drew | exact (unhide H4).drew.alloc (by have q := (unhide H4).size; rw [(unhide HWI).2] at q; exact q) _)⟩
                   · rw [← unhide H2, opt8_long oc m (unhide HLT)]; simp
                   · have := unhide H3
                     have := unhide HG
                     have := unhide HLT
                     rw [List.length_append, List.length_cons, List.length_cons, List.length_take]
                     omega)
            · have hgt : ¬ (255 : Int) < (s.size : Int) := by omega
              have hqs : IntKind.u8.wrap (s.size : Int) = (s.size : Int) := by rw [IntKind.wrap_u8]; omega
              have hcv1 := conv_two wi oc.toNat s.size (by omega) (by omega)
              have had1 := fun u => run_string_add_sum (P := Try.prog) u ⟨#[by8 (oc.toNat : Int), by8 (s.size : Int)]⟩ s (by show 2 + _ ≤ _; omega)
              have had2 := fun u => run_string_add_sum (P := Try.prog) u t (⟨#[by8 (oc.toNat : Int), by8 (s.size : Int)]⟩ ++ s) (by rw [ByteArray.size_append]; show _ + (2 + _) ≤ _; omega)
              have HE : Hid (t ++ (⟨#[by8 (oc.toNat : Int), by8 (s.size : Int)]⟩ ++ s) = ⟨(H ++ opts8 (os.take (k + 1))).toArray⟩) := hide (by
                rw [unhide HT, ← List.append_assoc, unhide HX, ← unhide H2, opt8_short oc m hlt2, hz', hT, hS, by8_nat, by8_len]
                apply ByteArray.ext
                apply Array.ext'
                simp [ByteArray.data_append])
              rw [← hS, ← hT]
              clear hS hT hz' ht' hm hgl hlt2
              go_wp2
              go_roundw
              case rel => exact ⟨k + 1, by omega, by go_num, congrArg Value.string (unhide HE), HB2, hide ((unhide HWI).1.trans (((unhide H4).alloc (by have q := (unhide H4).size; rw [(unhide HWI).2] at q; exact q) _).mono (by have := (unhide HW).size; omega)))⟩
              case measure => simp [intOf]; omega
      · have e0 : k = os.length := by omega
        subst e0
        rw [List.take_length] at hX hkl
        have hnb := unhide HBD
        rw [List.take_length] at hnb ⊢
        have hX255 : X ++ [255] = allL false xid cl yo ne [a, b, c, d, e, f] os := by rw [← hX]; exact unhide HALL
        obtain ⟨t, hT⟩ : ∃ t : ByteArray, t = ⟨X.toArray⟩ := ⟨_, rfl⟩
        have ht' : t.size = X.length := by rw [hT]; exact str_size X
        have had1 := fun u => run_string_add_sum (P := Try.prog) u t ⟨#[255]⟩ (by show _ + 1 ≤ _; omega)
        obtain ⟨z, hZ⟩ : ∃ z : ByteArray, z = ⟨(fullL (allL false xid cl yo ne [a, b, c, d, e, f] os)).toArray⟩ := ⟨_, rfl⟩
        have HZC : Hid (∀ u, Calls Try.prog 47 #[.string (t ++ ⟨#[255]⟩), .int .i64 300] u fun ee w' => ee = .returned (.string z) ∧ Below u.heap.size u w') := hide (fun u => zero_end X _ t z hT hX255 hZ (by omega) u)
        have hzl : (1472 < z.size) = (1472 < (allL false xid cl yo ne [a, b, c, d, e, f] os).length) := by rw [hZ, str_size, fullL_length]
        have HZ := hide hZ
        rw [hX, ← hT]
        by_cases hbig : 1472 < (allL false xid cl yo ne [a, b, c, d, e, f] os).length
        · have hzz2 : 1472 < z.size := by rw [hzl]; exact hbig
          have hgt : (1472 : Int) < (z.size : Int) := by omega
          have HE1 : Hid (dhE false xid cl yo ne [a, b, c, d, e, f] os = 7) := hide (by rw [dhE, hnb, if_neg (by decide), if_pos hbig])
          have HE2 : Hid (dhS false xid cl yo ne [a, b, c, d, e, f] os = ⟨#[]⟩) := hide (by rw [dhS, hnb, if_neg (by decide), if_pos hbig])
          clear hX hT hZ hzl hbig hX255 hzz2 ht' hnb
          go_wp2_with fail
          refine (unhide HZC _).mono ?_
          rintro ee w9 ⟨rfl, hb9⟩
          have HB9 := hide hb9
          clear hb9
          go_wp2
          go_ret2
          exact ⟨by rw [unhide HE1, unhide HE2]; rfl, (unhide HW).trans ((unhide HB9).mono (unhide HW).size)⟩
        · have hzz2 : ¬ 1472 < z.size := by rw [hzl]; exact hbig
          have hgt : ¬ (1472 : Int) < (z.size : Int) := by omega
          have HE1 : Hid (dhE false xid cl yo ne [a, b, c, d, e, f] os = 0) := hide (by rw [dhE, hnb, if_neg (by decide), if_neg hbig])
          have HE2 : Hid (dhS false xid cl yo ne [a, b, c, d, e, f] os = z) := hide (by rw [dhS, hnb, if_neg (by decide), if_neg hbig, hZ])
          clear hX hT hZ hzl hbig hX255 hzz2 ht' hnb
          go_wp2_with fail
          refine (unhide HZC _).mono ?_
          rintro ee w9 ⟨rfl, hb9⟩
          have HB9 := hide hb9
          clear hb9
          go_wp2
          go_ret2
          exact ⟨by rw [unhide HE1, unhide HE2]; rfl, (unhide HW).trans ((unhide HB9).mono (unhide HW).size)⟩

theorem ref_any (rep : Bool) (xid cl yo ne : Int) (a b c d e f : UInt8) (sa : Option Addr) (sc : Nat) (os : Opts) (w : World) (hx : 0 ≤ xid ∧ xid ≤ 4294967295) (hc : 0 ≤ cl ∧ cl ≤ 4294967295) (hy : 0 ≤ yo ∧ yo ≤ 4294967295) (hn : 0 ≤ ne ∧ ne ≤ 4294967295) (hA : At w sa os) (hl : heavy os ≤ 2097152) :
    Calls Try.prog 36 #[.agg #[.bool rep, .int .u32 xid, .int .u32 cl, .int .u32 yo, .int .u32 ne, .int .u8 a.toNat, .int .u8 b.toNat, .int .u8 c.toNat, .int .u8 d.toNat, .int .u8 e.toNat, .int .u8 f.toNat, .slice sa os.length sc]] w fun ee w' =>
      ee = .returned (.tuple #[.string (dhS rep xid cl yo ne [a, b, c, d, e, f] os), .int .i64 (dhE rep xid cl yo ne [a, b, c, d, e, f] os)]) ∧ Below w.heap.size w w' := by
  by_cases hz : cl = 0
  · subst hz
    cases rep
    · exact ref_qz xid yo ne a b c d e f sa sc os w hx hy hn hA hl
    · exact ref_rz xid yo ne a b c d e f sa sc os w hx hy hn hA hl
  · cases rep
    · exact ref_qn xid cl yo ne a b c d e f sa sc os w hx hc hy hn hA hl hz
    · exact ref_rn xid cl yo ne a b c d e f sa sc os w hx hc hy hn hA hl hz
end Go.Proofs.Ytadkcdcdgphhpaa.Dh

import Derived.Test.YtadkcdcdgphhpaaDHHead
namespace Go.Proofs.Ytadkcdcdgphhpaa.Dh
open Go.ChangeShapes Go.WideShapes Go.ChangeAt Go.RowKit Bs Wt
set_option linter.unusedVariables false
set_option linter.unusedSimpArgs false

/-- all of a message, and filled up to 300 -/
def allL (rep : Bool) (xid cl yo ne : Int) (m : List UInt8) (os : Opts) : List UInt8 := headL (opI rep) (flI cl) xid cl yo ne m ++ opts8 os ++ [255]
def fullL (L : List UInt8) : List UInt8 := L ++ List.replicate (300 - L.length) 0
theorem fullL_length (L : List UInt8) : (1472 < (fullL L).length) = (1472 < L.length) := by
  simp only [fullL, List.length_append, List.length_replicate, eq_iff_iff]; omega
def dhE (rep : Bool) (xid cl yo ne : Int) (m : List UInt8) (os : Opts) : Int := if bad os then 2 else if 1472 < (allL rep xid cl yo ne m os).length then 7 else 0
def dhS (rep : Bool) (xid cl yo ne : Int) (m : List UInt8) (os : Opts) : ByteArray := if bad os then ⟨#[]⟩ else if 1472 < (allL rep xid cl yo ne m os).length then ⟨#[]⟩ else ⟨(fullL (allL rep xid cl yo ne m os)).toArray⟩
theorem wr_new (w : World) : Wr (w.alloc (.cells #[.slice none 0 0] 103)) w.heap.size [] :=
  ⟨.slice none 0 0, heap_alloc_new w _, World.ownsRow_nil _ _ _ _⟩

set_option maxHeartbeats 4000000 in
theorem wire_bad (rep : Bool) (xid cl yo ne : Int) (a b c d e f : UInt8) (sa : Option Addr) (sc : Nat) (os : Opts) (w : World) (hA : At w sa os) (hl : heavy os ≤ 2097152) (hbad : bad os = true) :
    Calls Try.prog 63 #[.agg #[.bool rep, .int .u32 xid, .int .u32 cl, .int .u32 yo, .int .u32 ne, .int .u8 a.toNat, .int .u8 b.toNat, .int .u8 c.toNat, .int .u8 d.toNat, .int .u8 e.toNat, .int .u8 f.toNat, .slice sa os.length sc]] w fun ee w' =>
      ee = .returned (.tuple #[.string ⟨#[]⟩, .int .i64 2]) ∧ Below w.heap.size w w' := by
  have hlen : os.length ≤ heavy os := by unfold heavy; omega
  have HM := hide (may_any sa sc os _ (hA.below ((Below.refl w.heap.size w).alloc (Nat.le_refl _) (.cells #[.bool rep, .int .u32 xid, .int .u32 cl, .int .u32 yo, .int .u32 ne, .int .u8 a.toNat, .int .u8 b.toNat, .int .u8 c.toNat, .int .u8 d.toNat, .int .u8 e.toNat, .int .u8 f.toNat, .slice sa os.length sc] 57)) (Nat.le_refl _)) (by omega))
  clear hA
  go_enter Try.func63, Try.ntmps63
  go_wp2_with fail
  refine (unhide HM).mono ?_
  rintro ee w1 ⟨rfl, hb⟩
  have HB := hide hb
  clear hb HM
  rw [hbad]
  go_wp2
  go_ret2
  exact ⟨rfl, ((Below.refl _ _).alloc (Nat.le_refl _) _).trans ((unhide HB).mono (by simp))⟩

set_option maxHeartbeats 4000000 in
theorem wire_good (rep : Bool) (xid cl yo ne : Int) (a b c d e f : UInt8) (sa : Option Addr) (sc : Nat) (os : Opts) (w : World) (hx : 0 ≤ xid ∧ xid ≤ 4294967295) (hc : 0 ≤ cl ∧ cl ≤ 4294967295) (hy : 0 ≤ yo ∧ yo ≤ 4294967295) (hn : 0 ≤ ne ∧ ne ≤ 4294967295) (hA : At w sa os) (hl : heavy os ≤ 2097152) (hbad : bad os = false) :
    Calls Try.prog 63 #[.agg #[.bool rep, .int .u32 xid, .int .u32 cl, .int .u32 yo, .int .u32 ne, .int .u8 a.toNat, .int .u8 b.toNat, .int .u8 c.toNat, .int .u8 d.toNat, .int .u8 e.toNat, .int .u8 f.toNat, .slice sa os.length sc]] w fun ee w' =>
      ee = .returned (.tuple #[.string (dhS rep xid cl yo ne [a, b, c, d, e, f] os), .int .i64 (dhE rep xid cl yo ne [a, b, c, d, e, f] os)]) ∧ Below w.heap.size w w' := by
  have hlen : os.length ≤ heavy os := by unfold heavy; omega
  obtain ⟨W, hWW⟩ : ∃ W, W = w.alloc (.cells #[.bool rep, .int .u32 xid, .int .u32 cl, .int .u32 yo, .int .u32 ne, .int .u8 a.toNat, .int .u8 b.toNat, .int .u8 c.toNat, .int .u8 d.toNat, .int .u8 e.toNat, .int .u8 f.toNat, .slice sa os.length sc] 57) := ⟨_, rfl⟩
  have hWz : W.heap.size = w.heap.size + 1 := by rw [hWW]; simp
  have hW0 : Below w.heap.size w W := by rw [hWW]; exact (Below.refl _ _).alloc (Nat.le_refl _) _
  have hbox : W.heap[w.heap.size]? = some (.cells #[.bool rep, .int .u32 xid, .int .u32 cl, .int .u32 yo, .int .u32 ne, .int .u8 a.toNat, .int .u8 b.toNat, .int .u8 c.toNat, .int .u8 d.toNat, .int .u8 e.toNat, .int .u8 f.toNat, .slice sa os.length sc] 57 (0, 0)) := by rw [hWW]; exact heap_alloc_new w _
  have HM := hide (may_any sa sc os W (hA.below hW0 (Nat.le_refl _)) (by omega))
  rw [hWW] at HM
  have HA := hide hA
  have HWZ := hide hWz
  have HW0 := hide hW0
  have HBOX := hide hbox
  have HWW := hide hWW
  clear hA hWz hW0 hbox hWW
  go_enter Try.func63, Try.ntmps63
  go_wp2_with fail
  refine (unhide HM).mono ?_
  rintro ee w1 ⟨rfl, hb⟩
  rw [← unhide HWW] at hb
  have hbox1 : w1.heap[w.heap.size]? = some (.cells #[.bool rep, .int .u32 xid, .int .u32 cl, .int .u32 yo, .int .u32 ne, .int .u8 a.toNat, .int .u8 b.toNat, .int .u8 c.toNat, .int .u8 d.toNat, .int .u8 e.toNat, .int .u8 f.toNat, .slice sa os.length sc] 57 (0, 0)) := by rw [hb.block _ (by rw [unhide HWZ]; omega)]; exact unhide HBOX
  have hboxA : ∀ o, (w1.alloc o).heap[w.heap.size]? = some (.cells #[.bool rep, .int .u32 xid, .int .u32 cl, .int .u32 yo, .int .u32 ne, .int .u8 a.toNat, .int .u8 b.toNat, .int .u8 c.toNat, .int .u8 d.toNat, .int .u8 e.toNat, .int .u8 f.toNat, .slice sa os.length sc] 57 (0, 0)) := fun o => by rw [Below.heap_alloc _ _ _ (lt_of_block hbox1)]; exact hbox1
  have w1c0 : ∀ o, (w1.alloc o).cell? ⟨w.heap.size, 0, none⟩ = some (.bool rep) := fun o => by rw [cell_of_row _ w.heap.size 0 _ _ _ (hboxA o)]; rfl
  have w1c1 : ∀ o, (w1.alloc o).cell? ⟨w.heap.size, 1, none⟩ = some (.int .u32 xid) := fun o => by rw [cell_of_row _ w.heap.size 1 _ _ _ (hboxA o)]; rfl
  have w1c2 : ∀ o, (w1.alloc o).cell? ⟨w.heap.size, 2, none⟩ = some (.int .u32 cl) := fun o => by rw [cell_of_row _ w.heap.size 2 _ _ _ (hboxA o)]; rfl
  have w1c3 : ∀ o, (w1.alloc o).cell? ⟨w.heap.size, 3, none⟩ = some (.int .u32 yo) := fun o => by rw [cell_of_row _ w.heap.size 3 _ _ _ (hboxA o)]; rfl
  have w1c4 : ∀ o, (w1.alloc o).cell? ⟨w.heap.size, 4, none⟩ = some (.int .u32 ne) := fun o => by rw [cell_of_row _ w.heap.size 4 _ _ _ (hboxA o)]; rfl
  have w1c5 : ∀ o, (w1.alloc o).cell? ⟨w.heap.size, 5, none⟩ = some (.int .u8 a.toNat) := fun o => by rw [cell_of_row _ w.heap.size 5 _ _ _ (hboxA o)]; rfl
  have w1c6 : ∀ o, (w1.alloc o).cell? ⟨w.heap.size, 6, none⟩ = some (.int .u8 b.toNat) := fun o => by rw [cell_of_row _ w.heap.size 6 _ _ _ (hboxA o)]; rfl
  have w1c7 : ∀ o, (w1.alloc o).cell? ⟨w.heap.size, 7, none⟩ = some (.int .u8 c.toNat) := fun o => by rw [cell_of_row _ w.heap.size 7 _ _ _ (hboxA o)]; rfl
  have w1c8 : ∀ o, (w1.alloc o).cell? ⟨w.heap.size, 8, none⟩ = some (.int .u8 d.toNat) := fun o => by rw [cell_of_row _ w.heap.size 8 _ _ _ (hboxA o)]; rfl
  have w1c9 : ∀ o, (w1.alloc o).cell? ⟨w.heap.size, 9, none⟩ = some (.int .u8 e.toNat) := fun o => by rw [cell_of_row _ w.heap.size 9 _ _ _ (hboxA o)]; rfl
  have w1c10 : ∀ o, (w1.alloc o).cell? ⟨w.heap.size, 10, none⟩ = some (.int .u8 f.toNat) := fun o => by rw [cell_of_row _ w.heap.size 10 _ _ _ (hboxA o)]; rfl
  have w1c11 : ∀ o, (w1.alloc o).cell? ⟨w.heap.size, 11, none⟩ = some (.slice sa os.length sc) := fun o => by rw [cell_of_row _ w.heap.size 11 _ _ _ (hboxA o)]; rfl
  have hz1 := hb.size
  rw [unhide HWZ] at hz1
  have hB1 : Below w.heap.size w w1 := (unhide HW0).trans (hb.mono (by rw [unhide HWZ]; omega))
  have HBOX1 := hide hbox1
  have HB1 := hide hB1
  have HN := hide (wr_new w1)
  clear hb HM hbox1 hboxA hB1 HBOX HWW HW0 HWZ
  rw [hbad]
  go_wp2_with fail
  refine (head_any w1.heap.size rep xid cl yo ne a b c d e f sa os.length sc _ (unhide HN) hx hc hy hn).mono ?_
  rintro ee w2 ⟨rfl, k2, q2⟩
  obtain ⟨L, hL, hLl⟩ : ∃ L, L = headL (opI rep) (flI cl) xid cl yo ne [a, b, c, d, e, f] ∧ L.length = 240 := ⟨_, rfl, headL_length _ _ _ _ _ _ _ rfl⟩
  rw [← hL] at k2
  have HL := hide hL
  have hB2 : Below w1.heap.size w1 w2 := ((Below.refl _ _).alloc (Nat.le_refl _) _).trans q2.below
  have K2 := hide k2
  have HB2 := hide hB2
  have HA2 := hide (((unhide HA).below (unhide HB1) (Nat.le_refl _)).lower hB2 ((unhide HA).old (by omega)))
  clear k2 q2 hB2 hL
  go_wp2_with fail
  refine (options_any w1.heap.size sa sc os L w2 (unhide K2) (unhide HA2) ((unhide HA).old (by omega)) hl (by omega)).mono ?_
  rintro ee w3 ⟨rfl, q3, M, k3, hM, hMM⟩
  have K3 := hide k3
  have Q3 := hide q3
  have HMM := hide hMM
  clear k3 q3 hMM
  go_wp2_with fail
  refine (fill_any w1.heap.size 300 M w3 (unhide K3) (by omega) (by omega)).mono ?_
  rintro ee w4 ⟨rfl, k4, q4⟩
  obtain ⟨X, hX⟩ : ∃ X, X = M ++ List.replicate (300 - M.length) 0 := ⟨_, rfl⟩
  have hXl : X.length ≤ 8388908 := by rw [hX, List.length_append, List.length_replicate]; omega
  have HXX := hide hX
  rw [← hX] at k4
  have hB4 : Below w.heap.size w w4 := (unhide HB1).trans (((unhide HB2).mono (by omega)).trans (((unhide Q3).below.mono (by omega)).trans (q4.below.mono (by omega))))
  have HB4 := hide hB4
  obtain ⟨v, hv, hown⟩ := k4
  obtain ⟨ao, cp, hv'⟩ := own_len hown
  have hcc := cell_of_one hv
  rw [hv'] at hcc
  have K4 : Hid (Wr w4 w1.heap.size X) := hide ⟨v, hv, hown⟩
  clear q4 hX hB4 hv hown hv' v
  by_cases hbig : 1472 < (allL rep xid cl yo ne [a, b, c, d, e, f] os).length
  · have hXb : 1472 < X.length := by
      rcases unhide HMM with eM | ⟨h1, _⟩
      · rw [unhide HXX, eM, unhide HL]
        have : allL rep xid cl yo ne [a, b, c, d, e, f] os = headL (opI rep) (flI cl) xid cl yo ne [a, b, c, d, e, f] ++ opts8 os ++ [255] := rfl
        rw [this] at hbig
        rw [List.length_append]; omega
      · rw [unhide HXX, List.length_append]; omega
    have hgt : (1472 : Int) < (X.length : Int) := by omega
    have e1 : dhE rep xid cl yo ne [a, b, c, d, e, f] os = 7 := by rw [dhE, hbad, if_neg (by decide), if_pos hbig]
    have e2 : dhS rep xid cl yo ne [a, b, c, d, e, f] os = ⟨#[]⟩ := by rw [dhS, hbad, if_neg (by decide), if_pos hbig]
    have HE1 := hide e1
    have HE2 := hide e2
    clear hbig hXb e1 e2
    go_wp2
    go_ret2
    exact ⟨by rw [unhide HE1, unhide HE2]; rfl, unhide HB4⟩
  · have hMe : M = allL rep xid cl yo ne [a, b, c, d, e, f] os := by
      rcases unhide HMM with eM | ⟨_, h2⟩
      · rw [eM, unhide HL]; rfl
      · rw [unhide HL] at h2
        exact absurd h2 hbig
    have hXe : X = fullL (allL rep xid cl yo ne [a, b, c, d, e, f] os) := by rw [unhide HXX, hMe]; rfl
    have hXs : ¬ 1472 < X.length := by rw [hXe, fullL_length]; exact hbig
    have hgt : ¬ (1472 : Int) < (X.length : Int) := by omega
    have e1 : dhE rep xid cl yo ne [a, b, c, d, e, f] os = 0 := by rw [dhE, hbad, if_neg (by decide), if_neg hbig]
    have e2 : dhS rep xid cl yo ne [a, b, c, d, e, f] os = ⟨X.toArray⟩ := by rw [dhS, hbad, if_neg (by decide), if_neg hbig, hXe]
    have HE1 := hide e1
    have HE2 := hide e2
    clear hbig hXs e1 e2 hMe hXe
    go_wp2_with fail
    refine (text_any _ _ _ (unhide K4)).mono ?_
    rintro ee w5 ⟨rfl, rfl⟩
    go_wp2
    go_ret2
    exact ⟨by rw [unhide HE1, unhide HE2]; rfl, unhide HB4⟩

theorem wire_any (rep : Bool) (xid cl yo ne : Int) (a b c d e f : UInt8) (sa : Option Addr) (sc : Nat) (os : Opts) (w : World) (hx : 0 ≤ xid ∧ xid ≤ 4294967295) (hc : 0 ≤ cl ∧ cl ≤ 4294967295) (hy : 0 ≤ yo ∧ yo ≤ 4294967295) (hn : 0 ≤ ne ∧ ne ≤ 4294967295) (hA : At w sa os) (hl : heavy os ≤ 2097152) :
    Calls Try.prog 63 #[.agg #[.bool rep, .int .u32 xid, .int .u32 cl, .int .u32 yo, .int .u32 ne, .int .u8 a.toNat, .int .u8 b.toNat, .int .u8 c.toNat, .int .u8 d.toNat, .int .u8 e.toNat, .int .u8 f.toNat, .slice sa os.length sc]] w fun ee w' =>
      ee = .returned (.tuple #[.string (dhS rep xid cl yo ne [a, b, c, d, e, f] os), .int .i64 (dhE rep xid cl yo ne [a, b, c, d, e, f] os)]) ∧ Below w.heap.size w w' := by
  by_cases hbad : bad os = true
  · have e1 : dhE rep xid cl yo ne [a, b, c, d, e, f] os = 2 := by rw [dhE, if_pos hbad]
    have e2 : dhS rep xid cl yo ne [a, b, c, d, e, f] os = ⟨#[]⟩ := by rw [dhS, if_pos hbad]
    rw [e1, e2]
    exact wire_bad rep xid cl yo ne a b c d e f sa sc os w hA hl hbad
  · exact wire_good rep xid cl yo ne a b c d e f sa sc os w hx hc hy hn hA hl (by simpa using hbad)

set_option maxHeartbeats 4000000 in
theorem boot_any (rep : Bool) (xid cl yo ne : Int) (a b c d e f : UInt8) (sa : Option Addr) (sc : Nat) (os : Opts) (w : World) (hx : 0 ≤ xid ∧ xid ≤ 4294967295) (hc : 0 ≤ cl ∧ cl ≤ 4294967295) (hy : 0 ≤ yo ∧ yo ≤ 4294967295) (hn : 0 ≤ ne ∧ ne ≤ 4294967295) (hA : At w sa os) (hl : heavy os ≤ 2097152) :
    Calls Try.prog 35 #[.agg #[.bool rep, .int .u32 xid, .int .u32 cl, .int .u32 yo, .int .u32 ne, .int .u8 a.toNat, .int .u8 b.toNat, .int .u8 c.toNat, .int .u8 d.toNat, .int .u8 e.toNat, .int .u8 f.toNat, .slice sa os.length sc]] w fun ee w' =>
      ee = .returned (.tuple #[.string (dhS rep xid cl yo ne [a, b, c, d, e, f] os), .int .i64 (dhE rep xid cl yo ne [a, b, c, d, e, f] os)]) ∧ Below w.heap.size w w' := by
  have HO := hide (wire_any rep xid cl yo ne a b c d e f sa sc os (w.alloc (.cells #[.bool rep, .int .u32 xid, .int .u32 cl, .int .u32 yo, .int .u32 ne, .int .u8 a.toNat, .int .u8 b.toNat, .int .u8 c.toNat, .int .u8 d.toNat, .int .u8 e.toNat, .int .u8 f.toNat, .slice sa os.length sc] 57)) hx hc hy hn (hA.below ((Below.refl w.heap.size w).alloc (Nat.le_refl _) _) (Nat.le_refl _)) hl)
  clear hA
  go_enter Try.func35, Try.ntmps35
  go_wp2_with fail
  refine (unhide HO).mono ?_
  rintro ee w1 ⟨rfl, hb⟩
  have HB := hide hb
  clear hb HO
  go_wp2
  go_ret2
  exact ⟨rfl, ((Below.refl _ _).alloc (Nat.le_refl _) _).trans ((unhide HB).mono (by simp))⟩
end Go.Proofs.Ytadkcdcdgphhpaa.Dh

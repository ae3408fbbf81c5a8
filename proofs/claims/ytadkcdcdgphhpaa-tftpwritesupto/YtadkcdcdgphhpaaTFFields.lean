import Derived.Test.YtadkcdcdgphhpaaTFName
import Derived.Deep.OwnRows
namespace Go.Proofs.Ytadkcdcdgphhpaa.Tf
open Go.ChangeShapes Go.WideShapes Go.ChangeAt Go.RowKit Bs
open Go.Sort (Holds grow putRow mapBlock holds_grow holds_putRow heap_grow_old)
set_option linter.unusedVariables false
set_option linter.unusedSimpArgs false

/-- a list of fields as it lies in memory -/
def AtF (w : World) (a : Option Addr) (fs : Flds) : Prop :=
  ∀ i (h : i < fs.length), ∃ ad, a = some ad ∧ w.cell? (ad.add (i * 2)) = some (.string ⟨fs[i].1.toArray⟩) ∧ w.cell? ⟨(ad.add (i * 2)).block, (ad.add (i * 2)).off + 1, none⟩ = some (.string ⟨fs[i].2.toArray⟩)
theorem cell_lt {w : World} {p : Addr} {v : Value} (h : w.cell? p = some v) : p.block < w.heap.size := by
  by_cases hlt : p.block < w.heap.size
  · exact hlt
  · have hn : w.heap[p.block]? = none := by simp; omega
    simp [World.cell?, hn] at h
theorem add_block (ad : Addr) (n : Nat) : (ad.add n).block = ad.block := by unfold Addr.add; split <;> rfl
theorem AtF.below {w w' : World} {a : Option Addr} {fs : Flds} {n : Nat} (h : AtF w a fs) (hb : Below n w w') (hn : w.heap.size ≤ n) : AtF w' a fs := fun i hi => by
  obtain ⟨ad, e, h0, h1⟩ := h i hi
  have l0 := cell_lt h0
  refine ⟨ad, e, ?_, ?_⟩
  · rw [hb.cell (by omega)]; exact h0
  · rw [hb.cell (by show (ad.add (i * 2)).block < n; omega)]; exact h1
theorem AtF.lower {w w' : World} {a : Option Addr} {fs : Flds} {n : Nat} (h : AtF w a fs) (hb : Below n w w') (hn : ∀ ad, a = some ad → 0 < fs.length → ad.block < n) : AtF w' a fs := fun i hi => by
  obtain ⟨ad, e, h0, h1⟩ := h i hi
  have l0 := hn ad e (by omega)
  have l1 := add_block ad (i * 2)
  refine ⟨ad, e, ?_, ?_⟩
  · rw [hb.cell (by rw [l1]; exact l0)]; exact h0
  · rw [hb.cell (by show (ad.add (i * 2)).block < n; rw [l1]; exact l0)]; exact h1
theorem AtF.old {w : World} {a : Option Addr} {fs : Flds} {n : Nat} (h : AtF w a fs) (hn : w.heap.size ≤ n) : ∀ ad, a = some ad → 0 < fs.length → ad.block < n := fun ad e hl => by
  obtain ⟨ad', e', h0, _⟩ := h 0 hl
  have h1 := cell_lt h0
  rw [add_block] at h1
  rw [e] at e'
  obtain rfl := Option.some.inj e'
  omega

/-- a row of texts -/
def SRow (w : World) (g : Nat) (L : List (List UInt8)) : Prop := w.heap[g]? = some (.cells (L.map encStr).toArray 9 (0, 0))
theorem SRow.lt {w : World} {g : Nat} {L : List (List UInt8)} (h : SRow w g L) : g < w.heap.size := (Array.getElem?_eq_some_iff.1 h).1
theorem SRow.cell {w : World} {g : Nat} {L : List (List UInt8)} (h : SRow w g L) (j : Nat) (hj : j < L.length) : w.cell? ⟨g, j, none⟩ = some (.string ⟨L[j].toArray⟩) := by
  rw [cell_of_row w g j _ _ _ h]; simp [hj]
theorem SRow.free {w : World} {g : Nat} {L : List (List UInt8)} (h : SRow w g L) (j : Nat) : w.frozen? ⟨g, j, none⟩ = false := by
  unfold SRow at h
  simp [World.frozen?, h]
theorem SRow.set {w : World} {g : Nat} {L : List (List UInt8)} (h : SRow w g L) (j : Nat) (x : List UInt8) : SRow (w.setCell ⟨g, j, none⟩ (.string ⟨x.toArray⟩)) g (L.set j x) := by
  unfold SRow at *
  rw [setCell_eq_setRow w g j _ _ _ _ h, setRow_heap w g _ _ _ _ h]
  congr 2
  simp [List.map_set]
theorem SRow.holds {w : World} {g : Nat} {L : List (List UInt8)} (h : SRow w g L) : Holds encStr w g 0 L.toArray := fun j hj => by
  have hj' : j < L.length := by simpa using hj
  rw [Nat.zero_add]
  refine ⟨?_, h.free j⟩
  rw [h.cell j hj']
  congr 3
  rw [List.getElem!_toArray, getElem!_pos L j hj']
theorem SRow.made (w : World) (n : Nat) : SRow (w.alloc (.cells (madeCells #[.string ⟨#[]⟩] n) 9)) w.heap.size (List.replicate n []) := by
  have e : madeCells #[Value.string ⟨#[]⟩] n = ((List.replicate n ([] : List UInt8)).map encStr).toArray := by
    apply Array.ext'; rw [toList_madeCells_one]; simp [encStr]
  unfold SRow
  rw [e]; exact heap_alloc_new w _
theorem SRow.alloc {w : World} {g : Nat} {L : List (List UInt8)} (h : SRow w g L) (o : Obj) : SRow (w.alloc o) g L := by
  unfold SRow at *
  rw [Below.heap_alloc _ _ _ (lt_of_block h)]; exact h
/-- the first k names -/
def namesTo (fs : Flds) (k : Nat) : List (List UInt8) := (namesF fs).take k ++ List.replicate (fs.length - k) []
theorem namesTo_zero (fs : Flds) : namesTo fs 0 = List.replicate fs.length [] := by simp [namesTo]
theorem namesTo_all (fs : Flds) : namesTo fs fs.length = namesF fs := by
  unfold namesTo; rw [← namesF_length fs, List.take_length]; simp
theorem namesTo_next (fs : Flds) (k : Nat) (h : k < fs.length) : (namesTo fs k).set k fs[k].1 = namesTo fs (k + 1) := by
  have hl := namesF_length fs
  unfold namesTo
  rw [List.set_append_right _ _ (by rw [List.length_take]; omega), List.length_take, hl, Nat.min_eq_left (by omega), Nat.sub_self, show fs.length - k = (fs.length - (k + 1)) + 1 by omega, List.replicate_succ, List.set_cons_zero, List.take_succ_eq_append_getElem (by omega), List.append_assoc]
  simp [namesF]
theorem below_put {N g : Nat} {w : World} (n : Nat) (d : Array (List UInt8)) (os : Array Obj) (h : N ≤ g) (hN : N ≤ w.heap.size) : Below N w (grow (putRow encStr (Sort.ahead w n) g 0 d) os) := by
  refine ⟨rfl, rfl, rfl, by simp, fun k hk => ?_⟩
  rw [heap_grow_old _ _ (by simp; omega)]
  simp only [putRow, mapBlock, Sort.ahead, Array.getElem?_modify]
  rw [if_neg (by omega)]
theorem infoS : (Try.prog.info? 9).map (fun i => (i.zero, i.size, i.bytes)) = some (some (.string ⟨#[]⟩), 1, 16) := by kernel_rfl

set_option maxHeartbeats 1000000 in
theorem differ_any (a : Option Addr) (cap : Nat) (fs : Flds) (w : World) (hA : AtF w a fs) (hl : fs.length ≤ 268435456) :
    Calls Try.prog 148 #[.slice a fs.length cap] w fun e w' => e = .returned (.bool (apartB (namesF fs))) ∧ Below w.heap.size w w' := by
  have hmk := fun (w : World) => run_make_row' (P := Try.prog) 90 9 (.string ⟨#[]⟩) 16 Try.underlying90 infoS rfl .i64 .i64 fs.length (by omega) (by omega) w
  have HA := hide hA
  have HM := hide (SRow.made w fs.length)
  clear hA
  go_enter Try.func148, Try.ntmps148
  go_wp2
  go_loopw [11] (fun i wr => ∃ k : Nat, k ≤ fs.length ∧ i = .int .i64 k ∧ Hid (SRow wr w.heap.size (namesTo fs k)) ∧ Hid (Below w.heap.size w wr)) (fun i _ => fs.length - (intOf i).toNat)
  case atStart => exact ⟨0, Nat.zero_le _, rfl, hide (by rw [namesTo_zero]; exact unhide HM), hide ((Below.refl _ w).alloc (Nat.le_refl _) _)⟩
  case round =>
    obtain ⟨k, hk, rfl, HR, HW⟩ := hrel
    rename World => wr
    have hg := (unhide HR).lt
    by_cases hlt : k < fs.length
    · obtain ⟨ad, rfl, c0, c1⟩ := (unhide HA).below (unhide HW) (Nat.le_refl _) k hlt
      have hlt' : (k : Int) < (fs.length : Int) := by omega
      have f0 := (unhide HR).free k
      have hnl : (namesTo fs k).length = fs.length := by unfold namesTo; rw [List.length_append, List.length_take, namesF_length, List.length_replicate]; omega
      have c2 := (unhide HR).cell k (by omega)
      obtain ⟨o, ho⟩ : ∃ o : ByteArray, o = ⟨(namesTo fs k)[k].toArray⟩ := ⟨_, rfl⟩
      rw [← ho] at c2
      have HN := hide (namesTo_next fs k hlt)
      have HS := hide (fun x => (unhide HR).set k x)
      obtain ⟨n, v, hnv⟩ : ∃ n v, fs[k] = (n, v) := ⟨_, _, rfl⟩
      rw [hnv] at c0 c1 HN
      clear hnv ho hnl
      go_wp2
      go_roundw
      case rel => exact ⟨k + 1, by omega, by go_num, hide (by rw [← unhide HN]; exact (unhide HS n).alloc _), hide (((unhide HW).setCell (Nat.le_refl _) _).alloc (by simp; omega) _)⟩
      case measure => simp [intOf]; omega
    · have e : k = fs.length := by omega
      have hlt' : ¬ (k : Int) < (fs.length : Int) := by omega
      have HF : Hid (SRow wr w.heap.size (namesF fs)) := hide (by rw [← namesTo_all, ← e]; exact unhide HR)
      have HC := hide (Sf.slices_Sort_string w.heap.size 0 fs.length (namesF fs) wr (unhide HF).holds hg (by rw [namesF_length]; omega))
      rw [namesF_length] at HC
      have HSC := hide (sort_compact (namesF fs))
      rw [namesF_length] at HSC
      have hsl : (sortL (namesF fs)).length = fs.length := by rw [sortL_length, namesF_length]
      have HSL := hide hsl
      have HH := hide ((unhide HF).holds)
      clear e hmk hsl
      go_wp2_with fail
      refine (unhide HC).mono ?_
      rintro e w1 ⟨rfl, n, os, hw1⟩
      have hw1' : w1 = grow (putRow encStr (Sort.ahead wr n) w.heap.size 0 (sortL (namesF fs)).toArray) os := hw1
      have hB1 : Below w.heap.size w w1 := (unhide HW).trans (by rw [hw1']; exact below_put n _ os (Nat.le_refl _) (by omega))
      have hH1 : Holds encStr w1 w.heap.size 0 (sortL (namesF fs)).toArray := by
        rw [hw1']
        refine holds_grow _ _ _ _ _ _ (by simp; exact hg) (holds_putRow _ _ _ _ (namesF fs).toArray _ (unhide HH) (by simp [unhide HSL, namesF_length]))
      have HC2 := hide (Sf.slices_Compact_string w.heap.size 0 fs.length (sortL (namesF fs)) w1 hH1 (by rw [unhide HSL]; omega) (by rw [unhide HSL]; exact Nat.le_refl _))
      rw [unhide HSL] at HC2
      have hz1 := hB1.size
      have HB1 := hide hB1
      clear hw1 hw1' hH1 hB1 HC
      obtain ⟨m, hm⟩ : ∃ m, m = (Lib.compact (sortL (namesF fs))).length := ⟨_, rfl⟩
      rw [← hm] at HC2 HSC
      go_wp2_with fail
      refine (unhide HC2).mono ?_
      rintro e w2 ⟨rfl, q, hw2⟩
      have HB2 : Hid (Below w.heap.size w w2) := hide ((unhide HB1).trans (by
        rw [hw2, ← Sort.grow_empty (putRow _ _ _ _ _)]
        exact below_put q _ #[] (Nat.le_refl _) (by omega)))
      clear hw2 HC2
      go_wp2
      go_ret
      refine ⟨?_, unhide HB2⟩
      rw [← unhide HSC]
      show Ending.returned (.bool _) = _
      congr 2
      rw [Bool.eq_iff_iff]
      simp
      omega
end Go.Proofs.Ytadkcdcdgphhpaa.Tf

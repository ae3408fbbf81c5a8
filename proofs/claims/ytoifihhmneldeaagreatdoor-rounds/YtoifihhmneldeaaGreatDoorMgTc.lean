import Derived.Test.YtoifihhmneldeaaGreatDoorMgTb
import Derived.Test.YtoifihhmneldeaaGreatDoorReaderText
namespace Go.Proofs.YtoifihhmneldeaaGreatDoor.Tf
open Go.ChangeShapes Go.WideShapes Go.ChangeAt Go.RowKit Bs
open Rd (Rdr errP grown_trans grown_alloc grown_set grown_refl grown_below take_no take_ok text_ok remaining_ok must_ok must_no)
set_option linter.unusedVariables false
set_option linter.unusedSimpArgs false

theorem index_cut (l : List UInt8) : Lib.indexByte l 0 = match cut l with | none => -1 | some (a, _) => (a.length : Int) := by
  induction l with
  | nil => rfl
  | cons c r ih =>
    unfold Lib.indexByte cut
    by_cases hc : c = 0
    · subst hc; rfl
    · have e1 : (c == 0) = false := by simpa using hc
      rw [e1, if_neg hc, ih]
      simp only [Bool.false_eq_true, if_false]
      cases hr : cut r with
      | none => rfl
      | some p =>
        have : (((p.1.length : Nat) : Int) == -1) = false := by simp
        simp only [this, Bool.false_eq_true, if_false, List.length_cons]
        rfl
theorem cut_take {l a b : List UInt8} (h : cut l = some (a, b)) : l.take a.length = a ∧ l.drop a.length = 0 :: b := by
  obtain ⟨h1, _⟩ := cut_some h
  rw [h1]
  exact ⟨by simp, by simp⟩

set_option maxHeartbeats 1000000 in
theorem ended_some (B : Nat) (l a b : List UInt8) (w : World) (h : Rdr w B l) (hs : l.length ≤ 268435456) (hc : cut l = some (a, b)) :
    Calls Tryz.prog 97 #[.pointer (some ⟨B, 0, none⟩)] w fun e w' => e = .returned (.string ⟨a.toArray⟩) ∧ Rdr w' B b ∧ w.grownBy w' (some B) := by
  have hcl := cell_of_one h
  have hln := cut_len hc
  obtain ⟨t1, t2⟩ := cut_take hc
  have hi := index_cut l
  rw [hc] at hi
  simp only at hi
  have HI := hide (Sf.strings_Index_one ⟨l.toArray⟩ 0 w)
  rw [show (⟨l.toArray⟩ : ByteArray).data.toList = l from rfl, hi] at HI
  have HT := hide (text_ok B l a.length w h (by omega) (by omega))
  rw [t1, t2] at HT
  have HK := hide (fun (u : World) (hu : Rdr u B (0 :: b)) => take_ok B (0 :: b) 1 u hu (by simp) (by simp only [List.length_cons, maxLen]; omega))
  have hge : (0 : Int) ≤ (a.length : Int) := by omega
  clear h hi t1 t2 hln
  go_enter Tryz.func97, Tryz.ntmps97
  go_wp2_with fail
  refine (unhide HI).mono ?_
  rintro e u ⟨rfl, hu⟩
  obtain rfl := hu.symm
  go_wp2_with fail
  refine (must_ok _ _).mono ?_
  rintro _ w3 ⟨rfl, hu⟩
  obtain rfl := hu.symm
  go_wp2_with fail
  refine (unhide HT).mono ?_
  rintro e w1 ⟨rfl, r1, g1⟩
  have R1 := hide r1
  have G1 := hide g1
  clear r1 g1 HT HI hcl
  go_wp2_with fail
  refine (unhide HK _ (unhide R1)).mono ?_
  rintro e w2 ⟨rfl, hw2⟩
  have HR2 : Hid (Rdr w2 B b) := hide (by rw [hw2]; exact (unhide R1).set b)
  have HG2 : Hid (w.grownBy w2 (some B)) := hide (by rw [hw2]; exact grown_trans (unhide G1) (grown_set _))
  clear hw2 HK
  go_wp2
  go_ret
  exact ⟨rfl, unhide HR2, unhide HG2⟩

set_option maxHeartbeats 1000000 in
theorem ended_none (B : Nat) (l : List UInt8) (w : World) (h : Rdr w B l) (hc : cut l = none) :
    Calls Tryz.prog 97 #[.pointer (some ⟨B, 0, none⟩)] w fun e w' => e = .panicked (errP 2) ∧ w = w' := by
  have hcl := cell_of_one h
  have hi := index_cut l
  rw [hc] at hi
  simp only at hi
  have HI := hide (Sf.strings_Index_one ⟨l.toArray⟩ 0 w)
  rw [show (⟨l.toArray⟩ : ByteArray).data.toList = l from rfl, hi] at HI
  clear h hi
  go_enter Tryz.func97, Tryz.ntmps97
  go_wp2_with fail
  refine (unhide HI).mono ?_
  rintro e u ⟨rfl, hu⟩
  obtain rfl := hu.symm
  go_wp2_with fail
  refine (must_no _ _).mono ?_
  rintro _ w3 ⟨rfl, hu⟩
  obtain rfl := hu.symm
  exact ⟨rfl, rfl, rfl⟩

set_option maxHeartbeats 1000000 in
theorem isMode_any (s : ByteArray) (l : List UInt8) (w : World) (hsl : s.data.toList = l) (hl : l.length ≤ 1099511627776) :
    Calls Tryz.prog 98 #[.string s] w fun e w' => e = .returned (.bool (lowL l == octet)) ∧ Below w.heap.size w w' := by
  have HS := hide (small_any s l w hsl hl)
  obtain ⟨ls, hls⟩ : ∃ s : ByteArray, s = ⟨(lowL l).toArray⟩ := ⟨_, rfl⟩
  rw [← hls] at HS
  have hq : (ls.toList == [111, 99, 116, 101, 116]) = (lowL l == octet) := by
    rw [ByteArray.toList_eq, hls]; rfl
  clear hls
  go_enter Tryz.func98, Tryz.ntmps98
  go_wp2_with fail
  refine (unhide HS).mono ?_
  rintro e u ⟨rfl, hb⟩
  have HB := hide hb
  clear hb HS
  go_wp2
  go_ret
  exact ⟨by rw [← hq]; rfl, unhide HB⟩

/-- a text of a kind that is read: FN the reader's method is 'ended' -/
theorem getName_ok (B : Nat) (l a b : List UInt8) (w : World) (h : Rdr w B l) (hs : l.length ≤ 268435456) (hc : cut l = some (a, b)) (hn : nameB a = true) :
    Calls Tryz.prog 55 #[.pointer (some ⟨B, 0, none⟩), .func (.func 97) #[] #[], .func (.func 91) #[] #[], .int .i64 2] w fun e w' => e = .returned (.string ⟨a.toArray⟩) ∧ Rdr w' B b ∧ w.grownBy w' (some B) := by
  have hln := cut_len hc
  have HN := hide (ended_some B l a b w h hs hc)
  have HI := hide (fun u => isName_any ⟨a.toArray⟩ a u rfl (by omega))
  rw [hn] at HI
  clear h hs hc hn hln
  go_enter Tryz.func55, Tryz.ntmps55
  go_wp2_with fail
  refine (unhide HN).mono ?_
  rintro e w1 ⟨rfl, h1, g1⟩
  have H1 := hide h1
  have G1 := hide g1
  clear h1 g1
  go_wp2_with fail
  refine (unhide HI _).mono ?_
  rintro e w2 ⟨rfl, hu⟩
  obtain rfl := hu.symm
  go_wp2_with fail
  refine (must_ok _ _).mono ?_
  rintro _ w3 ⟨rfl, hu⟩
  obtain rfl := hu.symm
  go_wp2
  go_ret
  exact ⟨rfl, unhide H1, unhide G1⟩
theorem getName_bad (B : Nat) (l a b : List UInt8) (w : World) (h : Rdr w B l) (hs : l.length ≤ 268435456) (hc : cut l = some (a, b)) (hn : nameB a = false) :
    Calls Tryz.prog 55 #[.pointer (some ⟨B, 0, none⟩), .func (.func 97) #[] #[], .func (.func 91) #[] #[], .int .i64 2] w fun e w' => e = .panicked (errP 2) ∧ w.grownBy w' (some B) := by
  have hln := cut_len hc
  have HN := hide (ended_some B l a b w h hs hc)
  have HI := hide (fun u => isName_any ⟨a.toArray⟩ a u rfl (by omega))
  rw [hn] at HI
  clear h hs hc hn hln
  go_enter Tryz.func55, Tryz.ntmps55
  go_wp2_with fail
  refine (unhide HN).mono ?_
  rintro e w1 ⟨rfl, h1, g1⟩
  have G1 := hide g1
  clear h1 g1
  go_wp2_with fail
  refine (unhide HI _).mono ?_
  rintro e w2 ⟨rfl, hu⟩
  obtain rfl := hu.symm
  go_wp2_with fail
  refine (must_no _ _).mono ?_
  rintro _ w3 ⟨rfl, hu⟩
  obtain rfl := hu.symm
  exact ⟨rfl, rfl, unhide G1⟩
theorem getName_none (B : Nat) (l : List UInt8) (w : World) (h : Rdr w B l) (hc : cut l = none) :
    Calls Tryz.prog 55 #[.pointer (some ⟨B, 0, none⟩), .func (.func 97) #[] #[], .func (.func 91) #[] #[], .int .i64 2] w fun e w' => e = .panicked (errP 2) ∧ w.grownBy w' (some B) := by
  have HN := hide (ended_none B l w h hc)
  clear h hc
  go_enter Tryz.func55, Tryz.ntmps55
  go_wp2_with fail
  refine (unhide HN).mono ?_
  rintro e w1 ⟨rfl, rfl⟩
  exact ⟨rfl, rfl, grown_refl _ _⟩
theorem getMode_ok (B : Nat) (l a b : List UInt8) (w : World) (h : Rdr w B l) (hs : l.length ≤ 268435456) (hc : cut l = some (a, b)) (hn : (lowL a == octet) = true) :
    Calls Tryz.prog 55 #[.pointer (some ⟨B, 0, none⟩), .func (.func 97) #[] #[], .func (.func 98) #[] #[], .int .i64 2] w fun e w' => e = .returned (.string ⟨a.toArray⟩) ∧ Rdr w' B b ∧ w.grownBy w' (some B) := by
  have hln := cut_len hc
  have HN := hide (ended_some B l a b w h hs hc)
  have HI := hide (fun u => isMode_any ⟨a.toArray⟩ a u rfl (by omega))
  rw [hn] at HI
  clear h hs hc hn hln
  go_enter Tryz.func55, Tryz.ntmps55
  go_wp2_with fail
  refine (unhide HN).mono ?_
  rintro e w1 ⟨rfl, h1, g1⟩
  have H1 := hide h1
  have G1 := hide g1
  clear h1 g1
  go_wp2_with fail
  refine (unhide HI _).mono ?_
  rintro e w2 ⟨rfl, hb⟩
  have HR2 : Hid (Rdr w2 B b) := hide ((hb.block B (unhide H1).lt).trans (unhide H1))
  have HG2 : Hid (w.grownBy w2 (some B)) := hide (grown_below (unhide G1) hb)
  clear hb
  go_wp2_with fail
  refine (must_ok _ _).mono ?_
  rintro _ w3 ⟨rfl, hu⟩
  obtain rfl := hu.symm
  go_wp2
  go_ret
  exact ⟨rfl, unhide HR2, unhide HG2⟩
theorem getMode_bad (B : Nat) (l a b : List UInt8) (w : World) (h : Rdr w B l) (hs : l.length ≤ 268435456) (hc : cut l = some (a, b)) (hn : (lowL a == octet) = false) :
    Calls Tryz.prog 55 #[.pointer (some ⟨B, 0, none⟩), .func (.func 97) #[] #[], .func (.func 98) #[] #[], .int .i64 2] w fun e w' => e = .panicked (errP 2) ∧ w.grownBy w' (some B) := by
  have hln := cut_len hc
  have HN := hide (ended_some B l a b w h hs hc)
  have HI := hide (fun u => isMode_any ⟨a.toArray⟩ a u rfl (by omega))
  rw [hn] at HI
  clear h hs hc hn hln
  go_enter Tryz.func55, Tryz.ntmps55
  go_wp2_with fail
  refine (unhide HN).mono ?_
  rintro e w1 ⟨rfl, h1, g1⟩
  have G1 := hide g1
  clear h1 g1
  go_wp2_with fail
  refine (unhide HI _).mono ?_
  rintro e w2 ⟨rfl, hb⟩
  have HG2 : Hid (w.grownBy w2 (some B)) := hide (grown_below (unhide G1) hb)
  clear hb
  go_wp2_with fail
  refine (must_no _ _).mono ?_
  rintro _ w3 ⟨rfl, hu⟩
  obtain rfl := hu.symm
  exact ⟨rfl, rfl, unhide HG2⟩
theorem getMode_none (B : Nat) (l : List UInt8) (w : World) (h : Rdr w B l) (hc : cut l = none) :
    Calls Tryz.prog 55 #[.pointer (some ⟨B, 0, none⟩), .func (.func 97) #[] #[], .func (.func 98) #[] #[], .int .i64 2] w fun e w' => e = .panicked (errP 2) ∧ w.grownBy w' (some B) := by
  have HN := hide (ended_none B l w h hc)
  clear h hc
  go_enter Tryz.func55, Tryz.ntmps55
  go_wp2_with fail
  refine (unhide HN).mono ?_
  rintro e w1 ⟨rfl, rfl⟩
  exact ⟨rfl, rfl, grown_refl _ _⟩
theorem getData_ok (B : Nat) (l : List UInt8) (w : World) (h : Rdr w B l) (hs : l.length ≤ 268435456) (ht : l.length ≤ 1024) :
    Calls Tryz.prog 55 #[.pointer (some ⟨B, 0, none⟩), .func (.func 56) #[] #[], .func (.func 76) #[] #[], .int .i64 7] w fun e w' => e = .returned (.string ⟨l.toArray⟩) ∧ Rdr w' B [] ∧ w.grownBy w' (some B) := by
  have HN := hide (remaining_ok B l w h (by omega))
  have HI := hide (fun u => isBlock_any ⟨l.toArray⟩ u)
  rw [show decide (((⟨l.toArray⟩ : ByteArray).size : Int) ≤ 1024) = true by rw [str_size, decide_eq_true_iff]; omega] at HI
  clear h hs ht
  go_enter Tryz.func55, Tryz.ntmps55
  go_wp2_with fail
  refine (unhide HN).mono ?_
  rintro e w1 ⟨rfl, h1, g1⟩
  have H1 := hide h1
  have G1 := hide g1
  clear h1 g1
  go_wp2_with fail
  refine (unhide HI _).mono ?_
  rintro e w2 ⟨rfl, rfl⟩
  go_wp2_with fail
  refine (must_ok _ _).mono ?_
  rintro _ w3 ⟨rfl, hu⟩
  obtain rfl := hu.symm
  go_wp2
  go_ret
  exact ⟨rfl, unhide H1, unhide G1⟩
theorem getData_no (B : Nat) (l : List UInt8) (w : World) (h : Rdr w B l) (hs : l.length ≤ 268435456) (ht : 1024 < l.length) :
    Calls Tryz.prog 55 #[.pointer (some ⟨B, 0, none⟩), .func (.func 56) #[] #[], .func (.func 76) #[] #[], .int .i64 7] w fun e w' => e = .panicked (errP 7) ∧ w.grownBy w' (some B) := by
  have HN := hide (remaining_ok B l w h (by omega))
  have HI := hide (fun u => isBlock_any ⟨l.toArray⟩ u)
  rw [show decide (((⟨l.toArray⟩ : ByteArray).size : Int) ≤ 1024) = false by rw [str_size, decide_eq_false_iff_not]; omega] at HI
  clear h hs ht
  go_enter Tryz.func55, Tryz.ntmps55
  go_wp2_with fail
  refine (unhide HN).mono ?_
  rintro e w1 ⟨rfl, h1, g1⟩
  have G1 := hide g1
  clear h1 g1
  go_wp2_with fail
  refine (unhide HI _).mono ?_
  rintro e w2 ⟨rfl, rfl⟩
  go_wp2_with fail
  refine (must_no _ _).mono ?_
  rintro _ w3 ⟨rfl, hu⟩
  obtain rfl := hu.symm
  exact ⟨rfl, rfl, unhide G1⟩
end Go.Proofs.YtoifihhmneldeaaGreatDoor.Tf

namespace Go.Proofs.YtoifihhmneldeaaGreatDoor.Tf
open Go.ChangeShapes Go.WideShapes Go.ChangeAt Go.RowKit Bs
open Rd (Rdr errP grown_trans grown_alloc grown_set grown_refl grown_below grown_cells must_ok must_no)
set_option linter.unusedVariables false
set_option linter.unusedSimpArgs false

theorem infoFd : (Tryz.prog.info? 64).map (fun i => (i.zero, i.size, i.bytes)) = some (some (.agg #[.string ⟨#[]⟩, .string ⟨#[]⟩]), 2, 32) := by kernel_rfl
/-- what a reader's fields answer -/
def FldsPost (l : List UInt8) (B : Nat) (w : World) (e : Ending) (w' : World) : Prop :=
  w.grownBy w' (some B) ∧ match fldsR l with
    | none => e = .panicked (errP 2)
    | some fs => Rdr w' B [] ∧ ∃ v, e = .returned v ∧ w'.ownsRow w.heap.size 64 2 v fs.length (cellsF fs)
theorem own_kept {w w' : World} {B base : Nat} {v : Value} {n : Nat} {xs : List Value} {t : TypeId} {z : Nat} (h : w.ownsRow base t z v n xs) (hg : w.grownBy w' (some B)) (hB : B < base) : w'.ownsRow base t z v n xs :=
  h.kept hg (by
    cases hv : v.ownBlock with
    | none => exact Or.inl rfl
    | some k => refine Or.inr (fun e => ?_); have := (h.lt k hv).1; obtain rfl := Option.some.inj e; omega)
theorem own_slice {w : World} {b e z : Nat} {v : Value} {n : Nat} {xs : List Value} (h : w.ownsRow b e z v n xs) : ∃ ao cp, v = .slice ao n cp := by
  rcases h.2 with ⟨rfl, rfl⟩ | ⟨g, cap, cur, rfl, _⟩
  · exact ⟨_, _, rfl⟩
  · exact ⟨_, _, rfl⟩
theorem ownsRow_below {w w' : World} {base : Nat} {e : TypeId} {size : Nat} {v : Value} {n : Nat} {xs : List Value} (h : w.ownsRow base e size v n xs) (hb : Below w.heap.size w w') : w'.ownsRow base e size v n xs :=
  h.kept (row := none) ⟨hb.os, hb.tape, hb.output, hb.size, fun k hk _ => hb.block k hk⟩ (by cases v.ownBlock <;> simp)
theorem grown_own {w wm w4 : World} {B : Nat} {r : Option Nat} (h : w.grownBy wm (some B)) (hg : wm.grownBy w4 r) (hr : ∀ k, r = some k → w.heap.size ≤ k) : w.grownBy w4 (some B) :=
  ⟨hg.os.trans h.os, hg.tape.trans h.tape, hg.output.trans h.output, Nat.le_trans h.size hg.size, fun i hi hne => (hg.block i (Nat.lt_of_lt_of_le hi h.size) (fun e => by have := hr i e.symm; omega)).trans (h.block i hi hne)⟩
theorem rdr_grown {w w4 : World} {B : Nat} {l : List UInt8} {r : Option Nat} (h : Rdr w B l) (hg : w.grownBy w4 r) (hr : ¬ r = some B) : Rdr w4 B l := by
  unfold Rdr
  rw [hg.block B h.lt (fun e => hr e.symm)]
  exact h
theorem gset (w : World) (a : Addr) (v : Value) : w.grownBy (w.setCell a v) (some a.block) :=
  ⟨rfl, rfl, rfl, by simp [World.setCell], fun k hk hne => by rw [Below.heap_setCell _ _ _ _ (fun e => hne (by rw [e]))]⟩
theorem own_off {v : Value} {g : Nat} (h : ∀ k, v.ownBlock = some k → k < g) : v.ownBlock = none ∨ v.ownBlock ≠ some g := by
  cases hv : v.ownBlock with
  | none => exact Or.inl rfl
  | some k => exact Or.inr (fun e => by have := h k hv; obtain rfl := Option.some.inj e; omega)
theorem set_two0 {w : World} {B : Nat} {a b v : Value} {t : TypeId} (h : w.heap[B]? = some (.cells #[a, b] t (0, 0))) : (w.setCell ⟨B, 0, none⟩ v).heap[B]? = some (.cells #[v, b] t (0, 0)) := by
  rw [setCell_eq_setRow w B 0 _ _ _ _ h, setRow_heap w B _ _ _ _ h]; rfl
theorem set_two1 {w : World} {B : Nat} {a b v : Value} {t : TypeId} (h : w.heap[B]? = some (.cells #[a, b] t (0, 0))) : (w.setCell ⟨B, 1, none⟩ v).heap[B]? = some (.cells #[a, v] t (0, 0)) := by
  rw [setCell_eq_setRow w B 1 _ _ _ _ h, setRow_heap w B _ _ _ _ h]; rfl
theorem atF_own {w : World} {b : Nat} {v : Value} {fs : Flds} (h : w.ownsRow b 64 2 v fs.length (cellsF fs)) : ∃ a cp, v = .slice a fs.length cp ∧ AtF w a fs := by
  have hcl := fun g hg => h.cells (g := g) hg
  rcases h.2 with ⟨e, h0⟩ | ⟨g, cap, cur, e, _⟩
  · exact ⟨none, 0, by rw [e, h0], fun i hi => by omega⟩
  · exact ⟨some ⟨g, 0, none⟩, cap, e, AtF.ofCells (fun j u hj => hcl g (by rw [e]; rfl) j u hj)⟩
/-- the fields that are read so far, and those that are still to be read -/
def stepK (l : List UInt8) (done : Flds) (m : List UInt8) : Prop := fieldsK l = (fieldsK m).map fun r => done ++ r
theorem stepK_next {l m n r v r2 : List UInt8} {done : Flds} (h : stepK l done m) (h0 : m ≠ []) (h1 : cut m = some (n, r)) (h2 : cut r = some (v, r2)) (hn : nameB n = true) (hv : nameB v = true) : stepK l (done ++ [(lowL n, v)]) r2 := by
  unfold stepK at *
  rw [h, fieldsK_next h0 h1 h2 hn hv]
  cases fieldsK r2 <;> simp
theorem stepK_none {l m : List UInt8} {done : Flds} (h : stepK l done m) (h1 : fieldsK m = none) : fldsR l = none := by
  unfold stepK at h
  unfold fldsR
  rw [h, h1]; rfl
theorem stepK_end {l : List UInt8} {done : Flds} (h : stepK l done []) : fldsR l = if apartB (namesF done) then some done else none := by
  unfold stepK at h
  unfold fldsR
  rw [h, fieldsK_nil]
  simp

set_option maxHeartbeats 2000000 in
theorem fieldsR_any (B : Nat) (l : List UInt8) (w : World) (h : Rdr w B l) (hl : l.length ≤ 268435456) :
    Calls Tryz.prog 99 #[.pointer (some ⟨B, 0, none⟩)] w fun e w' => FldsPost l B w e w' := by
  obtain ⟨i0, hi, hz0, hz1, hz2⟩ := info_parts infoFd
  have HR := hide h
  have hB := h.lt
  clear h
  go_enter Tryz.func99, Tryz.ntmps99
  go_wp2
  go_loopg [3] l.length (fun g v3 wr => ∃ (m : List UInt8) (ps : Flds), m.length = g ∧ g ≤ l.length ∧ 2 * ps.length + g ≤ l.length ∧ Hid (Rdr wr B m) ∧ Hid (wr.ownsRow w.heap.size 64 2 v3 ps.length (cellsF ps)) ∧ Hid (stepK l ps m) ∧ Hid (w.grownBy wr (some B)))
  case atStart => exact ⟨l, [], rfl, Nat.le_refl _, by simp, HR, hide (World.ownsRow_nil _ _ _ _), hide (by unfold stepK; simp), hide (grown_refl _ _)⟩
  case round =>
    obtain ⟨m, ps, hm, hg, hps, H1, H2, H3, H4⟩ := hrel
    rename World => wr
    have hc := cell_of_one (unhide H1)
    have hwz := (unhide H4).size
    have hm1 : m.length ≤ gk := by omega
    have hm2 : gk ≤ m.length := by omega
    clear hm
    by_cases h0 : m = []
    · subst h0
      have hie : (⟨([] : List UInt8).toArray⟩ : ByteArray).toList.isEmpty = true := by rw [ByteArray.toList_eq]; rfl
      obtain ⟨a3, c3, hv3, hat⟩ := atF_own (unhide H2)
      subst hv3
      have HD := hide (differ_any a3 c3 ps wr hat (by omega))
      have HE := hide (stepK_end (unhide H3))
      obtain ⟨b, hb⟩ : ∃ b, b = apartB (namesF ps) := ⟨_, rfl⟩
      rw [← hb] at HD HE
      clear hb hat
      go_wp2_with fail
      refine (unhide HD).mono ?_
      rintro e u ⟨rfl, hbu⟩
      have HGu : Hid (w.grownBy u (some B)) := hide (grown_below (unhide H4) hbu)
      have HOu := hide (ownsRow_below (unhide H2) hbu)
      have HRu : Hid (Rdr u B []) := hide ((hbu.block B (unhide H1).lt).trans (unhide H1))
      clear hbu HD
      cases b with
      | true =>
        go_wp2_with fail
        refine (must_ok _ _).mono ?_
        rintro _ w3 ⟨rfl, hu⟩
        obtain rfl := hu.symm
        go_wp2
        go_ret
        refine ⟨unhide HGu, ?_⟩
        rw [unhide HE]
        exact ⟨unhide HRu, _, rfl, unhide HOu⟩
      | false =>
        go_wp2_with fail
        refine (must_no _ _).mono ?_
        rintro _ w3 ⟨rfl, hu⟩
        obtain rfl := hu.symm
        refine ⟨rfl, unhide HGu, ?_⟩
        rw [unhide HE]
        rfl
    · obtain ⟨sm, hsm⟩ : ∃ s : ByteArray, s = ⟨m.toArray⟩ := ⟨_, rfl⟩
      rw [← hsm] at hc
      have hie : sm.toList.isEmpty = false := by
        rw [ByteArray.toList_eq, hsm]
        show m.isEmpty = false
        cases m with
        | nil => exact absurd rfl h0
        | cons => rfl
      obtain ⟨W, hWW⟩ : ∃ W, W = wr.alloc (.cells #[.string ⟨#[]⟩, .string ⟨#[]⟩] 64) := ⟨_, rfl⟩
      have R0 : Hid (Rdr W B m) := hide (by rw [hWW]; exact (unhide H1).alloc _)
      have G0 : Hid (w.grownBy W (some B)) := hide (by rw [hWW]; exact grown_alloc (unhide H4) _)
      have O0 : Hid (W.ownsRow w.heap.size 64 2 _ ps.length (cellsF ps)) := hide (by rw [hWW]; exact (unhide H2).alloc _)
      have X0 : Hid (W.heap[wr.heap.size]? = some (.cells #[.string ⟨#[]⟩, .string ⟨#[]⟩] 64 (0, 0))) := hide (by rw [hWW]; exact heap_alloc_new wr _)
      have hne : wr.heap.size ≠ B := by have := (unhide H1).lt; omega
      have HWW := hide hWW
      have hml : m.length ≤ 268435456 := by omega
      have H0 := hide h0
      clear hWW hsm
      cases hcm : cut m with
      | none =>
        have HN := hide (stepK_none (unhide H3) (fieldsK_none1 h0 hcm))
        have HG := hide (getName_none B m W (unhide R0) hcm)
        clear hcm
        go_wp2_with fail
        rw [← unhide HWW]
        refine (unhide HG).mono ?_
        rintro e u ⟨rfl, gu⟩
        refine ⟨rfl, grown_trans (unhide G0) gu, ?_⟩
        rw [unhide HN]
      | some p =>
        obtain ⟨n, r⟩ := p
        have hl1 := cut_len hcm
        have HL1 := hide hl1
        have hl2 : n.length + 1 + r.length ≤ m.length := by omega
        clear hl1
        by_cases hn : nameB n = true
        rotate_left
        · have hn' : nameB n = false := by simpa using hn
          have HN := hide (stepK_none (unhide H3) (fieldsK_badn h0 hcm hn'))
          have HG := hide (getName_bad B m n r W (unhide R0) hml hcm hn')
          clear hcm hn hn'
          go_wp2_with fail
          rw [← unhide HWW]
          refine (unhide HG).mono ?_
          rintro e u ⟨rfl, gu⟩
          refine ⟨rfl, grown_trans (unhide G0) gu, ?_⟩
          rw [unhide HN]
        · have HG := hide (getName_ok B m n r W (unhide R0) hml hcm hn)
          have HSM := hide (fun u => small_any ⟨n.toArray⟩ n u rfl (by omega))
          go_wp2_with fail
          rw [← unhide HWW]
          refine (unhide HG).mono ?_
          rintro e w1 ⟨rfl, r1, g1⟩
          have R1 := hide r1
          have G1 := hide (grown_trans (unhide G0) g1)
          have O1 := hide (own_kept (unhide O0) g1 hB)
          have X1 : Hid (w1.heap[wr.heap.size]? = some (.cells #[.string ⟨#[]⟩, .string ⟨#[]⟩] 64 (0, 0))) := hide ((g1.block wr.heap.size (lt_of_block (unhide X0)) (by simpa using hne)).trans (unhide X0))
          clear r1 g1 R0 G0 O0 X0 HG HWW hc
          go_wp2_with fail
          refine (unhide HSM _).mono ?_
          rintro e w2 ⟨rfl, hb2⟩
          have R2 : Hid (Rdr w2 B r) := hide ((hb2.block B (unhide R1).lt).trans (unhide R1))
          have G2 := hide (grown_below (unhide G1) hb2)
          have O2 := hide (ownsRow_below (unhide O1) hb2)
          have X2 : Hid (w2.heap[wr.heap.size]? = some (.cells #[.string ⟨#[]⟩, .string ⟨#[]⟩] 64 (0, 0))) := hide ((hb2.block _ (lt_of_block (unhide X1))).trans (unhide X1))
          have x0 : w2.cell? ⟨wr.heap.size, 0, none⟩ = some (.string ⟨#[]⟩) := cell_of_row w2 wr.heap.size 0 _ _ _ (unhide X2)
          have x0f : w2.frozen? ⟨wr.heap.size, 0, none⟩ = false := by simp [World.frozen?, unhide X2]
          obtain ⟨ln, hln⟩ : ∃ s : ByteArray, s = ⟨(lowL n).toArray⟩ := ⟨_, rfl⟩
          rw [← hln]
          have HLN := hide hln
          clear hln
          obtain ⟨W2, hW2⟩ : ∃ W2, W2 = w2.setCell ⟨wr.heap.size, 0, none⟩ (.string ln) := ⟨_, rfl⟩
          have hwl : w.heap.size ≤ wr.heap.size := hwz
          have HV3 : Hid (∀ k, Value.ownBlock _ = some k → k < wr.heap.size) := hide (fun k hk => ((unhide H2).lt k hk).2)
          have R3 : Hid (Rdr W2 B r) := hide (by rw [hW2]; exact rdr_grown (unhide R2) (gset _ _ _) (by simpa using hne))
          have G3 : Hid (w.grownBy W2 (some B)) := hide (by rw [hW2]; exact grown_own (unhide G2) (gset _ _ _) (fun k hk => by obtain rfl := Option.some.inj hk; exact hwl))
          have O3 := hide ((unhide O2).kept (gset w2 ⟨wr.heap.size, 0, none⟩ (.string ln)) (own_off (unhide HV3)))
          rw [← hW2] at O3
          have X3 : Hid (W2.heap[wr.heap.size]? = some (.cells #[.string ln, .string ⟨#[]⟩] 64 (0, 0))) := hide (by rw [hW2]; exact set_two0 (unhide X2))
          have HW2 := hide hW2
          have hrl : r.length ≤ 268435456 := by omega
          clear hW2 hb2 R1 G1 O1 X1 HSM R2 G2 O2
          cases hcr : cut r with
          | none =>
            have HN := hide (stepK_none (unhide H3) (fieldsK_none2 (unhide H0) hcm hcr))
            have HG := hide (getName_none B r W2 (unhide R3) hcr)
            clear hcr hcm hn
            go_wp2_with fail
            rw [← unhide HW2]
            refine (unhide HG).mono ?_
            rintro e u ⟨rfl, gu⟩
            refine ⟨rfl, grown_trans (unhide G3) gu, ?_⟩
            rw [unhide HN]
          | some p2 =>
            obtain ⟨v, r2⟩ := p2
            have hl3 : v.length + 1 + r2.length ≤ r.length := by have := cut_len hcr; omega
            by_cases hv : nameB v = true
            rotate_left
            · have hv' : nameB v = false := by simpa using hv
              have HN := hide (stepK_none (unhide H3) (fieldsK_badv (unhide H0) hcm hcr hv'))
              have HG := hide (getName_bad B r v r2 W2 (unhide R3) hrl hcr hv')
              clear hcr hcm hn hv hv'
              go_wp2_with fail
              rw [← unhide HW2]
              refine (unhide HG).mono ?_
              rintro e u ⟨rfl, gu⟩
              refine ⟨rfl, grown_trans (unhide G3) gu, ?_⟩
              rw [unhide HN]
            · have HG := hide (getName_ok B r v r2 W2 (unhide R3) hrl hcr hv)
              have HST := hide (stepK_next (unhide H3) (unhide H0) hcm hcr hn hv)
              clear hcr hcm hn hv
              go_wp2_with fail
              rw [← unhide HW2]
              refine (unhide HG).mono ?_
              rintro e w4 ⟨rfl, r4, g4⟩
              have R4 := hide r4
              have G4 := hide (grown_trans (unhide G3) g4)
              have O4 := hide (own_kept (unhide O3) g4 hB)
              have X4 : Hid (w4.heap[wr.heap.size]? = some (.cells #[.string ln, .string ⟨#[]⟩] 64 (0, 0))) := hide ((g4.block wr.heap.size (lt_of_block (unhide X3)) (by simpa using hne)).trans (unhide X3))
              obtain ⟨vs, hvs⟩ : ∃ s : ByteArray, s = ⟨v.toArray⟩ := ⟨_, rfl⟩
              rw [← hvs]
              have x1 : w4.cell? ⟨wr.heap.size, 1, none⟩ = some (.string ⟨#[]⟩) := cell_of_row w4 wr.heap.size 1 _ _ _ (unhide X4)
              have x1f : w4.frozen? ⟨wr.heap.size, 1, none⟩ = false := by simp [World.frozen?, unhide X4]
              obtain ⟨W5, hW5⟩ : ∃ W5, W5 = w4.setCell ⟨wr.heap.size, 1, none⟩ (.string vs) := ⟨_, rfl⟩
              have R5 : Hid (Rdr W5 B r2) := hide (by rw [hW5]; exact rdr_grown (unhide R4) (gset _ _ _) (by simpa using hne))
              have G5 : Hid (w.grownBy W5 (some B)) := hide (by rw [hW5]; exact grown_own (unhide G4) (gset _ _ _) (fun k hk => by obtain rfl := Option.some.inj hk; exact hwl))
              have O5 := hide ((unhide O4).kept (gset w4 ⟨wr.heap.size, 1, none⟩ (.string vs)) (own_off (unhide HV3)))
              rw [← hW5] at O5
              have X5 : Hid (W5.heap[wr.heap.size]? = some (.cells #[.string ln, .string vs] 64 (0, 0))) := hide (by rw [hW5]; exact set_two1 (unhide X4))
              have y0 : (w4.setCell ⟨wr.heap.size, 1, none⟩ (.string vs)).cell? ⟨wr.heap.size, 0, none⟩ = some (.string ln) := by rw [← hW5]; exact cell_of_row W5 wr.heap.size 0 _ _ _ (unhide X5)
              have y1 : (w4.setCell ⟨wr.heap.size, 1, none⟩ (.string vs)).cell? ⟨wr.heap.size, 1, none⟩ = some (.string vs) := by rw [← hW5]; exact cell_of_row W5 wr.heap.size 1 _ _ _ (unhide X5)
              have HW5 := hide hW5
              have HZ45 : Hid (W5.heap.size = w4.heap.size) := hide (by rw [hW5]; simp)
              have hz5 : w.heap.size ≤ W5.heap.size := (unhide G5).size
              have HFE : Hid ([.string ln, .string vs] = cellsF [(lowL n, v)]) := hide (by rw [unhide HLN, hvs]; rfl)
              clear r4 g4 HG R3 G3 O3 X3 HW2 R4 G4 O4 X4 hW5 hvs
              go_wp2_with (at_builtin; rw [← unhide HW5]; refine wpList_append_own _ rfl (.tmp 17) (.tmp 19) 133 rfl w.heap.size 64 i0 (.agg #[.string ⟨#[]⟩, .string ⟨#[]⟩]) 2 32 Tryz.underlying133 hi hz0 hz1 hz2 rfl (by decide) _ ps.length (cellsF ps) rfl ((unhide O5).alloc _) ⟨W5.heap.size, 0, none⟩ 1 1 [.string ln, .string vs] ?ad rfl ?c1 ?one ?h63 ?hby ?hba ?_)
              case ad => rw [unhide HZ45]; rfl
              case c1 => exact cell_new W5 [.string ln, .string vs] 64
              case one => intro u hu; simp at hu; rcases hu with rfl | rfl <;> rfl
              case h63 => simp only [maxLen]; omega
              case hby => omega
              case hba => simp; omega
              intro v' w6 hown hg6 _
              have hnew : ∀ k, Value.ownBlock _ = some k → w.heap.size ≤ k := fun k hk => ((unhide O5).lt k hk).1
              have hG6 := grown_own (grown_alloc (unhide G5) (.cells #[.string ln, .string vs] 64)) hg6 hnew
              have hR6 : Rdr w6 B r2 := rdr_grown ((unhide R5).alloc _) hg6 (fun e => by have := hnew B e; omega)
              have hO6 : w6.ownsRow w.heap.size 64 2 v' (ps ++ [(lowL n, v)]).length (cellsF (ps ++ [(lowL n, v)])) := by
                rw [List.length_append, cellsF_append, ← unhide HFE]
                exact hown
              obtain ⟨ao, cp, hv6⟩ := own_slice hO6
              have G6 := hide hG6
              have R6 := hide hR6
              have O6 := hide hO6
              clear hown hg6 hnew hG6 hR6 hO6 R5 G5 O5 X5 x0 x0f x1 x1f y0 y1
              subst hv6
              go_wp2
              go_roundg r2.length
              case rel => exact ⟨r2, ps ++ [(lowL n, v)], rfl, by omega, by rw [List.length_append]; simp; omega, R6, O6, HST, G6⟩
              case measure => omega
end Go.Proofs.YtoifihhmneldeaaGreatDoor.Tf

namespace Go.Proofs.YtoifihhmneldeaaGreatDoor.Tf
open Go.ChangeShapes Go.WideShapes Go.ChangeAt Go.RowKit Bs
open Rd (Rdr errP grown_trans grown_alloc grown_set grown_refl grown_below grown_cells must_ok must_no word_ok word_no)
set_option linter.unusedVariables false
set_option linter.unusedSimpArgs false

/-- where a reader of TFTP is: what is still to be read, the result's block, the variable's -/
structure TS (w u : World) (B : Nat) (l : List UInt8) (cs : Array Value) : Prop where
  rdr : Rdr u B l
  grown : w.grownBy u (some B)
  res : u.heap[w.heap.size]? = some (.cells #[.int .u16 0, .int .u16 0, .string ⟨#[]⟩, .string ⟨#[]⟩, .slice none 0 0] 62 (0, 0))
  var : u.heap[w.heap.size + 1]? = some (.cells cs 62 (0, 0))
theorem TS.start {w : World} {B : Nat} {l : List UInt8} (h : Rdr w B l) : TS w ((w.alloc (.cells #[.int .u16 0, .int .u16 0, .string ⟨#[]⟩, .string ⟨#[]⟩, .slice none 0 0] 62)).alloc (.cells #[.int .u16 0, .int .u16 0, .string ⟨#[]⟩, .string ⟨#[]⟩, .slice none 0 0] 62)) B l #[.int .u16 0, .int .u16 0, .string ⟨#[]⟩, .string ⟨#[]⟩, .slice none 0 0] := by
  refine ⟨(h.alloc _).alloc _, grown_alloc (grown_alloc (grown_refl _ _) _) _, ?_, ?_⟩
  · rw [Below.heap_alloc _ _ _ (by simp)]; exact heap_alloc_new w _
  · have q := heap_alloc_new (w.alloc (.cells #[.int .u16 0, .int .u16 0, .string ⟨#[]⟩, .string ⟨#[]⟩, .slice none 0 0] 62)) (.cells #[.int .u16 0, .int .u16 0, .string ⟨#[]⟩, .string ⟨#[]⟩, .slice none 0 0] 62)
    simpa using q
theorem TS.next {w u u2 : World} {B : Nat} {l l2 : List UInt8} {cs : Array Value} (h : TS w u B l cs) (hB : B < w.heap.size) (hr : Rdr u2 B l2) (hg : u.grownBy u2 (some B)) : TS w u2 B l2 cs :=
  ⟨hr, grown_trans h.grown hg, (hg.block _ (lt_of_block h.res) (by simp; omega)).trans h.res, (hg.block _ (lt_of_block h.var) (by simp; omega)).trans h.var⟩
theorem TS.set {w u : World} {B : Nat} {l : List UInt8} {cs : Array Value} (h : TS w u B l cs) (hB : B < w.heap.size) (j : Nat) (v : Value) : TS w (u.setCell ⟨w.heap.size + 1, j, none⟩ v) B l (cs.setIfInBounds j v) :=
  ⟨rdr_grown h.rdr (gset _ _ _) (by simp; omega), grown_own h.grown (gset _ _ _) (fun k hk => by obtain rfl := Option.some.inj hk; show w.heap.size ≤ w.heap.size + 1; omega), by rw [Below.heap_setCell _ _ _ _ (by simp)]; exact h.res, by rw [setCell_eq_setRow u (w.heap.size + 1) j _ _ _ _ h.var, setRow_heap u (w.heap.size + 1) _ _ _ _ h.var]⟩
theorem TS.cell {w u : World} {B : Nat} {l : List UInt8} {cs : Array Value} (h : TS w u B l cs) (j : Nat) : u.cell? ⟨w.heap.size + 1, j, none⟩ = cs[j]? := cell_of_row u _ j _ _ _ h.var
theorem TS.free {w u : World} {B : Nat} {l : List UInt8} {cs : Array Value} (h : TS w u B l cs) (j : Nat) : u.frozen? ⟨w.heap.size + 1, j, none⟩ = false := by simp [World.frozen?, h.var]
theorem TS.rcell {w u : World} {B : Nat} {l : List UInt8} {cs : Array Value} (h : TS w u B l cs) (j : Nat) : u.cell? ⟨w.heap.size, j, none⟩ = #[.int .u16 0, .int .u16 0, .string ⟨#[]⟩, .string ⟨#[]⟩, .slice none 0 0][j]? := cell_of_row u _ j _ _ _ h.res
theorem TS.rfree {w u : World} {B : Nat} {l : List UInt8} {cs : Array Value} (h : TS w u B l cs) (j : Nat) : u.frozen? ⟨w.heap.size, j, none⟩ = false := by simp [World.frozen?, h.res]
theorem TS.vlt {w u : World} {B : Nat} {l : List UInt8} {cs : Array Value} (h : TS w u B l cs) : w.heap.size + 1 < u.heap.size := lt_of_block h.var
theorem set_five {w : World} {g : Nat} {t : TypeId} (b0 b1 b2 b3 b4 v0 v1 v2 v3 v4 : Value) (h : w.heap[g]? = some (.cells #[b0, b1, b2, b3, b4] t (0, 0))) :
    (((((w.setCell ⟨g, 0, none⟩ v0).setCell ⟨g, 1, none⟩ v1).setCell ⟨g, 2, none⟩ v2).setCell ⟨g, 3, none⟩ v3).setCell ⟨g, 4, none⟩ v4).heap[g]? = some (.cells #[v0, v1, v2, v3, v4] t (0, 0)) := by
  have s1 : ∀ (u : World) (c : Array Value) (j : Nat) (v : Value), u.heap[g]? = some (.cells c t (0, 0)) → (u.setCell ⟨g, j, none⟩ v).heap[g]? = some (.cells (c.setIfInBounds j v) t (0, 0)) := fun u c j v hu => by
    rw [setCell_eq_setRow u g j _ _ _ _ hu, setRow_heap u g _ _ _ _ hu]
  have q := s1 _ _ 4 v4 (s1 _ _ 3 v3 (s1 _ _ 2 v2 (s1 _ _ 1 v1 (s1 _ _ 0 v0 h))))
  simpa using q
/-- what the reader of TFTP answers -/
def TftpPost (l : List UInt8) (B : Nat) (w : World) (ee : Ending) (w' : World) : Prop :=
  w.grownBy w' (some B) ∧ ((rdR l).1 ≠ 0 ∧ ee = .panicked (errP (rdR l).1) ∨ (rdR l).1 = 0 ∧ ∃ v, ee = .returned (.agg #[.int .u16 (rdR l).2.op, .int .u16 (rdR l).2.block, .string ⟨(rdR l).2.text.toArray⟩, .string ⟨(rdR l).2.data.toArray⟩, v]) ∧ w'.ownsRow w.heap.size 64 2 v (rdR l).2.fs.length (cellsF (rdR l).2.fs))
theorem post_no {l : List UInt8} {B : Nat} {w w' : World} {k : Nat} {m : Msg} (h : rdR l = (k, m)) (hk : k ≠ 0) (hg : w.grownBy w' (some B)) : TftpPost l B w (.panicked (errP k)) w' := ⟨hg, Or.inl (by rw [h]; exact ⟨hk, rfl⟩)⟩
theorem word_dec (a b : UInt8) (k : Nat) (h : a.toNat * 256 + b.toNat = k) : 256 * (a.toNat : Int) + (b.toNat : Int) = (k : Int) := by omega
theorem rd_head (a b : UInt8) (r : List UInt8) : ¬ (a :: b :: r).length < 2 := by simp

/-- how bytes behind a kind are read -/
def rdO (op : Nat) (r : List UInt8) : Nat × Msg :=
  if op = 1 then
    match cut r with
    | none => (2, .zero)
    | some (n, r1) => if nameB n = false then (2, .zero) else match cut r1 with
      | none => (2, .zero)
      | some (m, r2) => if lowL m ≠ octet then (2, .zero) else match fldsR r2 with
        | none => (2, .zero)
        | some fs => (0, ⟨op, 0, n, [], fs⟩)
  else if op = 6 then match fldsR r with
    | none => (2, .zero)
    | some fs => (0, ⟨op, 0, [], [], fs⟩)
  else if op = 3 ∨ op = 4 ∨ op = 5 then
    if r.length < 2 then (1, .zero) else
    let bl := (r.getD 0 0).toNat * 256 + (r.getD 1 0).toNat
    let q := r.drop 2
    if op = 3 then (if 1024 < q.length then (7, .zero) else (0, ⟨op, bl, [], q, []⟩))
    else if op = 4 then (if q = [] then (0, ⟨op, bl, [], [], []⟩) else (2, .zero))
    else match cut q with
      | none => (2, .zero)
      | some (t, q2) => if q2 = [] then (0, ⟨op, bl, t, [], []⟩) else (2, .zero)
  else (2, .zero)
theorem rdR_eq (a b : UInt8) (r : List UInt8) : rdR (a :: b :: r) = rdO (a.toNat * 256 + b.toNat) r := by
  unfold rdR rdO
  rw [if_neg (rd_head a b r)]
  rfl
theorem post_yes {l : List UInt8} {B : Nat} {w w' : World} {m : Msg} {v : Value} {o bl : Int} {ts ds : ByteArray} (h : rdR l = (0, m)) (ho : o = m.op) (hb : bl = m.block) (ht : ts = ⟨m.text.toArray⟩) (hd : ds = ⟨m.data.toArray⟩) (hg : w.grownBy w' (some B)) (hown : w'.ownsRow w.heap.size 64 2 v m.fs.length (cellsF m.fs)) : TftpPost l B w (.returned (.agg #[.int .u16 o, .int .u16 bl, .string ts, .string ds, v])) w' :=
  ⟨hg, Or.inr (by rw [h]; subst ho hb ht hd; exact ⟨rfl, v, rfl, hown⟩)⟩
theorem own_mono {w : World} {b b' : Nat} {e : TypeId} {z : Nat} {v : Value} {n : Nat} {xs : List Value} (h : w.ownsRow b e z v n xs) (hb : b' ≤ b) : w.ownsRow b' e z v n xs := by
  refine ⟨h.1, ?_⟩
  rcases h.2 with hx | ⟨g, cap, cur, e1, e2, e3⟩
  · exact Or.inl hx
  · exact Or.inr ⟨g, cap, cur, e1, Nat.le_trans hb e2, e3⟩
set_option maxHeartbeats 2000000 in
theorem rd_4 (B : Nat) (a b : UInt8) (r : List UInt8) (w : World) (h : Rdr w B (a :: b :: r)) (hs : r.length ≤ 1048576) (hop : a.toNat * 256 + b.toNat = 4) :
    Calls Tryz.prog 79 #[.pointer (some ⟨B, 0, none⟩)] w fun ee w' => TftpPost (a :: b :: r) B w ee w' := by
  have hB := h.lt
  have HS0 := hide (TS.start h)
  have HW := hide (word_ok B a b r _ (unhide HS0).rdr (by simp only [List.length_cons, maxLen]; omega))
  rw [word_dec a b _ hop] at HW
  clear h
  go_enter Tryz.func79, Tryz.ntmps79
  go_wp2_with fail
  refine (unhide HW).mono ?_
  rintro ee w1 ⟨rfl, r1, g1⟩
  have HS1 := hide ((unhide HS0).next hB r1 g1)
  clear r1 g1 HW HS0
  have v0 := (unhide HS1).cell 0
  have v0f := (unhide HS1).free 0
  simp only [List.getElem?_toArray, List.getElem?_cons_zero] at v0
  have HS2 := hide ((unhide HS1).set hB 0 (.int .u16 4))
  obtain ⟨W2, hW2⟩ : ∃ W2, W2 = w1.setCell ⟨w.heap.size + 1, 0, none⟩ (.int .u16 4) := ⟨_, rfl⟩
  rw [← hW2] at HS2
  have v1 : (w1.setCell ⟨w.heap.size + 1, 0, none⟩ (.int .u16 4)).cell? ⟨w.heap.size + 1, 0, none⟩ = some (.int .u16 4) := by rw [← hW2]; exact (unhide HS2).cell 0
  have HW2 := hide hW2
  clear hW2 HS1
  by_cases hsh : r.length < 2
  · have hrd : rdR (a :: b :: r) = (1, .zero) := by rw [rdR_eq, hop]; unfold rdO; simp [hsh]
    have HN := hide (word_no B r W2 (unhide HS2).rdr hsh)
    go_wp2_with fail
    rw [← unhide HW2]
    refine (unhide HN).mono ?_
    rintro ee wz ⟨rfl, hwz⟩
    exact ⟨rfl, post_no hrd (by decide) (by rw [hwz]; exact (unhide HS2).grown)⟩
  obtain ⟨c, d, q, rfl⟩ : ∃ c d q, r = c :: d :: q := by
    match r, hsh with
    | [], h => exact absurd (by simp) h
    | [_], h => exact absurd (by simp) h
    | c :: d :: q, _ => exact ⟨c, d, q, rfl⟩
  have HRD := hide (rdR_eq a b (c :: d :: q))
  rw [hop] at HRD
  have HN := hide (word_ok B c d q W2 (unhide HS2).rdr (by simp only [List.length_cons, maxLen] at hs ⊢; omega))
  obtain ⟨bl, hbl⟩ : ∃ bl : Int, bl = 256 * (c.toNat : Int) + (d.toNat : Int) := ⟨_, rfl⟩
  rw [← hbl] at HN
  have HBL := hide hbl
  have hql : q.length ≤ 1048576 := by simp only [List.length_cons] at hs; omega
  clear hbl hsh hs
  go_wp2_with fail
  rw [← unhide HW2]
  refine (unhide HN).mono ?_
  rintro ee w3 ⟨rfl, r3, g3⟩
  have HS3 := hide ((unhide HS2).next hB r3 g3)
  clear r3 g3 HN HW2 HS2 v0 v0f v1
  have fq1 : w3.cell? ⟨w.heap.size + 1, 1, none⟩ = some (.int .u16 0) := (unhide HS3).cell 1
  have fq1f := (unhide HS3).free 1
  obtain ⟨W4, hW4⟩ : ∃ u, u = w3.setCell ⟨w.heap.size + 1, 1, none⟩ (.int .u16 bl) := ⟨_, rfl⟩
  have HS4 := hide ((unhide HS3).set hB 1 (.int .u16 bl))
  rw [← hW4] at HS4
  have HW4 := hide hW4
  clear hW4
  by_cases hne : q = []
  · subst hne
    have hrd : rdR (a :: b :: c :: d :: []) = (0, ⟨4, c.toNat * 256 + d.toNat, [], [], []⟩) := by rw [unhide HRD]; unfold rdO; simp
    have HRD2 := hide hrd
    clear hrd
    obtain ⟨sq, hsq⟩ : ∃ s : ByteArray, s = ⟨([] : List UInt8).toArray⟩ := ⟨_, rfl⟩
    have hrc0 := cell_of_one (unhide HS4).rdr
    rw [← hsq] at hrc0
    have hrc : (w3.setCell ⟨w.heap.size + 1, 1, none⟩ (.int .u16 bl)).cell? ⟨B, 0, none⟩ = some (.string sq) := by rw [← unhide HW4]; exact hrc0
    have hie : sq.toList.isEmpty = true := by rw [ByteArray.toList_eq, hsq]; rfl
    clear hsq hrc0
    have c0 : (w3.setCell ⟨w.heap.size + 1, 1, none⟩ (.int .u16 bl)).cell? ⟨w.heap.size + 1, 0, none⟩ = some (.int .u16 4) := by rw [← unhide HW4]; exact (unhide HS4).cell 0
    have c1 : (w3.setCell ⟨w.heap.size + 1, 1, none⟩ (.int .u16 bl)).cell? ⟨w.heap.size + 1, 1, none⟩ = some (.int .u16 bl) := by rw [← unhide HW4]; exact (unhide HS4).cell 1
    have c2 : (w3.setCell ⟨w.heap.size + 1, 1, none⟩ (.int .u16 bl)).cell? ⟨w.heap.size + 1, 2, none⟩ = some (.string ⟨#[]⟩) := by rw [← unhide HW4]; exact (unhide HS4).cell 2
    have c3 : (w3.setCell ⟨w.heap.size + 1, 1, none⟩ (.int .u16 bl)).cell? ⟨w.heap.size + 1, 3, none⟩ = some (.string ⟨#[]⟩) := by rw [← unhide HW4]; exact (unhide HS4).cell 3
    have c4 : (w3.setCell ⟨w.heap.size + 1, 1, none⟩ (.int .u16 bl)).cell? ⟨w.heap.size + 1, 4, none⟩ = some (.slice none 0 0) := by rw [← unhide HW4]; exact (unhide HS4).cell 4
    have p0 : (w3.setCell ⟨w.heap.size + 1, 1, none⟩ (.int .u16 bl)).cell? ⟨w.heap.size, 0, none⟩ = some (.int .u16 0) := by rw [← unhide HW4]; exact (unhide HS4).rcell 0
    have p1 : (w3.setCell ⟨w.heap.size + 1, 1, none⟩ (.int .u16 bl)).cell? ⟨w.heap.size, 1, none⟩ = some (.int .u16 0) := by rw [← unhide HW4]; exact (unhide HS4).rcell 1
    have p2 : (w3.setCell ⟨w.heap.size + 1, 1, none⟩ (.int .u16 bl)).cell? ⟨w.heap.size, 2, none⟩ = some (.string ⟨#[]⟩) := by rw [← unhide HW4]; exact (unhide HS4).rcell 2
    have p3 : (w3.setCell ⟨w.heap.size + 1, 1, none⟩ (.int .u16 bl)).cell? ⟨w.heap.size, 3, none⟩ = some (.string ⟨#[]⟩) := by rw [← unhide HW4]; exact (unhide HS4).rcell 3
    have p4 : (w3.setCell ⟨w.heap.size + 1, 1, none⟩ (.int .u16 bl)).cell? ⟨w.heap.size, 4, none⟩ = some (.slice none 0 0) := by rw [← unhide HW4]; exact (unhide HS4).rcell 4
    have pf : ∀ j, (w3.setCell ⟨w.heap.size + 1, 1, none⟩ (.int .u16 bl)).frozen? ⟨w.heap.size, j, none⟩ = false := by rw [← unhide HW4]; exact (unhide HS4).rfree
    obtain ⟨U, hU⟩ : ∃ U, U = ((((W4.setCell ⟨w.heap.size, 0, none⟩ (.int .u16 4)).setCell ⟨w.heap.size, 1, none⟩ (.int .u16 bl)).setCell ⟨w.heap.size, 2, none⟩ (.string ⟨#[]⟩)).setCell ⟨w.heap.size, 3, none⟩ (.string ⟨#[]⟩)).setCell ⟨w.heap.size, 4, none⟩ (.slice none 0 0) := ⟨_, rfl⟩
    have hu : U.heap[w.heap.size]? = some (.cells #[.int .u16 4, .int .u16 bl, .string ⟨#[]⟩, .string ⟨#[]⟩, .slice none 0 0] 62 (0, 0)) := by rw [hU]; exact set_five _ _ _ _ _ _ _ _ _ _ (unhide HS4).res
    have y0 : U.cell? ⟨w.heap.size, 0, none⟩ = some (.int .u16 4) := cell_of_row U _ 0 _ _ _ hu
    have y1 : U.cell? ⟨w.heap.size, 1, none⟩ = some (.int .u16 bl) := cell_of_row U _ 1 _ _ _ hu
    have y2 : U.cell? ⟨w.heap.size, 2, none⟩ = some (.string ⟨#[]⟩) := cell_of_row U _ 2 _ _ _ hu
    have y3 : U.cell? ⟨w.heap.size, 3, none⟩ = some (.string ⟨#[]⟩) := cell_of_row U _ 3 _ _ _ hu
    have y4 : U.cell? ⟨w.heap.size, 4, none⟩ = some (.slice none 0 0) := cell_of_row U _ 4 _ _ _ hu
    have hgU : w.grownBy U (some B) := by
      rw [hU]
      iterate 5 refine grown_own ?_ (gset _ _ _) (fun k hk => by obtain rfl := Option.some.inj hk; exact Nat.le_refl _)
      exact (unhide HS4).grown
    have hoU : U.ownsRow w.heap.size 64 2 (.slice none 0 0) 0 [] := by
      rw [hU]
      refine own_mono (b := w.heap.size + 1) ?_ (by omega)
      iterate 5 refine ownsRow_setCell_below ?_ (by show w.heap.size < _; omega) _
      exact World.ownsRow_nil _ _ _ _
    have HU := hide (show U = (((((w3.setCell ⟨w.heap.size + 1, 1, none⟩ (.int .u16 bl)).setCell ⟨w.heap.size, 0, none⟩ (.int .u16 4)).setCell ⟨w.heap.size, 1, none⟩ (.int .u16 bl)).setCell ⟨w.heap.size, 2, none⟩ (.string ⟨#[]⟩)).setCell ⟨w.heap.size, 3, none⟩ (.string ⟨#[]⟩)).setCell ⟨w.heap.size, 4, none⟩ (.slice none 0 0) by rw [← unhide HW4]; exact hU)
    have HGU := hide hgU
    have HOU := hide hoU
    clear hU hu hgU hoU
    go_wp2_with fail
    refine (must_ok _ _).mono ?_
    rintro _ wz ⟨rfl, hwz⟩
    obtain rfl := hwz.symm
    go_wp2
    rw [← unhide HU]
    exact bodyPost_ret (v := .agg #[.int .u16 4, .int .u16 bl, .string ⟨#[]⟩, .string ⟨#[]⟩, .slice none 0 0]) (by simp [results, Tryz.results79, go_sem, y0, y1, y2, y3, y4]) rfl (post_yes (unhide HRD2) rfl (by have := unhide HBL; simp; omega) rfl rfl (unhide HGU) (unhide HOU))
  · have hrd : rdR (a :: b :: c :: d :: q) = (2, .zero) := by rw [unhide HRD]; unfold rdO; simp [hne]
    have HRD2 := hide hrd
    clear hrd
    obtain ⟨sq, hsq⟩ : ∃ s : ByteArray, s = ⟨q.toArray⟩ := ⟨_, rfl⟩
    have hrc0 := cell_of_one (unhide HS4).rdr
    rw [← hsq] at hrc0
    have hrc : (w3.setCell ⟨w.heap.size + 1, 1, none⟩ (.int .u16 bl)).cell? ⟨B, 0, none⟩ = some (.string sq) := by rw [← unhide HW4]; exact hrc0
    have hie : sq.toList.isEmpty = false := by
      rw [ByteArray.toList_eq, hsq]
      show q.isEmpty = false
      cases hq0 : q with
      | nil => exact absurd hq0 hne
      | cons => rfl
    clear hsq hrc0
    go_wp2_with fail
    refine (must_no _ _).mono ?_
    rintro _ wz ⟨rfl, hwz⟩
    obtain rfl := hwz.symm
    exact ⟨rfl, post_no (unhide HRD2) (by decide) (by rw [← unhide HW4]; exact (unhide HS4).grown)⟩
set_option maxHeartbeats 2000000 in
theorem rd_3 (B : Nat) (a b : UInt8) (r : List UInt8) (w : World) (h : Rdr w B (a :: b :: r)) (hs : r.length ≤ 1048576) (hop : a.toNat * 256 + b.toNat = 3) :
    Calls Tryz.prog 79 #[.pointer (some ⟨B, 0, none⟩)] w fun ee w' => TftpPost (a :: b :: r) B w ee w' := by
  have hB := h.lt
  have HS0 := hide (TS.start h)
  have HW := hide (word_ok B a b r _ (unhide HS0).rdr (by simp only [List.length_cons, maxLen]; omega))
  rw [word_dec a b _ hop] at HW
  clear h
  go_enter Tryz.func79, Tryz.ntmps79
  go_wp2_with fail
  refine (unhide HW).mono ?_
  rintro ee w1 ⟨rfl, r1, g1⟩
  have HS1 := hide ((unhide HS0).next hB r1 g1)
  clear r1 g1 HW HS0
  have v0 := (unhide HS1).cell 0
  have v0f := (unhide HS1).free 0
  simp only [List.getElem?_toArray, List.getElem?_cons_zero] at v0
  have HS2 := hide ((unhide HS1).set hB 0 (.int .u16 3))
  obtain ⟨W2, hW2⟩ : ∃ W2, W2 = w1.setCell ⟨w.heap.size + 1, 0, none⟩ (.int .u16 3) := ⟨_, rfl⟩
  rw [← hW2] at HS2
  have v1 : (w1.setCell ⟨w.heap.size + 1, 0, none⟩ (.int .u16 3)).cell? ⟨w.heap.size + 1, 0, none⟩ = some (.int .u16 3) := by rw [← hW2]; exact (unhide HS2).cell 0
  have HW2 := hide hW2
  clear hW2 HS1
  by_cases hsh : r.length < 2
  · have hrd : rdR (a :: b :: r) = (1, .zero) := by rw [rdR_eq, hop]; unfold rdO; simp [hsh]
    have HN := hide (word_no B r W2 (unhide HS2).rdr hsh)
    go_wp2_with fail
    rw [← unhide HW2]
    refine (unhide HN).mono ?_
    rintro ee wz ⟨rfl, hwz⟩
    exact ⟨rfl, post_no hrd (by decide) (by rw [hwz]; exact (unhide HS2).grown)⟩
  obtain ⟨c, d, q, rfl⟩ : ∃ c d q, r = c :: d :: q := by
    match r, hsh with
    | [], h => exact absurd (by simp) h
    | [_], h => exact absurd (by simp) h
    | c :: d :: q, _ => exact ⟨c, d, q, rfl⟩
  have HRD := hide (rdR_eq a b (c :: d :: q))
  rw [hop] at HRD
  have HN := hide (word_ok B c d q W2 (unhide HS2).rdr (by simp only [List.length_cons, maxLen] at hs ⊢; omega))
  obtain ⟨bl, hbl⟩ : ∃ bl : Int, bl = 256 * (c.toNat : Int) + (d.toNat : Int) := ⟨_, rfl⟩
  rw [← hbl] at HN
  have HBL := hide hbl
  have hql : q.length ≤ 1048576 := by simp only [List.length_cons] at hs; omega
  clear hbl hsh hs
  go_wp2_with fail
  rw [← unhide HW2]
  refine (unhide HN).mono ?_
  rintro ee w3 ⟨rfl, r3, g3⟩
  have HS3 := hide ((unhide HS2).next hB r3 g3)
  clear r3 g3 HN HW2 HS2 v0 v0f v1
  have fq1 : w3.cell? ⟨w.heap.size + 1, 1, none⟩ = some (.int .u16 0) := (unhide HS3).cell 1
  have fq1f := (unhide HS3).free 1
  obtain ⟨W4, hW4⟩ : ∃ u, u = w3.setCell ⟨w.heap.size + 1, 1, none⟩ (.int .u16 bl) := ⟨_, rfl⟩
  have HS4 := hide ((unhide HS3).set hB 1 (.int .u16 bl))
  rw [← hW4] at HS4
  have HW4 := hide hW4
  clear hW4
  by_cases hbig : 1024 < q.length
  · have hrd : rdR (a :: b :: c :: d :: q) = (7, .zero) := by rw [unhide HRD]; unfold rdO; simp [hbig]
    have HG := hide (getData_no B q W4 (unhide HS4).rdr (by omega) hbig)
    go_wp2_with fail
    rw [← unhide HW4]
    refine (unhide HG).mono ?_
    rintro ee wz ⟨rfl, gz⟩
    exact ⟨rfl, post_no hrd (by decide) (grown_trans (unhide HS4).grown gz)⟩
  have hrd : rdR (a :: b :: c :: d :: q) = (0, ⟨3, c.toNat * 256 + d.toNat, [], q, []⟩) := by rw [unhide HRD]; unfold rdO; simp [hbig]
  have HRD2 := hide hrd
  have HG := hide (getData_ok B q W4 (unhide HS4).rdr (by omega) (by omega))
  obtain ⟨ds, hds⟩ : ∃ s : ByteArray, s = ⟨q.toArray⟩ := ⟨_, rfl⟩
  rw [← hds] at HG
  have HDS := hide hds
  clear hrd hds hbig
  go_wp2_with fail
  rw [← unhide HW4]
  refine (unhide HG).mono ?_
  rintro ee w5 ⟨rfl, r5, g5⟩
  have HS5 := hide ((unhide HS4).next hB r5 g5)
  clear r5 g5 HG HW4 HS4 fq1 fq1f HS3
  have fq3 : w5.cell? ⟨w.heap.size + 1, 3, none⟩ = some (.string ⟨#[]⟩) := (unhide HS5).cell 3
  have fq3f := (unhide HS5).free 3
  obtain ⟨W6, hW6⟩ : ∃ u, u = w5.setCell ⟨w.heap.size + 1, 3, none⟩ (.string ds) := ⟨_, rfl⟩
  have HS6 := hide ((unhide HS5).set hB 3 (.string ds))
  rw [← hW6] at HS6
  have HW6 := hide hW6
  clear hW6
  obtain ⟨sq, hsq⟩ : ∃ s : ByteArray, s = ⟨([] : List UInt8).toArray⟩ := ⟨_, rfl⟩
  have hrc0 := cell_of_one (unhide HS6).rdr
  rw [← hsq] at hrc0
  have hrc : (w5.setCell ⟨w.heap.size + 1, 3, none⟩ (.string ds)).cell? ⟨B, 0, none⟩ = some (.string sq) := by rw [← unhide HW6]; exact hrc0
  have hie : sq.toList.isEmpty = true := by rw [ByteArray.toList_eq, hsq]; rfl
  clear hsq hrc0
  have c0 : (w5.setCell ⟨w.heap.size + 1, 3, none⟩ (.string ds)).cell? ⟨w.heap.size + 1, 0, none⟩ = some (.int .u16 3) := by rw [← unhide HW6]; exact (unhide HS6).cell 0
  have c1 : (w5.setCell ⟨w.heap.size + 1, 3, none⟩ (.string ds)).cell? ⟨w.heap.size + 1, 1, none⟩ = some (.int .u16 bl) := by rw [← unhide HW6]; exact (unhide HS6).cell 1
  have c2 : (w5.setCell ⟨w.heap.size + 1, 3, none⟩ (.string ds)).cell? ⟨w.heap.size + 1, 2, none⟩ = some (.string ⟨#[]⟩) := by rw [← unhide HW6]; exact (unhide HS6).cell 2
  have c3 : (w5.setCell ⟨w.heap.size + 1, 3, none⟩ (.string ds)).cell? ⟨w.heap.size + 1, 3, none⟩ = some (.string ds) := by rw [← unhide HW6]; exact (unhide HS6).cell 3
  have c4 : (w5.setCell ⟨w.heap.size + 1, 3, none⟩ (.string ds)).cell? ⟨w.heap.size + 1, 4, none⟩ = some (.slice none 0 0) := by rw [← unhide HW6]; exact (unhide HS6).cell 4
  have p0 : (w5.setCell ⟨w.heap.size + 1, 3, none⟩ (.string ds)).cell? ⟨w.heap.size, 0, none⟩ = some (.int .u16 0) := by rw [← unhide HW6]; exact (unhide HS6).rcell 0
  have p1 : (w5.setCell ⟨w.heap.size + 1, 3, none⟩ (.string ds)).cell? ⟨w.heap.size, 1, none⟩ = some (.int .u16 0) := by rw [← unhide HW6]; exact (unhide HS6).rcell 1
  have p2 : (w5.setCell ⟨w.heap.size + 1, 3, none⟩ (.string ds)).cell? ⟨w.heap.size, 2, none⟩ = some (.string ⟨#[]⟩) := by rw [← unhide HW6]; exact (unhide HS6).rcell 2
  have p3 : (w5.setCell ⟨w.heap.size + 1, 3, none⟩ (.string ds)).cell? ⟨w.heap.size, 3, none⟩ = some (.string ⟨#[]⟩) := by rw [← unhide HW6]; exact (unhide HS6).rcell 3
  have p4 : (w5.setCell ⟨w.heap.size + 1, 3, none⟩ (.string ds)).cell? ⟨w.heap.size, 4, none⟩ = some (.slice none 0 0) := by rw [← unhide HW6]; exact (unhide HS6).rcell 4
  have pf : ∀ j, (w5.setCell ⟨w.heap.size + 1, 3, none⟩ (.string ds)).frozen? ⟨w.heap.size, j, none⟩ = false := by rw [← unhide HW6]; exact (unhide HS6).rfree
  obtain ⟨U, hU⟩ : ∃ U, U = ((((W6.setCell ⟨w.heap.size, 0, none⟩ (.int .u16 3)).setCell ⟨w.heap.size, 1, none⟩ (.int .u16 bl)).setCell ⟨w.heap.size, 2, none⟩ (.string ⟨#[]⟩)).setCell ⟨w.heap.size, 3, none⟩ (.string ds)).setCell ⟨w.heap.size, 4, none⟩ (.slice none 0 0) := ⟨_, rfl⟩
  have hu : U.heap[w.heap.size]? = some (.cells #[.int .u16 3, .int .u16 bl, .string ⟨#[]⟩, .string ds, .slice none 0 0] 62 (0, 0)) := by rw [hU]; exact set_five _ _ _ _ _ _ _ _ _ _ (unhide HS6).res
  have y0 : U.cell? ⟨w.heap.size, 0, none⟩ = some (.int .u16 3) := cell_of_row U _ 0 _ _ _ hu
  have y1 : U.cell? ⟨w.heap.size, 1, none⟩ = some (.int .u16 bl) := cell_of_row U _ 1 _ _ _ hu
  have y2 : U.cell? ⟨w.heap.size, 2, none⟩ = some (.string ⟨#[]⟩) := cell_of_row U _ 2 _ _ _ hu
  have y3 : U.cell? ⟨w.heap.size, 3, none⟩ = some (.string ds) := cell_of_row U _ 3 _ _ _ hu
  have y4 : U.cell? ⟨w.heap.size, 4, none⟩ = some (.slice none 0 0) := cell_of_row U _ 4 _ _ _ hu
  have hgU : w.grownBy U (some B) := by
    rw [hU]
    iterate 5 refine grown_own ?_ (gset _ _ _) (fun k hk => by obtain rfl := Option.some.inj hk; exact Nat.le_refl _)
    exact (unhide HS6).grown
  have hoU : U.ownsRow w.heap.size 64 2 (.slice none 0 0) 0 [] := by
    rw [hU]
    refine own_mono (b := w.heap.size + 1) ?_ (by omega)
    iterate 5 refine ownsRow_setCell_below ?_ (by show w.heap.size < _; omega) _
    exact World.ownsRow_nil _ _ _ _
  have HU := hide (show U = (((((w5.setCell ⟨w.heap.size + 1, 3, none⟩ (.string ds)).setCell ⟨w.heap.size, 0, none⟩ (.int .u16 3)).setCell ⟨w.heap.size, 1, none⟩ (.int .u16 bl)).setCell ⟨w.heap.size, 2, none⟩ (.string ⟨#[]⟩)).setCell ⟨w.heap.size, 3, none⟩ (.string ds)).setCell ⟨w.heap.size, 4, none⟩ (.slice none 0 0) by rw [← unhide HW6]; exact hU)
  have HGU := hide hgU
  have HOU := hide hoU
  clear hU hu hgU hoU
  go_wp2_with fail
  refine (must_ok _ _).mono ?_
  rintro _ wz ⟨rfl, hwz⟩
  obtain rfl := hwz.symm
  go_wp2
  rw [← unhide HU]
  exact bodyPost_ret (v := .agg #[.int .u16 3, .int .u16 bl, .string ⟨#[]⟩, .string ds, .slice none 0 0]) (by simp [results, Tryz.results79, go_sem, y0, y1, y2, y3, y4]) rfl (post_yes (unhide HRD2) rfl (by have := unhide HBL; simp; omega) rfl (unhide HDS) (unhide HGU) (unhide HOU))
set_option maxHeartbeats 2000000 in
theorem rd_5 (B : Nat) (a b : UInt8) (r : List UInt8) (w : World) (h : Rdr w B (a :: b :: r)) (hs : r.length ≤ 1048576) (hop : a.toNat * 256 + b.toNat = 5) :
    Calls Tryz.prog 79 #[.pointer (some ⟨B, 0, none⟩)] w fun ee w' => TftpPost (a :: b :: r) B w ee w' := by
  have hB := h.lt
  have HS0 := hide (TS.start h)
  have HW := hide (word_ok B a b r _ (unhide HS0).rdr (by simp only [List.length_cons, maxLen]; omega))
  rw [word_dec a b _ hop] at HW
  clear h
  go_enter Tryz.func79, Tryz.ntmps79
  go_wp2_with fail
  refine (unhide HW).mono ?_
  rintro ee w1 ⟨rfl, r1, g1⟩
  have HS1 := hide ((unhide HS0).next hB r1 g1)
  clear r1 g1 HW HS0
  have v0 := (unhide HS1).cell 0
  have v0f := (unhide HS1).free 0
  simp only [List.getElem?_toArray, List.getElem?_cons_zero] at v0
  have HS2 := hide ((unhide HS1).set hB 0 (.int .u16 5))
  obtain ⟨W2, hW2⟩ : ∃ W2, W2 = w1.setCell ⟨w.heap.size + 1, 0, none⟩ (.int .u16 5) := ⟨_, rfl⟩
  rw [← hW2] at HS2
  have v1 : (w1.setCell ⟨w.heap.size + 1, 0, none⟩ (.int .u16 5)).cell? ⟨w.heap.size + 1, 0, none⟩ = some (.int .u16 5) := by rw [← hW2]; exact (unhide HS2).cell 0
  have HW2 := hide hW2
  clear hW2 HS1
  by_cases hsh : r.length < 2
  · have hrd : rdR (a :: b :: r) = (1, .zero) := by rw [rdR_eq, hop]; unfold rdO; simp [hsh]
    have HN := hide (word_no B r W2 (unhide HS2).rdr hsh)
    go_wp2_with fail
    rw [← unhide HW2]
    refine (unhide HN).mono ?_
    rintro ee wz ⟨rfl, hwz⟩
    exact ⟨rfl, post_no hrd (by decide) (by rw [hwz]; exact (unhide HS2).grown)⟩
  obtain ⟨c, d, q, rfl⟩ : ∃ c d q, r = c :: d :: q := by
    match r, hsh with
    | [], h => exact absurd (by simp) h
    | [_], h => exact absurd (by simp) h
    | c :: d :: q, _ => exact ⟨c, d, q, rfl⟩
  have HRD := hide (rdR_eq a b (c :: d :: q))
  rw [hop] at HRD
  have HN := hide (word_ok B c d q W2 (unhide HS2).rdr (by simp only [List.length_cons, maxLen] at hs ⊢; omega))
  obtain ⟨bl, hbl⟩ : ∃ bl : Int, bl = 256 * (c.toNat : Int) + (d.toNat : Int) := ⟨_, rfl⟩
  rw [← hbl] at HN
  have HBL := hide hbl
  have hql : q.length ≤ 1048576 := by simp only [List.length_cons] at hs; omega
  clear hbl hsh hs
  go_wp2_with fail
  rw [← unhide HW2]
  refine (unhide HN).mono ?_
  rintro ee w3 ⟨rfl, r3, g3⟩
  have HS3 := hide ((unhide HS2).next hB r3 g3)
  clear r3 g3 HN HW2 HS2 v0 v0f v1
  have fq1 : w3.cell? ⟨w.heap.size + 1, 1, none⟩ = some (.int .u16 0) := (unhide HS3).cell 1
  have fq1f := (unhide HS3).free 1
  obtain ⟨W4, hW4⟩ : ∃ u, u = w3.setCell ⟨w.heap.size + 1, 1, none⟩ (.int .u16 bl) := ⟨_, rfl⟩
  have HS4 := hide ((unhide HS3).set hB 1 (.int .u16 bl))
  rw [← hW4] at HS4
  have HW4 := hide hW4
  clear hW4
  cases hcq : cut q with
  | none =>
    have hrd : rdR (a :: b :: c :: d :: q) = (2, .zero) := by rw [unhide HRD]; unfold rdO; simp [hcq]
    have HG := hide (ended_none B q W4 (unhide HS4).rdr hcq)
    go_wp2_with fail
    rw [← unhide HW4]
    refine (unhide HG).mono ?_
    rintro ee wz ⟨rfl, hwz⟩
    exact ⟨rfl, post_no hrd (by decide) (by rw [← hwz]; exact (unhide HS4).grown)⟩
  | some p =>
    obtain ⟨t, q2⟩ := p
    have HG := hide (ended_some B q t q2 W4 (unhide HS4).rdr (by omega) hcq)
    obtain ⟨ts, hts⟩ : ∃ s : ByteArray, s = ⟨t.toArray⟩ := ⟨_, rfl⟩
    rw [← hts] at HG
    have HTS := hide hts
    have HCQ := hide hcq
    clear hts hcq
    go_wp2_with fail
    rw [← unhide HW4]
    refine (unhide HG).mono ?_
    rintro ee w5 ⟨rfl, r5, g5⟩
    have HS5 := hide ((unhide HS4).next hB r5 g5)
    clear r5 g5 HG HW4 HS4 fq1 fq1f HS3
    have fq2 : w5.cell? ⟨w.heap.size + 1, 2, none⟩ = some (.string ⟨#[]⟩) := (unhide HS5).cell 2
    have fq2f := (unhide HS5).free 2
    obtain ⟨W6, hW6⟩ : ∃ u, u = w5.setCell ⟨w.heap.size + 1, 2, none⟩ (.string ts) := ⟨_, rfl⟩
    have HS6 := hide ((unhide HS5).set hB 2 (.string ts))
    rw [← hW6] at HS6
    have HW6 := hide hW6
    clear hW6
    by_cases hne : q2 = []
    · subst hne
      have hrd : rdR (a :: b :: c :: d :: q) = (0, ⟨5, c.toNat * 256 + d.toNat, t, [], []⟩) := by rw [unhide HRD]; unfold rdO; simp [unhide HCQ]
      have HRD2 := hide hrd
      clear hrd
      obtain ⟨sq, hsq⟩ : ∃ s : ByteArray, s = ⟨([] : List UInt8).toArray⟩ := ⟨_, rfl⟩
      have hrc0 := cell_of_one (unhide HS6).rdr
      rw [← hsq] at hrc0
      have hrc : (w5.setCell ⟨w.heap.size + 1, 2, none⟩ (.string ts)).cell? ⟨B, 0, none⟩ = some (.string sq) := by rw [← unhide HW6]; exact hrc0
      have hie : sq.toList.isEmpty = true := by rw [ByteArray.toList_eq, hsq]; rfl
      clear hsq hrc0
      have c0 : (w5.setCell ⟨w.heap.size + 1, 2, none⟩ (.string ts)).cell? ⟨w.heap.size + 1, 0, none⟩ = some (.int .u16 5) := by rw [← unhide HW6]; exact (unhide HS6).cell 0
      have c1 : (w5.setCell ⟨w.heap.size + 1, 2, none⟩ (.string ts)).cell? ⟨w.heap.size + 1, 1, none⟩ = some (.int .u16 bl) := by rw [← unhide HW6]; exact (unhide HS6).cell 1
      have c2 : (w5.setCell ⟨w.heap.size + 1, 2, none⟩ (.string ts)).cell? ⟨w.heap.size + 1, 2, none⟩ = some (.string ts) := by rw [← unhide HW6]; exact (unhide HS6).cell 2
      have c3 : (w5.setCell ⟨w.heap.size + 1, 2, none⟩ (.string ts)).cell? ⟨w.heap.size + 1, 3, none⟩ = some (.string ⟨#[]⟩) := by rw [← unhide HW6]; exact (unhide HS6).cell 3
      have c4 : (w5.setCell ⟨w.heap.size + 1, 2, none⟩ (.string ts)).cell? ⟨w.heap.size + 1, 4, none⟩ = some (.slice none 0 0) := by rw [← unhide HW6]; exact (unhide HS6).cell 4
      have p0 : (w5.setCell ⟨w.heap.size + 1, 2, none⟩ (.string ts)).cell? ⟨w.heap.size, 0, none⟩ = some (.int .u16 0) := by rw [← unhide HW6]; exact (unhide HS6).rcell 0
      have p1 : (w5.setCell ⟨w.heap.size + 1, 2, none⟩ (.string ts)).cell? ⟨w.heap.size, 1, none⟩ = some (.int .u16 0) := by rw [← unhide HW6]; exact (unhide HS6).rcell 1
      have p2 : (w5.setCell ⟨w.heap.size + 1, 2, none⟩ (.string ts)).cell? ⟨w.heap.size, 2, none⟩ = some (.string ⟨#[]⟩) := by rw [← unhide HW6]; exact (unhide HS6).rcell 2
      have p3 : (w5.setCell ⟨w.heap.size + 1, 2, none⟩ (.string ts)).cell? ⟨w.heap.size, 3, none⟩ = some (.string ⟨#[]⟩) := by rw [← unhide HW6]; exact (unhide HS6).rcell 3
      have p4 : (w5.setCell ⟨w.heap.size + 1, 2, none⟩ (.string ts)).cell? ⟨w.heap.size, 4, none⟩ = some (.slice none 0 0) := by rw [← unhide HW6]; exact (unhide HS6).rcell 4
      have pf : ∀ j, (w5.setCell ⟨w.heap.size + 1, 2, none⟩ (.string ts)).frozen? ⟨w.heap.size, j, none⟩ = false := by rw [← unhide HW6]; exact (unhide HS6).rfree
      obtain ⟨U, hU⟩ : ∃ U, U = ((((W6.setCell ⟨w.heap.size, 0, none⟩ (.int .u16 5)).setCell ⟨w.heap.size, 1, none⟩ (.int .u16 bl)).setCell ⟨w.heap.size, 2, none⟩ (.string ts)).setCell ⟨w.heap.size, 3, none⟩ (.string ⟨#[]⟩)).setCell ⟨w.heap.size, 4, none⟩ (.slice none 0 0) := ⟨_, rfl⟩
      have hu : U.heap[w.heap.size]? = some (.cells #[.int .u16 5, .int .u16 bl, .string ts, .string ⟨#[]⟩, .slice none 0 0] 62 (0, 0)) := by rw [hU]; exact set_five _ _ _ _ _ _ _ _ _ _ (unhide HS6).res
      have y0 : U.cell? ⟨w.heap.size, 0, none⟩ = some (.int .u16 5) := cell_of_row U _ 0 _ _ _ hu
      have y1 : U.cell? ⟨w.heap.size, 1, none⟩ = some (.int .u16 bl) := cell_of_row U _ 1 _ _ _ hu
      have y2 : U.cell? ⟨w.heap.size, 2, none⟩ = some (.string ts) := cell_of_row U _ 2 _ _ _ hu
      have y3 : U.cell? ⟨w.heap.size, 3, none⟩ = some (.string ⟨#[]⟩) := cell_of_row U _ 3 _ _ _ hu
      have y4 : U.cell? ⟨w.heap.size, 4, none⟩ = some (.slice none 0 0) := cell_of_row U _ 4 _ _ _ hu
      have hgU : w.grownBy U (some B) := by
        rw [hU]
        iterate 5 refine grown_own ?_ (gset _ _ _) (fun k hk => by obtain rfl := Option.some.inj hk; exact Nat.le_refl _)
        exact (unhide HS6).grown
      have hoU : U.ownsRow w.heap.size 64 2 (.slice none 0 0) 0 [] := by
        rw [hU]
        refine own_mono (b := w.heap.size + 1) ?_ (by omega)
        iterate 5 refine ownsRow_setCell_below ?_ (by show w.heap.size < _; omega) _
        exact World.ownsRow_nil _ _ _ _
      have HU := hide (show U = (((((w5.setCell ⟨w.heap.size + 1, 2, none⟩ (.string ts)).setCell ⟨w.heap.size, 0, none⟩ (.int .u16 5)).setCell ⟨w.heap.size, 1, none⟩ (.int .u16 bl)).setCell ⟨w.heap.size, 2, none⟩ (.string ts)).setCell ⟨w.heap.size, 3, none⟩ (.string ⟨#[]⟩)).setCell ⟨w.heap.size, 4, none⟩ (.slice none 0 0) by rw [← unhide HW6]; exact hU)
      have HGU := hide hgU
      have HOU := hide hoU
      clear hU hu hgU hoU
      go_wp2_with fail
      refine (must_ok _ _).mono ?_
      rintro _ wz ⟨rfl, hwz⟩
      obtain rfl := hwz.symm
      go_wp2
      rw [← unhide HU]
      exact bodyPost_ret (v := .agg #[.int .u16 5, .int .u16 bl, .string ts, .string ⟨#[]⟩, .slice none 0 0]) (by simp [results, Tryz.results79, go_sem, y0, y1, y2, y3, y4]) rfl (post_yes (unhide HRD2) rfl (by have := unhide HBL; simp; omega) (unhide HTS) rfl (unhide HGU) (unhide HOU))
    · have hrd : rdR (a :: b :: c :: d :: q) = (2, .zero) := by rw [unhide HRD]; unfold rdO; simp [unhide HCQ, hne]
      have HRD2 := hide hrd
      clear hrd
      obtain ⟨sq, hsq⟩ : ∃ s : ByteArray, s = ⟨q2.toArray⟩ := ⟨_, rfl⟩
      have hrc0 := cell_of_one (unhide HS6).rdr
      rw [← hsq] at hrc0
      have hrc : (w5.setCell ⟨w.heap.size + 1, 2, none⟩ (.string ts)).cell? ⟨B, 0, none⟩ = some (.string sq) := by rw [← unhide HW6]; exact hrc0
      have hie : sq.toList.isEmpty = false := by
        rw [ByteArray.toList_eq, hsq]
        show q2.isEmpty = false
        cases hq0 : q2 with
        | nil => exact absurd hq0 hne
        | cons => rfl
      clear hsq hrc0
      go_wp2_with fail
      refine (must_no _ _).mono ?_
      rintro _ wz ⟨rfl, hwz⟩
      obtain rfl := hwz.symm
      exact ⟨rfl, post_no (unhide HRD2) (by decide) (by rw [← unhide HW6]; exact (unhide HS6).grown)⟩
set_option maxHeartbeats 2000000 in
theorem rd_6 (B : Nat) (a b : UInt8) (r : List UInt8) (w : World) (h : Rdr w B (a :: b :: r)) (hs : r.length ≤ 1048576) (hop : a.toNat * 256 + b.toNat = 6) :
    Calls Tryz.prog 79 #[.pointer (some ⟨B, 0, none⟩)] w fun ee w' => TftpPost (a :: b :: r) B w ee w' := by
  have hB := h.lt
  have HS0 := hide (TS.start h)
  have HW := hide (word_ok B a b r _ (unhide HS0).rdr (by simp only [List.length_cons, maxLen]; omega))
  rw [word_dec a b _ hop] at HW
  clear h
  go_enter Tryz.func79, Tryz.ntmps79
  go_wp2_with fail
  refine (unhide HW).mono ?_
  rintro ee w1 ⟨rfl, r1, g1⟩
  have HS1 := hide ((unhide HS0).next hB r1 g1)
  clear r1 g1 HW HS0
  have v0 := (unhide HS1).cell 0
  have v0f := (unhide HS1).free 0
  simp only [List.getElem?_toArray, List.getElem?_cons_zero] at v0
  have HS2 := hide ((unhide HS1).set hB 0 (.int .u16 6))
  obtain ⟨W2, hW2⟩ : ∃ W2, W2 = w1.setCell ⟨w.heap.size + 1, 0, none⟩ (.int .u16 6) := ⟨_, rfl⟩
  rw [← hW2] at HS2
  have v1 : (w1.setCell ⟨w.heap.size + 1, 0, none⟩ (.int .u16 6)).cell? ⟨w.heap.size + 1, 0, none⟩ = some (.int .u16 6) := by rw [← hW2]; exact (unhide HS2).cell 0
  have HW2 := hide hW2
  clear hW2 HS1
  have HG := hide (fieldsR_any B r W2 (unhide HS2).rdr (by omega))
  have hvl := (unhide HS2).vlt
  cases hfl : fldsR r with
  | none =>
    have hrd : rdR (a :: b :: r) = (2, .zero) := by rw [rdR_eq, hop]; unfold rdO; simp [hfl]
    go_wp2_with fail
    rw [← unhide HW2]
    refine (unhide HG).mono ?_
    rintro ee wz ⟨gz, hz⟩
    rw [hfl] at hz
    subst hz
    exact ⟨rfl, post_no hrd (by decide) (grown_trans (unhide HS2).grown gz)⟩
  | some fs =>
    have hrd : rdR (a :: b :: r) = (0, ⟨6, 0, [], [], fs⟩) := by rw [rdR_eq, hop]; unfold rdO; simp [hfl]
    have HRD2 := hide hrd
    have HFL := hide hfl
    clear hrd hfl
    go_wp2_with fail
    rw [← unhide HW2]
    refine (unhide HG).mono ?_
    rintro ee w7 ⟨g7, hz⟩
    rw [unhide HFL] at hz
    obtain ⟨r7, v, rfl, hown⟩ := hz
    obtain ⟨sa, scp, rfl⟩ := own_slice hown
    have HS7 := hide ((unhide HS2).next hB r7 g7)
    have HOW := hide hown
    have HVL := hide hvl
    clear r7 g7 hown hvl HG HW2 v0 v0f v1
    have fq4 : w7.cell? ⟨w.heap.size + 1, 4, none⟩ = some (.slice none 0 0) := (unhide HS7).cell 4
    have fq4f := (unhide HS7).free 4
    obtain ⟨W8, hW8⟩ : ∃ u, u = w7.setCell ⟨w.heap.size + 1, 4, none⟩ (.slice sa fs.length scp) := ⟨_, rfl⟩
    have HS8 := hide ((unhide HS7).set hB 4 (.slice sa fs.length scp))
    rw [← hW8] at HS8
    have HW8 := hide hW8
    clear hW8
    have HO8 : Hid (W8.ownsRow (w.heap.size + 1) 64 2 (.slice sa fs.length scp) fs.length (cellsF fs)) := hide (by
      rw [unhide HW8]
      refine own_mono (ownsRow_setCell_below (unhide HOW) (by have := unhide HVL; show w.heap.size + 1 < _; omega) _) (by have := unhide HVL; omega))
    obtain ⟨sq, hsq⟩ : ∃ s : ByteArray, s = ⟨([] : List UInt8).toArray⟩ := ⟨_, rfl⟩
    have hrc0 := cell_of_one (unhide HS8).rdr
    rw [← hsq] at hrc0
    have hrc : (w7.setCell ⟨w.heap.size + 1, 4, none⟩ (.slice sa fs.length scp)).cell? ⟨B, 0, none⟩ = some (.string sq) := by rw [← unhide HW8]; exact hrc0
    have hie : sq.toList.isEmpty = true := by rw [ByteArray.toList_eq, hsq]; rfl
    clear hsq hrc0
    have c0 : (w7.setCell ⟨w.heap.size + 1, 4, none⟩ (.slice sa fs.length scp)).cell? ⟨w.heap.size + 1, 0, none⟩ = some (.int .u16 6) := by rw [← unhide HW8]; exact (unhide HS8).cell 0
    have c1 : (w7.setCell ⟨w.heap.size + 1, 4, none⟩ (.slice sa fs.length scp)).cell? ⟨w.heap.size + 1, 1, none⟩ = some (.int .u16 0) := by rw [← unhide HW8]; exact (unhide HS8).cell 1
    have c2 : (w7.setCell ⟨w.heap.size + 1, 4, none⟩ (.slice sa fs.length scp)).cell? ⟨w.heap.size + 1, 2, none⟩ = some (.string ⟨#[]⟩) := by rw [← unhide HW8]; exact (unhide HS8).cell 2
    have c3 : (w7.setCell ⟨w.heap.size + 1, 4, none⟩ (.slice sa fs.length scp)).cell? ⟨w.heap.size + 1, 3, none⟩ = some (.string ⟨#[]⟩) := by rw [← unhide HW8]; exact (unhide HS8).cell 3
    have c4 : (w7.setCell ⟨w.heap.size + 1, 4, none⟩ (.slice sa fs.length scp)).cell? ⟨w.heap.size + 1, 4, none⟩ = some (.slice sa fs.length scp) := by rw [← unhide HW8]; exact (unhide HS8).cell 4
    have p0 : (w7.setCell ⟨w.heap.size + 1, 4, none⟩ (.slice sa fs.length scp)).cell? ⟨w.heap.size, 0, none⟩ = some (.int .u16 0) := by rw [← unhide HW8]; exact (unhide HS8).rcell 0
    have p1 : (w7.setCell ⟨w.heap.size + 1, 4, none⟩ (.slice sa fs.length scp)).cell? ⟨w.heap.size, 1, none⟩ = some (.int .u16 0) := by rw [← unhide HW8]; exact (unhide HS8).rcell 1
    have p2 : (w7.setCell ⟨w.heap.size + 1, 4, none⟩ (.slice sa fs.length scp)).cell? ⟨w.heap.size, 2, none⟩ = some (.string ⟨#[]⟩) := by rw [← unhide HW8]; exact (unhide HS8).rcell 2
    have p3 : (w7.setCell ⟨w.heap.size + 1, 4, none⟩ (.slice sa fs.length scp)).cell? ⟨w.heap.size, 3, none⟩ = some (.string ⟨#[]⟩) := by rw [← unhide HW8]; exact (unhide HS8).rcell 3
    have p4 : (w7.setCell ⟨w.heap.size + 1, 4, none⟩ (.slice sa fs.length scp)).cell? ⟨w.heap.size, 4, none⟩ = some (.slice none 0 0) := by rw [← unhide HW8]; exact (unhide HS8).rcell 4
    have pf : ∀ j, (w7.setCell ⟨w.heap.size + 1, 4, none⟩ (.slice sa fs.length scp)).frozen? ⟨w.heap.size, j, none⟩ = false := by rw [← unhide HW8]; exact (unhide HS8).rfree
    obtain ⟨U, hU⟩ : ∃ U, U = ((((W8.setCell ⟨w.heap.size, 0, none⟩ (.int .u16 6)).setCell ⟨w.heap.size, 1, none⟩ (.int .u16 0)).setCell ⟨w.heap.size, 2, none⟩ (.string ⟨#[]⟩)).setCell ⟨w.heap.size, 3, none⟩ (.string ⟨#[]⟩)).setCell ⟨w.heap.size, 4, none⟩ (.slice sa fs.length scp) := ⟨_, rfl⟩
    have hu : U.heap[w.heap.size]? = some (.cells #[.int .u16 6, .int .u16 0, .string ⟨#[]⟩, .string ⟨#[]⟩, .slice sa fs.length scp] 62 (0, 0)) := by rw [hU]; exact set_five _ _ _ _ _ _ _ _ _ _ (unhide HS8).res
    have y0 : U.cell? ⟨w.heap.size, 0, none⟩ = some (.int .u16 6) := cell_of_row U _ 0 _ _ _ hu
    have y1 : U.cell? ⟨w.heap.size, 1, none⟩ = some (.int .u16 0) := cell_of_row U _ 1 _ _ _ hu
    have y2 : U.cell? ⟨w.heap.size, 2, none⟩ = some (.string ⟨#[]⟩) := cell_of_row U _ 2 _ _ _ hu
    have y3 : U.cell? ⟨w.heap.size, 3, none⟩ = some (.string ⟨#[]⟩) := cell_of_row U _ 3 _ _ _ hu
    have y4 : U.cell? ⟨w.heap.size, 4, none⟩ = some (.slice sa fs.length scp) := cell_of_row U _ 4 _ _ _ hu
    have hgU : w.grownBy U (some B) := by
      rw [hU]
      iterate 5 refine grown_own ?_ (gset _ _ _) (fun k hk => by obtain rfl := Option.some.inj hk; exact Nat.le_refl _)
      exact (unhide HS8).grown
    have hoU : U.ownsRow w.heap.size 64 2 (.slice sa fs.length scp) fs.length (cellsF fs) := by
      rw [hU]
      refine own_mono (b := w.heap.size + 1) ?_ (by omega)
      iterate 5 refine ownsRow_setCell_below ?_ (by show w.heap.size < _; omega) _
      exact (unhide HO8)
    have HU := hide (show U = (((((w7.setCell ⟨w.heap.size + 1, 4, none⟩ (.slice sa fs.length scp)).setCell ⟨w.heap.size, 0, none⟩ (.int .u16 6)).setCell ⟨w.heap.size, 1, none⟩ (.int .u16 0)).setCell ⟨w.heap.size, 2, none⟩ (.string ⟨#[]⟩)).setCell ⟨w.heap.size, 3, none⟩ (.string ⟨#[]⟩)).setCell ⟨w.heap.size, 4, none⟩ (.slice sa fs.length scp) by rw [← unhide HW8]; exact hU)
    have HGU := hide hgU
    have HOU := hide hoU
    clear hU hu hgU hoU
    go_wp2_with fail
    refine (must_ok _ _).mono ?_
    rintro _ wz ⟨rfl, hwz⟩
    obtain rfl := hwz.symm
    go_wp2
    rw [← unhide HU]
    exact bodyPost_ret (v := .agg #[.int .u16 6, .int .u16 0, .string ⟨#[]⟩, .string ⟨#[]⟩, .slice sa fs.length scp]) (by simp [results, Tryz.results79, go_sem, y0, y1, y2, y3, y4]) rfl (post_yes (unhide HRD2) rfl rfl rfl rfl (unhide HGU) (unhide HOU))
set_option maxHeartbeats 2000000 in
theorem rd_1 (B : Nat) (a b : UInt8) (r : List UInt8) (w : World) (h : Rdr w B (a :: b :: r)) (hs : r.length ≤ 1048576) (hop : a.toNat * 256 + b.toNat = 1) :
    Calls Tryz.prog 79 #[.pointer (some ⟨B, 0, none⟩)] w fun ee w' => TftpPost (a :: b :: r) B w ee w' := by
  have hB := h.lt
  have HS0 := hide (TS.start h)
  have HW := hide (word_ok B a b r _ (unhide HS0).rdr (by simp only [List.length_cons, maxLen]; omega))
  rw [word_dec a b _ hop] at HW
  clear h
  go_enter Tryz.func79, Tryz.ntmps79
  go_wp2_with fail
  refine (unhide HW).mono ?_
  rintro ee w1 ⟨rfl, r1, g1⟩
  have HS1 := hide ((unhide HS0).next hB r1 g1)
  clear r1 g1 HW HS0
  have v0 := (unhide HS1).cell 0
  have v0f := (unhide HS1).free 0
  simp only [List.getElem?_toArray, List.getElem?_cons_zero] at v0
  have HS2 := hide ((unhide HS1).set hB 0 (.int .u16 1))
  obtain ⟨W2, hW2⟩ : ∃ W2, W2 = w1.setCell ⟨w.heap.size + 1, 0, none⟩ (.int .u16 1) := ⟨_, rfl⟩
  rw [← hW2] at HS2
  have v1 : (w1.setCell ⟨w.heap.size + 1, 0, none⟩ (.int .u16 1)).cell? ⟨w.heap.size + 1, 0, none⟩ = some (.int .u16 1) := by rw [← hW2]; exact (unhide HS2).cell 0
  have HW2 := hide hW2
  clear hW2 HS1
  cases hc1 : cut r with
  | none =>
    have hrd : rdR (a :: b :: r) = (2, .zero) := by rw [rdR_eq, hop]; unfold rdO; simp [hc1]
    have HG := hide (getName_none B r W2 (unhide HS2).rdr hc1)
    go_wp2_with fail
    rw [← unhide HW2]
    refine (unhide HG).mono ?_
    rintro ee wz ⟨rfl, gz⟩
    exact ⟨rfl, post_no hrd (by decide) (grown_trans (unhide HS2).grown gz)⟩
  | some p1 =>
    obtain ⟨n, r1⟩ := p1
    have hl1 : n.length + 1 + r1.length ≤ r.length := by have := cut_len hc1; omega
    by_cases hn : nameB n = true
    rotate_left
    · have hn' : nameB n = false := by simpa using hn
      have hrd : rdR (a :: b :: r) = (2, .zero) := by rw [rdR_eq, hop]; unfold rdO; simp [hc1, hn']
      have HG := hide (getName_bad B r n r1 W2 (unhide HS2).rdr (by omega) hc1 hn')
      go_wp2_with fail
      rw [← unhide HW2]
      refine (unhide HG).mono ?_
      rintro ee wz ⟨rfl, gz⟩
      exact ⟨rfl, post_no hrd (by decide) (grown_trans (unhide HS2).grown gz)⟩
    have HG := hide (getName_ok B r n r1 W2 (unhide HS2).rdr (by omega) hc1 hn)
    obtain ⟨ns, hns⟩ : ∃ s : ByteArray, s = ⟨n.toArray⟩ := ⟨_, rfl⟩
    rw [← hns] at HG
    have HNS := hide hns
    have HC1 := hide hc1
    have HN := hide hn
    clear hns hc1 hn
    go_wp2_with fail
    rw [← unhide HW2]
    refine (unhide HG).mono ?_
    rintro ee w3 ⟨rfl, r3, g3⟩
    have HS3 := hide ((unhide HS2).next hB r3 g3)
    clear r3 g3 HG HW2 HS2 v0 v0f v1
    have fq2 : w3.cell? ⟨w.heap.size + 1, 2, none⟩ = some (.string ⟨#[]⟩) := (unhide HS3).cell 2
    have fq2f := (unhide HS3).free 2
    obtain ⟨W4, hW4⟩ : ∃ u, u = w3.setCell ⟨w.heap.size + 1, 2, none⟩ (.string ns) := ⟨_, rfl⟩
    have HS4 := hide ((unhide HS3).set hB 2 (.string ns))
    rw [← hW4] at HS4
    have HW4 := hide hW4
    clear hW4
    cases hc2 : cut r1 with
    | none =>
      have hrd : rdR (a :: b :: r) = (2, .zero) := by rw [rdR_eq, hop]; unfold rdO; simp [unhide HC1, unhide HN, hc2]
      have HG := hide (getMode_none B r1 W4 (unhide HS4).rdr hc2)
      go_wp2_with fail
      rw [← unhide HW4]
      refine (unhide HG).mono ?_
      rintro ee wz ⟨rfl, gz⟩
      exact ⟨rfl, post_no hrd (by decide) (grown_trans (unhide HS4).grown gz)⟩
    | some p2 =>
      obtain ⟨mo, r2⟩ := p2
      have hl2 : mo.length + 1 + r2.length ≤ r1.length := by have := cut_len hc2; omega
      by_cases hmo : (lowL mo == octet) = true
      rotate_left
      · have hmo' : (lowL mo == octet) = false := by simpa using hmo
        have hmo2 : lowL mo ≠ octet := by simpa using hmo'
        have hrd : rdR (a :: b :: r) = (2, .zero) := by rw [rdR_eq, hop]; unfold rdO; simp [unhide HC1, unhide HN, hc2, hmo2]
        have HG := hide (getMode_bad B r1 mo r2 W4 (unhide HS4).rdr (by omega) hc2 hmo')
        clear hmo hmo' hmo2
        go_wp2_with fail
        rw [← unhide HW4]
        refine (unhide HG).mono ?_
        rintro ee wz ⟨rfl, gz⟩
        exact ⟨rfl, post_no hrd (by decide) (grown_trans (unhide HS4).grown gz)⟩
      have HG := hide (getMode_ok B r1 mo r2 W4 (unhide HS4).rdr (by omega) hc2 hmo)
      have HMO : Hid (lowL mo = octet) := hide (by simpa using hmo)
      obtain ⟨ms, hms⟩ : ∃ s : ByteArray, s = ⟨mo.toArray⟩ := ⟨_, rfl⟩
      rw [← hms] at HG
      have HC2 := hide hc2
      clear hms hmo hc2
      go_wp2_with fail
      rw [← unhide HW4]
      refine (unhide HG).mono ?_
      rintro ee w5 ⟨rfl, r5, g5⟩
      have HS5 := hide ((unhide HS4).next hB r5 g5)
      clear r5 g5 HG HW4 HS4 fq2 fq2f HS3
      have HG := hide (fieldsR_any B r2 w5 (unhide HS5).rdr (by omega))
      have hvl := (unhide HS5).vlt
      cases hfl : fldsR r2 with
      | none =>
        have hrd : rdR (a :: b :: r) = (2, .zero) := by rw [rdR_eq, hop]; unfold rdO; simp [unhide HC1, unhide HN, unhide HC2, unhide HMO, hfl]
        go_wp2_with fail
        skip
        refine (unhide HG).mono ?_
        rintro ee wz ⟨gz, hz⟩
        rw [hfl] at hz
        subst hz
        exact ⟨rfl, post_no hrd (by decide) (grown_trans (unhide HS5).grown gz)⟩
      | some fs =>
        have hrd : rdR (a :: b :: r) = (0, ⟨1, 0, n, [], fs⟩) := by rw [rdR_eq, hop]; unfold rdO; simp [unhide HC1, unhide HN, unhide HC2, unhide HMO, hfl]
        have HRD2 := hide hrd
        have HFL := hide hfl
        clear hrd hfl
        go_wp2_with fail
        skip
        refine (unhide HG).mono ?_
        rintro ee w7 ⟨g7, hz⟩
        rw [unhide HFL] at hz
        obtain ⟨r7, v, rfl, hown⟩ := hz
        obtain ⟨sa, scp, rfl⟩ := own_slice hown
        have HS7 := hide ((unhide HS5).next hB r7 g7)
        have HOW := hide hown
        have HVL := hide hvl
        clear r7 g7 hown hvl HG 
        have fq4 : w7.cell? ⟨w.heap.size + 1, 4, none⟩ = some (.slice none 0 0) := (unhide HS7).cell 4
        have fq4f := (unhide HS7).free 4
        obtain ⟨W8, hW8⟩ : ∃ u, u = w7.setCell ⟨w.heap.size + 1, 4, none⟩ (.slice sa fs.length scp) := ⟨_, rfl⟩
        have HS8 := hide ((unhide HS7).set hB 4 (.slice sa fs.length scp))
        rw [← hW8] at HS8
        have HW8 := hide hW8
        clear hW8
        have HO8 : Hid (W8.ownsRow (w.heap.size + 1) 64 2 (.slice sa fs.length scp) fs.length (cellsF fs)) := hide (by
          rw [unhide HW8]
          refine own_mono (ownsRow_setCell_below (unhide HOW) (by have := unhide HVL; show w.heap.size + 1 < _; omega) _) (by have := unhide HVL; omega))
        obtain ⟨sq, hsq⟩ : ∃ s : ByteArray, s = ⟨([] : List UInt8).toArray⟩ := ⟨_, rfl⟩
        have hrc0 := cell_of_one (unhide HS8).rdr
        rw [← hsq] at hrc0
        have hrc : (w7.setCell ⟨w.heap.size + 1, 4, none⟩ (.slice sa fs.length scp)).cell? ⟨B, 0, none⟩ = some (.string sq) := by rw [← unhide HW8]; exact hrc0
        have hie : sq.toList.isEmpty = true := by rw [ByteArray.toList_eq, hsq]; rfl
        clear hsq hrc0
        have c0 : (w7.setCell ⟨w.heap.size + 1, 4, none⟩ (.slice sa fs.length scp)).cell? ⟨w.heap.size + 1, 0, none⟩ = some (.int .u16 1) := by rw [← unhide HW8]; exact (unhide HS8).cell 0
        have c1 : (w7.setCell ⟨w.heap.size + 1, 4, none⟩ (.slice sa fs.length scp)).cell? ⟨w.heap.size + 1, 1, none⟩ = some (.int .u16 0) := by rw [← unhide HW8]; exact (unhide HS8).cell 1
        have c2 : (w7.setCell ⟨w.heap.size + 1, 4, none⟩ (.slice sa fs.length scp)).cell? ⟨w.heap.size + 1, 2, none⟩ = some (.string ns) := by rw [← unhide HW8]; exact (unhide HS8).cell 2
        have c3 : (w7.setCell ⟨w.heap.size + 1, 4, none⟩ (.slice sa fs.length scp)).cell? ⟨w.heap.size + 1, 3, none⟩ = some (.string ⟨#[]⟩) := by rw [← unhide HW8]; exact (unhide HS8).cell 3
        have c4 : (w7.setCell ⟨w.heap.size + 1, 4, none⟩ (.slice sa fs.length scp)).cell? ⟨w.heap.size + 1, 4, none⟩ = some (.slice sa fs.length scp) := by rw [← unhide HW8]; exact (unhide HS8).cell 4
        have p0 : (w7.setCell ⟨w.heap.size + 1, 4, none⟩ (.slice sa fs.length scp)).cell? ⟨w.heap.size, 0, none⟩ = some (.int .u16 0) := by rw [← unhide HW8]; exact (unhide HS8).rcell 0
        have p1 : (w7.setCell ⟨w.heap.size + 1, 4, none⟩ (.slice sa fs.length scp)).cell? ⟨w.heap.size, 1, none⟩ = some (.int .u16 0) := by rw [← unhide HW8]; exact (unhide HS8).rcell 1
        have p2 : (w7.setCell ⟨w.heap.size + 1, 4, none⟩ (.slice sa fs.length scp)).cell? ⟨w.heap.size, 2, none⟩ = some (.string ⟨#[]⟩) := by rw [← unhide HW8]; exact (unhide HS8).rcell 2
        have p3 : (w7.setCell ⟨w.heap.size + 1, 4, none⟩ (.slice sa fs.length scp)).cell? ⟨w.heap.size, 3, none⟩ = some (.string ⟨#[]⟩) := by rw [← unhide HW8]; exact (unhide HS8).rcell 3
        have p4 : (w7.setCell ⟨w.heap.size + 1, 4, none⟩ (.slice sa fs.length scp)).cell? ⟨w.heap.size, 4, none⟩ = some (.slice none 0 0) := by rw [← unhide HW8]; exact (unhide HS8).rcell 4
        have pf : ∀ j, (w7.setCell ⟨w.heap.size + 1, 4, none⟩ (.slice sa fs.length scp)).frozen? ⟨w.heap.size, j, none⟩ = false := by rw [← unhide HW8]; exact (unhide HS8).rfree
        obtain ⟨U, hU⟩ : ∃ U, U = ((((W8.setCell ⟨w.heap.size, 0, none⟩ (.int .u16 1)).setCell ⟨w.heap.size, 1, none⟩ (.int .u16 0)).setCell ⟨w.heap.size, 2, none⟩ (.string ns)).setCell ⟨w.heap.size, 3, none⟩ (.string ⟨#[]⟩)).setCell ⟨w.heap.size, 4, none⟩ (.slice sa fs.length scp) := ⟨_, rfl⟩
        have hu : U.heap[w.heap.size]? = some (.cells #[.int .u16 1, .int .u16 0, .string ns, .string ⟨#[]⟩, .slice sa fs.length scp] 62 (0, 0)) := by rw [hU]; exact set_five _ _ _ _ _ _ _ _ _ _ (unhide HS8).res
        have y0 : U.cell? ⟨w.heap.size, 0, none⟩ = some (.int .u16 1) := cell_of_row U _ 0 _ _ _ hu
        have y1 : U.cell? ⟨w.heap.size, 1, none⟩ = some (.int .u16 0) := cell_of_row U _ 1 _ _ _ hu
        have y2 : U.cell? ⟨w.heap.size, 2, none⟩ = some (.string ns) := cell_of_row U _ 2 _ _ _ hu
        have y3 : U.cell? ⟨w.heap.size, 3, none⟩ = some (.string ⟨#[]⟩) := cell_of_row U _ 3 _ _ _ hu
        have y4 : U.cell? ⟨w.heap.size, 4, none⟩ = some (.slice sa fs.length scp) := cell_of_row U _ 4 _ _ _ hu
        have hgU : w.grownBy U (some B) := by
          rw [hU]
          iterate 5 refine grown_own ?_ (gset _ _ _) (fun k hk => by obtain rfl := Option.some.inj hk; exact Nat.le_refl _)
          exact (unhide HS8).grown
        have hoU : U.ownsRow w.heap.size 64 2 (.slice sa fs.length scp) fs.length (cellsF fs) := by
          rw [hU]
          refine own_mono (b := w.heap.size + 1) ?_ (by omega)
          iterate 5 refine ownsRow_setCell_below ?_ (by show w.heap.size < _; omega) _
          exact (unhide HO8)
        have HU := hide (show U = (((((w7.setCell ⟨w.heap.size + 1, 4, none⟩ (.slice sa fs.length scp)).setCell ⟨w.heap.size, 0, none⟩ (.int .u16 1)).setCell ⟨w.heap.size, 1, none⟩ (.int .u16 0)).setCell ⟨w.heap.size, 2, none⟩ (.string ns)).setCell ⟨w.heap.size, 3, none⟩ (.string ⟨#[]⟩)).setCell ⟨w.heap.size, 4, none⟩ (.slice sa fs.length scp) by rw [← unhide HW8]; exact hU)
        have HGU := hide hgU
        have HOU := hide hoU
        clear hU hu hgU hoU
        go_wp2_with fail
        refine (must_ok _ _).mono ?_
        rintro _ wz ⟨rfl, hwz⟩
        obtain rfl := hwz.symm
        go_wp2
        rw [← unhide HU]
        exact bodyPost_ret (v := .agg #[.int .u16 1, .int .u16 0, .string ns, .string ⟨#[]⟩, .slice sa fs.length scp]) (by simp [results, Tryz.results79, go_sem, y0, y1, y2, y3, y4]) rfl (post_yes (unhide HRD2) rfl rfl (unhide HNS) rfl (unhide HGU) (unhide HOU))
set_option maxHeartbeats 2000000 in
theorem rd_x (B : Nat) (a b : UInt8) (r : List UInt8) (w : World) (h : Rdr w B (a :: b :: r)) (hs : r.length ≤ 1048576) (k : Nat) (hop : a.toNat * 256 + b.toNat = k) (hno : k ≠ 1 ∧ k ≠ 6 ∧ k ≠ 3 ∧ k ≠ 5 ∧ k ≠ 4) :
    Calls Tryz.prog 79 #[.pointer (some ⟨B, 0, none⟩)] w fun ee w' => TftpPost (a :: b :: r) B w ee w' := by
  obtain ⟨n1, n6, n3, n5, n4⟩ := hno
  have hrd : rdR (a :: b :: r) = (2, .zero) := by rw [rdR_eq, hop]; unfold rdO; simp [n1, n6, n3, n5, n4]
  have HRD2 := hide hrd
  have hB := h.lt
  have HS0 := hide (TS.start h)
  have HW := hide (word_ok B a b r _ (unhide HS0).rdr (by simp only [List.length_cons, maxLen]; omega))
  rw [word_dec a b _ hop] at HW
  obtain ⟨x, hx⟩ : ∃ x : Int, x = (k : Int) := ⟨_, rfl⟩
  rw [← hx] at HW
  have q1 : (x == 1) = false := by simp; omega
  have q6 : (x == 6) = false := by simp; omega
  have q3 : (x == 3) = false := by simp; omega
  have q5 : (x == 5) = false := by simp; omega
  have q4 : (x == 4) = false := by simp; omega
  clear h hrd hx n1 n6 n3 n5 n4
  go_enter Tryz.func79, Tryz.ntmps79
  go_wp2_with fail
  refine (unhide HW).mono ?_
  rintro ee w1 ⟨rfl, r1, g1⟩
  have HS1 := hide ((unhide HS0).next hB r1 g1)
  clear r1 g1 HW HS0
  have v0 := (unhide HS1).cell 0
  have v0f := (unhide HS1).free 0
  simp only [List.getElem?_toArray, List.getElem?_cons_zero] at v0
  have HS2 := hide ((unhide HS1).set hB 0 (.int .u16 x))
  obtain ⟨W2, hW2⟩ : ∃ W2, W2 = w1.setCell ⟨w.heap.size + 1, 0, none⟩ (.int .u16 x) := ⟨_, rfl⟩
  rw [← hW2] at HS2
  have v1 : (w1.setCell ⟨w.heap.size + 1, 0, none⟩ (.int .u16 x)).cell? ⟨w.heap.size + 1, 0, none⟩ = some (.int .u16 x) := by rw [← hW2]; exact (unhide HS2).cell 0
  have HW2 := hide hW2
  clear hW2 HS1
  go_wp2
  exact ⟨rfl, post_no (unhide HRD2) (by decide) (by rw [← unhide HW2]; exact (unhide HS2).grown)⟩
set_option maxHeartbeats 1000000 in
theorem rd_short (B : Nat) (l : List UInt8) (w : World) (h : Rdr w B l) (hl : l.length < 2) :
    Calls Tryz.prog 79 #[.pointer (some ⟨B, 0, none⟩)] w fun ee w' => TftpPost l B w ee w' := by
  have hrd : rdR l = (1, .zero) := by unfold rdR; rw [if_pos hl]
  have HS0 := hide (TS.start h)
  have HW := hide (word_no B l _ (unhide HS0).rdr hl)
  clear h
  go_enter Tryz.func79, Tryz.ntmps79
  go_wp2_with fail
  refine (unhide HW).mono ?_
  rintro ee wz ⟨rfl, hwz⟩
  exact ⟨rfl, post_no hrd (by decide) (by rw [hwz]; exact (unhide HS0).grown)⟩
theorem rdT_any (B : Nat) (l : List UInt8) (w : World) (h : Rdr w B l) (hl : l.length ≤ 1048576) :
    Calls Tryz.prog 79 #[.pointer (some ⟨B, 0, none⟩)] w fun ee w' => TftpPost l B w ee w' := by
  match l, h, hl with
  | [], h, _ => exact rd_short B [] w h (by simp)
  | [x], h, _ => exact rd_short B [x] w h (by simp)
  | a :: b :: r, h, hl =>
    have hs : r.length ≤ 1048576 := by simp only [List.length_cons] at hl; omega
    by_cases h1 : a.toNat * 256 + b.toNat = 1
    · exact rd_1 B a b r w h hs h1
    by_cases h6 : a.toNat * 256 + b.toNat = 6
    · exact rd_6 B a b r w h hs h6
    by_cases h3 : a.toNat * 256 + b.toNat = 3
    · exact rd_3 B a b r w h hs h3
    by_cases h5 : a.toNat * 256 + b.toNat = 5
    · exact rd_5 B a b r w h hs h5
    by_cases h4 : a.toNat * 256 + b.toNat = 4
    · exact rd_4 B a b r w h hs h4
    exact rd_x B a b r w h hs _ rfl ⟨h1, h6, h3, h5, h4⟩
end Go.Proofs.YtoifihhmneldeaaGreatDoor.Tf

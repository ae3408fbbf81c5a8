import Derived.Test.YtadkcdcdgphhpaaTFWriteW
import Derived.Test.YtadkcdcdgphhpaaTFSame
import Derived.Test.YtadkcdcdgphhpaaReaderText
namespace Go.Proofs.Ytadkcdcdgphhpaa.Tf
open Go.ChangeShapes Go.WideShapes Go.ChangeAt Go.RowKit Bs
open Rd (Rdr errP grown_trans grown_alloc grown_set grown_refl grown_below take_no take_ok text_ok remaining_ok must_ok must_no)
set_option linter.unusedVariables false
set_option linter.unusedSimpArgs false

theorem index_cut (l : List UInt8) : Lib.indexByte l 0 = match cut l with | none => -1 | some (a, _) => (a.length : Int) := by
  induction l with
  | nil => rfl
  | cons c r ih =>
    unfold Lib.indexByte cut
    by_cases hc : c = 0
    · subst hc; rfl
    · have e1 : (c == 0) = false := by simpa using hc
      rw [e1, if_neg hc, ih]
      simp only [Bool.false_eq_true, if_false]
      cases hr : cut r with
      | none => rfl
      | some p =>
        have : (((p.1.length : Nat) : Int) == -1) = false := by simp
        simp only [this, Bool.false_eq_true, if_false, List.length_cons]
        rfl
theorem cut_take {l a b : List UInt8} (h : cut l = some (a, b)) : l.take a.length = a ∧ l.drop a.length = 0 :: b := by
  obtain ⟨h1, _⟩ := cut_some h
  rw [h1]
  exact ⟨by simp, by simp⟩

set_option maxHeartbeats 1000000 in
theorem ended_some (B : Nat) (l a b : List UInt8) (w : World) (h : Rdr w B l) (hs : l.length ≤ 268435456) (hc : cut l = some (a, b)) :
    Calls Try.prog 131 #[.pointer (some ⟨B, 0, none⟩)] w fun e w' => e = .returned (.string ⟨a.toArray⟩) ∧ Rdr w' B b ∧ w.grownBy w' (some B) := by
  have hcl := cell_of_one h
  have hln := cut_len hc
  obtain ⟨t1, t2⟩ := cut_take hc
  have hi := index_cut l
  rw [hc] at hi
  simp only at hi
  have HI := hide (Sf.strings_Index_one ⟨l.toArray⟩ 0 w)
  rw [show (⟨l.toArray⟩ : ByteArray).data.toList = l from rfl, hi] at HI
  have HT := hide (text_ok B l a.length w h (by omega) (by omega))
  rw [t1, t2] at HT
  have HK := hide (fun (u : World) (hu : Rdr u B (0 :: b)) => take_ok B (0 :: b) 1 u hu (by simp) (by simp only [List.length_cons, maxLen]; omega))
  have hge : (0 : Int) ≤ (a.length : Int) := by omega
  clear h hi t1 t2 hln
  go_enter Try.func131, Try.ntmps131
  go_wp2_with fail
  refine (unhide HI).mono ?_
  rintro e u ⟨rfl, hu⟩
  obtain rfl := hu.symm
  go_wp2_with fail
  refine (must_ok _ _).mono ?_
  rintro _ w3 ⟨rfl, hu⟩
  obtain rfl := hu.symm
  go_wp2_with fail
  refine (unhide HT).mono ?_
  rintro e w1 ⟨rfl, r1, g1⟩
  have R1 := hide r1
  have G1 := hide g1
  clear r1 g1 HT HI hcl
  go_wp2_with fail
  refine (unhide HK _ (unhide R1)).mono ?_
  rintro e w2 ⟨rfl, hw2⟩
  have HR2 : Hid (Rdr w2 B b) := hide (by rw [hw2]; exact (unhide R1).set b)
  have HG2 : Hid (w.grownBy w2 (some B)) := hide (by rw [hw2]; exact grown_trans (unhide G1) (grown_set _))
  clear hw2 HK
  go_wp2
  go_ret
  exact ⟨rfl, unhide HR2, unhide HG2⟩

set_option maxHeartbeats 1000000 in
theorem ended_none (B : Nat) (l : List UInt8) (w : World) (h : Rdr w B l) (hc : cut l = none) :
    Calls Try.prog 131 #[.pointer (some ⟨B, 0, none⟩)] w fun e w' => e = .panicked (errP 2) ∧ w = w' := by
  have hcl := cell_of_one h
  have hi := index_cut l
  rw [hc] at hi
  simp only at hi
  have HI := hide (Sf.strings_Index_one ⟨l.toArray⟩ 0 w)
  rw [show (⟨l.toArray⟩ : ByteArray).data.toList = l from rfl, hi] at HI
  clear h hi
  go_enter Try.func131, Try.ntmps131
  go_wp2_with fail
  refine (unhide HI).mono ?_
  rintro e u ⟨rfl, hu⟩
  obtain rfl := hu.symm
  go_wp2_with fail
  refine (must_no _ _).mono ?_
  rintro _ w3 ⟨rfl, hu⟩
  obtain rfl := hu.symm
  exact ⟨rfl, rfl, rfl⟩

set_option maxHeartbeats 1000000 in
theorem isMode_any (s : ByteArray) (l : List UInt8) (w : World) (hsl : s.data.toList = l) (hl : l.length ≤ 1099511627776) :
    Calls Try.prog 133 #[.string s] w fun e w' => e = .returned (.bool (lowL l == octet)) ∧ Below w.heap.size w w' := by
  have HS := hide (small_any s l w hsl hl)
  obtain ⟨ls, hls⟩ : ∃ s : ByteArray, s = ⟨(lowL l).toArray⟩ := ⟨_, rfl⟩
  rw [← hls] at HS
  have hq : (ls.toList == [111, 99, 116, 101, 116]) = (lowL l == octet) := by
    rw [ByteArray.toList_eq, hls]; rfl
  clear hls
  go_enter Try.func133, Try.ntmps133
  go_wp2_with fail
  refine (unhide HS).mono ?_
  rintro e u ⟨rfl, hb⟩
  have HB := hide hb
  clear hb HS
  go_wp2
  go_ret
  exact ⟨by rw [← hq]; rfl, unhide HB⟩

/-- a text of a kind that is read: FN the reader's method is 'ended' -/
theorem getName_ok (B : Nat) (l a b : List UInt8) (w : World) (h : Rdr w B l) (hs : l.length ≤ 268435456) (hc : cut l = some (a, b)) (hn : nameB a = true) :
    Calls Try.prog 108 #[.pointer (some ⟨B, 0, none⟩), .func (.func 131) #[] #[], .func (.func 132) #[] #[], .int .i64 2] w fun e w' => e = .returned (.string ⟨a.toArray⟩) ∧ Rdr w' B b ∧ w.grownBy w' (some B) := by
  have hln := cut_len hc
  have HN := hide (ended_some B l a b w h hs hc)
  have HI := hide (fun u => isName_any ⟨a.toArray⟩ a u rfl (by omega))
  rw [hn] at HI
  clear h hs hc hn hln
  go_enter Try.func108, Try.ntmps108
  go_wp2_with fail
  refine (unhide HN).mono ?_
  rintro e w1 ⟨rfl, h1, g1⟩
  have H1 := hide h1
  have G1 := hide g1
  clear h1 g1
  go_wp2_with fail
  refine (unhide HI _).mono ?_
  rintro e w2 ⟨rfl, hu⟩
  obtain rfl := hu.symm
  go_wp2_with fail
  refine (must_ok _ _).mono ?_
  rintro _ w3 ⟨rfl, hu⟩
  obtain rfl := hu.symm
  go_wp2
  go_ret
  exact ⟨rfl, unhide H1, unhide G1⟩
theorem getName_bad (B : Nat) (l a b : List UInt8) (w : World) (h : Rdr w B l) (hs : l.length ≤ 268435456) (hc : cut l = some (a, b)) (hn : nameB a = false) :
    Calls Try.prog 108 #[.pointer (some ⟨B, 0, none⟩), .func (.func 131) #[] #[], .func (.func 132) #[] #[], .int .i64 2] w fun e w' => e = .panicked (errP 2) ∧ w.grownBy w' (some B) := by
  have hln := cut_len hc
  have HN := hide (ended_some B l a b w h hs hc)
  have HI := hide (fun u => isName_any ⟨a.toArray⟩ a u rfl (by omega))
  rw [hn] at HI
  clear h hs hc hn hln
  go_enter Try.func108, Try.ntmps108
  go_wp2_with fail
  refine (unhide HN).mono ?_
  rintro e w1 ⟨rfl, h1, g1⟩
  have G1 := hide g1
  clear h1 g1
  go_wp2_with fail
  refine (unhide HI _).mono ?_
  rintro e w2 ⟨rfl, hu⟩
  obtain rfl := hu.symm
  go_wp2_with fail
  refine (must_no _ _).mono ?_
  rintro _ w3 ⟨rfl, hu⟩
  obtain rfl := hu.symm
  exact ⟨rfl, rfl, unhide G1⟩
theorem getName_none (B : Nat) (l : List UInt8) (w : World) (h : Rdr w B l) (hc : cut l = none) :
    Calls Try.prog 108 #[.pointer (some ⟨B, 0, none⟩), .func (.func 131) #[] #[], .func (.func 132) #[] #[], .int .i64 2] w fun e w' => e = .panicked (errP 2) ∧ w.grownBy w' (some B) := by
  have HN := hide (ended_none B l w h hc)
  clear h hc
  go_enter Try.func108, Try.ntmps108
  go_wp2_with fail
  refine (unhide HN).mono ?_
  rintro e w1 ⟨rfl, rfl⟩
  exact ⟨rfl, rfl, grown_refl _ _⟩
theorem getMode_ok (B : Nat) (l a b : List UInt8) (w : World) (h : Rdr w B l) (hs : l.length ≤ 268435456) (hc : cut l = some (a, b)) (hn : (lowL a == octet) = true) :
    Calls Try.prog 108 #[.pointer (some ⟨B, 0, none⟩), .func (.func 131) #[] #[], .func (.func 133) #[] #[], .int .i64 2] w fun e w' => e = .returned (.string ⟨a.toArray⟩) ∧ Rdr w' B b ∧ w.grownBy w' (some B) := by
  have hln := cut_len hc
  have HN := hide (ended_some B l a b w h hs hc)
  have HI := hide (fun u => isMode_any ⟨a.toArray⟩ a u rfl (by omega))
  rw [hn] at HI
  clear h hs hc hn hln
  go_enter Try.func108, Try.ntmps108
  go_wp2_with fail
  refine (unhide HN).mono ?_
  rintro e w1 ⟨rfl, h1, g1⟩
  have H1 := hide h1
  have G1 := hide g1
  clear h1 g1
  go_wp2_with fail
  refine (unhide HI _).mono ?_
  rintro e w2 ⟨rfl, hb⟩
  have HR2 : Hid (Rdr w2 B b) := hide ((hb.block B (unhide H1).lt).trans (unhide H1))
  have HG2 : Hid (w.grownBy w2 (some B)) := hide (grown_below (unhide G1) hb)
  clear hb
  go_wp2_with fail
  refine (must_ok _ _).mono ?_
  rintro _ w3 ⟨rfl, hu⟩
  obtain rfl := hu.symm
  go_wp2
  go_ret
  exact ⟨rfl, unhide HR2, unhide HG2⟩
theorem getMode_bad (B : Nat) (l a b : List UInt8) (w : World) (h : Rdr w B l) (hs : l.length ≤ 268435456) (hc : cut l = some (a, b)) (hn : (lowL a == octet) = false) :
    Calls Try.prog 108 #[.pointer (some ⟨B, 0, none⟩), .func (.func 131) #[] #[], .func (.func 133) #[] #[], .int .i64 2] w fun e w' => e = .panicked (errP 2) ∧ w.grownBy w' (some B) := by
  have hln := cut_len hc
  have HN := hide (ended_some B l a b w h hs hc)
  have HI := hide (fun u => isMode_any ⟨a.toArray⟩ a u rfl (by omega))
  rw [hn] at HI
  clear h hs hc hn hln
  go_enter Try.func108, Try.ntmps108
  go_wp2_with fail
  refine (unhide HN).mono ?_
  rintro e w1 ⟨rfl, h1, g1⟩
  have G1 := hide g1
  clear h1 g1
  go_wp2_with fail
  refine (unhide HI _).mono ?_
  rintro e w2 ⟨rfl, hb⟩
  have HG2 : Hid (w.grownBy w2 (some B)) := hide (grown_below (unhide G1) hb)
  clear hb
  go_wp2_with fail
  refine (must_no _ _).mono ?_
  rintro _ w3 ⟨rfl, hu⟩
  obtain rfl := hu.symm
  exact ⟨rfl, rfl, unhide HG2⟩
theorem getMode_none (B : Nat) (l : List UInt8) (w : World) (h : Rdr w B l) (hc : cut l = none) :
    Calls Try.prog 108 #[.pointer (some ⟨B, 0, none⟩), .func (.func 131) #[] #[], .func (.func 133) #[] #[], .int .i64 2] w fun e w' => e = .panicked (errP 2) ∧ w.grownBy w' (some B) := by
  have HN := hide (ended_none B l w h hc)
  clear h hc
  go_enter Try.func108, Try.ntmps108
  go_wp2_with fail
  refine (unhide HN).mono ?_
  rintro e w1 ⟨rfl, rfl⟩
  exact ⟨rfl, rfl, grown_refl _ _⟩
theorem getData_ok (B : Nat) (l : List UInt8) (w : World) (h : Rdr w B l) (hs : l.length ≤ 268435456) (ht : l.length ≤ 1024) :
    Calls Try.prog 108 #[.pointer (some ⟨B, 0, none⟩), .func (.func 109) #[] #[], .func (.func 102) #[] #[], .int .i64 7] w fun e w' => e = .returned (.string ⟨l.toArray⟩) ∧ Rdr w' B [] ∧ w.grownBy w' (some B) := by
  have HN := hide (remaining_ok B l w h (by omega))
  have HI := hide (fun u => isBlock_any ⟨l.toArray⟩ u)
  rw [show decide (((⟨l.toArray⟩ : ByteArray).size : Int) ≤ 1024) = true by rw [str_size, decide_eq_true_iff]; omega] at HI
  clear h hs ht
  go_enter Try.func108, Try.ntmps108
  go_wp2_with fail
  refine (unhide HN).mono ?_
  rintro e w1 ⟨rfl, h1, g1⟩
  have H1 := hide h1
  have G1 := hide g1
  clear h1 g1
  go_wp2_with fail
  refine (unhide HI _).mono ?_
  rintro e w2 ⟨rfl, rfl⟩
  go_wp2_with fail
  refine (must_ok _ _).mono ?_
  rintro _ w3 ⟨rfl, hu⟩
  obtain rfl := hu.symm
  go_wp2
  go_ret
  exact ⟨rfl, unhide H1, unhide G1⟩
theorem getData_no (B : Nat) (l : List UInt8) (w : World) (h : Rdr w B l) (hs : l.length ≤ 268435456) (ht : 1024 < l.length) :
    Calls Try.prog 108 #[.pointer (some ⟨B, 0, none⟩), .func (.func 109) #[] #[], .func (.func 102) #[] #[], .int .i64 7] w fun e w' => e = .panicked (errP 7) ∧ w.grownBy w' (some B) := by
  have HN := hide (remaining_ok B l w h (by omega))
  have HI := hide (fun u => isBlock_any ⟨l.toArray⟩ u)
  rw [show decide (((⟨l.toArray⟩ : ByteArray).size : Int) ≤ 1024) = false by rw [str_size, decide_eq_false_iff_not]; omega] at HI
  clear h hs ht
  go_enter Try.func108, Try.ntmps108
  go_wp2_with fail
  refine (unhide HN).mono ?_
  rintro e w1 ⟨rfl, h1, g1⟩
  have G1 := hide g1
  clear h1 g1
  go_wp2_with fail
  refine (unhide HI _).mono ?_
  rintro e w2 ⟨rfl, rfl⟩
  go_wp2_with fail
  refine (must_no _ _).mono ?_
  rintro _ w3 ⟨rfl, hu⟩
  obtain rfl := hu.symm
  exact ⟨rfl, rfl, unhide G1⟩
end Go.Proofs.Ytadkcdcdgphhpaa.Tf

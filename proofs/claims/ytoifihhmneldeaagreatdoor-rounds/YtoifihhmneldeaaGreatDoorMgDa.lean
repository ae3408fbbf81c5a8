import Derived.WalkKit
import Derived.ProofKit
import Derived.Test.YtoifihhmneldeaaGreatDoorWriterAt
import Derived.Deep.RegionHeld3
namespace Go.Proofs.YtoifihhmneldeaaGreatDoor.Dh
set_option linter.unusedVariables false

/-- an option as bytes: in pieces of 255 -/
def opt8 (c : UInt8) (d : List UInt8) : List UInt8 :=
  if 255 < d.length then c :: 255 :: (d.take 255 ++ opt8 c (d.drop 255)) else c :: UInt8.ofNat d.length :: d
termination_by d.length
decreasing_by simp; omega
theorem opt8_long (c : UInt8) (d : List UInt8) (h : 255 < d.length) : opt8 c d = c :: 255 :: (d.take 255 ++ opt8 c (d.drop 255)) := by
  rw [opt8, if_pos h]
theorem opt8_short (c : UInt8) (d : List UInt8) (h : ¬ 255 < d.length) : opt8 c d = c :: UInt8.ofNat d.length :: d := by
  rw [opt8, if_neg h]
theorem opt8_length (c : UInt8) (d : List UInt8) : (opt8 c d).length ≤ 2 * d.length + 2 := by
  by_cases h : 255 < d.length
  · have ih := opt8_length c (d.drop 255)
    rw [opt8_long c d h]
    simp only [List.length_cons, List.length_append, List.length_take, List.length_drop] at ih ⊢
    omega
  · rw [opt8_short c d h]
    simp only [List.length_cons]; omega
termination_by d.length
decreasing_by simp; omega
theorem opt8_two (c : UInt8) (d : List UInt8) : 2 ≤ (opt8 c d).length := by
  by_cases h : 255 < d.length
  · rw [opt8_long c d h]; simp only [List.length_cons]; omega
  · rw [opt8_short c d h]; simp only [List.length_cons]; omega

/-- a code and its data -/
abbrev Pc := UInt8 × List UInt8
abbrev Opts := List Pc
def opts8 (os : Opts) : List UInt8 := os.flatMap fun o => opt8 o.1 o.2
theorem opts8_take (os : Opts) (k : Nat) (h : k < os.length) : opts8 (os.take (k + 1)) = opts8 (os.take k) ++ opt8 os[k].1 os[k].2 := by
  rw [opts8, List.take_succ_eq_append_getElem h, List.flatMap_append]
  simp [opts8]
theorem opts8_le (os : Opts) (k : Nat) : (opts8 (os.take k)).length ≤ (opts8 os).length := by
  have e : opts8 os = opts8 (os.take k) ++ opts8 (os.drop k) := by
    rw [opts8, opts8, opts8, ← List.flatMap_append, List.take_append_drop]
  rw [e, List.length_append]; omega
/-- how much options are: their number and their bytes -/
def heavy (os : Opts) : Nat := os.length + (os.map fun o => o.2.length).sum
theorem opts8_heavy (os : Opts) : (opts8 os).length ≤ 2 * heavy os := by
  induction os with
  | nil => simp [opts8, heavy]
  | cons o r ih =>
    have h := opt8_length o.1 o.2
    simp only [opts8, heavy, List.flatMap_cons, List.length_append, List.length_cons, List.map_cons, List.sum_cons] at ih ⊢
    omega
theorem heavy_take (os : Opts) (k : Nat) (h : k < os.length) : heavy (os.take (k + 1)) = heavy (os.take k) + 1 + os[k].2.length := by
  simp only [heavy, List.take_succ_eq_append_getElem h, List.map_append, List.sum_append, List.length_append, List.length_cons, List.length_nil, List.map_cons, List.map_nil, List.sum_cons, List.sum_nil]
  omega
theorem heavy_le (os : Opts) (k : Nat) : heavy (os.take k) ≤ heavy os := by
  have e : heavy os = heavy (os.take k) + heavy (os.drop k) := by
    have q : heavy (os.take k ++ os.drop k) = heavy (os.take k) + heavy (os.drop k) := by
      simp only [heavy, List.map_append, List.sum_append, List.length_append]; omega
    rwa [List.take_append_drop] at q
  omega
theorem heavy_one (os : Opts) (k : Nat) (h : k < os.length) : os[k].2.length ≤ heavy os := by
  have := heavy_take os k h
  have := heavy_le os (k + 1)
  omega
/-- no option of a message -/
def badC (c : UInt8) : Bool := c.toNat == 0 || c.toNat == 52 || c.toNat == 255
def bad (os : Opts) : Bool := os.any fun o => badC o.1
theorem bad_at {os : Opts} {k : Nat} (h : k < os.length) (hb : badC os[k].1 = true) : bad os = true := by
  simp only [bad, List.any_eq_true]
  exact ⟨os[k], List.getElem_mem h, hb⟩
theorem bad_take {os : Opts} {k : Nat} (h : k < os.length) (h0 : bad (os.take k) = false) (hb : badC os[k].1 = false) : bad (os.take (k + 1)) = false := by
  rw [List.take_succ_eq_append_getElem h]
  simp only [bad, List.any_append, List.any_cons, List.any_nil, Bool.or_false] at h0 ⊢
  rw [h0, hb]; rfl
end Go.Proofs.YtoifihhmneldeaaGreatDoor.Dh

namespace Go.Proofs.YtoifihhmneldeaaGreatDoor.Dh
open Go.ChangeShapes Go.WideShapes Go.ChangeAt Go.RowKit Bs Wt
set_option linter.unusedVariables false

theorem by8_nat (u : UInt8) : by8 (u.toNat : Int) = u := by
  have h := by8_toNat (u.toNat : Int)
  have := u.toNat_lt
  apply UInt8.toNat_inj.1
  omega
theorem by8_len (n : Nat) : by8 (n : Int) = UInt8.ofNat n := by
  apply UInt8.toNat_inj.1
  have h := by8_toNat (n : Int)
  rw [UInt8.toNat_ofNat']
  omega

/-- a text -/
abbrev str (l : List UInt8) : ByteArray := ⟨l.toArray⟩
theorem str_size (l : List UInt8) : (⟨l.toArray⟩ : ByteArray).size = l.length := by show l.toArray.size = _; simp
theorem str_take (l : List UInt8) (n : Nat) : (⟨l.toArray⟩ : ByteArray).extract 0 n = ⟨(l.take n).toArray⟩ := by
  apply ByteArray.ext
  rw [ByteArray.data_extract]
  apply Array.ext'
  simp
theorem str_drop (l : List UInt8) (n : Nat) : (⟨l.toArray⟩ : ByteArray).extract n (⟨l.toArray⟩ : ByteArray).size = ⟨(l.drop n).toArray⟩ := by
  apply ByteArray.ext
  rw [ByteArray.data_extract, str_size]
  apply Array.ext'
  simp
  rw [List.take_of_length_le (by simp)]

theorem wr_drew {w : World} {B : Nat} {L : List UInt8} (h : Wr w B L) : Wr w.drew B L := h

set_option maxHeartbeats 1000000 in
theorem piece_any (B : Nat) (c : UInt8) (d : ByteArray) (L : List UInt8) (w : World) (hW : Wr w B L) (hd : d.size ≤ 255) (hsz : L.length ≤ 1099511620000) :
    Calls Tryz.prog 101 #[.pointer (some ⟨B, 0, none⟩), .int .u8 c.toNat, .string d] w fun e w' =>
      e = .returned (.tuple #[]) ∧ Wr w' B (L ++ (c :: UInt8.ofNat d.size :: d.data.toList)) ∧ Kept B w w' := by
  have hc := c.toNat_lt
  have hq : IntKind.u8.wrap (d.size : Int) = (d.size : Int) := by rw [IntKind.wrap_u8]; omega
  have HW := hide hW
  have HF : Hid (L ++ [by8 (c.toNat : Int), by8 (d.size : Int)] ++ d.data.toList = L ++ (c :: UInt8.ofNat d.size :: d.data.toList)) := hide (by
    rw [by8_nat, by8_len]; simp)
  clear hW
  go_enter Tryz.func101, Tryz.ntmps101
  go_wp2_with fail
  refine (bytes_two B _ (c.toNat : Int) (d.size : Int) L _ (unhide HW) rfl (by omega) (by omega) (by omega)).mono ?_
  rintro e w1 ⟨rfl, k1, q1⟩
  have K1 := hide k1
  have Q1 := hide q1
  clear k1 q1
  go_wp2_with fail
  refine (texts_one B _ d _ _ (unhide K1) rfl (by simp only [List.length_append, List.length_cons, List.length_nil]; omega)).mono ?_
  rintro e w2 ⟨rfl, k2, q2⟩
  have K2 := hide k2
  have Q2 := hide q2
  clear k2 q2
  go_wp2
  go_end0
  exact ⟨rfl, by rw [← unhide HF]; exact unhide K2, (unhide Q1).trans (unhide Q2)⟩

set_option maxHeartbeats 1000000 in
theorem option_any (B : Nat) (c : UInt8) (d : List UInt8) (L : List UInt8) (w : World) (hW : Wr w B L) (hd : d.length ≤ 268435456) (hsz : L.length ≤ 268435456) :
    Calls Tryz.prog 86 #[.pointer (some ⟨B, 0, none⟩), .agg #[.int .u8 c.toNat, .string ⟨d.toArray⟩]] w fun e w' =>
      e = .returned (.tuple #[]) ∧ Wr w' B (L ++ opt8 c d) ∧ Kept B w w' := by
  have hc := c.toNat_lt
  have HW := hide hW
  have hB := hW.lt
  clear hW
  obtain ⟨W, hWW⟩ : ∃ W, W = w.alloc (.cells #[.int .u8 c.toNat, .string ⟨d.toArray⟩] 53) := ⟨_, rfl⟩
  have hbox : W.heap[w.heap.size]? = some (.cells #[.int .u8 c.toNat, .string ⟨d.toArray⟩] 53 (0, 0)) := by rw [hWW]; exact heap_alloc_new w _
  have hc0 : ∀ wr, Kept B W wr → wr.cell? ⟨w.heap.size, 0, none⟩ = some (.int .u8 c.toNat) := fun wr hK => by
    rw [cell_of_row wr w.heap.size 0 _ _ _ (hK.others _ _ _ _ hB hbox (by decide))]; rfl
  have HC0 := hide hc0
  have HW1 : Hid (Wr W B L) := hide (by rw [hWW]; exact (unhide HW).alloc _)
  have HK1 : Hid (Kept B w W) := hide (by rw [hWW]; exact (Kept.refl B w).alloc (by omega) _)
  have HWW := hide hWW
  clear hWW hbox hc0 HW
  go_enter Tryz.func86, Tryz.ntmps86
  go_wp2
  rw [← unhide HWW]
  clear HWW
  go_loopg [4] d.length (fun g v4 wr => ∃ m done : List UInt8, m.length = g ∧ g ≤ d.length ∧ v4 = .string ⟨m.toArray⟩ ∧ Hid (Wr wr B (L ++ done)) ∧ Hid (done ++ opt8 c m = opt8 c d) ∧ Hid (done.length ≤ 2 * (d.length - g)) ∧ Hid (Kept B W wr))
  case atStart => exact ⟨d, [], rfl, Nat.le_refl _, rfl, hide (by simpa using unhide HW1), hide rfl, hide (by simp), hide (Kept.refl _ _)⟩
  case round =>
    obtain ⟨m, done, hm, hg, rfl, H1, H2, H3, H4⟩ := hrel
    have c0 := unhide HC0 _ (unhide H4)
    have hz := str_size m
    have hgl := unhide H3
    obtain ⟨s, hS⟩ : ∃ s : ByteArray, s = ⟨m.toArray⟩ := ⟨_, rfl⟩
    have hz' : s.size = m.length := by rw [hS]; exact hz
    by_cases hlt : 255 < m.length
    · have hgt : (255 : Int) < (s.size : Int) := by omega
      have hs1 : s.size ≤ 9223372036854775807 := by omega
      have HP := hide (fun u hu => piece_any B c ⟨(m.take 255).toArray⟩ (L ++ done) u hu (by rw [str_size, List.length_take]; omega) (by rw [List.length_append]; omega))
      rw [← str_take m 255, ← hS] at HP
      have HD : Hid (s.extract 255 s.size = ⟨(m.drop 255).toArray⟩) := hide (by rw [hS]; exact str_drop m 255)
      have HE : Hid ((s.extract 0 255).size = 255 ∧ (s.extract 0 255).data.toList = m.take 255) := hide (by
        rw [hS, str_take]
        refine ⟨?_, by simp⟩
        rw [str_size, List.length_take]; omega)
      have HL := hide hz'
      have HG := hide hm
      have HLT := hide hlt
      rw [← hS]
      clear hS hz hz' hm hgl hlt
      go_wp2
      go_region_with (first | (go_at_call 101; refine (unhide HP _ (wr_drew (unhide H1))).mono ?_; rintro e u ⟨rfl, k1, q1⟩; have K1 := hide k1; have Q1 := hide q1; clear k1 q1))
      all_goals go_wp2
      all_goals go_roundg (gk - 255)
      all_goals first
        | (have := unhide HG; have := unhide HLT; omega)
        | (refine ⟨m.drop 255, done ++ (c :: UInt8.ofNat (s.extract 0 255).size :: (s.extract 0 255).data.toList), by have := unhide HG; rw [List.length_drop]; omega, by omega, ?_, hide ?_, hide ?_, hide ?_, hide ((unhide H4).trans ((Kept.refl B wr).drew.trans (unhide Q1)))⟩
           · rw [unhide HD]
           · rw [← List.append_assoc]; exact unhide K1
           · rw [(unhide HE).1, (unhide HE).2, ← unhide H2, opt8_long c m (unhide HLT)]; simp
           · have e2 := congrArg List.length (unhide HE).2
             have := unhide H3
             have := unhide HG
             have := unhide HLT
             rw [List.length_append, List.length_cons, List.length_cons, e2, List.length_take]
             omega)
    · have hgt : ¬ (255 : Int) < (s.size : Int) := by omega
      have HP := hide (fun u hu => piece_any B c ⟨m.toArray⟩ (L ++ done) u hu (by rw [str_size]; omega) (by rw [List.length_append]; omega))
      rw [← hS] at HP
      have HE : Hid (s.size = m.length ∧ s.data.toList = m) := hide ⟨hz', by rw [hS]⟩
      rw [← hS]
      have HLT := hide hlt
      clear hS hz hz' hm hgl hlt
      go_wp2_with fail
      refine (unhide HP _ (unhide H1)).mono ?_
      rintro e u ⟨rfl, k1, q1⟩
      have K1 := hide k1
      have Q1 := hide q1
      clear k1 q1
      go_wp2
      go_end0
      refine ⟨rfl, ?_, (unhide HK1).trans ((unhide H4).trans (unhide Q1))⟩
      have k := unhide K1
      rw [(unhide HE).1, (unhide HE).2, List.append_assoc, ← opt8_short c m (unhide HLT), unhide H2] at k
      exact k

/-- a list of options as it lies in memory -/
def At (w : World) (a : Option Addr) (os : Opts) : Prop :=
  ∀ i (h : i < os.length), ∃ ad, a = some ad ∧ w.cell? (ad.add (i * 2)) = some (.int .u8 os[i].1.toNat) ∧ w.cell? ⟨(ad.add (i * 2)).block, (ad.add (i * 2)).off + 1, none⟩ = some (.string ⟨os[i].2.toArray⟩)
theorem cell_lt {w : World} {p : Addr} {v : Value} (h : w.cell? p = some v) : p.block < w.heap.size := by
  by_cases hlt : p.block < w.heap.size
  · exact hlt
  · have hn : w.heap[p.block]? = none := by simp; omega
    simp [World.cell?, hn] at h
theorem At.below {w w' : World} {a : Option Addr} {os : Opts} {n : Nat} (h : At w a os) (hb : Below n w w') (hn : w.heap.size ≤ n) : At w' a os := fun i hi => by
  obtain ⟨ad, e, h0, h1⟩ := h i hi
  have l0 := cell_lt h0
  refine ⟨ad, e, ?_, ?_⟩
  · rw [hb.cell (by omega)]; exact h0
  · rw [hb.cell (by show (ad.add (i * 2)).block < n; omega)]; exact h1
theorem add_block (ad : Addr) (n : Nat) : (ad.add n).block = ad.block := by unfold Addr.add; split <;> rfl
theorem At.lower {w w' : World} {a : Option Addr} {os : Opts} {n : Nat} (h : At w a os) (hb : Below n w w') (hn : ∀ ad, a = some ad → 0 < os.length → ad.block < n) : At w' a os := fun i hi => by
  obtain ⟨ad, e, h0, h1⟩ := h i hi
  have l0 := hn ad e (by omega)
  have l1 := add_block ad (i * 2)
  refine ⟨ad, e, ?_, ?_⟩
  · rw [hb.cell (by rw [l1]; exact l0)]; exact h0
  · rw [hb.cell (by show (ad.add (i * 2)).block < n; rw [l1]; exact l0)]; exact h1

theorem At.old {w : World} {a : Option Addr} {os : Opts} {n : Nat} (h : At w a os) (hn : w.heap.size ≤ n) : ∀ ad, a = some ad → 0 < os.length → ad.block < n := fun ad e hl => by
  obtain ⟨ad', e', h0, _⟩ := h 0 hl
  have h1 := cell_lt h0
  rw [add_block] at h1
  rw [e] at e'
  obtain rfl := Option.some.inj e'
  omega

set_option maxHeartbeats 1000000 in
theorem may_any (a : Option Addr) (cap : Nat) (os : Opts) (w : World) (hA : At w a os) (hl : os.length ≤ 268435456) :
    Calls Tryz.prog 70 #[.slice a os.length cap] w fun e w' =>
      e = .returned (.bool (!bad os)) ∧ Below w.heap.size w w' := by
  have HA := hide hA
  clear hA
  go_enter Tryz.func70, Tryz.ntmps70
  go_wp2
  go_loopw [7] (fun i wr => ∃ k : Nat, k ≤ os.length ∧ i = .int .i64 k ∧ Hid (bad (os.take k) = false) ∧ Hid (Below w.heap.size w wr)) (fun i _ => os.length - (intOf i).toNat)
  case atStart => exact ⟨0, Nat.zero_le _, rfl, hide rfl, hide (Below.refl _ _)⟩
  case round =>
    obtain ⟨k, hk, rfl, HB, HW⟩ := hrel
    rename World => wr
    by_cases hlt : k < os.length
    · obtain ⟨ad, rfl, c0, c1⟩ := (unhide HA).below (unhide HW) (Nat.le_refl _) k hlt
      obtain ⟨c, hc⟩ : ∃ c, c = os[k].1 := ⟨_, rfl⟩
      rw [← hc] at c0
      have hc8 := c.toNat_lt
      have HC := hide hc
      clear hc
      by_cases hb : badC c = true
      · have HBD : Hid (bad os = true) := hide (bad_at hlt (by rw [← unhide HC]; exact hb))
        have hbb : c.toNat = 0 ∨ c.toNat = 52 ∨ c.toNat = 255 := by simpa [badC, or_assoc] using hb
        clear hb
        rcases hbb with e0 | e0 | e0
        all_goals
          rw [e0] at c0
          go_wp2
          go_ret
          exact ⟨by rw [unhide HBD]; rfl, (unhide HW).alloc (unhide HW).size _⟩
      · have hbb : ¬ c.toNat = 0 ∧ ¬ c.toNat = 52 ∧ ¬ c.toNat = 255 := by simpa [badC, and_assoc] using hb
        obtain ⟨g0, g1, g2⟩ := hbb
        have q0 : (((c.toNat : Nat) : Int) == 0) = false := by simp; omega
        have q1 : (((c.toNat : Nat) : Int) == 52) = false := by simp; omega
        have q2 : (((c.toNat : Nat) : Int) == 255) = false := by simp; omega
        have HB2 : Hid (bad (os.take (k + 1)) = false) := hide (bad_take hlt (unhide HB) (by rw [← unhide HC]; simpa using hb))
        clear hb g0 g1 g2
        go_wp2
        go_roundw
        case rel => exact ⟨k + 1, by omega, by go_num, HB2, hide ((unhide HW).alloc (unhide HW).size _)⟩
        case measure => simp [intOf]; omega
    · have e : k = os.length := by omega
      subst e
      have HF : Hid (bad os = false) := hide (by have := unhide HB; rwa [List.take_length] at this)
      go_wp2
      go_ret
      exact ⟨by rw [unhide HF]; rfl, unhide HW⟩

theorem bytes_one (B bs : Nat) (a : Int) (L : List UInt8) (w : World) (hW : Wr w B L) (hbs : bs = w.heap.size) (ha : 0 ≤ a ∧ a ≤ 255) (hsz : L.length ≤ 1099511627000) :
    Calls Tryz.prog 36 #[.pointer (some ⟨B, 0, none⟩), .slice (some ⟨bs, 0, none⟩) 1 1] (w.alloc (.cells #[.int .u8 a] 5)) fun e w' =>
      e = .returned (.tuple #[]) ∧ Wr w' B (L ++ [by8 a]) ∧ Kept B w w' := by
  subst hbs
  have hcs : #[Value.int .u8 a] = (cells8 [by8 a]).toArray := by
    simp only [cells8, List.map_cons, List.map_nil, by8_toNat]
    rw [Int.emod_eq_of_lt ha.1 (by omega)]
  have h := bytes_any B w.heap.size 1 [by8 a] L _ (hW.alloc (.cells #[.int .u8 a] 5)) hW.lt (by rw [hcs]; exact heap_alloc_new w _) (by simp only [List.length_cons, List.length_nil]; omega)
  refine h.mono ?_
  rintro e w1 ⟨rfl, h1, h2⟩
  exact ⟨rfl, h1, kept_new hW h2⟩

set_option maxHeartbeats 1000000 in
/-- what is written of options: all of them and their end, or more than can be said -/
theorem options_any (B : Nat) (a : Option Addr) (cap : Nat) (os : Opts) (L : List UInt8) (w : World) (hW : Wr w B L) (hA : At w a os) (hB : ∀ ad, a = some ad → 0 < os.length → ad.block < B) (hl : heavy os ≤ 2097152) (hL : L.length ≤ 1472) :
    Calls Tryz.prog 72 #[.pointer (some ⟨B, 0, none⟩), .slice a os.length cap, .int .i64 1472] w fun e w' =>
      e = .returned (.tuple #[]) ∧ Kept B w w' ∧ ∃ M, Wr w' B M ∧ M.length ≤ 8388608 ∧ (M = L ++ opts8 os ++ [255] ∨ (1472 < M.length ∧ 1472 < (L ++ opts8 os ++ [255]).length)) := by
  have HA := hide hA
  have HB := hide hB
  have hBl := hW.lt
  have hlen : os.length ≤ heavy os := by unfold heavy; omega
  have HW := hide hW
  clear hA hB hW
  go_enter Tryz.func72, Tryz.ntmps72
  go_wp2
  go_loopw [10] (fun i wr => ∃ k : Nat, k ≤ os.length ∧ i = .int .i64 k ∧ Hid (Wr wr B (L ++ opts8 (os.take k))) ∧ Hid (Kept B w wr)) (fun i _ => os.length - (intOf i).toNat)
  case atStart => exact ⟨0, Nat.zero_le _, rfl, hide (by simpa [opts8] using unhide HW), hide (Kept.refl _ _)⟩
  case round =>
    obtain ⟨k, hk, rfl, H1, H2⟩ := hrel
    rename World => wr
    obtain ⟨v, hv, hown⟩ := unhide H1
    obtain ⟨ao, cp, hv'⟩ := own_len hown
    have hB2 := lt_of_block hv
    have hc := cell_of_one hv
    rw [hv'] at hc
    have hMl : (L ++ opts8 (os.take k)).length ≤ 4195776 := by
      have h1 := opts8_le os k
      have h2 := opts8_heavy os
      rw [List.length_append]; omega
    by_cases hlt : k < os.length
    · obtain ⟨ad, rfl, c0, c1⟩ := (unhide HA).lower (unhide H2).below (unhide HB) k hlt
      obtain ⟨c, d, hcd⟩ : ∃ c d, os[k] = (c, d) := ⟨_, _, rfl⟩
      rw [hcd] at c0 c1
      have hd : d.length ≤ 2097152 := by have := heavy_one os k hlt; rw [hcd] at this; simp only at this; omega
      have HT := hide (opts8_take os k hlt)
      rw [hcd] at HT
      obtain ⟨X, hX⟩ : ∃ X, L ++ opts8 (os.take k) = X := ⟨_, rfl⟩
      rw [hX] at hc hMl
      have HX := hide hX
      have H1' : Hid (Wr wr B X) := hide (by rw [← unhide HX]; exact unhide H1)
      have HP := hide (fun u (hu : Wr u B X) => option_any B c d X u hu (by omega) (by omega))
      clear hv hown hv' hX hcd v H1
      by_cases hbig : 1472 < X.length
      · have hgt : (1472 : Int) < (X.length : Int) := by omega
        go_wp2_with fail
        refine (bytes_one B _ 255 X _ ((unhide H1').alloc _) (by simp) (by omega) (by omega)).mono ?_
        rintro e u ⟨rfl, k1, q1⟩
        have K1 := hide k1
        have Q1 := hide q1
        clear k1 q1
        go_wp2
        go_end0
        refine ⟨rfl, ?_, X ++ [255], unhide K1, by simp only [List.length_append, List.length_cons, List.length_nil]; omega, Or.inr ⟨by simp only [List.length_append, List.length_cons, List.length_nil]; omega, ?_⟩⟩
        · exact (unhide H2).trans (((Kept.refl B wr).alloc (by omega) _).trans (unhide Q1))
        · have h1 := opts8_le os k
          rw [← unhide HX, List.length_append] at hbig
          simp only [List.length_append, List.length_cons, List.length_nil]; omega
      · have hgt : ¬ (1472 : Int) < (X.length : Int) := by omega
        go_wp2_with fail
        refine (unhide HP _ ((unhide H1').alloc _)).mono ?_
        rintro e u ⟨rfl, k1, q1⟩
        have K1 := hide k1
        have Q1 := hide q1
        clear k1 q1
        go_wp2
        go_roundw
        case rel => exact ⟨k + 1, by omega, by go_num, hide (by rw [unhide HT, ← List.append_assoc, unhide HX]; exact unhide K1), hide ((unhide H2).trans (((Kept.refl B wr).alloc (by omega) _).trans (unhide Q1)))⟩
        case measure => simp [intOf]; omega
    · have e : k = os.length := by omega
      subst e
      rw [List.take_length] at hMl
      have h1' := unhide H1
      rw [List.take_length] at h1'
      have HE := hide h1'
      clear hv hown hv' hc v h1'
      go_wp2_with fail
      refine (bytes_one B _ 255 _ _ (unhide HE) rfl (by omega) (by omega)).mono ?_
      rintro e u ⟨rfl, k1, q1⟩
      have K1 := hide k1
      have Q1 := hide q1
      clear k1 q1
      go_wp2
      go_end0
      exact ⟨rfl, (unhide H2).trans (unhide Q1), _, unhide K1, by simp only [List.length_append, List.length_cons, List.length_nil] at hMl ⊢; omega, Or.inl rfl⟩
end Go.Proofs.YtoifihhmneldeaaGreatDoor.Dh

namespace Go.Proofs.YtoifihhmneldeaaGreatDoor.Dh
open Go.ChangeShapes Go.WideShapes Go.ChangeAt Go.RowKit Bs Wt
set_option linter.unusedVariables false
set_option linter.unusedSimpArgs false

/-- the head's first bytes, and the whole head -/
def preL (op fl xid cl yo ne : Int) (m : List UInt8) : List UInt8 := [by8 op] ++ [1, 6] ++ [by8 0] ++ dwords8 [xid] ++ words8 [0, fl] ++ dwords8 [cl, yo, ne, 0] ++ m
def headL (op fl xid cl yo ne : Int) (m : List UInt8) : List UInt8 := preL op fl xid cl yo ne m ++ List.replicate 202 0 ++ [99, 130, 83, 99]
theorem preL_length (op fl xid cl yo ne : Int) (m : List UInt8) : (preL op fl xid cl yo ne m).length = 28 + m.length := by
  simp [preL, dwords8, dword8, words8, word8]; omega
theorem headL_length (op fl xid cl yo ne : Int) (m : List UInt8) (hm : m.length = 6) : (headL op fl xid cl yo ne m).length = 240 := by
  simp only [headL, List.length_append, preL_length, List.length_replicate, List.length_cons, List.length_nil]; omega
def opI (rep : Bool) : Int := if rep then 2 else 1
def flI (cl : Int) : Int := if cl = 0 then 32768 else 0

theorem longs_one (B bs : Nat) (n : Int) (L : List UInt8) (w : World) (hW : Wr w B L) (hbs : bs = w.heap.size) (h0 : 0 ≤ n) (h1 : n ≤ 4294967295) (hsz : L.length ≤ 1099511627000) :
    Calls Tryz.prog 57 #[.pointer (some ⟨B, 0, none⟩), .slice (some ⟨bs, 0, none⟩) 1 1] (w.alloc (.cells #[.int .u32 n] 33)) fun e w' =>
      e = .returned (.tuple #[]) ∧ Wr w' B (L ++ dwords8 [n]) ∧ Kept B w w' := by
  subst hbs
  have h := longs_any B w.heap.size 1 [n] L _ (hW.alloc (.cells #[.int .u32 n] 33)) hW.lt (heap_alloc_new w _) (by intro x hx; simp at hx; omega) (by simp only [List.length_cons, List.length_nil]; omega)
  refine h.mono ?_
  rintro e w1 ⟨rfl, h1, h2⟩
  exact ⟨rfl, h1, kept_new hW h2⟩
theorem words_two (B bs : Nat) (x y : Int) (L : List UInt8) (w : World) (hW : Wr w B L) (hbs : bs = w.heap.size) (hx : 0 ≤ x ∧ x ≤ 65535) (hy : 0 ≤ y ∧ y ≤ 65535) (hsz : L.length ≤ 1099511627000) :
    Calls Tryz.prog 30 #[.pointer (some ⟨B, 0, none⟩), .slice (some ⟨bs, 0, none⟩) 2 2] (w.alloc (.cells #[.int .u16 x, .int .u16 y] 24)) fun e w' =>
      e = .returned (.tuple #[]) ∧ Wr w' B (L ++ words8 [x, y]) ∧ Kept B w w' := by
  subst hbs
  have h := words_any B w.heap.size 2 [x, y] L _ (hW.alloc (.cells #[.int .u16 x, .int .u16 y] 24)) hW.lt (heap_alloc_new w _) (by intro x hx; simp at hx; omega) (by simp only [List.length_cons, List.length_nil]; omega)
  refine h.mono ?_
  rintro e w1 ⟨rfl, h1, h2⟩
  exact ⟨rfl, h1, kept_new hW h2⟩
theorem addresses_four (B bs : Nat) (x y z t : Int) (L : List UInt8) (w : World) (hW : Wr w B L) (hbs : bs = w.heap.size) (hx : 0 ≤ x ∧ x ≤ 4294967295) (hy : 0 ≤ y ∧ y ≤ 4294967295) (hz : 0 ≤ z ∧ z ≤ 4294967295) (ht : 0 ≤ t ∧ t ≤ 4294967295) (hsz : L.length ≤ 1099511627000) :
    Calls Tryz.prog 37 #[.pointer (some ⟨B, 0, none⟩), .slice (some ⟨bs, 0, none⟩) 4 4] (w.alloc (.cells #[.int .u32 x, .int .u32 y, .int .u32 z, .int .u32 t] 34)) fun e w' =>
      e = .returned (.tuple #[]) ∧ Wr w' B (L ++ dwords8 [x, y, z, t]) ∧ Kept B w w' := by
  subst hbs
  have h := addresses_any B w.heap.size 4 [x, y, z, t] L _ (hW.alloc (.cells #[.int .u32 x, .int .u32 y, .int .u32 z, .int .u32 t] 34)) hW.lt (heap_alloc_new w _) (by intro x hx; simp at hx; omega) (by simp only [List.length_cons, List.length_nil]; omega)
  refine h.mono ?_
  rintro e w1 ⟨rfl, h1, h2⟩
  exact ⟨rfl, h1, kept_new hW h2⟩
theorem kept_box {B b : Nat} {w w' : World} {cs : Array Value} (h : Kept B w w') (hb : B < b) (hx : w.heap[b]? = some (.cells cs 56 (0, 0))) : w'.heap[b]? = some (.cells cs 56 (0, 0)) := h.others _ _ _ _ hb hx (by decide)

set_option maxHeartbeats 4000000 in
theorem head_rz (B : Nat) (xid yo ne : Int) (a b c d e f : UInt8) (sa : Option Addr) (sn sc : Nat) (w : World) (hW : Wr w B []) (hx : 0 ≤ xid ∧ xid ≤ 4294967295) (hy : 0 ≤ yo ∧ yo ≤ 4294967295) (hn : 0 ≤ ne ∧ ne ≤ 4294967295) :
    Calls Tryz.prog 71 #[.pointer (some ⟨B, 0, none⟩), .agg #[.bool true, .int .u32 xid, .int .u32 0, .int .u32 yo, .int .u32 ne, .int .u8 a.toNat, .int .u8 b.toNat, .int .u8 c.toNat, .int .u8 d.toNat, .int .u8 e.toNat, .int .u8 f.toNat, .slice sa sn sc]] w fun ee w' =>
      ee = .returned (.tuple #[]) ∧ Wr w' B (headL 2 32768 xid 0 yo ne [a, b, c, d, e, f]) ∧ Kept B w w' := by
  have hB := hW.lt
  obtain ⟨W, hWW⟩ : ∃ W, W = w.alloc (.cells #[.bool true, .int .u32 xid, .int .u32 0, .int .u32 yo, .int .u32 ne, .int .u8 a.toNat, .int .u8 b.toNat, .int .u8 c.toNat, .int .u8 d.toNat, .int .u8 e.toNat, .int .u8 f.toNat, .slice sa sn sc] 56) := ⟨_, rfl⟩
  have hbox : W.heap[w.heap.size]? = some (.cells #[.bool true, .int .u32 xid, .int .u32 0, .int .u32 yo, .int .u32 ne, .int .u8 a.toNat, .int .u8 b.toNat, .int .u8 c.toNat, .int .u8 d.toNat, .int .u8 e.toNat, .int .u8 f.toNat, .slice sa sn sc] 56 (0, 0)) := by rw [hWW]; exact heap_alloc_new w _
  have HSZ : Hid (W.heap.size = w.heap.size + 1) := hide (by rw [hWW]; simp)
  have HW0 : Hid (Wr W B []) := hide (by rw [hWW]; exact hW.alloc _)
  have HK0 : Hid (Kept B w W) := hide (by rw [hWW]; exact (Kept.refl B w).alloc (by omega) _)
  have Wc0 : W.cell? ⟨w.heap.size, 0, none⟩ = some (.bool true) := by rw [cell_of_row W w.heap.size 0 _ _ _ hbox]; rfl
  have Wc2 : W.cell? ⟨w.heap.size, 2, none⟩ = some (.int .u32 0) := by rw [cell_of_row W w.heap.size 2 _ _ _ hbox]; rfl
  have HB0 := hide hbox
  have HWW := hide hWW
  clear hW hWW hbox
  go_enter Tryz.func71, Tryz.ntmps71
  have K := HW0
  have KL : Hid (([] : List UInt8).length = 0) := hide rfl
  go_wp2_with fail
  rw [← unhide HWW]
  clear HWW
  refine (bytes_one _ _ 2 _ _ (unhide K) (unhide HSZ).symm (by omega) (by simp)).mono ?_
  rintro ee w1 ⟨rfl, k1, q1⟩
  have hbox1 := kept_box q1 hB (unhide HB0)
  have HB1 := hide hbox1
  have Q1 := hide q1
  obtain ⟨L1, hL1⟩ : ∃ L, L = [] ++ [by8 2] := ⟨_, rfl⟩
  rw [← hL1] at k1
  have KL1 : Hid (L1.length = 1) := hide (by rw [hL1]; rfl)
  have K1 := hide k1
  have HL1 := hide hL1
  clear K KL k1 q1 hbox1 hL1
  have K := K1
  have KL := KL1
  clear K1 KL1
  go_wp2_with fail
  refine (texts_one _ _ ⟨#[1, 6]⟩ _ _ (unhide K) rfl (by have := unhide KL; show _ + 2 ≤ _; omega)).mono ?_
  rintro ee w2 ⟨rfl, k2, q2⟩
  have hbox2 := kept_box q2 hB (unhide HB1)
  have HB2 := hide hbox2
  have Q2 := hide q2
  obtain ⟨L2, hL2⟩ : ∃ L, L = L1 ++ (⟨#[1, 6]⟩ : ByteArray).data.toList := ⟨_, rfl⟩
  rw [← hL2] at k2
  have KL2 : Hid (L2.length = 3) := hide (by rw [hL2, List.length_append, unhide KL]; rfl)
  have K2 := hide k2
  have HL2 := hide hL2
  clear K KL k2 q2 hbox2 hL2
  have K := K2
  have KL := KL2
  clear K2 KL2
  go_wp2_with fail
  refine (bytes_one _ _ 0 _ _ (unhide K) rfl (by omega) (by have := unhide KL; omega)).mono ?_
  rintro ee w3 ⟨rfl, k3, q3⟩
  have hbox3 := kept_box q3 hB (unhide HB2)
  have w3c1 : w3.cell? ⟨w.heap.size, 1, none⟩ = some (.int .u32 xid) := by rw [cell_of_row w3 w.heap.size 1 _ _ _ hbox3]; rfl
  have HB3 := hide hbox3
  have Q3 := hide q3
  obtain ⟨L3, hL3⟩ : ∃ L, L = L2 ++ [by8 0] := ⟨_, rfl⟩
  rw [← hL3] at k3
  have KL3 : Hid (L3.length = 4) := hide (by rw [hL3, List.length_append, unhide KL]; rfl)
  have K3 := hide k3
  have HL3 := hide hL3
  clear K KL k3 q3 hbox3 hL3
  have K := K3
  have KL := KL3
  clear K3 KL3
  go_wp2_with fail
  refine (longs_one _ _ xid _ _ (unhide K) rfl hx.1 hx.2 (by have := unhide KL; omega)).mono ?_
  rintro ee w4 ⟨rfl, k4, q4⟩
  have hbox4 := kept_box q4 hB (unhide HB3)
  have HB4 := hide hbox4
  have Q4 := hide q4
  obtain ⟨L4, hL4⟩ : ∃ L, L = L3 ++ dwords8 [xid] := ⟨_, rfl⟩
  rw [← hL4] at k4
  have KL4 : Hid (L4.length = 8) := hide (by rw [hL4, List.length_append, unhide KL]; rfl)
  have K4 := hide k4
  have HL4 := hide hL4
  clear K KL k4 q4 hbox4 hL4
  have K := K4
  have KL := KL4
  clear K4 KL4
  go_wp2_with fail
  refine (words_two _ _ 0 32768 _ _ (unhide K) rfl (by omega) (by omega) (by have := unhide KL; omega)).mono ?_
  rintro ee w5 ⟨rfl, k5, q5⟩
  have hbox5 := kept_box q5 hB (unhide HB4)
  have w5c2 : w5.cell? ⟨w.heap.size, 2, none⟩ = some (.int .u32 0) := by rw [cell_of_row w5 w.heap.size 2 _ _ _ hbox5]; rfl
  have w5c3 : w5.cell? ⟨w.heap.size, 3, none⟩ = some (.int .u32 yo) := by rw [cell_of_row w5 w.heap.size 3 _ _ _ hbox5]; rfl
  have w5c4 : w5.cell? ⟨w.heap.size, 4, none⟩ = some (.int .u32 ne) := by rw [cell_of_row w5 w.heap.size 4 _ _ _ hbox5]; rfl
  have HB5 := hide hbox5
  have Q5 := hide q5
  obtain ⟨L5, hL5⟩ : ∃ L, L = L4 ++ words8 [0, 32768] := ⟨_, rfl⟩
  rw [← hL5] at k5
  have KL5 : Hid (L5.length = 12) := hide (by rw [hL5, List.length_append, unhide KL]; rfl)
  have K5 := hide k5
  have HL5 := hide hL5
  clear K KL k5 q5 hbox5 hL5
  have K := K5
  have KL := KL5
  clear K5 KL5
  go_wp2_with fail
  refine (addresses_four _ _ 0 yo ne 0 _ _ (unhide K) rfl (by omega) hy hn (by omega) (by have := unhide KL; omega)).mono ?_
  rintro ee w6 ⟨rfl, k6, q6⟩
  have hbox6 := kept_box q6 hB (unhide HB5)
  have w6c5 : w6.cell? ⟨w.heap.size, 5, none⟩ = some (.int .u8 a.toNat) := by rw [cell_of_row w6 w.heap.size 5 _ _ _ hbox6]; rfl
  have w6c6 : w6.cell? ⟨w.heap.size, 6, none⟩ = some (.int .u8 b.toNat) := by rw [cell_of_row w6 w.heap.size 6 _ _ _ hbox6]; rfl
  have w6c7 : w6.cell? ⟨w.heap.size, 7, none⟩ = some (.int .u8 c.toNat) := by rw [cell_of_row w6 w.heap.size 7 _ _ _ hbox6]; rfl
  have w6c8 : w6.cell? ⟨w.heap.size, 8, none⟩ = some (.int .u8 d.toNat) := by rw [cell_of_row w6 w.heap.size 8 _ _ _ hbox6]; rfl
  have w6c9 : w6.cell? ⟨w.heap.size, 9, none⟩ = some (.int .u8 e.toNat) := by rw [cell_of_row w6 w.heap.size 9 _ _ _ hbox6]; rfl
  have w6c10 : w6.cell? ⟨w.heap.size, 10, none⟩ = some (.int .u8 f.toNat) := by rw [cell_of_row w6 w.heap.size 10 _ _ _ hbox6]; rfl
  have HB6 := hide hbox6
  have Q6 := hide q6
  obtain ⟨L6, hL6⟩ : ∃ L, L = L5 ++ dwords8 [0, yo, ne, 0] := ⟨_, rfl⟩
  rw [← hL6] at k6
  have KL6 : Hid (L6.length = 28) := hide (by rw [hL6, List.length_append, unhide KL]; rfl)
  have K6 := hide k6
  have HL6 := hide hL6
  clear K KL k6 q6 hbox6 hL6
  have K := K6
  have KL := KL6
  clear K6 KL6
  go_wp2_with fail
  refine (cards_one _ _ a b c d e f _ _ (unhide K) rfl (by have := unhide KL; omega)).mono ?_
  rintro ee w7 ⟨rfl, k7, q7⟩
  have hbox7 := kept_box q7 hB (unhide HB6)
  have HB7 := hide hbox7
  have Q7 := hide q7
  obtain ⟨L7, hL7⟩ : ∃ L, L = L6 ++ [a, b, c, d, e, f] := ⟨_, rfl⟩
  rw [← hL7] at k7
  have KL7 : Hid (L7.length = 34) := hide (by rw [hL7, List.length_append, unhide KL]; rfl)
  have K7 := hide k7
  have HL7 := hide hL7
  clear K KL k7 q7 hbox7 hL7
  have K := K7
  have KL := KL7
  clear K7 KL7
  go_wp2_with fail
  refine (fill_any _ 236 _ _ (unhide K) (by have := unhide KL; omega) (by omega)).mono ?_
  rintro ee w8 ⟨rfl, k8, q8⟩
  have hbox8 := kept_box q8 hB (unhide HB7)
  have HB8 := hide hbox8
  have Q8 := hide q8
  obtain ⟨L8, hL8⟩ : ∃ L, L = L7 ++ List.replicate (236 - L7.length) 0 := ⟨_, rfl⟩
  rw [← hL8] at k8
  have KL8 : Hid (L8.length = 236) := hide (by rw [hL8, List.length_append, List.length_replicate, unhide KL])
  have e7 := unhide KL
  rw [e7] at hL8
  have K8 := hide k8
  have HL8 := hide hL8
  clear K KL k8 q8 hbox8 hL8 e7
  have K := K8
  have KL := KL8
  clear K8 KL8
  go_wp2_with fail
  refine (texts_one _ _ ⟨#[99, 130, 83, 99]⟩ _ _ (unhide K) rfl (by have := unhide KL; show _ + 4 ≤ _; omega)).mono ?_
  rintro ee w9 ⟨rfl, k9, q9⟩
  have hbox9 := kept_box q9 hB (unhide HB8)
  have HB9 := hide hbox9
  have Q9 := hide q9
  obtain ⟨L9, hL9⟩ : ∃ L, L = L8 ++ (⟨#[99, 130, 83, 99]⟩ : ByteArray).data.toList := ⟨_, rfl⟩
  rw [← hL9] at k9
  have KL9 : Hid (L9.length = 240) := hide (by rw [hL9, List.length_append, unhide KL]; rfl)
  have K9 := hide k9
  have HL9 := hide hL9
  clear K KL k9 q9 hbox9 hL9
  have K := K9
  have KL := KL9
  clear K9 KL9
  go_wp2
  go_end0
  refine ⟨rfl, ?_, (((((((((unhide HK0).trans (unhide Q1)).trans (unhide Q2)).trans (unhide Q3)).trans (unhide Q4)).trans (unhide Q5)).trans (unhide Q6)).trans (unhide Q7)).trans (unhide Q8)).trans (unhide Q9)⟩
  have h := unhide K
  rw [unhide HL9, unhide HL8, unhide HL7, unhide HL6, unhide HL5, unhide HL4, unhide HL3, unhide HL2, unhide HL1] at h
  exact h

set_option maxHeartbeats 4000000 in
theorem head_rn (B : Nat) (xid cl yo ne : Int) (a b c d e f : UInt8) (sa : Option Addr) (sn sc : Nat) (w : World) (hW : Wr w B []) (hx : 0 ≤ xid ∧ xid ≤ 4294967295) (hc : 0 ≤ cl ∧ cl ≤ 4294967295) (hy : 0 ≤ yo ∧ yo ≤ 4294967295) (hn : 0 ≤ ne ∧ ne ≤ 4294967295) (hz : ¬ cl = 0) :
    Calls Tryz.prog 71 #[.pointer (some ⟨B, 0, none⟩), .agg #[.bool true, .int .u32 xid, .int .u32 cl, .int .u32 yo, .int .u32 ne, .int .u8 a.toNat, .int .u8 b.toNat, .int .u8 c.toNat, .int .u8 d.toNat, .int .u8 e.toNat, .int .u8 f.toNat, .slice sa sn sc]] w fun ee w' =>
      ee = .returned (.tuple #[]) ∧ Wr w' B (headL 2 0 xid cl yo ne [a, b, c, d, e, f]) ∧ Kept B w w' := by
  have hB := hW.lt
  have hzz : (cl == 0) = false := by simpa using hz
  obtain ⟨W, hWW⟩ : ∃ W, W = w.alloc (.cells #[.bool true, .int .u32 xid, .int .u32 cl, .int .u32 yo, .int .u32 ne, .int .u8 a.toNat, .int .u8 b.toNat, .int .u8 c.toNat, .int .u8 d.toNat, .int .u8 e.toNat, .int .u8 f.toNat, .slice sa sn sc] 56) := ⟨_, rfl⟩
  have hbox : W.heap[w.heap.size]? = some (.cells #[.bool true, .int .u32 xid, .int .u32 cl, .int .u32 yo, .int .u32 ne, .int .u8 a.toNat, .int .u8 b.toNat, .int .u8 c.toNat, .int .u8 d.toNat, .int .u8 e.toNat, .int .u8 f.toNat, .slice sa sn sc] 56 (0, 0)) := by rw [hWW]; exact heap_alloc_new w _
  have HSZ : Hid (W.heap.size = w.heap.size + 1) := hide (by rw [hWW]; simp)
  have HW0 : Hid (Wr W B []) := hide (by rw [hWW]; exact hW.alloc _)
  have HK0 : Hid (Kept B w W) := hide (by rw [hWW]; exact (Kept.refl B w).alloc (by omega) _)
  have Wc0 : W.cell? ⟨w.heap.size, 0, none⟩ = some (.bool true) := by rw [cell_of_row W w.heap.size 0 _ _ _ hbox]; rfl
  have Wc2 : W.cell? ⟨w.heap.size, 2, none⟩ = some (.int .u32 cl) := by rw [cell_of_row W w.heap.size 2 _ _ _ hbox]; rfl
  have HB0 := hide hbox
  have HWW := hide hWW
  clear hW hWW hbox
  go_enter Tryz.func71, Tryz.ntmps71
  have K := HW0
  have KL : Hid (([] : List UInt8).length = 0) := hide rfl
  go_wp2_with fail
  rw [← unhide HWW]
  clear HWW
  refine (bytes_one _ _ 2 _ _ (unhide K) (unhide HSZ).symm (by omega) (by simp)).mono ?_
  rintro ee w1 ⟨rfl, k1, q1⟩
  have hbox1 := kept_box q1 hB (unhide HB0)
  have HB1 := hide hbox1
  have Q1 := hide q1
  obtain ⟨L1, hL1⟩ : ∃ L, L = [] ++ [by8 2] := ⟨_, rfl⟩
  rw [← hL1] at k1
  have KL1 : Hid (L1.length = 1) := hide (by rw [hL1]; rfl)
  have K1 := hide k1
  have HL1 := hide hL1
  clear K KL k1 q1 hbox1 hL1
  have K := K1
  have KL := KL1
  clear K1 KL1
  go_wp2_with fail
  refine (texts_one _ _ ⟨#[1, 6]⟩ _ _ (unhide K) rfl (by have := unhide KL; show _ + 2 ≤ _; omega)).mono ?_
  rintro ee w2 ⟨rfl, k2, q2⟩
  have hbox2 := kept_box q2 hB (unhide HB1)
  have HB2 := hide hbox2
  have Q2 := hide q2
  obtain ⟨L2, hL2⟩ : ∃ L, L = L1 ++ (⟨#[1, 6]⟩ : ByteArray).data.toList := ⟨_, rfl⟩
  rw [← hL2] at k2
  have KL2 : Hid (L2.length = 3) := hide (by rw [hL2, List.length_append, unhide KL]; rfl)
  have K2 := hide k2
  have HL2 := hide hL2
  clear K KL k2 q2 hbox2 hL2
  have K := K2
  have KL := KL2
  clear K2 KL2
  go_wp2_with fail
  refine (bytes_one _ _ 0 _ _ (unhide K) rfl (by omega) (by have := unhide KL; omega)).mono ?_
  rintro ee w3 ⟨rfl, k3, q3⟩
  have hbox3 := kept_box q3 hB (unhide HB2)
  have w3c1 : w3.cell? ⟨w.heap.size, 1, none⟩ = some (.int .u32 xid) := by rw [cell_of_row w3 w.heap.size 1 _ _ _ hbox3]; rfl
  have HB3 := hide hbox3
  have Q3 := hide q3
  obtain ⟨L3, hL3⟩ : ∃ L, L = L2 ++ [by8 0] := ⟨_, rfl⟩
  rw [← hL3] at k3
  have KL3 : Hid (L3.length = 4) := hide (by rw [hL3, List.length_append, unhide KL]; rfl)
  have K3 := hide k3
  have HL3 := hide hL3
  clear K KL k3 q3 hbox3 hL3
  have K := K3
  have KL := KL3
  clear K3 KL3
  go_wp2_with fail
  refine (longs_one _ _ xid _ _ (unhide K) rfl hx.1 hx.2 (by have := unhide KL; omega)).mono ?_
  rintro ee w4 ⟨rfl, k4, q4⟩
  have hbox4 := kept_box q4 hB (unhide HB3)
  have HB4 := hide hbox4
  have Q4 := hide q4
  obtain ⟨L4, hL4⟩ : ∃ L, L = L3 ++ dwords8 [xid] := ⟨_, rfl⟩
  rw [← hL4] at k4
  have KL4 : Hid (L4.length = 8) := hide (by rw [hL4, List.length_append, unhide KL]; rfl)
  have K4 := hide k4
  have HL4 := hide hL4
  clear K KL k4 q4 hbox4 hL4
  have K := K4
  have KL := KL4
  clear K4 KL4
  go_wp2_with fail
  refine (words_two _ _ 0 0 _ _ (unhide K) rfl (by omega) (by omega) (by have := unhide KL; omega)).mono ?_
  rintro ee w5 ⟨rfl, k5, q5⟩
  have hbox5 := kept_box q5 hB (unhide HB4)
  have w5c2 : w5.cell? ⟨w.heap.size, 2, none⟩ = some (.int .u32 cl) := by rw [cell_of_row w5 w.heap.size 2 _ _ _ hbox5]; rfl
  have w5c3 : w5.cell? ⟨w.heap.size, 3, none⟩ = some (.int .u32 yo) := by rw [cell_of_row w5 w.heap.size 3 _ _ _ hbox5]; rfl
  have w5c4 : w5.cell? ⟨w.heap.size, 4, none⟩ = some (.int .u32 ne) := by rw [cell_of_row w5 w.heap.size 4 _ _ _ hbox5]; rfl
  have HB5 := hide hbox5
  have Q5 := hide q5
  obtain ⟨L5, hL5⟩ : ∃ L, L = L4 ++ words8 [0, 0] := ⟨_, rfl⟩
  rw [← hL5] at k5
  have KL5 : Hid (L5.length = 12) := hide (by rw [hL5, List.length_append, unhide KL]; rfl)
  have K5 := hide k5
  have HL5 := hide hL5
  clear K KL k5 q5 hbox5 hL5
  have K := K5
  have KL := KL5
  clear K5 KL5
  go_wp2_with fail
  refine (addresses_four _ _ cl yo ne 0 _ _ (unhide K) rfl hc hy hn (by omega) (by have := unhide KL; omega)).mono ?_
  rintro ee w6 ⟨rfl, k6, q6⟩
  have hbox6 := kept_box q6 hB (unhide HB5)
  have w6c5 : w6.cell? ⟨w.heap.size, 5, none⟩ = some (.int .u8 a.toNat) := by rw [cell_of_row w6 w.heap.size 5 _ _ _ hbox6]; rfl
  have w6c6 : w6.cell? ⟨w.heap.size, 6, none⟩ = some (.int .u8 b.toNat) := by rw [cell_of_row w6 w.heap.size 6 _ _ _ hbox6]; rfl
  have w6c7 : w6.cell? ⟨w.heap.size, 7, none⟩ = some (.int .u8 c.toNat) := by rw [cell_of_row w6 w.heap.size 7 _ _ _ hbox6]; rfl
  have w6c8 : w6.cell? ⟨w.heap.size, 8, none⟩ = some (.int .u8 d.toNat) := by rw [cell_of_row w6 w.heap.size 8 _ _ _ hbox6]; rfl
  have w6c9 : w6.cell? ⟨w.heap.size, 9, none⟩ = some (.int .u8 e.toNat) := by rw [cell_of_row w6 w.heap.size 9 _ _ _ hbox6]; rfl
  have w6c10 : w6.cell? ⟨w.heap.size, 10, none⟩ = some (.int .u8 f.toNat) := by rw [cell_of_row w6 w.heap.size 10 _ _ _ hbox6]; rfl
  have HB6 := hide hbox6
  have Q6 := hide q6
  obtain ⟨L6, hL6⟩ : ∃ L, L = L5 ++ dwords8 [cl, yo, ne, 0] := ⟨_, rfl⟩
  rw [← hL6] at k6
  have KL6 : Hid (L6.length = 28) := hide (by rw [hL6, List.length_append, unhide KL]; rfl)
  have K6 := hide k6
  have HL6 := hide hL6
  clear K KL k6 q6 hbox6 hL6
  have K := K6
  have KL := KL6
  clear K6 KL6
  go_wp2_with fail
  refine (cards_one _ _ a b c d e f _ _ (unhide K) rfl (by have := unhide KL; omega)).mono ?_
  rintro ee w7 ⟨rfl, k7, q7⟩
  have hbox7 := kept_box q7 hB (unhide HB6)
  have HB7 := hide hbox7
  have Q7 := hide q7
  obtain ⟨L7, hL7⟩ : ∃ L, L = L6 ++ [a, b, c, d, e, f] := ⟨_, rfl⟩
  rw [← hL7] at k7
  have KL7 : Hid (L7.length = 34) := hide (by rw [hL7, List.length_append, unhide KL]; rfl)
  have K7 := hide k7
  have HL7 := hide hL7
  clear K KL k7 q7 hbox7 hL7
  have K := K7
  have KL := KL7
  clear K7 KL7
  go_wp2_with fail
  refine (fill_any _ 236 _ _ (unhide K) (by have := unhide KL; omega) (by omega)).mono ?_
  rintro ee w8 ⟨rfl, k8, q8⟩
  have hbox8 := kept_box q8 hB (unhide HB7)
  have HB8 := hide hbox8
  have Q8 := hide q8
  obtain ⟨L8, hL8⟩ : ∃ L, L = L7 ++ List.replicate (236 - L7.length) 0 := ⟨_, rfl⟩
  rw [← hL8] at k8
  have KL8 : Hid (L8.length = 236) := hide (by rw [hL8, List.length_append, List.length_replicate, unhide KL])
  have e7 := unhide KL
  rw [e7] at hL8
  have K8 := hide k8
  have HL8 := hide hL8
  clear K KL k8 q8 hbox8 hL8 e7
  have K := K8
  have KL := KL8
  clear K8 KL8
  go_wp2_with fail
  refine (texts_one _ _ ⟨#[99, 130, 83, 99]⟩ _ _ (unhide K) rfl (by have := unhide KL; show _ + 4 ≤ _; omega)).mono ?_
  rintro ee w9 ⟨rfl, k9, q9⟩
  have hbox9 := kept_box q9 hB (unhide HB8)
  have HB9 := hide hbox9
  have Q9 := hide q9
  obtain ⟨L9, hL9⟩ : ∃ L, L = L8 ++ (⟨#[99, 130, 83, 99]⟩ : ByteArray).data.toList := ⟨_, rfl⟩
  rw [← hL9] at k9
  have KL9 : Hid (L9.length = 240) := hide (by rw [hL9, List.length_append, unhide KL]; rfl)
  have K9 := hide k9
  have HL9 := hide hL9
  clear K KL k9 q9 hbox9 hL9
  have K := K9
  have KL := KL9
  clear K9 KL9
  go_wp2
  go_end0
  refine ⟨rfl, ?_, (((((((((unhide HK0).trans (unhide Q1)).trans (unhide Q2)).trans (unhide Q3)).trans (unhide Q4)).trans (unhide Q5)).trans (unhide Q6)).trans (unhide Q7)).trans (unhide Q8)).trans (unhide Q9)⟩
  have h := unhide K
  rw [unhide HL9, unhide HL8, unhide HL7, unhide HL6, unhide HL5, unhide HL4, unhide HL3, unhide HL2, unhide HL1] at h
  exact h

set_option maxHeartbeats 4000000 in
theorem head_qz (B : Nat) (xid yo ne : Int) (a b c d e f : UInt8) (sa : Option Addr) (sn sc : Nat) (w : World) (hW : Wr w B []) (hx : 0 ≤ xid ∧ xid ≤ 4294967295) (hy : 0 ≤ yo ∧ yo ≤ 4294967295) (hn : 0 ≤ ne ∧ ne ≤ 4294967295) :
    Calls Tryz.prog 71 #[.pointer (some ⟨B, 0, none⟩), .agg #[.bool false, .int .u32 xid, .int .u32 0, .int .u32 yo, .int .u32 ne, .int .u8 a.toNat, .int .u8 b.toNat, .int .u8 c.toNat, .int .u8 d.toNat, .int .u8 e.toNat, .int .u8 f.toNat, .slice sa sn sc]] w fun ee w' =>
      ee = .returned (.tuple #[]) ∧ Wr w' B (headL 1 32768 xid 0 yo ne [a, b, c, d, e, f]) ∧ Kept B w w' := by
  have hB := hW.lt
  obtain ⟨W, hWW⟩ : ∃ W, W = w.alloc (.cells #[.bool false, .int .u32 xid, .int .u32 0, .int .u32 yo, .int .u32 ne, .int .u8 a.toNat, .int .u8 b.toNat, .int .u8 c.toNat, .int .u8 d.toNat, .int .u8 e.toNat, .int .u8 f.toNat, .slice sa sn sc] 56) := ⟨_, rfl⟩
  have hbox : W.heap[w.heap.size]? = some (.cells #[.bool false, .int .u32 xid, .int .u32 0, .int .u32 yo, .int .u32 ne, .int .u8 a.toNat, .int .u8 b.toNat, .int .u8 c.toNat, .int .u8 d.toNat, .int .u8 e.toNat, .int .u8 f.toNat, .slice sa sn sc] 56 (0, 0)) := by rw [hWW]; exact heap_alloc_new w _
  have HSZ : Hid (W.heap.size = w.heap.size + 1) := hide (by rw [hWW]; simp)
  have HW0 : Hid (Wr W B []) := hide (by rw [hWW]; exact hW.alloc _)
  have HK0 : Hid (Kept B w W) := hide (by rw [hWW]; exact (Kept.refl B w).alloc (by omega) _)
  have Wc0 : W.cell? ⟨w.heap.size, 0, none⟩ = some (.bool false) := by rw [cell_of_row W w.heap.size 0 _ _ _ hbox]; rfl
  have Wc2 : W.cell? ⟨w.heap.size, 2, none⟩ = some (.int .u32 0) := by rw [cell_of_row W w.heap.size 2 _ _ _ hbox]; rfl
  have HB0 := hide hbox
  have HWW := hide hWW
  clear hW hWW hbox
  go_enter Tryz.func71, Tryz.ntmps71
  have K := HW0
  have KL : Hid (([] : List UInt8).length = 0) := hide rfl
  go_wp2_with fail
  rw [← unhide HWW]
  clear HWW
  refine (bytes_one _ _ 1 _ _ (unhide K) (unhide HSZ).symm (by omega) (by simp)).mono ?_
  rintro ee w1 ⟨rfl, k1, q1⟩
  have hbox1 := kept_box q1 hB (unhide HB0)
  have HB1 := hide hbox1
  have Q1 := hide q1
  obtain ⟨L1, hL1⟩ : ∃ L, L = [] ++ [by8 1] := ⟨_, rfl⟩
  rw [← hL1] at k1
  have KL1 : Hid (L1.length = 1) := hide (by rw [hL1]; rfl)
  have K1 := hide k1
  have HL1 := hide hL1
  clear K KL k1 q1 hbox1 hL1
  have K := K1
  have KL := KL1
  clear K1 KL1
  go_wp2_with fail
  refine (texts_one _ _ ⟨#[1, 6]⟩ _ _ (unhide K) rfl (by have := unhide KL; show _ + 2 ≤ _; omega)).mono ?_
  rintro ee w2 ⟨rfl, k2, q2⟩
  have hbox2 := kept_box q2 hB (unhide HB1)
  have HB2 := hide hbox2
  have Q2 := hide q2
  obtain ⟨L2, hL2⟩ : ∃ L, L = L1 ++ (⟨#[1, 6]⟩ : ByteArray).data.toList := ⟨_, rfl⟩
  rw [← hL2] at k2
  have KL2 : Hid (L2.length = 3) := hide (by rw [hL2, List.length_append, unhide KL]; rfl)
  have K2 := hide k2
  have HL2 := hide hL2
  clear K KL k2 q2 hbox2 hL2
  have K := K2
  have KL := KL2
  clear K2 KL2
  go_wp2_with fail
  refine (bytes_one _ _ 0 _ _ (unhide K) rfl (by omega) (by have := unhide KL; omega)).mono ?_
  rintro ee w3 ⟨rfl, k3, q3⟩
  have hbox3 := kept_box q3 hB (unhide HB2)
  have w3c1 : w3.cell? ⟨w.heap.size, 1, none⟩ = some (.int .u32 xid) := by rw [cell_of_row w3 w.heap.size 1 _ _ _ hbox3]; rfl
  have HB3 := hide hbox3
  have Q3 := hide q3
  obtain ⟨L3, hL3⟩ : ∃ L, L = L2 ++ [by8 0] := ⟨_, rfl⟩
  rw [← hL3] at k3
  have KL3 : Hid (L3.length = 4) := hide (by rw [hL3, List.length_append, unhide KL]; rfl)
  have K3 := hide k3
  have HL3 := hide hL3
  clear K KL k3 q3 hbox3 hL3
  have K := K3
  have KL := KL3
  clear K3 KL3
  go_wp2_with fail
  refine (longs_one _ _ xid _ _ (unhide K) rfl hx.1 hx.2 (by have := unhide KL; omega)).mono ?_
  rintro ee w4 ⟨rfl, k4, q4⟩
  have hbox4 := kept_box q4 hB (unhide HB3)
  have HB4 := hide hbox4
  have Q4 := hide q4
  obtain ⟨L4, hL4⟩ : ∃ L, L = L3 ++ dwords8 [xid] := ⟨_, rfl⟩
  rw [← hL4] at k4
  have KL4 : Hid (L4.length = 8) := hide (by rw [hL4, List.length_append, unhide KL]; rfl)
  have K4 := hide k4
  have HL4 := hide hL4
  clear K KL k4 q4 hbox4 hL4
  have K := K4
  have KL := KL4
  clear K4 KL4
  go_wp2_with fail
  refine (words_two _ _ 0 32768 _ _ (unhide K) rfl (by omega) (by omega) (by have := unhide KL; omega)).mono ?_
  rintro ee w5 ⟨rfl, k5, q5⟩
  have hbox5 := kept_box q5 hB (unhide HB4)
  have w5c2 : w5.cell? ⟨w.heap.size, 2, none⟩ = some (.int .u32 0) := by rw [cell_of_row w5 w.heap.size 2 _ _ _ hbox5]; rfl
  have w5c3 : w5.cell? ⟨w.heap.size, 3, none⟩ = some (.int .u32 yo) := by rw [cell_of_row w5 w.heap.size 3 _ _ _ hbox5]; rfl
  have w5c4 : w5.cell? ⟨w.heap.size, 4, none⟩ = some (.int .u32 ne) := by rw [cell_of_row w5 w.heap.size 4 _ _ _ hbox5]; rfl
  have HB5 := hide hbox5
  have Q5 := hide q5
  obtain ⟨L5, hL5⟩ : ∃ L, L = L4 ++ words8 [0, 32768] := ⟨_, rfl⟩
  rw [← hL5] at k5
  have KL5 : Hid (L5.length = 12) := hide (by rw [hL5, List.length_append, unhide KL]; rfl)
  have K5 := hide k5
  have HL5 := hide hL5
  clear K KL k5 q5 hbox5 hL5
  have K := K5
  have KL := KL5
  clear K5 KL5
  go_wp2_with fail
  refine (addresses_four _ _ 0 yo ne 0 _ _ (unhide K) rfl (by omega) hy hn (by omega) (by have := unhide KL; omega)).mono ?_
  rintro ee w6 ⟨rfl, k6, q6⟩
  have hbox6 := kept_box q6 hB (unhide HB5)
  have w6c5 : w6.cell? ⟨w.heap.size, 5, none⟩ = some (.int .u8 a.toNat) := by rw [cell_of_row w6 w.heap.size 5 _ _ _ hbox6]; rfl
  have w6c6 : w6.cell? ⟨w.heap.size, 6, none⟩ = some (.int .u8 b.toNat) := by rw [cell_of_row w6 w.heap.size 6 _ _ _ hbox6]; rfl
  have w6c7 : w6.cell? ⟨w.heap.size, 7, none⟩ = some (.int .u8 c.toNat) := by rw [cell_of_row w6 w.heap.size 7 _ _ _ hbox6]; rfl
  have w6c8 : w6.cell? ⟨w.heap.size, 8, none⟩ = some (.int .u8 d.toNat) := by rw [cell_of_row w6 w.heap.size 8 _ _ _ hbox6]; rfl
  have w6c9 : w6.cell? ⟨w.heap.size, 9, none⟩ = some (.int .u8 e.toNat) := by rw [cell_of_row w6 w.heap.size 9 _ _ _ hbox6]; rfl
  have w6c10 : w6.cell? ⟨w.heap.size, 10, none⟩ = some (.int .u8 f.toNat) := by rw [cell_of_row w6 w.heap.size 10 _ _ _ hbox6]; rfl
  have HB6 := hide hbox6
  have Q6 := hide q6
  obtain ⟨L6, hL6⟩ : ∃ L, L = L5 ++ dwords8 [0, yo, ne, 0] := ⟨_, rfl⟩
  rw [← hL6] at k6
  have KL6 : Hid (L6.length = 28) := hide (by rw [hL6, List.length_append, unhide KL]; rfl)
  have K6 := hide k6
  have HL6 := hide hL6
  clear K KL k6 q6 hbox6 hL6
  have K := K6
  have KL := KL6
  clear K6 KL6
  go_wp2_with fail
  refine (cards_one _ _ a b c d e f _ _ (unhide K) rfl (by have := unhide KL; omega)).mono ?_
  rintro ee w7 ⟨rfl, k7, q7⟩
  have hbox7 := kept_box q7 hB (unhide HB6)
  have HB7 := hide hbox7
  have Q7 := hide q7
  obtain ⟨L7, hL7⟩ : ∃ L, L = L6 ++ [a, b, c, d, e, f] := ⟨_, rfl⟩
  rw [← hL7] at k7
  have KL7 : Hid (L7.length = 34) := hide (by rw [hL7, List.length_append, unhide KL]; rfl)
  have K7 := hide k7
  have HL7 := hide hL7
  clear K KL k7 q7 hbox7 hL7
  have K := K7
  have KL := KL7
  clear K7 KL7
  go_wp2_with fail
  refine (fill_any _ 236 _ _ (unhide K) (by have := unhide KL; omega) (by omega)).mono ?_
  rintro ee w8 ⟨rfl, k8, q8⟩
  have hbox8 := kept_box q8 hB (unhide HB7)
  have HB8 := hide hbox8
  have Q8 := hide q8
  obtain ⟨L8, hL8⟩ : ∃ L, L = L7 ++ List.replicate (236 - L7.length) 0 := ⟨_, rfl⟩
  rw [← hL8] at k8
  have KL8 : Hid (L8.length = 236) := hide (by rw [hL8, List.length_append, List.length_replicate, unhide KL])
  have e7 := unhide KL
  rw [e7] at hL8
  have K8 := hide k8
  have HL8 := hide hL8
  clear K KL k8 q8 hbox8 hL8 e7
  have K := K8
  have KL := KL8
  clear K8 KL8
  go_wp2_with fail
  refine (texts_one _ _ ⟨#[99, 130, 83, 99]⟩ _ _ (unhide K) rfl (by have := unhide KL; show _ + 4 ≤ _; omega)).mono ?_
  rintro ee w9 ⟨rfl, k9, q9⟩
  have hbox9 := kept_box q9 hB (unhide HB8)
  have HB9 := hide hbox9
  have Q9 := hide q9
  obtain ⟨L9, hL9⟩ : ∃ L, L = L8 ++ (⟨#[99, 130, 83, 99]⟩ : ByteArray).data.toList := ⟨_, rfl⟩
  rw [← hL9] at k9
  have KL9 : Hid (L9.length = 240) := hide (by rw [hL9, List.length_append, unhide KL]; rfl)
  have K9 := hide k9
  have HL9 := hide hL9
  clear K KL k9 q9 hbox9 hL9
  have K := K9
  have KL := KL9
  clear K9 KL9
  go_wp2
  go_end0
  refine ⟨rfl, ?_, (((((((((unhide HK0).trans (unhide Q1)).trans (unhide Q2)).trans (unhide Q3)).trans (unhide Q4)).trans (unhide Q5)).trans (unhide Q6)).trans (unhide Q7)).trans (unhide Q8)).trans (unhide Q9)⟩
  have h := unhide K
  rw [unhide HL9, unhide HL8, unhide HL7, unhide HL6, unhide HL5, unhide HL4, unhide HL3, unhide HL2, unhide HL1] at h
  exact h

set_option maxHeartbeats 4000000 in
theorem head_qn (B : Nat) (xid cl yo ne : Int) (a b c d e f : UInt8) (sa : Option Addr) (sn sc : Nat) (w : World) (hW : Wr w B []) (hx : 0 ≤ xid ∧ xid ≤ 4294967295) (hc : 0 ≤ cl ∧ cl ≤ 4294967295) (hy : 0 ≤ yo ∧ yo ≤ 4294967295) (hn : 0 ≤ ne ∧ ne ≤ 4294967295) (hz : ¬ cl = 0) :
    Calls Tryz.prog 71 #[.pointer (some ⟨B, 0, none⟩), .agg #[.bool false, .int .u32 xid, .int .u32 cl, .int .u32 yo, .int .u32 ne, .int .u8 a.toNat, .int .u8 b.toNat, .int .u8 c.toNat, .int .u8 d.toNat, .int .u8 e.toNat, .int .u8 f.toNat, .slice sa sn sc]] w fun ee w' =>
      ee = .returned (.tuple #[]) ∧ Wr w' B (headL 1 0 xid cl yo ne [a, b, c, d, e, f]) ∧ Kept B w w' := by
  have hB := hW.lt
  have hzz : (cl == 0) = false := by simpa using hz
  obtain ⟨W, hWW⟩ : ∃ W, W = w.alloc (.cells #[.bool false, .int .u32 xid, .int .u32 cl, .int .u32 yo, .int .u32 ne, .int .u8 a.toNat, .int .u8 b.toNat, .int .u8 c.toNat, .int .u8 d.toNat, .int .u8 e.toNat, .int .u8 f.toNat, .slice sa sn sc] 56) := ⟨_, rfl⟩
  have hbox : W.heap[w.heap.size]? = some (.cells #[.bool false, .int .u32 xid, .int .u32 cl, .int .u32 yo, .int .u32 ne, .int .u8 a.toNat, .int .u8 b.toNat, .int .u8 c.toNat, .int .u8 d.toNat, .int .u8 e.toNat, .int .u8 f.toNat, .slice sa sn sc] 56 (0, 0)) := by rw [hWW]; exact heap_alloc_new w _
  have HSZ : Hid (W.heap.size = w.heap.size + 1) := hide (by rw [hWW]; simp)
  have HW0 : Hid (Wr W B []) := hide (by rw [hWW]; exact hW.alloc _)
  have HK0 : Hid (Kept B w W) := hide (by rw [hWW]; exact (Kept.refl B w).alloc (by omega) _)
  have Wc0 : W.cell? ⟨w.heap.size, 0, none⟩ = some (.bool false) := by rw [cell_of_row W w.heap.size 0 _ _ _ hbox]; rfl
  have Wc2 : W.cell? ⟨w.heap.size, 2, none⟩ = some (.int .u32 cl) := by rw [cell_of_row W w.heap.size 2 _ _ _ hbox]; rfl
  have HB0 := hide hbox
  have HWW := hide hWW
  clear hW hWW hbox
  go_enter Tryz.func71, Tryz.ntmps71
  have K := HW0
  have KL : Hid (([] : List UInt8).length = 0) := hide rfl
  go_wp2_with fail
  rw [← unhide HWW]
  clear HWW
  refine (bytes_one _ _ 1 _ _ (unhide K) (unhide HSZ).symm (by omega) (by simp)).mono ?_
  rintro ee w1 ⟨rfl, k1, q1⟩
  have hbox1 := kept_box q1 hB (unhide HB0)
  have HB1 := hide hbox1
  have Q1 := hide q1
  obtain ⟨L1, hL1⟩ : ∃ L, L = [] ++ [by8 1] := ⟨_, rfl⟩
  rw [← hL1] at k1
  have KL1 : Hid (L1.length = 1) := hide (by rw [hL1]; rfl)
  have K1 := hide k1
  have HL1 := hide hL1
  clear K KL k1 q1 hbox1 hL1
  have K := K1
  have KL := KL1
  clear K1 KL1
  go_wp2_with fail
  refine (texts_one _ _ ⟨#[1, 6]⟩ _ _ (unhide K) rfl (by have := unhide KL; show _ + 2 ≤ _; omega)).mono ?_
  rintro ee w2 ⟨rfl, k2, q2⟩
  have hbox2 := kept_box q2 hB (unhide HB1)
  have HB2 := hide hbox2
  have Q2 := hide q2
  obtain ⟨L2, hL2⟩ : ∃ L, L = L1 ++ (⟨#[1, 6]⟩ : ByteArray).data.toList := ⟨_, rfl⟩
  rw [← hL2] at k2
  have KL2 : Hid (L2.length = 3) := hide (by rw [hL2, List.length_append, unhide KL]; rfl)
  have K2 := hide k2
  have HL2 := hide hL2
  clear K KL k2 q2 hbox2 hL2
  have K := K2
  have KL := KL2
  clear K2 KL2
  go_wp2_with fail
  refine (bytes_one _ _ 0 _ _ (unhide K) rfl (by omega) (by have := unhide KL; omega)).mono ?_
  rintro ee w3 ⟨rfl, k3, q3⟩
  have hbox3 := kept_box q3 hB (unhide HB2)
  have w3c1 : w3.cell? ⟨w.heap.size, 1, none⟩ = some (.int .u32 xid) := by rw [cell_of_row w3 w.heap.size 1 _ _ _ hbox3]; rfl
  have HB3 := hide hbox3
  have Q3 := hide q3
  obtain ⟨L3, hL3⟩ : ∃ L, L = L2 ++ [by8 0] := ⟨_, rfl⟩
  rw [← hL3] at k3
  have KL3 : Hid (L3.length = 4) := hide (by rw [hL3, List.length_append, unhide KL]; rfl)
  have K3 := hide k3
  have HL3 := hide hL3
  clear K KL k3 q3 hbox3 hL3
  have K := K3
  have KL := KL3
  clear K3 KL3
  go_wp2_with fail
  refine (longs_one _ _ xid _ _ (unhide K) rfl hx.1 hx.2 (by have := unhide KL; omega)).mono ?_
  rintro ee w4 ⟨rfl, k4, q4⟩
  have hbox4 := kept_box q4 hB (unhide HB3)
  have HB4 := hide hbox4
  have Q4 := hide q4
  obtain ⟨L4, hL4⟩ : ∃ L, L = L3 ++ dwords8 [xid] := ⟨_, rfl⟩
  rw [← hL4] at k4
  have KL4 : Hid (L4.length = 8) := hide (by rw [hL4, List.length_append, unhide KL]; rfl)
  have K4 := hide k4
  have HL4 := hide hL4
  clear K KL k4 q4 hbox4 hL4
  have K := K4
  have KL := KL4
  clear K4 KL4
  go_wp2_with fail
  refine (words_two _ _ 0 0 _ _ (unhide K) rfl (by omega) (by omega) (by have := unhide KL; omega)).mono ?_
  rintro ee w5 ⟨rfl, k5, q5⟩
  have hbox5 := kept_box q5 hB (unhide HB4)
  have w5c2 : w5.cell? ⟨w.heap.size, 2, none⟩ = some (.int .u32 cl) := by rw [cell_of_row w5 w.heap.size 2 _ _ _ hbox5]; rfl
  have w5c3 : w5.cell? ⟨w.heap.size, 3, none⟩ = some (.int .u32 yo) := by rw [cell_of_row w5 w.heap.size 3 _ _ _ hbox5]; rfl
  have w5c4 : w5.cell? ⟨w.heap.size, 4, none⟩ = some (.int .u32 ne) := by rw [cell_of_row w5 w.heap.size 4 _ _ _ hbox5]; rfl
  have HB5 := hide hbox5
  have Q5 := hide q5
  obtain ⟨L5, hL5⟩ : ∃ L, L = L4 ++ words8 [0, 0] := ⟨_, rfl⟩
  rw [← hL5] at k5
  have KL5 : Hid (L5.length = 12) := hide (by rw [hL5, List.length_append, unhide KL]; rfl)
  have K5 := hide k5
  have HL5 := hide hL5
  clear K KL k5 q5 hbox5 hL5
  have K := K5
  have KL := KL5
  clear K5 KL5
  go_wp2_with fail
  refine (addresses_four _ _ cl yo ne 0 _ _ (unhide K) rfl hc hy hn (by omega) (by have := unhide KL; omega)).mono ?_
  rintro ee w6 ⟨rfl, k6, q6⟩
  have hbox6 := kept_box q6 hB (unhide HB5)
  have w6c5 : w6.cell? ⟨w.heap.size, 5, none⟩ = some (.int .u8 a.toNat) := by rw [cell_of_row w6 w.heap.size 5 _ _ _ hbox6]; rfl
  have w6c6 : w6.cell? ⟨w.heap.size, 6, none⟩ = some (.int .u8 b.toNat) := by rw [cell_of_row w6 w.heap.size 6 _ _ _ hbox6]; rfl
  have w6c7 : w6.cell? ⟨w.heap.size, 7, none⟩ = some (.int .u8 c.toNat) := by rw [cell_of_row w6 w.heap.size 7 _ _ _ hbox6]; rfl
  have w6c8 : w6.cell? ⟨w.heap.size, 8, none⟩ = some (.int .u8 d.toNat) := by rw [cell_of_row w6 w.heap.size 8 _ _ _ hbox6]; rfl
  have w6c9 : w6.cell? ⟨w.heap.size, 9, none⟩ = some (.int .u8 e.toNat) := by rw [cell_of_row w6 w.heap.size 9 _ _ _ hbox6]; rfl
  have w6c10 : w6.cell? ⟨w.heap.size, 10, none⟩ = some (.int .u8 f.toNat) := by rw [cell_of_row w6 w.heap.size 10 _ _ _ hbox6]; rfl
  have HB6 := hide hbox6
  have Q6 := hide q6
  obtain ⟨L6, hL6⟩ : ∃ L, L = L5 ++ dwords8 [cl, yo, ne, 0] := ⟨_, rfl⟩
  rw [← hL6] at k6
  have KL6 : Hid (L6.length = 28) := hide (by rw [hL6, List.length_append, unhide KL]; rfl)
  have K6 := hide k6
  have HL6 := hide hL6
  clear K KL k6 q6 hbox6 hL6
  have K := K6
  have KL := KL6
  clear K6 KL6
  go_wp2_with fail
  refine (cards_one _ _ a b c d e f _ _ (unhide K) rfl (by have := unhide KL; omega)).mono ?_
  rintro ee w7 ⟨rfl, k7, q7⟩
  have hbox7 := kept_box q7 hB (unhide HB6)
  have HB7 := hide hbox7
  have Q7 := hide q7
  obtain ⟨L7, hL7⟩ : ∃ L, L = L6 ++ [a, b, c, d, e, f] := ⟨_, rfl⟩
  rw [← hL7] at k7
  have KL7 : Hid (L7.length = 34) := hide (by rw [hL7, List.length_append, unhide KL]; rfl)
  have K7 := hide k7
  have HL7 := hide hL7
  clear K KL k7 q7 hbox7 hL7
  have K := K7
  have KL := KL7
  clear K7 KL7
  go_wp2_with fail
  refine (fill_any _ 236 _ _ (unhide K) (by have := unhide KL; omega) (by omega)).mono ?_
  rintro ee w8 ⟨rfl, k8, q8⟩
  have hbox8 := kept_box q8 hB (unhide HB7)
  have HB8 := hide hbox8
  have Q8 := hide q8
  obtain ⟨L8, hL8⟩ : ∃ L, L = L7 ++ List.replicate (236 - L7.length) 0 := ⟨_, rfl⟩
  rw [← hL8] at k8
  have KL8 : Hid (L8.length = 236) := hide (by rw [hL8, List.length_append, List.length_replicate, unhide KL])
  have e7 := unhide KL
  rw [e7] at hL8
  have K8 := hide k8
  have HL8 := hide hL8
  clear K KL k8 q8 hbox8 hL8 e7
  have K := K8
  have KL := KL8
  clear K8 KL8
  go_wp2_with fail
  refine (texts_one _ _ ⟨#[99, 130, 83, 99]⟩ _ _ (unhide K) rfl (by have := unhide KL; show _ + 4 ≤ _; omega)).mono ?_
  rintro ee w9 ⟨rfl, k9, q9⟩
  have hbox9 := kept_box q9 hB (unhide HB8)
  have HB9 := hide hbox9
  have Q9 := hide q9
  obtain ⟨L9, hL9⟩ : ∃ L, L = L8 ++ (⟨#[99, 130, 83, 99]⟩ : ByteArray).data.toList := ⟨_, rfl⟩
  rw [← hL9] at k9
  have KL9 : Hid (L9.length = 240) := hide (by rw [hL9, List.length_append, unhide KL]; rfl)
  have K9 := hide k9
  have HL9 := hide hL9
  clear K KL k9 q9 hbox9 hL9
  have K := K9
  have KL := KL9
  clear K9 KL9
  go_wp2
  go_end0
  refine ⟨rfl, ?_, (((((((((unhide HK0).trans (unhide Q1)).trans (unhide Q2)).trans (unhide Q3)).trans (unhide Q4)).trans (unhide Q5)).trans (unhide Q6)).trans (unhide Q7)).trans (unhide Q8)).trans (unhide Q9)⟩
  have h := unhide K
  rw [unhide HL9, unhide HL8, unhide HL7, unhide HL6, unhide HL5, unhide HL4, unhide HL3, unhide HL2, unhide HL1] at h
  exact h

theorem head_any (B : Nat) (rep : Bool) (xid cl yo ne : Int) (a b c d e f : UInt8) (sa : Option Addr) (sn sc : Nat) (w : World) (hW : Wr w B []) (hx : 0 ≤ xid ∧ xid ≤ 4294967295) (hc : 0 ≤ cl ∧ cl ≤ 4294967295) (hy : 0 ≤ yo ∧ yo ≤ 4294967295) (hn : 0 ≤ ne ∧ ne ≤ 4294967295) :
    Calls Tryz.prog 71 #[.pointer (some ⟨B, 0, none⟩), .agg #[.bool rep, .int .u32 xid, .int .u32 cl, .int .u32 yo, .int .u32 ne, .int .u8 a.toNat, .int .u8 b.toNat, .int .u8 c.toNat, .int .u8 d.toNat, .int .u8 e.toNat, .int .u8 f.toNat, .slice sa sn sc]] w fun ee w' =>
      ee = .returned (.tuple #[]) ∧ Wr w' B (headL (opI rep) (flI cl) xid cl yo ne [a, b, c, d, e, f]) ∧ Kept B w w' := by
  by_cases hz : cl = 0
  · subst hz
    cases rep
    · exact head_qz B xid yo ne a b c d e f sa sn sc w hW hx hy hn
    · exact head_rz B xid yo ne a b c d e f sa sn sc w hW hx hy hn
  · rw [show flI cl = 0 from if_neg hz]
    cases rep
    · exact head_qn B xid cl yo ne a b c d e f sa sn sc w hW hx hc hy hn hz
    · exact head_rn B xid cl yo ne a b c d e f sa sn sc w hW hx hc hy hn hz
end Go.Proofs.YtoifihhmneldeaaGreatDoor.Dh

namespace Go.Proofs.YtoifihhmneldeaaGreatDoor.Dh
open Go.ChangeShapes Go.WideShapes Go.ChangeAt Go.RowKit Bs Wt
set_option linter.unusedVariables false
set_option linter.unusedSimpArgs false

/-- all of a message, and filled up to 300 -/
def allL (rep : Bool) (xid cl yo ne : Int) (m : List UInt8) (os : Opts) : List UInt8 := headL (opI rep) (flI cl) xid cl yo ne m ++ opts8 os ++ [255]
def fullL (L : List UInt8) : List UInt8 := L ++ List.replicate (300 - L.length) 0
theorem fullL_length (L : List UInt8) : (1472 < (fullL L).length) = (1472 < L.length) := by
  simp only [fullL, List.length_append, List.length_replicate, eq_iff_iff]; omega
def dhE (rep : Bool) (xid cl yo ne : Int) (m : List UInt8) (os : Opts) : Int := if bad os then 2 else if 1472 < (allL rep xid cl yo ne m os).length then 7 else 0
def dhS (rep : Bool) (xid cl yo ne : Int) (m : List UInt8) (os : Opts) : ByteArray := if bad os then ⟨#[]⟩ else if 1472 < (allL rep xid cl yo ne m os).length then ⟨#[]⟩ else ⟨(fullL (allL rep xid cl yo ne m os)).toArray⟩
theorem wr_new (w : World) : Wr (w.alloc (.cells #[.slice none 0 0] 73)) w.heap.size [] :=
  ⟨.slice none 0 0, heap_alloc_new w _, World.ownsRow_nil _ _ _ _⟩

set_option maxHeartbeats 4000000 in
theorem wire_bad (rep : Bool) (xid cl yo ne : Int) (a b c d e f : UInt8) (sa : Option Addr) (sc : Nat) (os : Opts) (w : World) (hA : At w sa os) (hl : heavy os ≤ 2097152) (hbad : bad os = true) :
    Calls Tryz.prog 47 #[.agg #[.bool rep, .int .u32 xid, .int .u32 cl, .int .u32 yo, .int .u32 ne, .int .u8 a.toNat, .int .u8 b.toNat, .int .u8 c.toNat, .int .u8 d.toNat, .int .u8 e.toNat, .int .u8 f.toNat, .slice sa os.length sc]] w fun ee w' =>
      ee = .returned (.tuple #[.string ⟨#[]⟩, .int .i64 2]) ∧ Below w.heap.size w w' := by
  have hlen : os.length ≤ heavy os := by unfold heavy; omega
  have HM := hide (may_any sa sc os _ (hA.below ((Below.refl w.heap.size w).alloc (Nat.le_refl _) (.cells #[.bool rep, .int .u32 xid, .int .u32 cl, .int .u32 yo, .int .u32 ne, .int .u8 a.toNat, .int .u8 b.toNat, .int .u8 c.toNat, .int .u8 d.toNat, .int .u8 e.toNat, .int .u8 f.toNat, .slice sa os.length sc] 56)) (Nat.le_refl _)) (by omega))
  clear hA
  go_enter Tryz.func47, Tryz.ntmps47
  go_wp2_with fail
  refine (unhide HM).mono ?_
  rintro ee w1 ⟨rfl, hb⟩
  have HB := hide hb
  clear hb HM
  rw [hbad]
  go_wp2
  go_ret2
  exact ⟨rfl, ((Below.refl _ _).alloc (Nat.le_refl _) _).trans ((unhide HB).mono (by simp))⟩

set_option maxHeartbeats 4000000 in
theorem wire_good (rep : Bool) (xid cl yo ne : Int) (a b c d e f : UInt8) (sa : Option Addr) (sc : Nat) (os : Opts) (w : World) (hx : 0 ≤ xid ∧ xid ≤ 4294967295) (hc : 0 ≤ cl ∧ cl ≤ 4294967295) (hy : 0 ≤ yo ∧ yo ≤ 4294967295) (hn : 0 ≤ ne ∧ ne ≤ 4294967295) (hA : At w sa os) (hl : heavy os ≤ 2097152) (hbad : bad os = false) :
    Calls Tryz.prog 47 #[.agg #[.bool rep, .int .u32 xid, .int .u32 cl, .int .u32 yo, .int .u32 ne, .int .u8 a.toNat, .int .u8 b.toNat, .int .u8 c.toNat, .int .u8 d.toNat, .int .u8 e.toNat, .int .u8 f.toNat, .slice sa os.length sc]] w fun ee w' =>
      ee = .returned (.tuple #[.string (dhS rep xid cl yo ne [a, b, c, d, e, f] os), .int .i64 (dhE rep xid cl yo ne [a, b, c, d, e, f] os)]) ∧ Below w.heap.size w w' := by
  have hlen : os.length ≤ heavy os := by unfold heavy; omega
  obtain ⟨W, hWW⟩ : ∃ W, W = w.alloc (.cells #[.bool rep, .int .u32 xid, .int .u32 cl, .int .u32 yo, .int .u32 ne, .int .u8 a.toNat, .int .u8 b.toNat, .int .u8 c.toNat, .int .u8 d.toNat, .int .u8 e.toNat, .int .u8 f.toNat, .slice sa os.length sc] 56) := ⟨_, rfl⟩
  have hWz : W.heap.size = w.heap.size + 1 := by rw [hWW]; simp
  have hW0 : Below w.heap.size w W := by rw [hWW]; exact (Below.refl _ _).alloc (Nat.le_refl _) _
  have hbox : W.heap[w.heap.size]? = some (.cells #[.bool rep, .int .u32 xid, .int .u32 cl, .int .u32 yo, .int .u32 ne, .int .u8 a.toNat, .int .u8 b.toNat, .int .u8 c.toNat, .int .u8 d.toNat, .int .u8 e.toNat, .int .u8 f.toNat, .slice sa os.length sc] 56 (0, 0)) := by rw [hWW]; exact heap_alloc_new w _
  have HM := hide (may_any sa sc os W (hA.below hW0 (Nat.le_refl _)) (by omega))
  rw [hWW] at HM
  have HA := hide hA
  have HWZ := hide hWz
  have HW0 := hide hW0
  have HBOX := hide hbox
  have HWW := hide hWW
  clear hA hWz hW0 hbox hWW
  go_enter Tryz.func47, Tryz.ntmps47
  go_wp2_with fail
  refine (unhide HM).mono ?_
  rintro ee w1 ⟨rfl, hb⟩
  rw [← unhide HWW] at hb
  have hbox1 : w1.heap[w.heap.size]? = some (.cells #[.bool rep, .int .u32 xid, .int .u32 cl, .int .u32 yo, .int .u32 ne, .int .u8 a.toNat, .int .u8 b.toNat, .int .u8 c.toNat, .int .u8 d.toNat, .int .u8 e.toNat, .int .u8 f.toNat, .slice sa os.length sc] 56 (0, 0)) := by rw [hb.block _ (by rw [unhide HWZ]; omega)]; exact unhide HBOX
  have hboxA : ∀ o, (w1.alloc o).heap[w.heap.size]? = some (.cells #[.bool rep, .int .u32 xid, .int .u32 cl, .int .u32 yo, .int .u32 ne, .int .u8 a.toNat, .int .u8 b.toNat, .int .u8 c.toNat, .int .u8 d.toNat, .int .u8 e.toNat, .int .u8 f.toNat, .slice sa os.length sc] 56 (0, 0)) := fun o => by rw [Below.heap_alloc _ _ _ (lt_of_block hbox1)]; exact hbox1
  have w1c0 : ∀ o, (w1.alloc o).cell? ⟨w.heap.size, 0, none⟩ = some (.bool rep) := fun o => by rw [cell_of_row _ w.heap.size 0 _ _ _ (hboxA o)]; rfl
  have w1c1 : ∀ o, (w1.alloc o).cell? ⟨w.heap.size, 1, none⟩ = some (.int .u32 xid) := fun o => by rw [cell_of_row _ w.heap.size 1 _ _ _ (hboxA o)]; rfl
  have w1c2 : ∀ o, (w1.alloc o).cell? ⟨w.heap.size, 2, none⟩ = some (.int .u32 cl) := fun o => by rw [cell_of_row _ w.heap.size 2 _ _ _ (hboxA o)]; rfl
  have w1c3 : ∀ o, (w1.alloc o).cell? ⟨w.heap.size, 3, none⟩ = some (.int .u32 yo) := fun o => by rw [cell_of_row _ w.heap.size 3 _ _ _ (hboxA o)]; rfl
  have w1c4 : ∀ o, (w1.alloc o).cell? ⟨w.heap.size, 4, none⟩ = some (.int .u32 ne) := fun o => by rw [cell_of_row _ w.heap.size 4 _ _ _ (hboxA o)]; rfl
  have w1c5 : ∀ o, (w1.alloc o).cell? ⟨w.heap.size, 5, none⟩ = some (.int .u8 a.toNat) := fun o => by rw [cell_of_row _ w.heap.size 5 _ _ _ (hboxA o)]; rfl
  have w1c6 : ∀ o, (w1.alloc o).cell? ⟨w.heap.size, 6, none⟩ = some (.int .u8 b.toNat) := fun o => by rw [cell_of_row _ w.heap.size 6 _ _ _ (hboxA o)]; rfl
  have w1c7 : ∀ o, (w1.alloc o).cell? ⟨w.heap.size, 7, none⟩ = some (.int .u8 c.toNat) := fun o => by rw [cell_of_row _ w.heap.size 7 _ _ _ (hboxA o)]; rfl
  have w1c8 : ∀ o, (w1.alloc o).cell? ⟨w.heap.size, 8, none⟩ = some (.int .u8 d.toNat) := fun o => by rw [cell_of_row _ w.heap.size 8 _ _ _ (hboxA o)]; rfl
  have w1c9 : ∀ o, (w1.alloc o).cell? ⟨w.heap.size, 9, none⟩ = some (.int .u8 e.toNat) := fun o => by rw [cell_of_row _ w.heap.size 9 _ _ _ (hboxA o)]; rfl
  have w1c10 : ∀ o, (w1.alloc o).cell? ⟨w.heap.size, 10, none⟩ = some (.int .u8 f.toNat) := fun o => by rw [cell_of_row _ w.heap.size 10 _ _ _ (hboxA o)]; rfl
  have w1c11 : ∀ o, (w1.alloc o).cell? ⟨w.heap.size, 11, none⟩ = some (.slice sa os.length sc) := fun o => by rw [cell_of_row _ w.heap.size 11 _ _ _ (hboxA o)]; rfl
  have hz1 := hb.size
  rw [unhide HWZ] at hz1
  have hB1 : Below w.heap.size w w1 := (unhide HW0).trans (hb.mono (by rw [unhide HWZ]; omega))
  have HBOX1 := hide hbox1
  have HB1 := hide hB1
  have HN := hide (wr_new w1)
  clear hb HM hbox1 hboxA hB1 HBOX HWW HW0 HWZ
  rw [hbad]
  go_wp2_with fail
  refine (head_any w1.heap.size rep xid cl yo ne a b c d e f sa os.length sc _ (unhide HN) hx hc hy hn).mono ?_
  rintro ee w2 ⟨rfl, k2, q2⟩
  obtain ⟨L, hL, hLl⟩ : ∃ L, L = headL (opI rep) (flI cl) xid cl yo ne [a, b, c, d, e, f] ∧ L.length = 240 := ⟨_, rfl, headL_length _ _ _ _ _ _ _ rfl⟩
  rw [← hL] at k2
  have HL := hide hL
  have hB2 : Below w1.heap.size w1 w2 := ((Below.refl _ _).alloc (Nat.le_refl _) _).trans q2.below
  have K2 := hide k2
  have HB2 := hide hB2
  have HA2 := hide (((unhide HA).below (unhide HB1) (Nat.le_refl _)).lower hB2 ((unhide HA).old (by omega)))
  clear k2 q2 hB2 hL
  go_wp2_with fail
  refine (options_any w1.heap.size sa sc os L w2 (unhide K2) (unhide HA2) ((unhide HA).old (by omega)) hl (by omega)).mono ?_
  rintro ee w3 ⟨rfl, q3, M, k3, hM, hMM⟩
  have K3 := hide k3
  have Q3 := hide q3
  have HMM := hide hMM
  clear k3 q3 hMM
  go_wp2_with fail
  refine (fill_any w1.heap.size 300 M w3 (unhide K3) (by omega) (by omega)).mono ?_
  rintro ee w4 ⟨rfl, k4, q4⟩
  obtain ⟨X, hX⟩ : ∃ X, X = M ++ List.replicate (300 - M.length) 0 := ⟨_, rfl⟩
  have hXl : X.length ≤ 8388908 := by rw [hX, List.length_append, List.length_replicate]; omega
  have HXX := hide hX
  rw [← hX] at k4
  have hB4 : Below w.heap.size w w4 := (unhide HB1).trans (((unhide HB2).mono (by omega)).trans (((unhide Q3).below.mono (by omega)).trans (q4.below.mono (by omega))))
  have HB4 := hide hB4
  obtain ⟨v, hv, hown⟩ := k4
  obtain ⟨ao, cp, hv'⟩ := own_len hown
  have hcc := cell_of_one hv
  rw [hv'] at hcc
  have K4 : Hid (Wr w4 w1.heap.size X) := hide ⟨v, hv, hown⟩
  clear q4 hX hB4 hv hown hv' v
  by_cases hbig : 1472 < (allL rep xid cl yo ne [a, b, c, d, e, f] os).length
  · have hXb : 1472 < X.length := by
      rcases unhide HMM with eM | ⟨h1, _⟩
      · rw [unhide HXX, eM, unhide HL]
        have : allL rep xid cl yo ne [a, b, c, d, e, f] os = headL (opI rep) (flI cl) xid cl yo ne [a, b, c, d, e, f] ++ opts8 os ++ [255] := rfl
        rw [this] at hbig
        rw [List.length_append]; omega
      · rw [unhide HXX, List.length_append]; omega
    have hgt : (1472 : Int) < (X.length : Int) := by omega
    have e1 : dhE rep xid cl yo ne [a, b, c, d, e, f] os = 7 := by rw [dhE, hbad, if_neg (by decide), if_pos hbig]
    have e2 : dhS rep xid cl yo ne [a, b, c, d, e, f] os = ⟨#[]⟩ := by rw [dhS, hbad, if_neg (by decide), if_pos hbig]
    have HE1 := hide e1
    have HE2 := hide e2
    clear hbig hXb e1 e2
    go_wp2
    go_ret2
    exact ⟨by rw [unhide HE1, unhide HE2]; rfl, unhide HB4⟩
  · have hMe : M = allL rep xid cl yo ne [a, b, c, d, e, f] os := by
      rcases unhide HMM with eM | ⟨_, h2⟩
      · rw [eM, unhide HL]; rfl
      · rw [unhide HL] at h2
        exact absurd h2 hbig
    have hXe : X = fullL (allL rep xid cl yo ne [a, b, c, d, e, f] os) := by rw [unhide HXX, hMe]; rfl
    have hXs : ¬ 1472 < X.length := by rw [hXe, fullL_length]; exact hbig
    have hgt : ¬ (1472 : Int) < (X.length : Int) := by omega
    have e1 : dhE rep xid cl yo ne [a, b, c, d, e, f] os = 0 := by rw [dhE, hbad, if_neg (by decide), if_neg hbig]
    have e2 : dhS rep xid cl yo ne [a, b, c, d, e, f] os = ⟨X.toArray⟩ := by rw [dhS, hbad, if_neg (by decide), if_neg hbig, hXe]
    have HE1 := hide e1
    have HE2 := hide e2
    clear hbig hXs e1 e2 hMe hXe
    go_wp2_with fail
    refine (text_any _ _ _ (unhide K4)).mono ?_
    rintro ee w5 ⟨rfl, rfl⟩
    go_wp2
    go_ret2
    exact ⟨by rw [unhide HE1, unhide HE2]; rfl, unhide HB4⟩

theorem wire_any (rep : Bool) (xid cl yo ne : Int) (a b c d e f : UInt8) (sa : Option Addr) (sc : Nat) (os : Opts) (w : World) (hx : 0 ≤ xid ∧ xid ≤ 4294967295) (hc : 0 ≤ cl ∧ cl ≤ 4294967295) (hy : 0 ≤ yo ∧ yo ≤ 4294967295) (hn : 0 ≤ ne ∧ ne ≤ 4294967295) (hA : At w sa os) (hl : heavy os ≤ 2097152) :
    Calls Tryz.prog 47 #[.agg #[.bool rep, .int .u32 xid, .int .u32 cl, .int .u32 yo, .int .u32 ne, .int .u8 a.toNat, .int .u8 b.toNat, .int .u8 c.toNat, .int .u8 d.toNat, .int .u8 e.toNat, .int .u8 f.toNat, .slice sa os.length sc]] w fun ee w' =>
      ee = .returned (.tuple #[.string (dhS rep xid cl yo ne [a, b, c, d, e, f] os), .int .i64 (dhE rep xid cl yo ne [a, b, c, d, e, f] os)]) ∧ Below w.heap.size w w' := by
  by_cases hbad : bad os = true
  · have e1 : dhE rep xid cl yo ne [a, b, c, d, e, f] os = 2 := by rw [dhE, if_pos hbad]
    have e2 : dhS rep xid cl yo ne [a, b, c, d, e, f] os = ⟨#[]⟩ := by rw [dhS, if_pos hbad]
    rw [e1, e2]
    exact wire_bad rep xid cl yo ne a b c d e f sa sc os w hA hl hbad
  · exact wire_good rep xid cl yo ne a b c d e f sa sc os w hx hc hy hn hA hl (by simpa using hbad)

set_option maxHeartbeats 4000000 in
theorem boot_any (rep : Bool) (xid cl yo ne : Int) (a b c d e f : UInt8) (sa : Option Addr) (sc : Nat) (os : Opts) (w : World) (hx : 0 ≤ xid ∧ xid ≤ 4294967295) (hc : 0 ≤ cl ∧ cl ≤ 4294967295) (hy : 0 ≤ yo ∧ yo ≤ 4294967295) (hn : 0 ≤ ne ∧ ne ≤ 4294967295) (hA : At w sa os) (hl : heavy os ≤ 2097152) :
    Calls Tryz.prog 22 #[.agg #[.bool rep, .int .u32 xid, .int .u32 cl, .int .u32 yo, .int .u32 ne, .int .u8 a.toNat, .int .u8 b.toNat, .int .u8 c.toNat, .int .u8 d.toNat, .int .u8 e.toNat, .int .u8 f.toNat, .slice sa os.length sc]] w fun ee w' =>
      ee = .returned (.tuple #[.string (dhS rep xid cl yo ne [a, b, c, d, e, f] os), .int .i64 (dhE rep xid cl yo ne [a, b, c, d, e, f] os)]) ∧ Below w.heap.size w w' := by
  have HO := hide (wire_any rep xid cl yo ne a b c d e f sa sc os (w.alloc (.cells #[.bool rep, .int .u32 xid, .int .u32 cl, .int .u32 yo, .int .u32 ne, .int .u8 a.toNat, .int .u8 b.toNat, .int .u8 c.toNat, .int .u8 d.toNat, .int .u8 e.toNat, .int .u8 f.toNat, .slice sa os.length sc] 56)) hx hc hy hn (hA.below ((Below.refl w.heap.size w).alloc (Nat.le_refl _) _) (Nat.le_refl _)) hl)
  clear hA
  go_enter Tryz.func22, Tryz.ntmps22
  go_wp2_with fail
  refine (unhide HO).mono ?_
  rintro ee w1 ⟨rfl, hb⟩
  have HB := hide hb
  clear hb HO
  go_wp2
  go_ret2
  exact ⟨rfl, ((Below.refl _ _).alloc (Nat.le_refl _) _).trans ((unhide HB).mono (by simp))⟩
end Go.Proofs.YtoifihhmneldeaaGreatDoor.Dh

namespace Go.Proofs.YtoifihhmneldeaaGreatDoor.Dh
open Go.ChangeShapes Go.WideShapes Go.ChangeAt Go.RowKit Bs
set_option linter.unusedVariables false
set_option linter.unusedSimpArgs false

theorem below_drewN {N : Nat} {a w : World} (h : Below N a w) (n : Nat) : Below N a (w.drewN n) := ⟨h.os, h.tape, h.output, h.size, h.block⟩
/-- options as cells -/
def cellsO (os : Opts) : List Value := os.flatMap fun o => [.int .u8 o.1.toNat, .string ⟨o.2.toArray⟩]
theorem cellsO_length (os : Opts) : (cellsO os).length = os.length * 2 := by
  induction os with
  | nil => rfl
  | cons o r ih => simp only [cellsO, List.flatMap_cons, List.length_append, List.length_cons, List.length_nil] at ih ⊢; omega
theorem cellsO_append (a b : Opts) : cellsO (a ++ b) = cellsO a ++ cellsO b := by simp [cellsO]
theorem cellsO_get (os : Opts) (i : Nat) (h : i < os.length) : (cellsO os)[i * 2]? = some (.int .u8 os[i].1.toNat) ∧ (cellsO os)[i * 2 + 1]? = some (.string ⟨os[i].2.toArray⟩) := by
  induction os generalizing i with
  | nil => simp at h
  | cons o r ih =>
    cases i with
    | zero => exact ⟨rfl, rfl⟩
    | succ i =>
      have := ih i (by simpa using h)
      simp only [cellsO, List.flatMap_cons] at this ⊢
      rw [show (i + 1) * 2 = i * 2 + 1 + 1 by omega]
      simpa using this
theorem cellsO_one (os : Opts) : ∀ u ∈ cellsO os, u.oneCell' = true := by
  intro u hu
  simp only [cellsO, List.mem_flatMap] at hu
  obtain ⟨o, _, ho⟩ := hu
  simp at ho
  rcases ho with rfl | rfl <;> rfl
theorem add_next (ad : Addr) (n : Nat) : (⟨(ad.add n).block, (ad.add n).off + 1, none⟩ : Addr) = ad.add (n + 1) := by
  unfold Addr.add
  by_cases h : n = 0
  · subst h; simp
  · simp [h]; omega
theorem At.cells {w : World} {ad : Addr} {os : Opts} (h : At w (some ad) os) : ∀ j u, (cellsO os)[j]? = some u → w.cell? (ad.add j) = some u := fun j u hj => by
  have hl := (List.getElem?_eq_some_iff.1 hj).1
  rw [cellsO_length] at hl
  obtain ⟨ad', e, h0, h1⟩ := h (j / 2) (by omega)
  obtain rfl := Option.some.inj e
  obtain ⟨g0, g1⟩ := cellsO_get os (j / 2) (by omega)
  rcases Nat.mod_two_eq_zero_or_one j with e | e
  · have e2 : j / 2 * 2 = j := by omega
    rw [e2] at h0 g0
    rw [h0, ← hj, g0]
  · have e2 : j / 2 * 2 + 1 = j := by omega
    rw [add_next, e2] at h1
    rw [e2] at g1
    rw [h1, ← hj, g1]
theorem At.ofCells {w : World} {ad : Addr} {os : Opts} (h : ∀ j u, (cellsO os)[j]? = some u → w.cell? (ad.add j) = some u) : At w (some ad) os := fun i hi => by
  obtain ⟨g0, g1⟩ := cellsO_get os i hi
  exact ⟨ad, rfl, h _ _ g0, by rw [add_next]; exact h _ _ g1⟩

theorem heavy_more (os : Opts) (k : Nat) : heavy (os.take k) + (os.length - k) ≤ heavy os := by
  have q : heavy (os.take k ++ os.drop k) = heavy (os.take k) + heavy (os.drop k) := by
    simp only [heavy, List.map_append, List.sum_append, List.length_append]; omega
  rw [List.take_append_drop] at q
  have h : (os.drop k).length ≤ heavy (os.drop k) := by unfold heavy; omega
  rw [List.length_drop] at h
  omega

end Go.Proofs.YtoifihhmneldeaaGreatDoor.Dh

import Derived.Test.YtadkcdcdgphhpaaWriterAt
import Derived.Test.YtadkcdcdgphhpaaDHMath
namespace Go.Proofs.Ytadkcdcdgphhpaa.Dh
open Go.ChangeShapes Go.WideShapes Go.ChangeAt Go.RowKit Bs Wt
set_option linter.unusedVariables false

theorem by8_nat (u : UInt8) : by8 (u.toNat : Int) = u := by
  have h := by8_toNat (u.toNat : Int)
  have := u.toNat_lt
  apply UInt8.toNat_inj.1
  omega
theorem by8_len (n : Nat) : by8 (n : Int) = UInt8.ofNat n := by
  apply UInt8.toNat_inj.1
  have h := by8_toNat (n : Int)
  rw [UInt8.toNat_ofNat']
  omega

/-- a text -/
abbrev str (l : List UInt8) : ByteArray := ⟨l.toArray⟩
theorem str_size (l : List UInt8) : (⟨l.toArray⟩ : ByteArray).size = l.length := by show l.toArray.size = _; simp
theorem str_take (l : List UInt8) (n : Nat) : (⟨l.toArray⟩ : ByteArray).extract 0 n = ⟨(l.take n).toArray⟩ := by
  apply ByteArray.ext
  rw [ByteArray.data_extract]
  apply Array.ext'
  simp
theorem str_drop (l : List UInt8) (n : Nat) : (⟨l.toArray⟩ : ByteArray).extract n (⟨l.toArray⟩ : ByteArray).size = ⟨(l.drop n).toArray⟩ := by
  apply ByteArray.ext
  rw [ByteArray.data_extract, str_size]
  apply Array.ext'
  simp
  rw [List.take_of_length_le (by simp)]

theorem wr_drew {w : World} {B : Nat} {L : List UInt8} (h : Wr w B L) : Wr w.drew B L := h

set_option maxHeartbeats 1000000 in
theorem piece_any (B : Nat) (c : UInt8) (d : ByteArray) (L : List UInt8) (w : World) (hW : Wr w B L) (hd : d.size ≤ 255) (hsz : L.length ≤ 1099511620000) :
    Calls Try.prog 145 #[.pointer (some ⟨B, 0, none⟩), .int .u8 c.toNat, .string d] w fun e w' =>
      e = .returned (.tuple #[]) ∧ Wr w' B (L ++ (c :: UInt8.ofNat d.size :: d.data.toList)) ∧ Kept B w w' := by
  have hc := c.toNat_lt
  have hq : IntKind.u8.wrap (d.size : Int) = (d.size : Int) := by rw [IntKind.wrap_u8]; omega
  have HW := hide hW
  have HF : Hid (L ++ [by8 (c.toNat : Int), by8 (d.size : Int)] ++ d.data.toList = L ++ (c :: UInt8.ofNat d.size :: d.data.toList)) := hide (by
    rw [by8_nat, by8_len]; simp)
  clear hW
  go_enter Try.func145, Try.ntmps145
  go_wp2_with fail
  refine (bytes_two B _ (c.toNat : Int) (d.size : Int) L _ (unhide HW) rfl (by omega) (by omega) (by omega)).mono ?_
  rintro e w1 ⟨rfl, k1, q1⟩
  have K1 := hide k1
  have Q1 := hide q1
  clear k1 q1
  go_wp2_with fail
  refine (texts_one B _ d _ _ (unhide K1) rfl (by simp only [List.length_append, List.length_cons, List.length_nil]; omega)).mono ?_
  rintro e w2 ⟨rfl, k2, q2⟩
  have K2 := hide k2
  have Q2 := hide q2
  clear k2 q2
  go_wp2
  go_end0
  exact ⟨rfl, by rw [← unhide HF]; exact unhide K2, (unhide Q1).trans (unhide Q2)⟩

set_option maxHeartbeats 1000000 in
theorem option_any (B : Nat) (c : UInt8) (d : List UInt8) (L : List UInt8) (w : World) (hW : Wr w B L) (hd : d.length ≤ 268435456) (hsz : L.length ≤ 268435456) :
    Calls Try.prog 129 #[.pointer (some ⟨B, 0, none⟩), .agg #[.int .u8 c.toNat, .string ⟨d.toArray⟩]] w fun e w' =>
      e = .returned (.tuple #[]) ∧ Wr w' B (L ++ opt8 c d) ∧ Kept B w w' := by
  have hc := c.toNat_lt
  have HW := hide hW
  have hB := hW.lt
  clear hW
  obtain ⟨W, hWW⟩ : ∃ W, W = w.alloc (.cells #[.int .u8 c.toNat, .string ⟨d.toArray⟩] 87) := ⟨_, rfl⟩
  have hbox : W.heap[w.heap.size]? = some (.cells #[.int .u8 c.toNat, .string ⟨d.toArray⟩] 87 (0, 0)) := by rw [hWW]; exact heap_alloc_new w _
  have hc0 : ∀ wr, Kept B W wr → wr.cell? ⟨w.heap.size, 0, none⟩ = some (.int .u8 c.toNat) := fun wr hK => by
    rw [cell_of_row wr w.heap.size 0 _ _ _ (hK.others _ _ _ _ hB hbox (by decide))]; rfl
  have HC0 := hide hc0
  have HW1 : Hid (Wr W B L) := hide (by rw [hWW]; exact (unhide HW).alloc _)
  have HK1 : Hid (Kept B w W) := hide (by rw [hWW]; exact (Kept.refl B w).alloc (by omega) _)
  have HWW := hide hWW
  clear hWW hbox hc0 HW
  go_enter Try.func129, Try.ntmps129
  go_wp2
  rw [← unhide HWW]
  clear HWW
  go_loopg [4] d.length (fun g v4 wr => ∃ m done : List UInt8, m.length = g ∧ g ≤ d.length ∧ v4 = .string ⟨m.toArray⟩ ∧ Hid (Wr wr B (L ++ done)) ∧ Hid (done ++ opt8 c m = opt8 c d) ∧ Hid (done.length ≤ 2 * (d.length - g)) ∧ Hid (Kept B W wr))
  case atStart => exact ⟨d, [], rfl, Nat.le_refl _, rfl, hide (by simpa using unhide HW1), hide rfl, hide (by simp), hide (Kept.refl _ _)⟩
  case round =>
    obtain ⟨m, done, hm, hg, rfl, H1, H2, H3, H4⟩ := hrel
    have c0 := unhide HC0 _ (unhide H4)
    have hz := str_size m
    have hgl := unhide H3
    obtain ⟨s, hS⟩ : ∃ s : ByteArray, s = ⟨m.toArray⟩ := ⟨_, rfl⟩
    have hz' : s.size = m.length := by rw [hS]; exact hz
    by_cases hlt : 255 < m.length
    · have hgt : (255 : Int) < (s.size : Int) := by omega
      have hs1 : s.size ≤ 9223372036854775807 := by omega
      have HP := hide (fun u hu => piece_any B c ⟨(m.take 255).toArray⟩ (L ++ done) u hu (by rw [str_size, List.length_take]; omega) (by rw [List.length_append]; omega))
      rw [← str_take m 255, ← hS] at HP
      have HD : Hid (s.extract 255 s.size = ⟨(m.drop 255).toArray⟩) := hide (by rw [hS]; exact str_drop m 255)
      have HE : Hid ((s.extract 0 255).size = 255 ∧ (s.extract 0 255).data.toList = m.take 255) := hide (by
        rw [hS, str_take]
        refine ⟨?_, by simp⟩
        rw [str_size, List.length_take]; omega)
      have HL := hide hz'
      have HG := hide hm
      have HLT := hide hlt
      rw [← hS]
      clear hS hz hz' hm hgl hlt
      go_wp2
      go_region_with (first | (go_at_call 145; refine (unhide HP _ (wr_drew (unhide H1))).mono ?_; rintro e u ⟨rfl, k1, q1⟩; have K1 := hide k1; have Q1 := hide q1; clear k1 q1))
      all_goals go_wp2
      all_goals go_roundg (gk - 255)
      all_goals first
        | (have := unhide HG; have := unhide HLT; omega)
        | (refine ⟨m.drop 255, done ++ (c :: UInt8.ofNat (s.extract 0 255).size :: (s.extract 0 255).data.toList), by have := unhide HG; rw [List.length_drop]; omega, by omega, ?_, hide ?_, hide ?_, hide ?_, hide ((unhide H4).trans ((Kept.refl B wr).drew.trans (unhide Q1)))⟩
           · rw [unhide HD]
           · rw [← List.append_assoc]; exact unhide K1
           · rw [(unhide HE).1, (unhide HE).2, ← unhide H2, opt8_long c m (unhide HLT)]; simp
           · have e2 := congrArg List.length (unhide HE).2
             have := unhide H3
             have := unhide HG
             have := unhide HLT
             rw [List.length_append, List.length_cons, List.length_cons, e2, List.length_take]
             omega)
    · have hgt : ¬ (255 : Int) < (s.size : Int) := by omega
      have HP := hide (fun u hu => piece_any B c ⟨m.toArray⟩ (L ++ done) u hu (by rw [str_size]; omega) (by rw [List.length_append]; omega))
      rw [← hS] at HP
      have HE : Hid (s.size = m.length ∧ s.data.toList = m) := hide ⟨hz', by rw [hS]⟩
      rw [← hS]
      have HLT := hide hlt
      clear hS hz hz' hm hgl hlt
      go_wp2_with fail
      refine (unhide HP _ (unhide H1)).mono ?_
      rintro e u ⟨rfl, k1, q1⟩
      have K1 := hide k1
      have Q1 := hide q1
      clear k1 q1
      go_wp2
      go_end0
      refine ⟨rfl, ?_, (unhide HK1).trans ((unhide H4).trans (unhide Q1))⟩
      have k := unhide K1
      rw [(unhide HE).1, (unhide HE).2, List.append_assoc, ← opt8_short c m (unhide HLT), unhide H2] at k
      exact k

/-- a list of options as it lies in memory -/
def At (w : World) (a : Option Addr) (os : Opts) : Prop :=
  ∀ i (h : i < os.length), ∃ ad, a = some ad ∧ w.cell? (ad.add (i * 2)) = some (.int .u8 os[i].1.toNat) ∧ w.cell? ⟨(ad.add (i * 2)).block, (ad.add (i * 2)).off + 1, none⟩ = some (.string ⟨os[i].2.toArray⟩)
theorem cell_lt {w : World} {p : Addr} {v : Value} (h : w.cell? p = some v) : p.block < w.heap.size := by
  by_cases hlt : p.block < w.heap.size
  · exact hlt
  · have hn : w.heap[p.block]? = none := by simp; omega
    simp [World.cell?, hn] at h
theorem At.below {w w' : World} {a : Option Addr} {os : Opts} {n : Nat} (h : At w a os) (hb : Below n w w') (hn : w.heap.size ≤ n) : At w' a os := fun i hi => by
  obtain ⟨ad, e, h0, h1⟩ := h i hi
  have l0 := cell_lt h0
  refine ⟨ad, e, ?_, ?_⟩
  · rw [hb.cell (by omega)]; exact h0
  · rw [hb.cell (by show (ad.add (i * 2)).block < n; omega)]; exact h1
theorem add_block (ad : Addr) (n : Nat) : (ad.add n).block = ad.block := by unfold Addr.add; split <;> rfl
theorem At.lower {w w' : World} {a : Option Addr} {os : Opts} {n : Nat} (h : At w a os) (hb : Below n w w') (hn : ∀ ad, a = some ad → 0 < os.length → ad.block < n) : At w' a os := fun i hi => by
  obtain ⟨ad, e, h0, h1⟩ := h i hi
  have l0 := hn ad e (by omega)
  have l1 := add_block ad (i * 2)
  refine ⟨ad, e, ?_, ?_⟩
  · rw [hb.cell (by rw [l1]; exact l0)]; exact h0
  · rw [hb.cell (by show (ad.add (i * 2)).block < n; rw [l1]; exact l0)]; exact h1

theorem At.old {w : World} {a : Option Addr} {os : Opts} {n : Nat} (h : At w a os) (hn : w.heap.size ≤ n) : ∀ ad, a = some ad → 0 < os.length → ad.block < n := fun ad e hl => by
  obtain ⟨ad', e', h0, _⟩ := h 0 hl
  have h1 := cell_lt h0
  rw [add_block] at h1
  rw [e] at e'
  obtain rfl := Option.some.inj e'
  omega

set_option maxHeartbeats 1000000 in
theorem may_any (a : Option Addr) (cap : Nat) (os : Opts) (w : World) (hA : At w a os) (hl : os.length ≤ 268435456) :
    Calls Try.prog 96 #[.slice a os.length cap] w fun e w' =>
      e = .returned (.bool (!bad os)) ∧ Below w.heap.size w w' := by
  have HA := hide hA
  clear hA
  go_enter Try.func96, Try.ntmps96
  go_wp2
  go_loopw [7] (fun i wr => ∃ k : Nat, k ≤ os.length ∧ i = .int .i64 k ∧ Hid (bad (os.take k) = false) ∧ Hid (Below w.heap.size w wr)) (fun i _ => os.length - (intOf i).toNat)
  case atStart => exact ⟨0, Nat.zero_le _, rfl, hide rfl, hide (Below.refl _ _)⟩
  case round =>
    obtain ⟨k, hk, rfl, HB, HW⟩ := hrel
    rename World => wr
    by_cases hlt : k < os.length
    · obtain ⟨ad, rfl, c0, c1⟩ := (unhide HA).below (unhide HW) (Nat.le_refl _) k hlt
      obtain ⟨c, hc⟩ : ∃ c, c = os[k].1 := ⟨_, rfl⟩
      rw [← hc] at c0
      have hc8 := c.toNat_lt
      have HC := hide hc
      clear hc
      by_cases hb : badC c = true
      · have HBD : Hid (bad os = true) := hide (bad_at hlt (by rw [← unhide HC]; exact hb))
        have hbb : c.toNat = 0 ∨ c.toNat = 52 ∨ c.toNat = 255 := by simpa [badC, or_assoc] using hb
        clear hb
        rcases hbb with e0 | e0 | e0
        all_goals
          rw [e0] at c0
          go_wp2
          go_ret
          exact ⟨by rw [unhide HBD]; rfl, (unhide HW).alloc (unhide HW).size _⟩
      · have hbb : ¬ c.toNat = 0 ∧ ¬ c.toNat = 52 ∧ ¬ c.toNat = 255 := by simpa [badC, and_assoc] using hb
        obtain ⟨g0, g1, g2⟩ := hbb
        have q0 : (((c.toNat : Nat) : Int) == 0) = false := by simp; omega
        have q1 : (((c.toNat : Nat) : Int) == 52) = false := by simp; omega
        have q2 : (((c.toNat : Nat) : Int) == 255) = false := by simp; omega
        have HB2 : Hid (bad (os.take (k + 1)) = false) := hide (bad_take hlt (unhide HB) (by rw [← unhide HC]; simpa using hb))
        clear hb g0 g1 g2
        go_wp2
        go_roundw
        case rel => exact ⟨k + 1, by omega, by go_num, HB2, hide ((unhide HW).alloc (unhide HW).size _)⟩
        case measure => simp [intOf]; omega
    · have e : k = os.length := by omega
      subst e
      have HF : Hid (bad os = false) := hide (by have := unhide HB; rwa [List.take_length] at this)
      go_wp2
      go_ret
      exact ⟨by rw [unhide HF]; rfl, unhide HW⟩

theorem bytes_one (B bs : Nat) (a : Int) (L : List UInt8) (w : World) (hW : Wr w B L) (hbs : bs = w.heap.size) (ha : 0 ≤ a ∧ a ≤ 255) (hsz : L.length ≤ 1099511627000) :
    Calls Try.prog 86 #[.pointer (some ⟨B, 0, none⟩), .slice (some ⟨bs, 0, none⟩) 1 1] (w.alloc (.cells #[.int .u8 a] 5)) fun e w' =>
      e = .returned (.tuple #[]) ∧ Wr w' B (L ++ [by8 a]) ∧ Kept B w w' := by
  subst hbs
  have hcs : #[Value.int .u8 a] = (cells8 [by8 a]).toArray := by
    simp only [cells8, List.map_cons, List.map_nil, by8_toNat]
    rw [Int.emod_eq_of_lt ha.1 (by omega)]
  have h := bytes_any B w.heap.size 1 [by8 a] L _ (hW.alloc (.cells #[.int .u8 a] 5)) hW.lt (by rw [hcs]; exact heap_alloc_new w _) (by simp only [List.length_cons, List.length_nil]; omega)
  refine h.mono ?_
  rintro e w1 ⟨rfl, h1, h2⟩
  exact ⟨rfl, h1, kept_new hW h2⟩

set_option maxHeartbeats 1000000 in
/-- what is written of options: all of them and their end, or more than can be said -/
theorem options_any (B : Nat) (a : Option Addr) (cap : Nat) (os : Opts) (L : List UInt8) (w : World) (hW : Wr w B L) (hA : At w a os) (hB : ∀ ad, a = some ad → 0 < os.length → ad.block < B) (hl : heavy os ≤ 2097152) (hL : L.length ≤ 1472) :
    Calls Try.prog 98 #[.pointer (some ⟨B, 0, none⟩), .slice a os.length cap, .int .i64 1472] w fun e w' =>
      e = .returned (.tuple #[]) ∧ Kept B w w' ∧ ∃ M, Wr w' B M ∧ M.length ≤ 8388608 ∧ (M = L ++ opts8 os ++ [255] ∨ (1472 < M.length ∧ 1472 < (L ++ opts8 os ++ [255]).length)) := by
  have HA := hide hA
  have HB := hide hB
  have hBl := hW.lt
  have hlen : os.length ≤ heavy os := by unfold heavy; omega
  have HW := hide hW
  clear hA hB hW
  go_enter Try.func98, Try.ntmps98
  go_wp2
  go_loopw [10] (fun i wr => ∃ k : Nat, k ≤ os.length ∧ i = .int .i64 k ∧ Hid (Wr wr B (L ++ opts8 (os.take k))) ∧ Hid (Kept B w wr)) (fun i _ => os.length - (intOf i).toNat)
  case atStart => exact ⟨0, Nat.zero_le _, rfl, hide (by simpa [opts8] using unhide HW), hide (Kept.refl _ _)⟩
  case round =>
    obtain ⟨k, hk, rfl, H1, H2⟩ := hrel
    rename World => wr
    obtain ⟨v, hv, hown⟩ := unhide H1
    obtain ⟨ao, cp, hv'⟩ := own_len hown
    have hB2 := lt_of_block hv
    have hc := cell_of_one hv
    rw [hv'] at hc
    have hMl : (L ++ opts8 (os.take k)).length ≤ 4195776 := by
      have h1 := opts8_le os k
      have h2 := opts8_heavy os
      rw [List.length_append]; omega
    by_cases hlt : k < os.length
    · obtain ⟨ad, rfl, c0, c1⟩ := (unhide HA).lower (unhide H2).below (unhide HB) k hlt
      obtain ⟨c, d, hcd⟩ : ∃ c d, os[k] = (c, d) := ⟨_, _, rfl⟩
      rw [hcd] at c0 c1
      have hd : d.length ≤ 2097152 := by have := heavy_one os k hlt; rw [hcd] at this; simp only at this; omega
      have HT := hide (opts8_take os k hlt)
      rw [hcd] at HT
      obtain ⟨X, hX⟩ : ∃ X, L ++ opts8 (os.take k) = X := ⟨_, rfl⟩
      rw [hX] at hc hMl
      have HX := hide hX
      have H1' : Hid (Wr wr B X) := hide (by rw [← unhide HX]; exact unhide H1)
      have HP := hide (fun u (hu : Wr u B X) => option_any B c d X u hu (by omega) (by omega))
      clear hv hown hv' hX hcd v H1
      by_cases hbig : 1472 < X.length
      · have hgt : (1472 : Int) < (X.length : Int) := by omega
        go_wp2_with fail
        refine (bytes_one B _ 255 X _ ((unhide H1').alloc _) (by simp) (by omega) (by omega)).mono ?_
        rintro e u ⟨rfl, k1, q1⟩
        have K1 := hide k1
        have Q1 := hide q1
        clear k1 q1
        go_wp2
        go_end0
        refine ⟨rfl, ?_, X ++ [255], unhide K1, by simp only [List.length_append, List.length_cons, List.length_nil]; omega, Or.inr ⟨by simp only [List.length_append, List.length_cons, List.length_nil]; omega, ?_⟩⟩
        · exact (unhide H2).trans (((Kept.refl B wr).alloc (by omega) _).trans (unhide Q1))
        · have h1 := opts8_le os k
          rw [← unhide HX, List.length_append] at hbig
          simp only [List.length_append, List.length_cons, List.length_nil]; omega
      · have hgt : ¬ (1472 : Int) < (X.length : Int) := by omega
        go_wp2_with fail
        refine (unhide HP _ ((unhide H1').alloc _)).mono ?_
        rintro e u ⟨rfl, k1, q1⟩
        have K1 := hide k1
        have Q1 := hide q1
        clear k1 q1
        go_wp2
        go_roundw
        case rel => exact ⟨k + 1, by omega, by go_num, hide (by rw [unhide HT, ← List.append_assoc, unhide HX]; exact unhide K1), hide ((unhide H2).trans (((Kept.refl B wr).alloc (by omega) _).trans (unhide Q1)))⟩
        case measure => simp [intOf]; omega
    · have e : k = os.length := by omega
      subst e
      rw [List.take_length] at hMl
      have h1' := unhide H1
      rw [List.take_length] at h1'
      have HE := hide h1'
      clear hv hown hv' hc v h1'
      go_wp2_with fail
      refine (bytes_one B _ 255 _ _ (unhide HE) rfl (by omega) (by omega)).mono ?_
      rintro e u ⟨rfl, k1, q1⟩
      have K1 := hide k1
      have Q1 := hide q1
      clear k1 q1
      go_wp2
      go_end0
      exact ⟨rfl, (unhide H2).trans (unhide Q1), _, unhide K1, by simp only [List.length_append, List.length_cons, List.length_nil] at hMl ⊢; omega, Or.inl rfl⟩
end Go.Proofs.Ytadkcdcdgphhpaa.Dh

import Derived.Test.YtoifihhmneldeaaGreatDoorWriterOne
import Derived.BigRegion
namespace Go.Proofs.YtoifihhmneldeaaGreatDoor.Wt
open Go.ChangeShapes Go.WideShapes Go.ChangeAt Go.RowKit Bs
set_option linter.unusedVariables false

theorem step_len {a b : Nat} (h : a = b) {w : World} {B : Nat} {v : Value} {xs : List Value} (ho : w.ownsRow B 5 1 v a xs) : w.ownsRow B 5 1 v b xs := by subst h; exact ho

set_option maxHeartbeats 1000000 in
theorem bytes_any (B bs cap : Nat) (N L : List UInt8) (w : World) (hW : Wr w B L) (hb : B < bs)
    (hsrc : w.heap[bs]? = some (.cells (cells8 N).toArray 5 (0, 0))) (hsz : L.length + N.length ≤ 1099511627776) :
    Calls Tryz.prog 36 #[.pointer (some ⟨B, 0, none⟩), .slice (some ⟨bs, 0, none⟩) N.length cap] w fun e w' =>
      e = .returned (.tuple #[]) ∧ Wr w' B (L ++ N) ∧ Kept B w w' := by
  obtain ⟨i0, hi, hz0, hz1, hz2⟩ := info_parts info8
  obtain ⟨v, hv, hown⟩ := hW
  have hc := cell_of_one hv
  have hf := free_of_one hv
  have HV := hide hv
  have HO := hide hown
  have hB := lt_of_block (unhide HV)
  have HC : Hid (∀ j u, (cells8 N)[j]? = some u → w.cell? ((⟨bs, 0, none⟩ : Addr).add j) = some u) := hide (fun j u h => by
    rw [add_lit', cell_of_row w bs j _ _ _ hsrc]; simpa using h)
  have HL := hide (show (cells8 N).length = N.length * 1 by rw [cells8_length]; omega)
  clear hv hown hsrc
  go_enter Tryz.func36, Tryz.ntmps36
  go_wp2_with (at_builtin; refine wpList_append_own _ rfl (.tmp 8) (.tmp 9) 71 rfl (B + 1) 5 i0 (.int .u8 0) 1 1 Tryz.underlying71 hi hz0 hz1 hz2 rfl (by decide) v _ _ rfl (unhide HO) ⟨bs, 0, none⟩ N.length cap (cells8 N) rfl (unhide HL) (unhide HC) (cells8_one _) ?h63 ?hby ?hba ?_)
  case h63 => simp only [maxLen]; omega
  case hby => omega
  case hba => omega
  · intro v' w1 hown' hg _
    have hm := mid (unhide HV) (unhide HO) hg
    have hc1 := cell_of_one hm
    have hf1 := free_of_one hm
    obtain ⟨s1, s2⟩ := step (N := N) (unhide HV) (unhide HO) hown' hg
    obtain ⟨ao, nn, cp, hv'⟩ := own_shape hown'
    have S1 := hide s1
    have S2 := hide s2
    clear hown' hg hm s1 s2 hc hf
    subst hv'
    go_wp2
    go_end0
    exact ⟨rfl, unhide S1, unhide S2⟩

theorem bytes_two (B bs : Nat) (a b : Int) (L : List UInt8) (w : World) (hW : Wr w B L) (hbs : bs = w.heap.size) (ha : 0 ≤ a ∧ a ≤ 255) (hb : 0 ≤ b ∧ b ≤ 255) (hsz : L.length ≤ 1099511627000) :
    Calls Tryz.prog 36 #[.pointer (some ⟨B, 0, none⟩), .slice (some ⟨bs, 0, none⟩) 2 2] (w.alloc (.cells #[.int .u8 a, .int .u8 b] 5)) fun e w' =>
      e = .returned (.tuple #[]) ∧ Wr w' B (L ++ [by8 a, by8 b]) ∧ Kept B w w' := by
  subst hbs
  have hcs : #[Value.int .u8 a, .int .u8 b] = (cells8 [by8 a, by8 b]).toArray := by
    simp only [cells8, List.map_cons, List.map_nil, by8_toNat]
    rw [Int.emod_eq_of_lt ha.1 (by omega), Int.emod_eq_of_lt hb.1 (by omega)]
  have h := bytes_any B w.heap.size 2 [by8 a, by8 b] L _ (hW.alloc (.cells #[.int .u8 a, .int .u8 b] 5)) hW.lt (by rw [hcs]; exact heap_alloc_new w _) (by simp only [List.length_cons, List.length_nil]; omega)
  refine h.mono ?_
  rintro e w1 ⟨rfl, h1, h2⟩
  exact ⟨rfl, h1, kept_new hW h2⟩

/-- a byte of the owned ones put -/
theorem own_put {w : World} {b g cap : Nat} {L : List UInt8} (h : w.ownsRow b 5 1 (.slice (some ⟨g, 0, none⟩) L.length cap) L.length (cells8 L)) (j : Nat) (hj : j < L.length) (x : UInt8) :
    (w.setCell ⟨g, j, none⟩ (.int .u8 x.toNat)).ownsRow b 5 1 (.slice (some ⟨g, 0, none⟩) L.length cap) L.length (cells8 (L.set j x)) := by
  rcases h.2 with ⟨e, _⟩ | ⟨g', cap', cur, e, h1, h2, h3, h4, h5, h6⟩
  · simp at e
  · simp only [Value.slice.injEq, Option.some.injEq, Addr.mk.injEq, and_true, true_and] at e
    obtain ⟨rfl, rfl⟩ := e
    refine ⟨by rw [cells8_length, List.length_set]; omega, Or.inr ⟨g, cap, cur.setIfInBounds j (.int .u8 x.toNat), rfl, h1, heap_setCell_same _ _ _ _ _ _ h2, h3, h4, by simpa using h5, ?_⟩⟩
    rw [Array.toList_setIfInBounds, List.take_set, h6]
    simp [cells8, List.map_set]
theorem own_form {w : World} {b : Nat} {v : Value} {L : List UInt8} (h : w.ownsRow b 5 1 v L.length (cells8 L)) (hl : 0 < L.length) :
    ∃ g cap cur, v = .slice (some ⟨g, 0, none⟩) L.length cap ∧ b ≤ g ∧ w.heap[g]? = some (.cells cur 5 (0, 0)) ∧ (∀ j x, L[j]? = some x → w.cell? ⟨g, j, none⟩ = some (.int .u8 x.toNat)) ∧ L.length ≤ cap := by
  have hc := fun g hg => h.cells (g := g) hg
  rcases h.2 with ⟨e, hn⟩ | ⟨g, cap, cur, e, h1, h2, h3, h4, h5, h6⟩
  · omega
  · subst e
    refine ⟨g, cap, cur, rfl, h1, h2, fun j x hx => ?_, h3⟩
    have := hc g rfl j (.int .u8 x.toNat) (by simp [cells8, hx])
    rwa [add_lit'] at this

def put16 (L : List UInt8) (at' : Nat) (n : Int) : List UInt8 := (L.set at' (by8 (n / 256))).set (at' + 1) (by8 n)
theorem put16_length (L : List UInt8) (at' : Nat) (n : Int) : (put16 L at' n).length = L.length := by simp [put16]

set_option maxHeartbeats 1000000 in
theorem wordAt_any (B at' : Nat) (n : Int) (L : List UInt8) (w : World) (hW : Wr w B L) (hat : at' + 1 < L.length) (hsz : L.length ≤ 1099511627776) (h0 : 0 ≤ n) (h1 : n ≤ 65535) :
    Calls Tryz.prog 38 #[.pointer (some ⟨B, 0, none⟩), .int .i64 at', .int .u16 n] w fun e w' =>
      e = .returned (.tuple #[]) ∧ Wr w' B (put16 L at' n) ∧ Kept B w w' := by
  obtain ⟨v, hv, hown⟩ := hW
  obtain ⟨g, cap, cur, rfl, hg, hrow, hcell, hcap⟩ := own_form hown (by omega)
  have hc := cell_of_one hv
  have c1 : w.cell? ⟨g, at', none⟩ = some (.int .u8 (L[at']'(by omega)).toNat) := hcell at' _ (by simp [show at' < L.length by omega])
  have c2 : w.cell? ⟨g, at' + 1, none⟩ = some (.int .u8 (L[at' + 1]'hat).toNat) := hcell (at' + 1) _ (by simp [hat])
  have f1 := frozen_of_row w g at' cur _ hrow
  have f2 := frozen_of_row w g (at' + 1) cur _ hrow
  have e1 : Value.int .u8 (n / 256 % 256) = .int .u8 (by8 (n / 256)).toNat := by rw [by8_toNat]
  have e2 : Value.int .u8 (n % 256) = .int .u8 (by8 n).toNat := by rw [by8_toNat]
  have o1 := own_put hown at' (by omega) (by8 (n / 256))
  have o2 := own_put (L := L.set at' (by8 (n / 256))) (j := at' + 1) (by simpa using o1) (by simpa using hat) (by8 n)
  rw [← e1, ← e2] at o2
  have e3 : n / 256 % 256 = n / 256 := by omega
  rw [e3] at o2
  have hne : B ≠ g := by omega
  have HW2 : Hid (Wr ((w.setCell ⟨g, at', none⟩ (.int .u8 (n / 256))).setCell ⟨g, at' + 1, none⟩ (.int .u8 (n % 256))) B (put16 L at' n)) := by
    refine hide ⟨.slice (some ⟨g, 0, none⟩) L.length cap, ?_, ?_⟩
    · rw [Below.heap_setCell _ _ _ _ hne, Below.heap_setCell _ _ _ _ hne]; exact hv
    · rw [put16_length]; simpa [put16] using o2
  have HK : Hid (Kept B w ((w.setCell ⟨g, at', none⟩ (.int .u8 (n / 256))).setCell ⟨g, at' + 1, none⟩ (.int .u8 (n % 256)))) := by
    refine hide ⟨((Below.refl B w).setCell (by simp; omega) _).setCell (by simp; omega) _, ?_⟩
    intro k cs t z hk hh ht
    have hkg : k ≠ g := fun e => by subst e; rw [hrow] at hh; simp at hh; exact ht hh.2.1.symm
    rw [Below.heap_setCell _ _ _ _ hkg, Below.heap_setCell _ _ _ _ hkg]; exact hh
  have hl1 : (at' : Int) < (L.length : Int) := by omega
  have hl2 : (at' : Int) + 1 < (L.length : Int) := by omega
  have hq : IntKind.i64.wrap ((at' : Int) + 1) = (at' : Int) + 1 := wrap_i64 _ (by omega) (by omega)
  clear hv hown o1 o2 e1 e2 hrow hcell hcap
  go_enter Tryz.func38, Tryz.ntmps38
  go_wp2
  go_region
  all_goals go_wp2
  all_goals go_end0
  all_goals exact ⟨rfl, unhide HW2, (unhide HK).drew⟩
end Go.Proofs.YtoifihhmneldeaaGreatDoor.Wt

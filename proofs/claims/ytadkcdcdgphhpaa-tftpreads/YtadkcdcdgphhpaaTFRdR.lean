import Derived.Test.YtadkcdcdgphhpaaTFRdS
import Derived.Test.YtadkcdcdgphhpaaTFRh
import Derived.Test.YtadkcdcdgphhpaaRefRead
import Derived.Deep.DeepCutAuto
import Derived.Deep.RegionHeld3
namespace Go.Proofs.Ytadkcdcdgphhpaa.Tf
open Go.ChangeShapes Go.WideShapes Go.ChangeAt Go.RowKit Bs
open Rr (of_any ofL)
set_option linter.unusedVariables false
set_option linter.unusedSimpArgs false

theorem atS_row {w : World} {b : Nat} {v : Value} {L : List (List UInt8)} (h : w.ownsRow b 9 1 v L.length (L.map encStr)) (h0 : 0 < L.length) : ∃ g cp, v = .slice (some ⟨g, 0, none⟩) L.length cp ∧ b ≤ g ∧ L.length ≤ cp ∧ ∀ i x, L[i]? = some x → w.cell? ⟨g, i, none⟩ = some (.string ⟨x.toArray⟩) := by
  have hcl := fun g hg => h.cells (g := g) hg
  rcases h.2 with ⟨e, h0⟩ | ⟨g, cap, cur, e, hbg, _, hcp, _⟩
  · omega
  · exact ⟨g, cap, e, hbg, hcp, fun i x hx => by have q := hcl g (by rw [e]; rfl) i (encStr x) (by rw [List.getElem?_map, hx]; rfl); rwa [Bs.add_lit'] at q⟩
/-- what lies in memory behind the first region: the result's block, empty, and the message's -/
def FrT (w : World) (b : Nat) (cs : Array Value) (u : World) : Prop :=
  w.heap.size < b ∧ b < u.heap.size ∧ u.heap[w.heap.size]? = some (.cells #[.int .u16 0, .int .u16 0, .string ⟨#[]⟩, .string ⟨#[]⟩, .slice none 0 0] 67 (0, 0)) ∧ u.heap[b]? = some (.cells cs 67 (0, 0)) ∧ Below w.heap.size w u
theorem FrT.later {w u u' : World} {b n : Nat} {cs : Array Value} (h : FrT w b cs u) (hb : Below n u u') (hn : u.heap.size ≤ n) : FrT w b cs u' := by
  obtain ⟨h1, h2, h3, h4, h5⟩ := h
  exact ⟨h1, by have := hb.size; omega, by rw [hb.block _ (by omega)]; exact h3, by rw [hb.block _ (by omega)]; exact h4, h5.trans (hb.mono (by omega))⟩
theorem FrT.zero {w u : World} {b : Nat} {cs : Array Value} (h : FrT w b cs u) : u.cell? ⟨w.heap.size, 0, none⟩ = some (.int .u16 0) ∧ u.cell? ⟨w.heap.size, 1, none⟩ = some (.int .u16 0) ∧ u.cell? ⟨w.heap.size, 2, none⟩ = some (.string ⟨#[]⟩) ∧ u.cell? ⟨w.heap.size, 3, none⟩ = some (.string ⟨#[]⟩) ∧ u.cell? ⟨w.heap.size, 4, none⟩ = some (.slice none 0 0) ∧ (∀ j, u.frozen? ⟨w.heap.size, j, none⟩ = false) := by
  obtain ⟨h1, h2, h3, h4, h5⟩ := h
  exact ⟨EtR.row_cell h3 rfl, EtR.row_cell h3 rfl, EtR.row_cell h3 rfl, EtR.row_cell h3 rfl, EtR.row_cell h3 rfl, EtR.row_free h3⟩
theorem FrT.vals {w u : World} {b : Nat} {y0 y1 y2 y3 y4 : Value} (h : FrT w b #[y0, y1, y2, y3, y4] u) : u.cell? ⟨b, 0, none⟩ = some y0 ∧ u.cell? ⟨b, 1, none⟩ = some y1 ∧ u.cell? ⟨b, 2, none⟩ = some y2 ∧ u.cell? ⟨b, 3, none⟩ = some y3 ∧ u.cell? ⟨b, 4, none⟩ = some y4 ∧ (∀ j, u.frozen? ⟨b, j, none⟩ = false) := by
  obtain ⟨h1, h2, h3, h4, h5⟩ := h
  exact ⟨EtR.row_cell h4 rfl, EtR.row_cell h4 rfl, EtR.row_cell h4 rfl, EtR.row_cell h4 rfl, EtR.row_cell h4 rfl, EtR.row_free h4⟩
theorem FrT.set {w u : World} {b : Nat} {cs : Array Value} (h : FrT w b cs u) (j : Nat) (v : Value) : FrT w b (cs.setIfInBounds j v) (u.setCell ⟨b, j, none⟩ v) := by
  obtain ⟨h1, h2, h3, h4, h5⟩ := h
  refine ⟨h1, by simp [World.setCell]; exact h2, ?_, EtR.row_set h4 j v, h5.setCell (by show w.heap.size ≤ b; omega) _⟩
  rw [Below.heap_setCell _ _ _ _ (by show w.heap.size ≠ b; omega)]; exact h3
/-- the result's block is written -/
theorem FrT.put {w u : World} {b : Nat} {cs : Array Value} (h : FrT w b cs u) (y0 y1 y2 y3 y4 : Value) : ∃ U, U = (((((u.setCell ⟨w.heap.size, 0, none⟩ y0).setCell ⟨w.heap.size, 1, none⟩ y1).setCell ⟨w.heap.size, 2, none⟩ y2).setCell ⟨w.heap.size, 3, none⟩ y3).setCell ⟨w.heap.size, 4, none⟩ y4) ∧ U.cell? ⟨w.heap.size, 0, none⟩ = some y0 ∧ U.cell? ⟨w.heap.size, 1, none⟩ = some y1 ∧ U.cell? ⟨w.heap.size, 2, none⟩ = some y2 ∧ U.cell? ⟨w.heap.size, 3, none⟩ = some y3 ∧ U.cell? ⟨w.heap.size, 4, none⟩ = some y4 ∧ Below w.heap.size w U ∧ ∀ p : Addr, p.block ≠ w.heap.size → U.cell? p = u.cell? p := by
  obtain ⟨h1, h2, h3, h4, h5⟩ := h
  have q := TfR.row_set5 (t := 67) (g := w.heap.size) (w := u) (.int .u16 0) (.int .u16 0) (.string ⟨#[]⟩) (.string ⟨#[]⟩) (.slice none 0 0) y0 y1 y2 y3 y4 h3
  refine ⟨_, rfl, EtR.row_cell q rfl, EtR.row_cell q rfl, EtR.row_cell q rfl, EtR.row_cell q rfl, EtR.row_cell q rfl, ?_, ?_⟩
  · iterate 5 refine Below.setCell ?_ (by simp) _
    exact h5
  · intro p hp
    unfold World.cell?
    iterate 5 rw [Below.heap_setCell _ _ _ _ (by exact hp)]
theorem AtF.put {u U : World} {base : Nat} {v : Value} {fs : Flds} {n : Nat} (h : u.ownsRow base 89 2 v fs.length (cellsF fs)) (hn : n < base) (hc : ∀ p : Addr, p.block ≠ n → U.cell? p = u.cell? p) : ∃ a cp, v = .slice a fs.length cp ∧ AtF U a fs := by
  rcases h.2 with ⟨e, h0⟩ | ⟨g, cap, cur, e, _⟩
  · exact ⟨none, 0, by rw [e, h0], fun i hi => by omega⟩
  · have hg := (h.lt g (by rw [e]; rfl)).1
    have hcl := h.cells (g := g) (by rw [e]; rfl)
    refine ⟨some ⟨g, 0, none⟩, cap, e, AtF.ofCells (fun j u hj => ?_)⟩
    rw [hc _ (by rw [Bs.add_lit']; show g ≠ n; omega)]
    exact hcl j u hj
/-- what the reference answers -/
def Bad (k : Int) (w : World) (ee : Ending) (w' : World) : Prop := ee = .returned (.tuple #[.agg #[.int .u16 0, .int .u16 0, .string ⟨#[]⟩, .string ⟨#[]⟩, .slice none 0 0], .int .i64 k]) ∧ Below w.heap.size w w'
def Good (o bl : Int) (ts ds : ByteArray) (fs : Flds) (w : World) (ee : Ending) (w' : World) : Prop :=
  Below w.heap.size w w' ∧ ∃ ga gc, ee = .returned (.tuple #[.agg #[.int .u16 o, .int .u16 bl, .string ts, .string ds, .slice ga fs.length gc], .int .i64 0]) ∧ AtF w' ga fs
def Fin (fo : Option Flds) (o : Int) (ts : ByteArray) (w : World) (ee : Ending) (w' : World) : Prop := match fo with
  | none => Bad 2 w ee w'
  | some fs => Good o 0 ts ⟨#[]⟩ fs w ee w'

theorem ref_short (s : ByteArray) (w : World) (hs : s.size < 2) :
    Calls Try.prog 39 #[.string s] w fun ee w' => Bad 1 w ee w' := by
  go_enter Try.func39, Try.ntmps39
  go_wp2
  exact bodyPost_ret (v := .tuple #[.agg #[.int .u16 0, .int .u16 0, .string ⟨#[]⟩, .string ⟨#[]⟩, .slice none 0 0], .int .i64 1]) (by simp [results, Try.results39, go_sem]) rfl ⟨rfl, (Below.refl _ _).alloc (Nat.le_refl _) _⟩
set_option maxHeartbeats 4000000 in
set_option maxRecDepth 10000 in
theorem ref_no (s : ByteArray) (w : World) (x : Int) (hs : 2 ≤ s.size) (hm : s.size ≤ 16384) (hw : IntKind.u16.wrap x = x) (h1 : (x == 1) = false) (h3 : (x == 3) = false) (h4 : (x == 4) = false) (h5 : (x == 5) = false) (h6 : (x == 6) = false) (hO : ∀ u : World, Calls Try.prog 45 #[.string (s.extract 0 2)] u fun ee w' => ee = .returned (.int .i64 x) ∧ w' = u) :
    Calls Try.prog 39 #[.string s] w fun ee w' => Bad 2 w ee w' := by
  have HO := hide hO
  clear hO
  have hlt2 : ¬ (s.size : Int) < 2 := by omega
  have h2le : (2 : Int) ≤ (s.size : Int) := by omega
  have hmx : (s.size : Int) ≤ 9223372036854775807 := by omega
  go_enter Try.func39, Try.ntmps39
  go_wp2_with fail
  refine (unhide HO _).mono ?_
  rintro ee u2 ⟨rfl, hu⟩
  rw [hu]
  clear hu u2
  obtain ⟨wc, hwc⟩ : ∃ wc, wc = (w.alloc (.cells #[.int .u16 0, .int .u16 0, .string ⟨#[]⟩, .string ⟨#[]⟩, .slice none 0 0] 67)).alloc (.cells #[.int .u16 x, .int .u16 0, .string ⟨#[]⟩, .string ⟨#[]⟩, .slice none 0 0] 67) := ⟨_, rfl⟩
  have HF : Hid (FrT w (w.heap.size + 1) #[.int .u16 x, .int .u16 0, .string ⟨#[]⟩, .string ⟨#[]⟩, .slice none 0 0] wc) := hide (by
    rw [hwc]
    refine ⟨by omega, by simp, ?_, ?_, ?_⟩
    · rw [Below.heap_alloc _ _ _ (by simp)]; exact heap_alloc_new w _
    · have q := heap_alloc_new (w.alloc (.cells #[.int .u16 0, .int .u16 0, .string ⟨#[]⟩, .string ⟨#[]⟩, .slice none 0 0] 67)) (.cells #[.int .u16 x, .int .u16 0, .string ⟨#[]⟩, .string ⟨#[]⟩, .slice none 0 0] 67)
      rw [show (w.alloc (.cells #[.int .u16 0, .int .u16 0, .string ⟨#[]⟩, .string ⟨#[]⟩, .slice none 0 0] 67)).heap.size = w.heap.size + 1 by simp] at q
      exact q
    · exact ((Below.refl _ w).alloc (Nat.le_refl _) _).alloc (by simp) _)
  have HWC := hide hwc
  have hnb : ¬ w.heap.size = w.heap.size + 1 := by omega
  have hnb2 : ¬ w.heap.size + 1 = w.heap.size := by omega
  clear hwc HO
  go_wp2_with fail
  exact bodyPost_ret (v := .tuple #[.agg #[.int .u16 0, .int .u16 0, .string ⟨#[]⟩, .string ⟨#[]⟩, .slice none 0 0], .int .i64 2]) (by simp [results, Try.results39, go_sem]) rfl ⟨rfl, ((Below.refl _ _).alloc (Nat.le_refl _) _).alloc (by simp) _⟩
set_option maxHeartbeats 4000000 in
set_option maxRecDepth 10000 in
theorem ref_6 (s : ByteArray) (w : World) (L : List (List UInt8)) (hs : 2 ≤ s.size) (hm : s.size ≤ 16384) (hO : ∀ u : World, Calls Try.prog 45 #[.string (s.extract 0 2)] u fun ee w' => ee = .returned (.int .i64 6) ∧ w' = u) (hLl : L.length ≤ 1048576) (hLb : ∀ x ∈ L, x.length ≤ 1048576) (hLN : ∀ u : World, Calls Try.prog 65 #[.string (s.extract 2 s.size)] u fun ee w' => ∃ v, ee = .returned (.tuple #[v, .bool true]) ∧ w'.ownsRow u.heap.size 9 1 v L.length (L.map encStr) ∧ Below u.heap.size u w') :
    Calls Try.prog 39 #[.string s] w fun ee w' => Fin (fldsS L) 6 ⟨#[]⟩ w ee w' := by
  have HO := hide hO
  clear hO
  have hlt2 : ¬ (s.size : Int) < 2 := by omega
  have h2le : (2 : Int) ≤ (s.size : Int) := by omega
  have hmx : (s.size : Int) ≤ 9223372036854775807 := by omega
  have HLN := hide hLN
  have HLB := hide hLb
  clear hLN hLb
  go_enter Try.func39, Try.ntmps39
  go_wp2_with fail
  refine (unhide HO _).mono ?_
  rintro ee u2 ⟨rfl, hu⟩
  rw [hu]
  clear hu u2
  obtain ⟨wc, hwc⟩ : ∃ wc, wc = (w.alloc (.cells #[.int .u16 0, .int .u16 0, .string ⟨#[]⟩, .string ⟨#[]⟩, .slice none 0 0] 67)).alloc (.cells #[.int .u16 6, .int .u16 0, .string ⟨#[]⟩, .string ⟨#[]⟩, .slice none 0 0] 67) := ⟨_, rfl⟩
  have HF : Hid (FrT w (w.heap.size + 1) #[.int .u16 6, .int .u16 0, .string ⟨#[]⟩, .string ⟨#[]⟩, .slice none 0 0] wc) := hide (by
    rw [hwc]
    refine ⟨by omega, by simp, ?_, ?_, ?_⟩
    · rw [Below.heap_alloc _ _ _ (by simp)]; exact heap_alloc_new w _
    · have q := heap_alloc_new (w.alloc (.cells #[.int .u16 0, .int .u16 0, .string ⟨#[]⟩, .string ⟨#[]⟩, .slice none 0 0] 67)) (.cells #[.int .u16 6, .int .u16 0, .string ⟨#[]⟩, .string ⟨#[]⟩, .slice none 0 0] 67)
      rw [show (w.alloc (.cells #[.int .u16 0, .int .u16 0, .string ⟨#[]⟩, .string ⟨#[]⟩, .slice none 0 0] 67)).heap.size = w.heap.size + 1 by simp] at q
      exact q
    · exact ((Below.refl _ w).alloc (Nat.le_refl _) _).alloc (by simp) _)
  have HWC := hide hwc
  have hnb : ¬ w.heap.size = w.heap.size + 1 := by omega
  have hnb2 : ¬ w.heap.size + 1 = w.heap.size := by omega
  clear hwc HO
  go_wp2_with fail
  rw [← unhide HWC]
  clear HWC
  refine (unhide HLN _).mono ?_
  rintro ee w1 ⟨v, rfl, hown, hb1⟩
  obtain ⟨la, lc, rfl, hAS⟩ := atS_own hown
  have HF1 := hide ((unhide HF).later hb1 (Nat.le_refl _))
  have HAS := hide hAS
  clear hown hb1 HLN HF hAS
  obtain ⟨c0, c1, c2, c3, c4, cf⟩ := (unhide HF1).vals
  go_wp2_with fail
  refine (fieldsS_any _ _ L _ ?ast hLl (unhide HLB)).mono ?_
  case ast => exact unhide HAS
  rintro ee w3 ⟨hb3, h3⟩
  have hz3 := (unhide HF1).2.1
  have HF3 := hide ((unhide HF1).later hb3 (Nat.le_refl _))
  clear HF1 c0 c1 c2 c3 c4 cf hb3
  obtain ⟨c0, c1, c2, c3, c4, cf⟩ := (unhide HF3).vals
  cases hf : fldsS L with
  | none =>
    rw [hf] at h3
    simp only at h3
    subst h3
    have HFF := hide hf
    clear hf
    have HF4 := hide ((unhide HF3).set 4 (.slice none 0 0))
    obtain ⟨z0, z1, z2, z3, z4, zf⟩ := (unhide HF4).zero
    obtain ⟨U, hU, u0, u1, u2, u3, u4, hUB, _⟩ := (unhide HF4).put (.int .u16 0) (.int .u16 0) (.string ⟨#[]⟩) (.string ⟨#[]⟩) (.slice none 0 0)
    have HUB := hide hUB
    clear hUB
    go_wp2
    rw [← hU]
    refine bodyPost_ret (v := .tuple #[.agg #[.int .u16 0, .int .u16 0, .string ⟨#[]⟩, .string ⟨#[]⟩, .slice none 0 0], .int .i64 2]) (by simp [results, Try.results39, go_sem, u0, u1, u2, u3, u4]) rfl ?_
    unfold Fin; rw [unhide HFF]; exact ⟨rfl, unhide HUB⟩
  | some fs =>
    rw [hf] at h3
    obtain ⟨v, rfl, hown3⟩ := h3
    have HFF := hide hf
    clear hf
    obtain ⟨fa, fc, rfl, _⟩ := atF_own hown3
    have HOW := hide hown3
    clear hown3
    have HF4 := hide ((unhide HF3).set 4 (.slice fa fs.length fc))
    obtain ⟨z0, z1, z2, z3, z4, zf⟩ := (unhide HF4).zero
    obtain ⟨c0, c1, c2, c3, c4, cf⟩ := (unhide HF4).vals
    obtain ⟨U, hU, u0, u1, u2, u3, u4, hUB, hUC⟩ := (unhide HF4).put (.int .u16 6) (.int .u16 0) (.string ⟨#[]⟩) (.string ⟨#[]⟩) (.slice fa fs.length fc)
    have HUB := hide hUB
    have HUC := hide hUC
    clear hUB hUC
    go_wp2
    rw [← hU]
    refine bodyPost_ret (v := .tuple #[.agg #[.int .u16 6, .int .u16 0, .string ⟨#[]⟩, .string ⟨#[]⟩, .slice fa fs.length fc], .int .i64 0]) (by simp [results, Try.results39, go_sem, u0, u1, u2, u3, u4]) rfl ?_
    obtain ⟨a', c', e', h'⟩ := AtF.put (own_kept (unhide HOW) (gset _ ⟨w.heap.size + 1, 4, none⟩ _) (by show w.heap.size + 1 < _; omega)) (n := w.heap.size) (by omega) (unhide HUC)
    injection e' with e1 e2 e3
    subst e1
    unfold Fin; rw [unhide HFF]; exact ⟨unhide HUB, _, _, rfl, h'⟩
set_option maxHeartbeats 4000000 in
set_option maxRecDepth 10000 in
theorem ref_1e (s : ByteArray) (w : World) (L : List (List UInt8)) (hs : 2 ≤ s.size) (hm : s.size ≤ 16384) (hO : ∀ u : World, Calls Try.prog 45 #[.string (s.extract 0 2)] u fun ee w' => ee = .returned (.int .i64 1) ∧ w' = u) (hLN : ∀ u : World, Calls Try.prog 65 #[.string (s.extract 2 s.size)] u fun ee w' => ∃ v, ee = .returned (.tuple #[v, .bool false]) ∧ w'.ownsRow u.heap.size 9 1 v L.length (L.map encStr) ∧ Below u.heap.size u w') :
    Calls Try.prog 39 #[.string s] w fun ee w' => Bad 2 w ee w' := by
  have HO := hide hO
  clear hO
  have hlt2 : ¬ (s.size : Int) < 2 := by omega
  have h2le : (2 : Int) ≤ (s.size : Int) := by omega
  have hmx : (s.size : Int) ≤ 9223372036854775807 := by omega
  have HLN := hide hLN
  clear hLN
  go_enter Try.func39, Try.ntmps39
  go_wp2_with fail
  refine (unhide HO _).mono ?_
  rintro ee u2 ⟨rfl, hu⟩
  rw [hu]
  clear hu u2
  obtain ⟨wc, hwc⟩ : ∃ wc, wc = (w.alloc (.cells #[.int .u16 0, .int .u16 0, .string ⟨#[]⟩, .string ⟨#[]⟩, .slice none 0 0] 67)).alloc (.cells #[.int .u16 1, .int .u16 0, .string ⟨#[]⟩, .string ⟨#[]⟩, .slice none 0 0] 67) := ⟨_, rfl⟩
  have HF : Hid (FrT w (w.heap.size + 1) #[.int .u16 1, .int .u16 0, .string ⟨#[]⟩, .string ⟨#[]⟩, .slice none 0 0] wc) := hide (by
    rw [hwc]
    refine ⟨by omega, by simp, ?_, ?_, ?_⟩
    · rw [Below.heap_alloc _ _ _ (by simp)]; exact heap_alloc_new w _
    · have q := heap_alloc_new (w.alloc (.cells #[.int .u16 0, .int .u16 0, .string ⟨#[]⟩, .string ⟨#[]⟩, .slice none 0 0] 67)) (.cells #[.int .u16 1, .int .u16 0, .string ⟨#[]⟩, .string ⟨#[]⟩, .slice none 0 0] 67)
      rw [show (w.alloc (.cells #[.int .u16 0, .int .u16 0, .string ⟨#[]⟩, .string ⟨#[]⟩, .slice none 0 0] 67)).heap.size = w.heap.size + 1 by simp] at q
      exact q
    · exact ((Below.refl _ w).alloc (Nat.le_refl _) _).alloc (by simp) _)
  have HWC := hide hwc
  have hnb : ¬ w.heap.size = w.heap.size + 1 := by omega
  have hnb2 : ¬ w.heap.size + 1 = w.heap.size := by omega
  clear hwc HO
  go_wp2_with fail
  rw [← unhide HWC]
  clear HWC
  refine (unhide HLN _).mono ?_
  rintro ee w1 ⟨v, rfl, hown, hb1⟩
  obtain ⟨la, lc, rfl, hAS⟩ := atS_own hown
  have HF1 := hide ((unhide HF).later hb1 (Nat.le_refl _))
  have HAS := hide hAS
  clear hown hb1 HLN HF hAS
  obtain ⟨c0, c1, c2, c3, c4, cf⟩ := (unhide HF1).vals
  obtain ⟨z0, z1, z2, z3, z4, zf⟩ := (unhide HF1).zero
  obtain ⟨U, hU, u0, u1, u2, u3, u4, hUB, _⟩ := (unhide HF1).put (.int .u16 0) (.int .u16 0) (.string ⟨#[]⟩) (.string ⟨#[]⟩) (.slice none 0 0)
  have HUB := hide hUB
  clear hUB
  go_wp2
  rw [← hU]
  refine bodyPost_ret (v := .tuple #[.agg #[.int .u16 0, .int .u16 0, .string ⟨#[]⟩, .string ⟨#[]⟩, .slice none 0 0], .int .i64 2]) (by simp [results, Try.results39, go_sem, u0, u1, u2, u3, u4]) rfl ?_
  exact ⟨rfl, unhide HUB⟩
set_option maxHeartbeats 4000000 in
set_option maxRecDepth 10000 in
theorem ref_6e (s : ByteArray) (w : World) (L : List (List UInt8)) (hs : 2 ≤ s.size) (hm : s.size ≤ 16384) (hO : ∀ u : World, Calls Try.prog 45 #[.string (s.extract 0 2)] u fun ee w' => ee = .returned (.int .i64 6) ∧ w' = u) (hLN : ∀ u : World, Calls Try.prog 65 #[.string (s.extract 2 s.size)] u fun ee w' => ∃ v, ee = .returned (.tuple #[v, .bool false]) ∧ w'.ownsRow u.heap.size 9 1 v L.length (L.map encStr) ∧ Below u.heap.size u w') :
    Calls Try.prog 39 #[.string s] w fun ee w' => Bad 2 w ee w' := by
  have HO := hide hO
  clear hO
  have hlt2 : ¬ (s.size : Int) < 2 := by omega
  have h2le : (2 : Int) ≤ (s.size : Int) := by omega
  have hmx : (s.size : Int) ≤ 9223372036854775807 := by omega
  have HLN := hide hLN
  clear hLN
  go_enter Try.func39, Try.ntmps39
  go_wp2_with fail
  refine (unhide HO _).mono ?_
  rintro ee u2 ⟨rfl, hu⟩
  rw [hu]
  clear hu u2
  obtain ⟨wc, hwc⟩ : ∃ wc, wc = (w.alloc (.cells #[.int .u16 0, .int .u16 0, .string ⟨#[]⟩, .string ⟨#[]⟩, .slice none 0 0] 67)).alloc (.cells #[.int .u16 6, .int .u16 0, .string ⟨#[]⟩, .string ⟨#[]⟩, .slice none 0 0] 67) := ⟨_, rfl⟩
  have HF : Hid (FrT w (w.heap.size + 1) #[.int .u16 6, .int .u16 0, .string ⟨#[]⟩, .string ⟨#[]⟩, .slice none 0 0] wc) := hide (by
    rw [hwc]
    refine ⟨by omega, by simp, ?_, ?_, ?_⟩
    · rw [Below.heap_alloc _ _ _ (by simp)]; exact heap_alloc_new w _
    · have q := heap_alloc_new (w.alloc (.cells #[.int .u16 0, .int .u16 0, .string ⟨#[]⟩, .string ⟨#[]⟩, .slice none 0 0] 67)) (.cells #[.int .u16 6, .int .u16 0, .string ⟨#[]⟩, .string ⟨#[]⟩, .slice none 0 0] 67)
      rw [show (w.alloc (.cells #[.int .u16 0, .int .u16 0, .string ⟨#[]⟩, .string ⟨#[]⟩, .slice none 0 0] 67)).heap.size = w.heap.size + 1 by simp] at q
      exact q
    · exact ((Below.refl _ w).alloc (Nat.le_refl _) _).alloc (by simp) _)
  have HWC := hide hwc
  have hnb : ¬ w.heap.size = w.heap.size + 1 := by omega
  have hnb2 : ¬ w.heap.size + 1 = w.heap.size := by omega
  clear hwc HO
  go_wp2_with fail
  rw [← unhide HWC]
  clear HWC
  refine (unhide HLN _).mono ?_
  rintro ee w1 ⟨v, rfl, hown, hb1⟩
  obtain ⟨la, lc, rfl, hAS⟩ := atS_own hown
  have HF1 := hide ((unhide HF).later hb1 (Nat.le_refl _))
  have HAS := hide hAS
  clear hown hb1 HLN HF hAS
  obtain ⟨c0, c1, c2, c3, c4, cf⟩ := (unhide HF1).vals
  obtain ⟨z0, z1, z2, z3, z4, zf⟩ := (unhide HF1).zero
  obtain ⟨U, hU, u0, u1, u2, u3, u4, hUB, _⟩ := (unhide HF1).put (.int .u16 0) (.int .u16 0) (.string ⟨#[]⟩) (.string ⟨#[]⟩) (.slice none 0 0)
  have HUB := hide hUB
  clear hUB
  go_wp2
  rw [← hU]
  refine bodyPost_ret (v := .tuple #[.agg #[.int .u16 0, .int .u16 0, .string ⟨#[]⟩, .string ⟨#[]⟩, .slice none 0 0], .int .i64 2]) (by simp [results, Try.results39, go_sem, u0, u1, u2, u3, u4]) rfl ?_
  exact ⟨rfl, unhide HUB⟩
set_option maxHeartbeats 4000000 in
set_option maxRecDepth 10000 in
theorem ref_1s (s : ByteArray) (w : World) (L : List (List UInt8)) (hs : 2 ≤ s.size) (hm : s.size ≤ 16384) (hO : ∀ u : World, Calls Try.prog 45 #[.string (s.extract 0 2)] u fun ee w' => ee = .returned (.int .i64 1) ∧ w' = u) (hLN : ∀ u : World, Calls Try.prog 65 #[.string (s.extract 2 s.size)] u fun ee w' => ∃ v, ee = .returned (.tuple #[v, .bool true]) ∧ w'.ownsRow u.heap.size 9 1 v L.length (L.map encStr) ∧ Below u.heap.size u w') (hl2 : L.length < 2) :
    Calls Try.prog 39 #[.string s] w fun ee w' => Bad 2 w ee w' := by
  have HO := hide hO
  clear hO
  have hlt2 : ¬ (s.size : Int) < 2 := by omega
  have h2le : (2 : Int) ≤ (s.size : Int) := by omega
  have hmx : (s.size : Int) ≤ 9223372036854775807 := by omega
  have HLN := hide hLN
  clear hLN
  have hl2' : ¬ (2 : Int) ≤ (L.length : Int) := by omega
  go_enter Try.func39, Try.ntmps39
  go_wp2_with fail
  refine (unhide HO _).mono ?_
  rintro ee u2 ⟨rfl, hu⟩
  rw [hu]
  clear hu u2
  obtain ⟨wc, hwc⟩ : ∃ wc, wc = (w.alloc (.cells #[.int .u16 0, .int .u16 0, .string ⟨#[]⟩, .string ⟨#[]⟩, .slice none 0 0] 67)).alloc (.cells #[.int .u16 1, .int .u16 0, .string ⟨#[]⟩, .string ⟨#[]⟩, .slice none 0 0] 67) := ⟨_, rfl⟩
  have HF : Hid (FrT w (w.heap.size + 1) #[.int .u16 1, .int .u16 0, .string ⟨#[]⟩, .string ⟨#[]⟩, .slice none 0 0] wc) := hide (by
    rw [hwc]
    refine ⟨by omega, by simp, ?_, ?_, ?_⟩
    · rw [Below.heap_alloc _ _ _ (by simp)]; exact heap_alloc_new w _
    · have q := heap_alloc_new (w.alloc (.cells #[.int .u16 0, .int .u16 0, .string ⟨#[]⟩, .string ⟨#[]⟩, .slice none 0 0] 67)) (.cells #[.int .u16 1, .int .u16 0, .string ⟨#[]⟩, .string ⟨#[]⟩, .slice none 0 0] 67)
      rw [show (w.alloc (.cells #[.int .u16 0, .int .u16 0, .string ⟨#[]⟩, .string ⟨#[]⟩, .slice none 0 0] 67)).heap.size = w.heap.size + 1 by simp] at q
      exact q
    · exact ((Below.refl _ w).alloc (Nat.le_refl _) _).alloc (by simp) _)
  have HWC := hide hwc
  have hnb : ¬ w.heap.size = w.heap.size + 1 := by omega
  have hnb2 : ¬ w.heap.size + 1 = w.heap.size := by omega
  clear hwc HO
  go_wp2_with fail
  rw [← unhide HWC]
  clear HWC
  refine (unhide HLN _).mono ?_
  rintro ee w1 ⟨v, rfl, hown, hb1⟩
  obtain ⟨la, lc, rfl, hAS⟩ := atS_own hown
  have HF1 := hide ((unhide HF).later hb1 (Nat.le_refl _))
  have HAS := hide hAS
  clear hown hb1 HLN HF hAS
  obtain ⟨c0, c1, c2, c3, c4, cf⟩ := (unhide HF1).vals
  obtain ⟨z0, z1, z2, z3, z4, zf⟩ := (unhide HF1).zero
  obtain ⟨U, hU, u0, u1, u2, u3, u4, hUB, _⟩ := (unhide HF1).put (.int .u16 0) (.int .u16 0) (.string ⟨#[]⟩) (.string ⟨#[]⟩) (.slice none 0 0)
  have HUB := hide hUB
  clear hUB
  go_wp2
  rw [← hU]
  refine bodyPost_ret (v := .tuple #[.agg #[.int .u16 0, .int .u16 0, .string ⟨#[]⟩, .string ⟨#[]⟩, .slice none 0 0], .int .i64 2]) (by simp [results, Try.results39, go_sem, u0, u1, u2, u3, u4]) rfl ?_
  exact ⟨rfl, unhide HUB⟩
set_option maxHeartbeats 4000000 in
set_option maxRecDepth 10000 in
theorem ref_1w (s : ByteArray) (w : World) (L : List (List UInt8)) (hs : 2 ≤ s.size) (hm : s.size ≤ 16384) (hO : ∀ u : World, Calls Try.prog 45 #[.string (s.extract 0 2)] u fun ee w' => ee = .returned (.int .i64 1) ∧ w' = u) (hLN : ∀ u : World, Calls Try.prog 65 #[.string (s.extract 2 s.size)] u fun ee w' => ∃ v, ee = .returned (.tuple #[v, .bool true]) ∧ w'.ownsRow u.heap.size 9 1 v L.length (L.map encStr) ∧ Below u.heap.size u w') (n : List UInt8) (hl2 : 2 ≤ L.length) (hn0 : L[0]? = some n) (hnl : n.length ≤ 1048576) (hw : nameB n = false) :
    Calls Try.prog 39 #[.string s] w fun ee w' => Bad 2 w ee w' := by
  have HO := hide hO
  clear hO
  have hlt2 : ¬ (s.size : Int) < 2 := by omega
  have h2le : (2 : Int) ≤ (s.size : Int) := by omega
  have hmx : (s.size : Int) ≤ 9223372036854775807 := by omega
  have HLN := hide hLN
  clear hLN
  have hl2' : (2 : Int) ≤ (L.length : Int) := by omega
  go_enter Try.func39, Try.ntmps39
  go_wp2_with fail
  refine (unhide HO _).mono ?_
  rintro ee u2 ⟨rfl, hu⟩
  rw [hu]
  clear hu u2
  obtain ⟨wc, hwc⟩ : ∃ wc, wc = (w.alloc (.cells #[.int .u16 0, .int .u16 0, .string ⟨#[]⟩, .string ⟨#[]⟩, .slice none 0 0] 67)).alloc (.cells #[.int .u16 1, .int .u16 0, .string ⟨#[]⟩, .string ⟨#[]⟩, .slice none 0 0] 67) := ⟨_, rfl⟩
  have HF : Hid (FrT w (w.heap.size + 1) #[.int .u16 1, .int .u16 0, .string ⟨#[]⟩, .string ⟨#[]⟩, .slice none 0 0] wc) := hide (by
    rw [hwc]
    refine ⟨by omega, by simp, ?_, ?_, ?_⟩
    · rw [Below.heap_alloc _ _ _ (by simp)]; exact heap_alloc_new w _
    · have q := heap_alloc_new (w.alloc (.cells #[.int .u16 0, .int .u16 0, .string ⟨#[]⟩, .string ⟨#[]⟩, .slice none 0 0] 67)) (.cells #[.int .u16 1, .int .u16 0, .string ⟨#[]⟩, .string ⟨#[]⟩, .slice none 0 0] 67)
      rw [show (w.alloc (.cells #[.int .u16 0, .int .u16 0, .string ⟨#[]⟩, .string ⟨#[]⟩, .slice none 0 0] 67)).heap.size = w.heap.size + 1 by simp] at q
      exact q
    · exact ((Below.refl _ w).alloc (Nat.le_refl _) _).alloc (by simp) _)
  have HWC := hide hwc
  have hnb : ¬ w.heap.size = w.heap.size + 1 := by omega
  have hnb2 : ¬ w.heap.size + 1 = w.heap.size := by omega
  clear hwc HO
  go_wp2_with fail
  rw [← unhide HWC]
  clear HWC
  refine (unhide HLN _).mono ?_
  rintro ee w1 ⟨v, rfl, hown, hb1⟩
  obtain ⟨g, lc, rfl, hgb, hcp, hAS⟩ := atS_row hown (by omega)
  have hgw : w.heap.size + 1 < g := by have := (unhide HF).2.1; omega
  clear hgb
  have HF1 := hide ((unhide HF).later hb1 (Nat.le_refl _))
  clear hb1 HLN HF
  obtain ⟨c0, c1, c2, c3, c4, cf⟩ := (unhide HF1).vals

  have x0 := hAS 0 n hn0
  have HWD := hide (fun u => word_any ⟨n.toArray⟩ n u rfl (by omega))
  rw [hw] at HWD
  clear hAS hown
  go_wp2_with fail
  refine (unhide HWD _).mono ?_
  rintro ee w2 ⟨rfl, rfl⟩
  obtain ⟨z0, z1, z2, z3, z4, zf⟩ := (unhide HF1).zero
  obtain ⟨U, hU, u0, u1, u2, u3, u4, hUB, _⟩ := (unhide HF1).put (.int .u16 0) (.int .u16 0) (.string ⟨#[]⟩) (.string ⟨#[]⟩) (.slice none 0 0)
  have HUB := hide hUB
  clear hUB
  go_wp2
  rw [← hU]
  refine bodyPost_ret (v := .tuple #[.agg #[.int .u16 0, .int .u16 0, .string ⟨#[]⟩, .string ⟨#[]⟩, .slice none 0 0], .int .i64 2]) (by simp [results, Try.results39, go_sem, u0, u1, u2, u3, u4]) rfl ?_
  exact ⟨rfl, unhide HUB⟩
set_option maxHeartbeats 4000000 in
set_option maxRecDepth 10000 in
theorem ref_1m (s : ByteArray) (w : World) (L : List (List UInt8)) (hs : 2 ≤ s.size) (hm : s.size ≤ 16384) (hO : ∀ u : World, Calls Try.prog 45 #[.string (s.extract 0 2)] u fun ee w' => ee = .returned (.int .i64 1) ∧ w' = u) (hLN : ∀ u : World, Calls Try.prog 65 #[.string (s.extract 2 s.size)] u fun ee w' => ∃ v, ee = .returned (.tuple #[v, .bool true]) ∧ w'.ownsRow u.heap.size 9 1 v L.length (L.map encStr) ∧ Below u.heap.size u w') (n m : List UInt8) (hl2 : 2 ≤ L.length) (hn0 : L[0]? = some n) (hm0 : L[1]? = some m) (hnl : n.length ≤ 1048576) (hml : m.length ≤ 1048576) (hw : nameB n = true) (hoc : (lowL m == octet) = false) :
    Calls Try.prog 39 #[.string s] w fun ee w' => Bad 2 w ee w' := by
  have HO := hide hO
  clear hO
  have hlt2 : ¬ (s.size : Int) < 2 := by omega
  have h2le : (2 : Int) ≤ (s.size : Int) := by omega
  have hmx : (s.size : Int) ≤ 9223372036854775807 := by omega
  have HLN := hide hLN
  clear hLN
  have hl2' : (2 : Int) ≤ (L.length : Int) := by omega
  go_enter Try.func39, Try.ntmps39
  go_wp2_with fail
  refine (unhide HO _).mono ?_
  rintro ee u2 ⟨rfl, hu⟩
  rw [hu]
  clear hu u2
  obtain ⟨wc, hwc⟩ : ∃ wc, wc = (w.alloc (.cells #[.int .u16 0, .int .u16 0, .string ⟨#[]⟩, .string ⟨#[]⟩, .slice none 0 0] 67)).alloc (.cells #[.int .u16 1, .int .u16 0, .string ⟨#[]⟩, .string ⟨#[]⟩, .slice none 0 0] 67) := ⟨_, rfl⟩
  have HF : Hid (FrT w (w.heap.size + 1) #[.int .u16 1, .int .u16 0, .string ⟨#[]⟩, .string ⟨#[]⟩, .slice none 0 0] wc) := hide (by
    rw [hwc]
    refine ⟨by omega, by simp, ?_, ?_, ?_⟩
    · rw [Below.heap_alloc _ _ _ (by simp)]; exact heap_alloc_new w _
    · have q := heap_alloc_new (w.alloc (.cells #[.int .u16 0, .int .u16 0, .string ⟨#[]⟩, .string ⟨#[]⟩, .slice none 0 0] 67)) (.cells #[.int .u16 1, .int .u16 0, .string ⟨#[]⟩, .string ⟨#[]⟩, .slice none 0 0] 67)
      rw [show (w.alloc (.cells #[.int .u16 0, .int .u16 0, .string ⟨#[]⟩, .string ⟨#[]⟩, .slice none 0 0] 67)).heap.size = w.heap.size + 1 by simp] at q
      exact q
    · exact ((Below.refl _ w).alloc (Nat.le_refl _) _).alloc (by simp) _)
  have HWC := hide hwc
  have hnb : ¬ w.heap.size = w.heap.size + 1 := by omega
  have hnb2 : ¬ w.heap.size + 1 = w.heap.size := by omega
  clear hwc HO
  go_wp2_with fail
  rw [← unhide HWC]
  clear HWC
  refine (unhide HLN _).mono ?_
  rintro ee w1 ⟨v, rfl, hown, hb1⟩
  obtain ⟨g, lc, rfl, hgb, hcp, hAS⟩ := atS_row hown (by omega)
  have hgw : w.heap.size + 1 < g := by have := (unhide HF).2.1; omega
  clear hgb
  have HF1 := hide ((unhide HF).later hb1 (Nat.le_refl _))
  clear hb1 HLN HF
  obtain ⟨c0, c1, c2, c3, c4, cf⟩ := (unhide HF1).vals

  have x0 := hAS 0 n hn0
  have x1 := hAS 1 m hm0
  have HWD := hide (fun u => word_any ⟨n.toArray⟩ n u rfl (by omega))
  rw [hw] at HWD
  have HLW := hide (fun u => low_any ⟨m.toArray⟩ m u rfl (by omega))
  clear hAS hown
  go_wp2_with fail
  refine (unhide HWD _).mono ?_
  rintro ee w2 ⟨rfl, rfl⟩
  go_wp2_with fail
  refine (unhide HLW _).mono ?_
  rintro ee w2 ⟨rfl, hb2⟩
  have hoc' : (((⟨(lowL m).toArray⟩ : ByteArray).toList == [111, 99, 116, 101, 116]) = false) := by rw [ByteArray.toList_eq]; exact hoc
  obtain ⟨lm, hlm⟩ : ∃ lm : ByteArray, lm = ⟨(lowL m).toArray⟩ := ⟨_, rfl⟩
  rw [← hlm] at hoc' ⊢
  have HF2 := hide ((unhide HF1).later hb2 (Nat.le_refl _))
  clear hlm hb2 hoc HF1
  obtain ⟨z0, z1, z2, z3, z4, zf⟩ := (unhide HF2).zero
  obtain ⟨U, hU, u0, u1, u2, u3, u4, hUB, _⟩ := (unhide HF2).put (.int .u16 0) (.int .u16 0) (.string ⟨#[]⟩) (.string ⟨#[]⟩) (.slice none 0 0)
  have HUB := hide hUB
  clear hUB
  go_wp2
  rw [← hU]
  refine bodyPost_ret (v := .tuple #[.agg #[.int .u16 0, .int .u16 0, .string ⟨#[]⟩, .string ⟨#[]⟩, .slice none 0 0], .int .i64 2]) (by simp [results, Try.results39, go_sem, u0, u1, u2, u3, u4]) rfl ?_
  exact ⟨rfl, unhide HUB⟩
set_option maxHeartbeats 4000000 in
set_option maxRecDepth 10000 in
theorem ref_1f (s : ByteArray) (w : World) (L : List (List UInt8)) (hs : 2 ≤ s.size) (hm : s.size ≤ 16384) (hO : ∀ u : World, Calls Try.prog 45 #[.string (s.extract 0 2)] u fun ee w' => ee = .returned (.int .i64 1) ∧ w' = u) (hLN : ∀ u : World, Calls Try.prog 65 #[.string (s.extract 2 s.size)] u fun ee w' => ∃ v, ee = .returned (.tuple #[v, .bool true]) ∧ w'.ownsRow u.heap.size 9 1 v L.length (L.map encStr) ∧ Below u.heap.size u w') (n m : List UInt8) (t : List (List UInt8)) (hL : L = n :: m :: t) (hLl : L.length ≤ 1048576) (hLb : ∀ x ∈ L, x.length ≤ 1048576) (hw : nameB n = true) (hoc : lowL m = octet) :
    Calls Try.prog 39 #[.string s] w fun ee w' => Fin (fldsS t) 1 ⟨n.toArray⟩ w ee w' := by
  have hle : L.length = t.length + 2 := by rw [hL]; rfl
  have hn0 : L[0]? = some n := by rw [hL]; rfl
  have hm0 : L[1]? = some m := by rw [hL]; rfl
  have hnl := hLb n (by rw [hL]; simp)
  have hml := hLb m (by rw [hL]; simp)
  have HTB : Hid (∀ x ∈ t, x.length ≤ 1048576) := hide (fun x hx => hLb x (by rw [hL]; simp [hx]))
  have HTT : Hid (∀ i x, t[i]? = some x → L[i + 2]? = some x) := hide (fun i x hx => by rw [hL]; exact hx)
  have HTL := hide hle
  have hl2 : 2 ≤ L.length := by omega
  clear hL hLb hle
  have HO := hide hO
  clear hO
  have hlt2 : ¬ (s.size : Int) < 2 := by omega
  have h2le : (2 : Int) ≤ (s.size : Int) := by omega
  have hmx : (s.size : Int) ≤ 9223372036854775807 := by omega
  have HLN := hide hLN
  clear hLN
  have hl2' : (2 : Int) ≤ (L.length : Int) := by omega
  go_enter Try.func39, Try.ntmps39
  go_wp2_with fail
  refine (unhide HO _).mono ?_
  rintro ee u2 ⟨rfl, hu⟩
  rw [hu]
  clear hu u2
  obtain ⟨wc, hwc⟩ : ∃ wc, wc = (w.alloc (.cells #[.int .u16 0, .int .u16 0, .string ⟨#[]⟩, .string ⟨#[]⟩, .slice none 0 0] 67)).alloc (.cells #[.int .u16 1, .int .u16 0, .string ⟨#[]⟩, .string ⟨#[]⟩, .slice none 0 0] 67) := ⟨_, rfl⟩
  have HF : Hid (FrT w (w.heap.size + 1) #[.int .u16 1, .int .u16 0, .string ⟨#[]⟩, .string ⟨#[]⟩, .slice none 0 0] wc) := hide (by
    rw [hwc]
    refine ⟨by omega, by simp, ?_, ?_, ?_⟩
    · rw [Below.heap_alloc _ _ _ (by simp)]; exact heap_alloc_new w _
    · have q := heap_alloc_new (w.alloc (.cells #[.int .u16 0, .int .u16 0, .string ⟨#[]⟩, .string ⟨#[]⟩, .slice none 0 0] 67)) (.cells #[.int .u16 1, .int .u16 0, .string ⟨#[]⟩, .string ⟨#[]⟩, .slice none 0 0] 67)
      rw [show (w.alloc (.cells #[.int .u16 0, .int .u16 0, .string ⟨#[]⟩, .string ⟨#[]⟩, .slice none 0 0] 67)).heap.size = w.heap.size + 1 by simp] at q
      exact q
    · exact ((Below.refl _ w).alloc (Nat.le_refl _) _).alloc (by simp) _)
  have HWC := hide hwc
  have hnb : ¬ w.heap.size = w.heap.size + 1 := by omega
  have hnb2 : ¬ w.heap.size + 1 = w.heap.size := by omega
  clear hwc HO
  go_wp2_with fail
  rw [← unhide HWC]
  clear HWC
  refine (unhide HLN _).mono ?_
  rintro ee w1 ⟨v, rfl, hown, hb1⟩
  obtain ⟨g, lc, rfl, hgb, hcp, hAS⟩ := atS_row hown (by omega)
  have hgw : w.heap.size + 1 < g := by have := (unhide HF).2.1; omega
  clear hgb
  have HF1 := hide ((unhide HF).later hb1 (Nat.le_refl _))
  clear hb1 HLN HF
  obtain ⟨c0, c1, c2, c3, c4, cf⟩ := (unhide HF1).vals

  have x0 := hAS 0 n hn0
  have x1 := hAS 1 m hm0
  have HWD := hide (fun u => word_any ⟨n.toArray⟩ n u rfl (by omega))
  rw [hw] at HWD
  have HLW := hide (fun u => low_any ⟨m.toArray⟩ m u rfl (by omega))
  rw [hoc] at HLW
  clear hown
  go_wp2_with fail
  refine (unhide HWD _).mono ?_
  rintro ee w2 ⟨rfl, rfl⟩
  go_wp2_with fail
  refine (unhide HLW _).mono ?_
  rintro ee w2 ⟨rfl, hb2⟩
  obtain ⟨lm, hlm⟩ : ∃ lm : ByteArray, lm = ⟨octet.toArray⟩ := ⟨_, rfl⟩
  have hoc' : (lm.toList == [111, 99, 116, 101, 116]) = true := by rw [hlm, ByteArray.toList_eq]; rfl
  rw [← hlm]
  clear hlm hoc
  have HF2 := hide ((unhide HF1).later hb2 (Nat.le_refl _))
  have HAS2 : Hid (∀ i x, t[i]? = some x → w2.cell? ⟨g, i + 2, none⟩ = some (.string ⟨x.toArray⟩)) := hide (fun i x hx => by
    have q := hAS (i + 2) x (unhide HTT i x hx)
    rw [hb2.cell (by have := cell_lt q; exact this)]; exact q)
  have x0' : w2.cell? ⟨g, 0, none⟩ = some (.string ⟨n.toArray⟩) := by rw [hb2.cell (by have := cell_lt x0; exact this)]; exact x0
  obtain ⟨d0, d1, d2, d3, d4, df⟩ := (unhide HF2).vals
  have HFS := hide (fun (a : Option Addr) (c : Nat) (u : World) (hA : AtS u a t) => by
    have q := fieldsS_any a c t u hA (by have := unhide HTL; omega) (unhide HTB)
    rw [show t.length = L.length - 2 by have := unhide HTL; omega] at q
    exact q)
  have HFX := hide ((unhide HF2).set 2 (.string ⟨n.toArray⟩))
  obtain ⟨wx, hwx⟩ : ∃ wx, wx = w2.setCell ⟨w.heap.size + 1, 2, none⟩ (.string ⟨n.toArray⟩) := ⟨_, rfl⟩
  have HAX : Hid (∀ i x, t[i]? = some x → wx.cell? ⟨g, i + 2, none⟩ = some (.string ⟨x.toArray⟩)) := hide (fun i x hx => by
    rw [hwx]
    have q := unhide HAS2 i x hx
    unfold World.cell? at q ⊢
    rw [Below.heap_setCell _ _ _ _ (by show g ≠ w.heap.size + 1; omega)]; exact q)
  rw [← hwx] at HFX
  have HWX := hide hwx
  have HCP := hide hcp
  clear hb2 HF1 hAS x0 x1 c0 c1 c2 c3 c4 cf hwx hcp
  by_cases hlc : lc = 2
  · subst hlc
    have ht0 : t = [] := List.eq_nil_of_length_eq_zero (by have := unhide HTL; have := unhide HCP; omega)
    go_wp2_with fail
    rw [← unhide HWX]
    refine (unhide HFS _ _ _ ?ast).mono ?_
    case ast => exact fun i hi => absurd hi (by rw [ht0]; simp)
    rintro ee w3 ⟨hb3, h3⟩
    have hz3 := (unhide HFX).2.1
    have HF3 := hide ((unhide HFX).later hb3 (Nat.le_refl _))
    clear HFX d0 d1 d2 d3 d4 df hb3
    obtain ⟨c0, c1, c2, c3, c4, cf⟩ := (unhide HF3).vals
    cases hf : fldsS t with
    | none =>
      rw [hf] at h3
      simp only at h3
      subst h3
      have HFF := hide hf
      clear hf
      have HF4 := hide ((unhide HF3).set 4 (.slice none 0 0))
      obtain ⟨z0, z1, z2, z3, z4, zf⟩ := (unhide HF4).zero
      obtain ⟨U, hU, u0, u1, u2, u3, u4, hUB, _⟩ := (unhide HF4).put (.int .u16 0) (.int .u16 0) (.string ⟨#[]⟩) (.string ⟨#[]⟩) (.slice none 0 0)
      have HUB := hide hUB
      clear hUB
      go_wp2
      rw [← hU]
      refine bodyPost_ret (v := .tuple #[.agg #[.int .u16 0, .int .u16 0, .string ⟨#[]⟩, .string ⟨#[]⟩, .slice none 0 0], .int .i64 2]) (by simp [results, Try.results39, go_sem, u0, u1, u2, u3, u4]) rfl ?_
      unfold Fin; rw [unhide HFF]; exact ⟨rfl, unhide HUB⟩
    | some fs =>
      rw [hf] at h3
      obtain ⟨v, rfl, hown3⟩ := h3
      have HFF := hide hf
      clear hf
      obtain ⟨fa, fc, rfl, _⟩ := atF_own hown3
      have HOW := hide hown3
      clear hown3
      have HF4 := hide ((unhide HF3).set 4 (.slice fa fs.length fc))
      obtain ⟨z0, z1, z2, z3, z4, zf⟩ := (unhide HF4).zero
      obtain ⟨c0, c1, c2, c3, c4, cf⟩ := (unhide HF4).vals
      obtain ⟨U, hU, u0, u1, u2, u3, u4, hUB, hUC⟩ := (unhide HF4).put (.int .u16 1) (.int .u16 0) (.string ⟨n.toArray⟩) (.string ⟨#[]⟩) (.slice fa fs.length fc)
      have HUB := hide hUB
      have HUC := hide hUC
      clear hUB hUC
      go_wp2
      rw [← hU]
      refine bodyPost_ret (v := .tuple #[.agg #[.int .u16 1, .int .u16 0, .string ⟨n.toArray⟩, .string ⟨#[]⟩, .slice fa fs.length fc], .int .i64 0]) (by simp [results, Try.results39, go_sem, u0, u1, u2, u3, u4]) rfl ?_
      obtain ⟨a', c', e', h'⟩ := AtF.put (own_kept (unhide HOW) (gset _ ⟨w.heap.size + 1, 4, none⟩ _) (by show w.heap.size + 1 < _; omega)) (n := w.heap.size) (by omega) (unhide HUC)
      injection e' with e1 e2 e3
      subst e1
      unfold Fin; rw [unhide HFF]; exact ⟨unhide HUB, _, _, rfl, h'⟩
  · have hlc' : ¬ lc ≤ 2 := by have := unhide HCP; omega
    go_wp2_with fail
    rw [← unhide HWX]
    refine (unhide HFS _ _ _ ?ast).mono ?_
    case ast => exact fun i hi => ⟨_, rfl, by rw [show (⟨g, 2, none⟩ : Addr).add i = ⟨g, i + 2, none⟩ by (unfold Addr.add; by_cases h : i = 0 <;> simp [h]; try omega)]; exact unhide HAX i t[i] (List.getElem?_eq_getElem hi)⟩
    rintro ee w3 ⟨hb3, h3⟩
    have hz3 := (unhide HFX).2.1
    have HF3 := hide ((unhide HFX).later hb3 (Nat.le_refl _))
    clear HFX d0 d1 d2 d3 d4 df hb3
    obtain ⟨c0, c1, c2, c3, c4, cf⟩ := (unhide HF3).vals
    cases hf : fldsS t with
    | none =>
      rw [hf] at h3
      simp only at h3
      subst h3
      have HFF := hide hf
      clear hf
      have HF4 := hide ((unhide HF3).set 4 (.slice none 0 0))
      obtain ⟨z0, z1, z2, z3, z4, zf⟩ := (unhide HF4).zero
      obtain ⟨U, hU, u0, u1, u2, u3, u4, hUB, _⟩ := (unhide HF4).put (.int .u16 0) (.int .u16 0) (.string ⟨#[]⟩) (.string ⟨#[]⟩) (.slice none 0 0)
      have HUB := hide hUB
      clear hUB
      go_wp2
      rw [← hU]
      refine bodyPost_ret (v := .tuple #[.agg #[.int .u16 0, .int .u16 0, .string ⟨#[]⟩, .string ⟨#[]⟩, .slice none 0 0], .int .i64 2]) (by simp [results, Try.results39, go_sem, u0, u1, u2, u3, u4]) rfl ?_
      unfold Fin; rw [unhide HFF]; exact ⟨rfl, unhide HUB⟩
    | some fs =>
      rw [hf] at h3
      obtain ⟨v, rfl, hown3⟩ := h3
      have HFF := hide hf
      clear hf
      obtain ⟨fa, fc, rfl, _⟩ := atF_own hown3
      have HOW := hide hown3
      clear hown3
      have HF4 := hide ((unhide HF3).set 4 (.slice fa fs.length fc))
      obtain ⟨z0, z1, z2, z3, z4, zf⟩ := (unhide HF4).zero
      obtain ⟨c0, c1, c2, c3, c4, cf⟩ := (unhide HF4).vals
      obtain ⟨U, hU, u0, u1, u2, u3, u4, hUB, hUC⟩ := (unhide HF4).put (.int .u16 1) (.int .u16 0) (.string ⟨n.toArray⟩) (.string ⟨#[]⟩) (.slice fa fs.length fc)
      have HUB := hide hUB
      have HUC := hide hUC
      clear hUB hUC
      go_wp2
      rw [← hU]
      refine bodyPost_ret (v := .tuple #[.agg #[.int .u16 1, .int .u16 0, .string ⟨n.toArray⟩, .string ⟨#[]⟩, .slice fa fs.length fc], .int .i64 0]) (by simp [results, Try.results39, go_sem, u0, u1, u2, u3, u4]) rfl ?_
      obtain ⟨a', c', e', h'⟩ := AtF.put (own_kept (unhide HOW) (gset _ ⟨w.heap.size + 1, 4, none⟩ _) (by show w.heap.size + 1 < _; omega)) (n := w.heap.size) (by omega) (unhide HUC)
      injection e' with e1 e2 e3
      subst e1
      unfold Fin; rw [unhide HFF]; exact ⟨unhide HUB, _, _, rfl, h'⟩
set_option maxHeartbeats 4000000 in
set_option maxRecDepth 10000 in
theorem ref_few3 (s : ByteArray) (w : World) (hs : 2 ≤ s.size) (hm : s.size < 4) (hO : ∀ u : World, Calls Try.prog 45 #[.string (s.extract 0 2)] u fun ee w' => ee = .returned (.int .i64 3) ∧ w' = u) :
    Calls Try.prog 39 #[.string s] w fun ee w' => Bad 1 w ee w' := by
  have HO := hide hO
  clear hO
  have hlt2 : ¬ (s.size : Int) < 2 := by omega
  have h2le : (2 : Int) ≤ (s.size : Int) := by omega
  have hmx : (s.size : Int) ≤ 9223372036854775807 := by omega
  have hlt4 : (s.size : Int) < 4 := by omega
  go_enter Try.func39, Try.ntmps39
  go_wp2_with fail
  refine (unhide HO _).mono ?_
  rintro ee u2 ⟨rfl, hu⟩
  rw [hu]
  clear hu u2
  obtain ⟨wc, hwc⟩ : ∃ wc, wc = (w.alloc (.cells #[.int .u16 0, .int .u16 0, .string ⟨#[]⟩, .string ⟨#[]⟩, .slice none 0 0] 67)).alloc (.cells #[.int .u16 3, .int .u16 0, .string ⟨#[]⟩, .string ⟨#[]⟩, .slice none 0 0] 67) := ⟨_, rfl⟩
  have HF : Hid (FrT w (w.heap.size + 1) #[.int .u16 3, .int .u16 0, .string ⟨#[]⟩, .string ⟨#[]⟩, .slice none 0 0] wc) := hide (by
    rw [hwc]
    refine ⟨by omega, by simp, ?_, ?_, ?_⟩
    · rw [Below.heap_alloc _ _ _ (by simp)]; exact heap_alloc_new w _
    · have q := heap_alloc_new (w.alloc (.cells #[.int .u16 0, .int .u16 0, .string ⟨#[]⟩, .string ⟨#[]⟩, .slice none 0 0] 67)) (.cells #[.int .u16 3, .int .u16 0, .string ⟨#[]⟩, .string ⟨#[]⟩, .slice none 0 0] 67)
      rw [show (w.alloc (.cells #[.int .u16 0, .int .u16 0, .string ⟨#[]⟩, .string ⟨#[]⟩, .slice none 0 0] 67)).heap.size = w.heap.size + 1 by simp] at q
      exact q
    · exact ((Below.refl _ w).alloc (Nat.le_refl _) _).alloc (by simp) _)
  have HWC := hide hwc
  have hnb : ¬ w.heap.size = w.heap.size + 1 := by omega
  have hnb2 : ¬ w.heap.size + 1 = w.heap.size := by omega
  clear hwc HO
  go_wp2_with fail
  exact bodyPost_ret (v := .tuple #[.agg #[.int .u16 0, .int .u16 0, .string ⟨#[]⟩, .string ⟨#[]⟩, .slice none 0 0], .int .i64 1]) (by simp [results, Try.results39, go_sem]) rfl ⟨rfl, ((Below.refl _ _).alloc (Nat.le_refl _) _).alloc (by simp) _⟩
set_option maxHeartbeats 4000000 in
set_option maxRecDepth 10000 in
theorem ref_few4 (s : ByteArray) (w : World) (hs : 2 ≤ s.size) (hm : s.size < 4) (hO : ∀ u : World, Calls Try.prog 45 #[.string (s.extract 0 2)] u fun ee w' => ee = .returned (.int .i64 4) ∧ w' = u) :
    Calls Try.prog 39 #[.string s] w fun ee w' => Bad 1 w ee w' := by
  have HO := hide hO
  clear hO
  have hlt2 : ¬ (s.size : Int) < 2 := by omega
  have h2le : (2 : Int) ≤ (s.size : Int) := by omega
  have hmx : (s.size : Int) ≤ 9223372036854775807 := by omega
  have hlt4 : (s.size : Int) < 4 := by omega
  go_enter Try.func39, Try.ntmps39
  go_wp2_with fail
  refine (unhide HO _).mono ?_
  rintro ee u2 ⟨rfl, hu⟩
  rw [hu]
  clear hu u2
  obtain ⟨wc, hwc⟩ : ∃ wc, wc = (w.alloc (.cells #[.int .u16 0, .int .u16 0, .string ⟨#[]⟩, .string ⟨#[]⟩, .slice none 0 0] 67)).alloc (.cells #[.int .u16 4, .int .u16 0, .string ⟨#[]⟩, .string ⟨#[]⟩, .slice none 0 0] 67) := ⟨_, rfl⟩
  have HF : Hid (FrT w (w.heap.size + 1) #[.int .u16 4, .int .u16 0, .string ⟨#[]⟩, .string ⟨#[]⟩, .slice none 0 0] wc) := hide (by
    rw [hwc]
    refine ⟨by omega, by simp, ?_, ?_, ?_⟩
    · rw [Below.heap_alloc _ _ _ (by simp)]; exact heap_alloc_new w _
    · have q := heap_alloc_new (w.alloc (.cells #[.int .u16 0, .int .u16 0, .string ⟨#[]⟩, .string ⟨#[]⟩, .slice none 0 0] 67)) (.cells #[.int .u16 4, .int .u16 0, .string ⟨#[]⟩, .string ⟨#[]⟩, .slice none 0 0] 67)
      rw [show (w.alloc (.cells #[.int .u16 0, .int .u16 0, .string ⟨#[]⟩, .string ⟨#[]⟩, .slice none 0 0] 67)).heap.size = w.heap.size + 1 by simp] at q
      exact q
    · exact ((Below.refl _ w).alloc (Nat.le_refl _) _).alloc (by simp) _)
  have HWC := hide hwc
  have hnb : ¬ w.heap.size = w.heap.size + 1 := by omega
  have hnb2 : ¬ w.heap.size + 1 = w.heap.size := by omega
  clear hwc HO
  go_wp2_with fail
  exact bodyPost_ret (v := .tuple #[.agg #[.int .u16 0, .int .u16 0, .string ⟨#[]⟩, .string ⟨#[]⟩, .slice none 0 0], .int .i64 1]) (by simp [results, Try.results39, go_sem]) rfl ⟨rfl, ((Below.refl _ _).alloc (Nat.le_refl _) _).alloc (by simp) _⟩
set_option maxHeartbeats 4000000 in
set_option maxRecDepth 10000 in
theorem ref_few5 (s : ByteArray) (w : World) (hs : 2 ≤ s.size) (hm : s.size < 4) (hO : ∀ u : World, Calls Try.prog 45 #[.string (s.extract 0 2)] u fun ee w' => ee = .returned (.int .i64 5) ∧ w' = u) :
    Calls Try.prog 39 #[.string s] w fun ee w' => Bad 1 w ee w' := by
  have HO := hide hO
  clear hO
  have hlt2 : ¬ (s.size : Int) < 2 := by omega
  have h2le : (2 : Int) ≤ (s.size : Int) := by omega
  have hmx : (s.size : Int) ≤ 9223372036854775807 := by omega
  have hlt4 : (s.size : Int) < 4 := by omega
  go_enter Try.func39, Try.ntmps39
  go_wp2_with fail
  refine (unhide HO _).mono ?_
  rintro ee u2 ⟨rfl, hu⟩
  rw [hu]
  clear hu u2
  obtain ⟨wc, hwc⟩ : ∃ wc, wc = (w.alloc (.cells #[.int .u16 0, .int .u16 0, .string ⟨#[]⟩, .string ⟨#[]⟩, .slice none 0 0] 67)).alloc (.cells #[.int .u16 5, .int .u16 0, .string ⟨#[]⟩, .string ⟨#[]⟩, .slice none 0 0] 67) := ⟨_, rfl⟩
  have HF : Hid (FrT w (w.heap.size + 1) #[.int .u16 5, .int .u16 0, .string ⟨#[]⟩, .string ⟨#[]⟩, .slice none 0 0] wc) := hide (by
    rw [hwc]
    refine ⟨by omega, by simp, ?_, ?_, ?_⟩
    · rw [Below.heap_alloc _ _ _ (by simp)]; exact heap_alloc_new w _
    · have q := heap_alloc_new (w.alloc (.cells #[.int .u16 0, .int .u16 0, .string ⟨#[]⟩, .string ⟨#[]⟩, .slice none 0 0] 67)) (.cells #[.int .u16 5, .int .u16 0, .string ⟨#[]⟩, .string ⟨#[]⟩, .slice none 0 0] 67)
      rw [show (w.alloc (.cells #[.int .u16 0, .int .u16 0, .string ⟨#[]⟩, .string ⟨#[]⟩, .slice none 0 0] 67)).heap.size = w.heap.size + 1 by simp] at q
      exact q
    · exact ((Below.refl _ w).alloc (Nat.le_refl _) _).alloc (by simp) _)
  have HWC := hide hwc
  have hnb : ¬ w.heap.size = w.heap.size + 1 := by omega
  have hnb2 : ¬ w.heap.size + 1 = w.heap.size := by omega
  clear hwc HO
  go_wp2_with fail
  exact bodyPost_ret (v := .tuple #[.agg #[.int .u16 0, .int .u16 0, .string ⟨#[]⟩, .string ⟨#[]⟩, .slice none 0 0], .int .i64 1]) (by simp [results, Try.results39, go_sem]) rfl ⟨rfl, ((Below.refl _ _).alloc (Nat.le_refl _) _).alloc (by simp) _⟩
set_option maxHeartbeats 4000000 in
set_option maxRecDepth 10000 in
theorem ref_3l (s : ByteArray) (w : World) (en : Bool) (y : Int) (L : List (List UInt8)) (rs : ByteArray) (hs : 4 ≤ s.size) (hm : s.size ≤ 16384) (hy : IntKind.u16.wrap y = y) (hO : ∀ u : World, Calls Try.prog 45 #[.string (s.extract 0 2)] u fun ee w' => ee = .returned (.int .i64 3) ∧ w' = u) (hO2 : ∀ u : World, Calls Try.prog 45 #[.string (s.extract 2 4)] u fun ee w' => ee = .returned (.int .i64 y) ∧ w' = u) (hrs : s.extract 4 s.size = rs) (hLN : ∀ u : World, Calls Try.prog 65 #[.string rs] u fun ee w' => ∃ v, ee = .returned (.tuple #[v, .bool en]) ∧ w'.ownsRow u.heap.size 9 1 v L.length (L.map encStr) ∧ Below u.heap.size u w') (hr : (1024 : Int) < (rs.size : Int)) :
    Calls Try.prog 39 #[.string s] w fun ee w' => Bad 7 w ee w' := by
  have HRS := hide hrs
  clear hrs
  have HO := hide hO
  clear hO
  have hlt2 : ¬ (s.size : Int) < 2 := by omega
  have h2le : (2 : Int) ≤ (s.size : Int) := by omega
  have hmx : (s.size : Int) ≤ 9223372036854775807 := by omega
  have hlt4 : ¬ (s.size : Int) < 4 := by omega
  have h4le : (4 : Int) ≤ (s.size : Int) := by omega
  have HO2 := hide hO2
  have HLN := hide hLN
  clear hO2 hLN
  go_enter Try.func39, Try.ntmps39
  go_wp2_with fail
  refine (unhide HO _).mono ?_
  rintro ee u2 ⟨rfl, hu⟩
  rw [hu]
  clear hu u2
  obtain ⟨wc, hwc⟩ : ∃ wc, wc = (w.alloc (.cells #[.int .u16 0, .int .u16 0, .string ⟨#[]⟩, .string ⟨#[]⟩, .slice none 0 0] 67)).alloc (.cells #[.int .u16 3, .int .u16 y, .string ⟨#[]⟩, .string ⟨#[]⟩, .slice none 0 0] 67) := ⟨_, rfl⟩
  have HF : Hid (FrT w (w.heap.size + 1) #[.int .u16 3, .int .u16 y, .string ⟨#[]⟩, .string ⟨#[]⟩, .slice none 0 0] wc) := hide (by
    rw [hwc]
    refine ⟨by omega, by simp, ?_, ?_, ?_⟩
    · rw [Below.heap_alloc _ _ _ (by simp)]; exact heap_alloc_new w _
    · have q := heap_alloc_new (w.alloc (.cells #[.int .u16 0, .int .u16 0, .string ⟨#[]⟩, .string ⟨#[]⟩, .slice none 0 0] 67)) (.cells #[.int .u16 3, .int .u16 y, .string ⟨#[]⟩, .string ⟨#[]⟩, .slice none 0 0] 67)
      rw [show (w.alloc (.cells #[.int .u16 0, .int .u16 0, .string ⟨#[]⟩, .string ⟨#[]⟩, .slice none 0 0] 67)).heap.size = w.heap.size + 1 by simp] at q
      exact q
    · exact ((Below.refl _ w).alloc (Nat.le_refl _) _).alloc (by simp) _)
  have HWC := hide hwc
  have hnb : ¬ w.heap.size = w.heap.size + 1 := by omega
  have hnb2 : ¬ w.heap.size + 1 = w.heap.size := by omega
  clear hwc HO
  go_wp2_with fail
  refine (unhide HO2 _).mono ?_
  rintro ee u2 ⟨rfl, hu⟩
  rw [hu]
  clear hu u2
  go_wp2_with fail
  rw [unhide HRS]
  rw [← unhide HWC]
  clear HWC
  refine (unhide HLN _).mono ?_
  rintro ee w1 ⟨v, rfl, hown, hb1⟩
  obtain ⟨la, lc, rfl, hAS⟩ := atS_own hown
  have HF1 := hide ((unhide HF).later hb1 (Nat.le_refl _))
  have HAS := hide hAS
  clear hown hb1 HLN HF hAS
  obtain ⟨c0, c1, c2, c3, c4, cf⟩ := (unhide HF1).vals
  obtain ⟨z0, z1, z2, z3, z4, zf⟩ := (unhide HF1).zero
  obtain ⟨U, hU, u0, u1, u2, u3, u4, hUB, _⟩ := (unhide HF1).put (.int .u16 0) (.int .u16 0) (.string ⟨#[]⟩) (.string ⟨#[]⟩) (.slice none 0 0)
  have HUB := hide hUB
  clear hUB
  go_wp2
  rw [← hU]
  refine bodyPost_ret (v := .tuple #[.agg #[.int .u16 0, .int .u16 0, .string ⟨#[]⟩, .string ⟨#[]⟩, .slice none 0 0], .int .i64 7]) (by simp [results, Try.results39, go_sem, u0, u1, u2, u3, u4]) rfl ?_
  exact ⟨rfl, unhide HUB⟩
set_option maxHeartbeats 4000000 in
set_option maxRecDepth 10000 in
theorem ref_3g (s : ByteArray) (w : World) (en : Bool) (y : Int) (L : List (List UInt8)) (rs : ByteArray) (hs : 4 ≤ s.size) (hm : s.size ≤ 16384) (hy : IntKind.u16.wrap y = y) (hO : ∀ u : World, Calls Try.prog 45 #[.string (s.extract 0 2)] u fun ee w' => ee = .returned (.int .i64 3) ∧ w' = u) (hO2 : ∀ u : World, Calls Try.prog 45 #[.string (s.extract 2 4)] u fun ee w' => ee = .returned (.int .i64 y) ∧ w' = u) (hrs : s.extract 4 s.size = rs) (hLN : ∀ u : World, Calls Try.prog 65 #[.string rs] u fun ee w' => ∃ v, ee = .returned (.tuple #[v, .bool en]) ∧ w'.ownsRow u.heap.size 9 1 v L.length (L.map encStr) ∧ Below u.heap.size u w') (hr : ¬ (1024 : Int) < (rs.size : Int)) :
    Calls Try.prog 39 #[.string s] w fun ee w' => Good 3 y ⟨#[]⟩ rs [] w ee w' := by
  have HRS := hide hrs
  clear hrs
  have HO := hide hO
  clear hO
  have hlt2 : ¬ (s.size : Int) < 2 := by omega
  have h2le : (2 : Int) ≤ (s.size : Int) := by omega
  have hmx : (s.size : Int) ≤ 9223372036854775807 := by omega
  have hlt4 : ¬ (s.size : Int) < 4 := by omega
  have h4le : (4 : Int) ≤ (s.size : Int) := by omega
  have HO2 := hide hO2
  have HLN := hide hLN
  clear hO2 hLN
  go_enter Try.func39, Try.ntmps39
  go_wp2_with fail
  refine (unhide HO _).mono ?_
  rintro ee u2 ⟨rfl, hu⟩
  rw [hu]
  clear hu u2
  obtain ⟨wc, hwc⟩ : ∃ wc, wc = (w.alloc (.cells #[.int .u16 0, .int .u16 0, .string ⟨#[]⟩, .string ⟨#[]⟩, .slice none 0 0] 67)).alloc (.cells #[.int .u16 3, .int .u16 y, .string ⟨#[]⟩, .string ⟨#[]⟩, .slice none 0 0] 67) := ⟨_, rfl⟩
  have HF : Hid (FrT w (w.heap.size + 1) #[.int .u16 3, .int .u16 y, .string ⟨#[]⟩, .string ⟨#[]⟩, .slice none 0 0] wc) := hide (by
    rw [hwc]
    refine ⟨by omega, by simp, ?_, ?_, ?_⟩
    · rw [Below.heap_alloc _ _ _ (by simp)]; exact heap_alloc_new w _
    · have q := heap_alloc_new (w.alloc (.cells #[.int .u16 0, .int .u16 0, .string ⟨#[]⟩, .string ⟨#[]⟩, .slice none 0 0] 67)) (.cells #[.int .u16 3, .int .u16 y, .string ⟨#[]⟩, .string ⟨#[]⟩, .slice none 0 0] 67)
      rw [show (w.alloc (.cells #[.int .u16 0, .int .u16 0, .string ⟨#[]⟩, .string ⟨#[]⟩, .slice none 0 0] 67)).heap.size = w.heap.size + 1 by simp] at q
      exact q
    · exact ((Below.refl _ w).alloc (Nat.le_refl _) _).alloc (by simp) _)
  have HWC := hide hwc
  have hnb : ¬ w.heap.size = w.heap.size + 1 := by omega
  have hnb2 : ¬ w.heap.size + 1 = w.heap.size := by omega
  clear hwc HO
  go_wp2_with fail
  refine (unhide HO2 _).mono ?_
  rintro ee u2 ⟨rfl, hu⟩
  rw [hu]
  clear hu u2
  go_wp2_with fail
  rw [unhide HRS]
  rw [← unhide HWC]
  clear HWC
  refine (unhide HLN _).mono ?_
  rintro ee w1 ⟨v, rfl, hown, hb1⟩
  obtain ⟨la, lc, rfl, hAS⟩ := atS_own hown
  have HF1 := hide ((unhide HF).later hb1 (Nat.le_refl _))
  have HAS := hide hAS
  clear hown hb1 HLN HF hAS
  obtain ⟨c0, c1, c2, c3, c4, cf⟩ := (unhide HF1).vals
  have HFX := hide ((unhide HF1).set 3 (.string rs))
  clear c0 c1 c2 c3 c4 cf
  obtain ⟨d0, d1, d2, d3, d4, df⟩ := (unhide HF1).vals
  obtain ⟨z0, z1, z2, z3, z4, zf⟩ := (unhide HFX).zero
  obtain ⟨c0, c1, c2, c3, c4, cf⟩ := (unhide HFX).vals
  obtain ⟨U, hU, u0, u1, u2, u3, u4, hUB, hUC⟩ := (unhide HFX).put (.int .u16 3) (.int .u16 y) (.string ⟨#[]⟩) (.string rs) (.slice none 0 0)
  have HUB := hide hUB
  have HUC := hide hUC
  clear hUB hUC
  go_wp2
  rw [← hU]
  refine bodyPost_ret (v := .tuple #[.agg #[.int .u16 3, .int .u16 y, .string ⟨#[]⟩, .string rs, .slice none 0 0], .int .i64 0]) (by simp [results, Try.results39, go_sem, u0, u1, u2, u3, u4]) rfl ?_
  exact ⟨unhide HUB, none, 0, rfl, fun i hi => absurd hi (by simp)⟩
set_option maxHeartbeats 4000000 in
set_option maxRecDepth 10000 in
theorem ref_4b (s : ByteArray) (w : World) (en : Bool) (y : Int) (L : List (List UInt8)) (rs : ByteArray) (hs : 4 ≤ s.size) (hm : s.size ≤ 16384) (hy : IntKind.u16.wrap y = y) (hO : ∀ u : World, Calls Try.prog 45 #[.string (s.extract 0 2)] u fun ee w' => ee = .returned (.int .i64 4) ∧ w' = u) (hO2 : ∀ u : World, Calls Try.prog 45 #[.string (s.extract 2 4)] u fun ee w' => ee = .returned (.int .i64 y) ∧ w' = u) (hrs : s.extract 4 s.size = rs) (hLN : ∀ u : World, Calls Try.prog 65 #[.string rs] u fun ee w' => ∃ v, ee = .returned (.tuple #[v, .bool en]) ∧ w'.ownsRow u.heap.size 9 1 v L.length (L.map encStr) ∧ Below u.heap.size u w') (hr : rs.toList.isEmpty = false) :
    Calls Try.prog 39 #[.string s] w fun ee w' => Bad 2 w ee w' := by
  have HRS := hide hrs
  clear hrs
  have HO := hide hO
  clear hO
  have hlt2 : ¬ (s.size : Int) < 2 := by omega
  have h2le : (2 : Int) ≤ (s.size : Int) := by omega
  have hmx : (s.size : Int) ≤ 9223372036854775807 := by omega
  have hlt4 : ¬ (s.size : Int) < 4 := by omega
  have h4le : (4 : Int) ≤ (s.size : Int) := by omega
  have HO2 := hide hO2
  have HLN := hide hLN
  clear hO2 hLN
  go_enter Try.func39, Try.ntmps39
  go_wp2_with fail
  refine (unhide HO _).mono ?_
  rintro ee u2 ⟨rfl, hu⟩
  rw [hu]
  clear hu u2
  obtain ⟨wc, hwc⟩ : ∃ wc, wc = (w.alloc (.cells #[.int .u16 0, .int .u16 0, .string ⟨#[]⟩, .string ⟨#[]⟩, .slice none 0 0] 67)).alloc (.cells #[.int .u16 4, .int .u16 y, .string ⟨#[]⟩, .string ⟨#[]⟩, .slice none 0 0] 67) := ⟨_, rfl⟩
  have HF : Hid (FrT w (w.heap.size + 1) #[.int .u16 4, .int .u16 y, .string ⟨#[]⟩, .string ⟨#[]⟩, .slice none 0 0] wc) := hide (by
    rw [hwc]
    refine ⟨by omega, by simp, ?_, ?_, ?_⟩
    · rw [Below.heap_alloc _ _ _ (by simp)]; exact heap_alloc_new w _
    · have q := heap_alloc_new (w.alloc (.cells #[.int .u16 0, .int .u16 0, .string ⟨#[]⟩, .string ⟨#[]⟩, .slice none 0 0] 67)) (.cells #[.int .u16 4, .int .u16 y, .string ⟨#[]⟩, .string ⟨#[]⟩, .slice none 0 0] 67)
      rw [show (w.alloc (.cells #[.int .u16 0, .int .u16 0, .string ⟨#[]⟩, .string ⟨#[]⟩, .slice none 0 0] 67)).heap.size = w.heap.size + 1 by simp] at q
      exact q
    · exact ((Below.refl _ w).alloc (Nat.le_refl _) _).alloc (by simp) _)
  have HWC := hide hwc
  have hnb : ¬ w.heap.size = w.heap.size + 1 := by omega
  have hnb2 : ¬ w.heap.size + 1 = w.heap.size := by omega
  clear hwc HO
  go_wp2_with fail
  refine (unhide HO2 _).mono ?_
  rintro ee u2 ⟨rfl, hu⟩
  rw [hu]
  clear hu u2
  go_wp2_with fail
  rw [unhide HRS]
  rw [← unhide HWC]
  clear HWC
  refine (unhide HLN _).mono ?_
  rintro ee w1 ⟨v, rfl, hown, hb1⟩
  obtain ⟨la, lc, rfl, hAS⟩ := atS_own hown
  have HF1 := hide ((unhide HF).later hb1 (Nat.le_refl _))
  have HAS := hide hAS
  clear hown hb1 HLN HF hAS
  obtain ⟨c0, c1, c2, c3, c4, cf⟩ := (unhide HF1).vals
  obtain ⟨z0, z1, z2, z3, z4, zf⟩ := (unhide HF1).zero
  obtain ⟨U, hU, u0, u1, u2, u3, u4, hUB, _⟩ := (unhide HF1).put (.int .u16 0) (.int .u16 0) (.string ⟨#[]⟩) (.string ⟨#[]⟩) (.slice none 0 0)
  have HUB := hide hUB
  clear hUB
  go_wp2
  rw [← hU]
  refine bodyPost_ret (v := .tuple #[.agg #[.int .u16 0, .int .u16 0, .string ⟨#[]⟩, .string ⟨#[]⟩, .slice none 0 0], .int .i64 2]) (by simp [results, Try.results39, go_sem, u0, u1, u2, u3, u4]) rfl ?_
  exact ⟨rfl, unhide HUB⟩
set_option maxHeartbeats 4000000 in
set_option maxRecDepth 10000 in
theorem ref_4g (s : ByteArray) (w : World) (en : Bool) (y : Int) (L : List (List UInt8)) (rs : ByteArray) (hs : 4 ≤ s.size) (hm : s.size ≤ 16384) (hy : IntKind.u16.wrap y = y) (hO : ∀ u : World, Calls Try.prog 45 #[.string (s.extract 0 2)] u fun ee w' => ee = .returned (.int .i64 4) ∧ w' = u) (hO2 : ∀ u : World, Calls Try.prog 45 #[.string (s.extract 2 4)] u fun ee w' => ee = .returned (.int .i64 y) ∧ w' = u) (hrs : s.extract 4 s.size = rs) (hLN : ∀ u : World, Calls Try.prog 65 #[.string rs] u fun ee w' => ∃ v, ee = .returned (.tuple #[v, .bool en]) ∧ w'.ownsRow u.heap.size 9 1 v L.length (L.map encStr) ∧ Below u.heap.size u w') (hr : rs.toList.isEmpty = true) :
    Calls Try.prog 39 #[.string s] w fun ee w' => Good 4 y ⟨#[]⟩ ⟨#[]⟩ [] w ee w' := by
  have HRS := hide hrs
  clear hrs
  have HO := hide hO
  clear hO
  have hlt2 : ¬ (s.size : Int) < 2 := by omega
  have h2le : (2 : Int) ≤ (s.size : Int) := by omega
  have hmx : (s.size : Int) ≤ 9223372036854775807 := by omega
  have hlt4 : ¬ (s.size : Int) < 4 := by omega
  have h4le : (4 : Int) ≤ (s.size : Int) := by omega
  have HO2 := hide hO2
  have HLN := hide hLN
  clear hO2 hLN
  go_enter Try.func39, Try.ntmps39
  go_wp2_with fail
  refine (unhide HO _).mono ?_
  rintro ee u2 ⟨rfl, hu⟩
  rw [hu]
  clear hu u2
  obtain ⟨wc, hwc⟩ : ∃ wc, wc = (w.alloc (.cells #[.int .u16 0, .int .u16 0, .string ⟨#[]⟩, .string ⟨#[]⟩, .slice none 0 0] 67)).alloc (.cells #[.int .u16 4, .int .u16 y, .string ⟨#[]⟩, .string ⟨#[]⟩, .slice none 0 0] 67) := ⟨_, rfl⟩
  have HF : Hid (FrT w (w.heap.size + 1) #[.int .u16 4, .int .u16 y, .string ⟨#[]⟩, .string ⟨#[]⟩, .slice none 0 0] wc) := hide (by
    rw [hwc]
    refine ⟨by omega, by simp, ?_, ?_, ?_⟩
    · rw [Below.heap_alloc _ _ _ (by simp)]; exact heap_alloc_new w _
    · have q := heap_alloc_new (w.alloc (.cells #[.int .u16 0, .int .u16 0, .string ⟨#[]⟩, .string ⟨#[]⟩, .slice none 0 0] 67)) (.cells #[.int .u16 4, .int .u16 y, .string ⟨#[]⟩, .string ⟨#[]⟩, .slice none 0 0] 67)
      rw [show (w.alloc (.cells #[.int .u16 0, .int .u16 0, .string ⟨#[]⟩, .string ⟨#[]⟩, .slice none 0 0] 67)).heap.size = w.heap.size + 1 by simp] at q
      exact q
    · exact ((Below.refl _ w).alloc (Nat.le_refl _) _).alloc (by simp) _)
  have HWC := hide hwc
  have hnb : ¬ w.heap.size = w.heap.size + 1 := by omega
  have hnb2 : ¬ w.heap.size + 1 = w.heap.size := by omega
  clear hwc HO
  go_wp2_with fail
  refine (unhide HO2 _).mono ?_
  rintro ee u2 ⟨rfl, hu⟩
  rw [hu]
  clear hu u2
  go_wp2_with fail
  rw [unhide HRS]
  rw [← unhide HWC]
  clear HWC
  refine (unhide HLN _).mono ?_
  rintro ee w1 ⟨v, rfl, hown, hb1⟩
  obtain ⟨la, lc, rfl, hAS⟩ := atS_own hown
  have HF1 := hide ((unhide HF).later hb1 (Nat.le_refl _))
  have HAS := hide hAS
  clear hown hb1 HLN HF hAS
  obtain ⟨c0, c1, c2, c3, c4, cf⟩ := (unhide HF1).vals
  clear c0 c1 c2 c3 c4 cf
  obtain ⟨z0, z1, z2, z3, z4, zf⟩ := (unhide HF1).zero
  obtain ⟨c0, c1, c2, c3, c4, cf⟩ := (unhide HF1).vals
  obtain ⟨U, hU, u0, u1, u2, u3, u4, hUB, hUC⟩ := (unhide HF1).put (.int .u16 4) (.int .u16 y) (.string ⟨#[]⟩) (.string ⟨#[]⟩) (.slice none 0 0)
  have HUB := hide hUB
  have HUC := hide hUC
  clear hUB hUC
  go_wp2
  rw [← hU]
  refine bodyPost_ret (v := .tuple #[.agg #[.int .u16 4, .int .u16 y, .string ⟨#[]⟩, .string ⟨#[]⟩, .slice none 0 0], .int .i64 0]) (by simp [results, Try.results39, go_sem, u0, u1, u2, u3, u4]) rfl ?_
  exact ⟨unhide HUB, none, 0, rfl, fun i hi => absurd hi (by simp)⟩
set_option maxHeartbeats 4000000 in
set_option maxRecDepth 10000 in
theorem ref_5a (s : ByteArray) (w : World) (y : Int) (L : List (List UInt8)) (rs : ByteArray) (hs : 4 ≤ s.size) (hm : s.size ≤ 16384) (hy : IntKind.u16.wrap y = y) (hO : ∀ u : World, Calls Try.prog 45 #[.string (s.extract 0 2)] u fun ee w' => ee = .returned (.int .i64 5) ∧ w' = u) (hO2 : ∀ u : World, Calls Try.prog 45 #[.string (s.extract 2 4)] u fun ee w' => ee = .returned (.int .i64 y) ∧ w' = u) (hrs : s.extract 4 s.size = rs) (hLN : ∀ u : World, Calls Try.prog 65 #[.string rs] u fun ee w' => ∃ v, ee = .returned (.tuple #[v, .bool false]) ∧ w'.ownsRow u.heap.size 9 1 v L.length (L.map encStr) ∧ Below u.heap.size u w')  :
    Calls Try.prog 39 #[.string s] w fun ee w' => Bad 2 w ee w' := by
  have HRS := hide hrs
  clear hrs
  have HO := hide hO
  clear hO
  have hlt2 : ¬ (s.size : Int) < 2 := by omega
  have h2le : (2 : Int) ≤ (s.size : Int) := by omega
  have hmx : (s.size : Int) ≤ 9223372036854775807 := by omega
  have hlt4 : ¬ (s.size : Int) < 4 := by omega
  have h4le : (4 : Int) ≤ (s.size : Int) := by omega
  have HO2 := hide hO2
  have HLN := hide hLN
  clear hO2 hLN
  go_enter Try.func39, Try.ntmps39
  go_wp2_with fail
  refine (unhide HO _).mono ?_
  rintro ee u2 ⟨rfl, hu⟩
  rw [hu]
  clear hu u2
  obtain ⟨wc, hwc⟩ : ∃ wc, wc = (w.alloc (.cells #[.int .u16 0, .int .u16 0, .string ⟨#[]⟩, .string ⟨#[]⟩, .slice none 0 0] 67)).alloc (.cells #[.int .u16 5, .int .u16 y, .string ⟨#[]⟩, .string ⟨#[]⟩, .slice none 0 0] 67) := ⟨_, rfl⟩
  have HF : Hid (FrT w (w.heap.size + 1) #[.int .u16 5, .int .u16 y, .string ⟨#[]⟩, .string ⟨#[]⟩, .slice none 0 0] wc) := hide (by
    rw [hwc]
    refine ⟨by omega, by simp, ?_, ?_, ?_⟩
    · rw [Below.heap_alloc _ _ _ (by simp)]; exact heap_alloc_new w _
    · have q := heap_alloc_new (w.alloc (.cells #[.int .u16 0, .int .u16 0, .string ⟨#[]⟩, .string ⟨#[]⟩, .slice none 0 0] 67)) (.cells #[.int .u16 5, .int .u16 y, .string ⟨#[]⟩, .string ⟨#[]⟩, .slice none 0 0] 67)
      rw [show (w.alloc (.cells #[.int .u16 0, .int .u16 0, .string ⟨#[]⟩, .string ⟨#[]⟩, .slice none 0 0] 67)).heap.size = w.heap.size + 1 by simp] at q
      exact q
    · exact ((Below.refl _ w).alloc (Nat.le_refl _) _).alloc (by simp) _)
  have HWC := hide hwc
  have hnb : ¬ w.heap.size = w.heap.size + 1 := by omega
  have hnb2 : ¬ w.heap.size + 1 = w.heap.size := by omega
  clear hwc HO
  go_wp2_with fail
  refine (unhide HO2 _).mono ?_
  rintro ee u2 ⟨rfl, hu⟩
  rw [hu]
  clear hu u2
  go_wp2_with fail
  rw [unhide HRS]
  rw [← unhide HWC]
  clear HWC
  refine (unhide HLN _).mono ?_
  rintro ee w1 ⟨v, rfl, hown, hb1⟩
  obtain ⟨la, lc, rfl, hAS⟩ := atS_own hown
  have HF1 := hide ((unhide HF).later hb1 (Nat.le_refl _))
  have HAS := hide hAS
  clear hown hb1 HLN HF hAS
  obtain ⟨c0, c1, c2, c3, c4, cf⟩ := (unhide HF1).vals
  obtain ⟨z0, z1, z2, z3, z4, zf⟩ := (unhide HF1).zero
  obtain ⟨U, hU, u0, u1, u2, u3, u4, hUB, _⟩ := (unhide HF1).put (.int .u16 0) (.int .u16 0) (.string ⟨#[]⟩) (.string ⟨#[]⟩) (.slice none 0 0)
  have HUB := hide hUB
  clear hUB
  go_wp2
  rw [← hU]
  refine bodyPost_ret (v := .tuple #[.agg #[.int .u16 0, .int .u16 0, .string ⟨#[]⟩, .string ⟨#[]⟩, .slice none 0 0], .int .i64 2]) (by simp [results, Try.results39, go_sem, u0, u1, u2, u3, u4]) rfl ?_
  exact ⟨rfl, unhide HUB⟩
set_option maxHeartbeats 4000000 in
set_option maxRecDepth 10000 in
theorem ref_5b (s : ByteArray) (w : World) (y : Int) (L : List (List UInt8)) (rs : ByteArray) (hs : 4 ≤ s.size) (hm : s.size ≤ 16384) (hy : IntKind.u16.wrap y = y) (hO : ∀ u : World, Calls Try.prog 45 #[.string (s.extract 0 2)] u fun ee w' => ee = .returned (.int .i64 5) ∧ w' = u) (hO2 : ∀ u : World, Calls Try.prog 45 #[.string (s.extract 2 4)] u fun ee w' => ee = .returned (.int .i64 y) ∧ w' = u) (hrs : s.extract 4 s.size = rs) (hLN : ∀ u : World, Calls Try.prog 65 #[.string rs] u fun ee w' => ∃ v, ee = .returned (.tuple #[v, .bool true]) ∧ w'.ownsRow u.heap.size 9 1 v L.length (L.map encStr) ∧ Below u.heap.size u w') (hr : ((L.length : Int) != 1) = true) :
    Calls Try.prog 39 #[.string s] w fun ee w' => Bad 2 w ee w' := by
  have HRS := hide hrs
  clear hrs
  have HO := hide hO
  clear hO
  have hlt2 : ¬ (s.size : Int) < 2 := by omega
  have h2le : (2 : Int) ≤ (s.size : Int) := by omega
  have hmx : (s.size : Int) ≤ 9223372036854775807 := by omega
  have hlt4 : ¬ (s.size : Int) < 4 := by omega
  have h4le : (4 : Int) ≤ (s.size : Int) := by omega
  have HO2 := hide hO2
  have HLN := hide hLN
  clear hO2 hLN
  go_enter Try.func39, Try.ntmps39
  go_wp2_with fail
  refine (unhide HO _).mono ?_
  rintro ee u2 ⟨rfl, hu⟩
  rw [hu]
  clear hu u2
  obtain ⟨wc, hwc⟩ : ∃ wc, wc = (w.alloc (.cells #[.int .u16 0, .int .u16 0, .string ⟨#[]⟩, .string ⟨#[]⟩, .slice none 0 0] 67)).alloc (.cells #[.int .u16 5, .int .u16 y, .string ⟨#[]⟩, .string ⟨#[]⟩, .slice none 0 0] 67) := ⟨_, rfl⟩
  have HF : Hid (FrT w (w.heap.size + 1) #[.int .u16 5, .int .u16 y, .string ⟨#[]⟩, .string ⟨#[]⟩, .slice none 0 0] wc) := hide (by
    rw [hwc]
    refine ⟨by omega, by simp, ?_, ?_, ?_⟩
    · rw [Below.heap_alloc _ _ _ (by simp)]; exact heap_alloc_new w _
    · have q := heap_alloc_new (w.alloc (.cells #[.int .u16 0, .int .u16 0, .string ⟨#[]⟩, .string ⟨#[]⟩, .slice none 0 0] 67)) (.cells #[.int .u16 5, .int .u16 y, .string ⟨#[]⟩, .string ⟨#[]⟩, .slice none 0 0] 67)
      rw [show (w.alloc (.cells #[.int .u16 0, .int .u16 0, .string ⟨#[]⟩, .string ⟨#[]⟩, .slice none 0 0] 67)).heap.size = w.heap.size + 1 by simp] at q
      exact q
    · exact ((Below.refl _ w).alloc (Nat.le_refl _) _).alloc (by simp) _)
  have HWC := hide hwc
  have hnb : ¬ w.heap.size = w.heap.size + 1 := by omega
  have hnb2 : ¬ w.heap.size + 1 = w.heap.size := by omega
  clear hwc HO
  go_wp2_with fail
  refine (unhide HO2 _).mono ?_
  rintro ee u2 ⟨rfl, hu⟩
  rw [hu]
  clear hu u2
  go_wp2_with fail
  rw [unhide HRS]
  rw [← unhide HWC]
  clear HWC
  refine (unhide HLN _).mono ?_
  rintro ee w1 ⟨v, rfl, hown, hb1⟩
  obtain ⟨la, lc, rfl, hAS⟩ := atS_own hown
  have HF1 := hide ((unhide HF).later hb1 (Nat.le_refl _))
  have HAS := hide hAS
  clear hown hb1 HLN HF hAS
  obtain ⟨c0, c1, c2, c3, c4, cf⟩ := (unhide HF1).vals
  obtain ⟨z0, z1, z2, z3, z4, zf⟩ := (unhide HF1).zero
  obtain ⟨U, hU, u0, u1, u2, u3, u4, hUB, _⟩ := (unhide HF1).put (.int .u16 0) (.int .u16 0) (.string ⟨#[]⟩) (.string ⟨#[]⟩) (.slice none 0 0)
  have HUB := hide hUB
  clear hUB
  go_wp2
  rw [← hU]
  refine bodyPost_ret (v := .tuple #[.agg #[.int .u16 0, .int .u16 0, .string ⟨#[]⟩, .string ⟨#[]⟩, .slice none 0 0], .int .i64 2]) (by simp [results, Try.results39, go_sem, u0, u1, u2, u3, u4]) rfl ?_
  exact ⟨rfl, unhide HUB⟩
set_option maxHeartbeats 4000000 in
set_option maxRecDepth 10000 in
theorem ref_5g (s : ByteArray) (w : World) (y : Int) (L : List (List UInt8)) (rs : ByteArray) (hs : 4 ≤ s.size) (hm : s.size ≤ 16384) (hy : IntKind.u16.wrap y = y) (hO : ∀ u : World, Calls Try.prog 45 #[.string (s.extract 0 2)] u fun ee w' => ee = .returned (.int .i64 5) ∧ w' = u) (hO2 : ∀ u : World, Calls Try.prog 45 #[.string (s.extract 2 4)] u fun ee w' => ee = .returned (.int .i64 y) ∧ w' = u) (hrs : s.extract 4 s.size = rs) (hLN : ∀ u : World, Calls Try.prog 65 #[.string rs] u fun ee w' => ∃ v, ee = .returned (.tuple #[v, .bool true]) ∧ w'.ownsRow u.heap.size 9 1 v L.length (L.map encStr) ∧ Below u.heap.size u w') (n : List UInt8) (hn0 : L[0]? = some n) (hl0 : 0 < L.length) (hr : ((L.length : Int) != 1) = false) :
    Calls Try.prog 39 #[.string s] w fun ee w' => Good 5 y ⟨n.toArray⟩ ⟨#[]⟩ [] w ee w' := by
  have HRS := hide hrs
  clear hrs
  have HO := hide hO
  clear hO
  have hlt2 : ¬ (s.size : Int) < 2 := by omega
  have h2le : (2 : Int) ≤ (s.size : Int) := by omega
  have hmx : (s.size : Int) ≤ 9223372036854775807 := by omega
  have hlt4 : ¬ (s.size : Int) < 4 := by omega
  have h4le : (4 : Int) ≤ (s.size : Int) := by omega
  have HO2 := hide hO2
  have HLN := hide hLN
  clear hO2 hLN
  go_enter Try.func39, Try.ntmps39
  go_wp2_with fail
  refine (unhide HO _).mono ?_
  rintro ee u2 ⟨rfl, hu⟩
  rw [hu]
  clear hu u2
  obtain ⟨wc, hwc⟩ : ∃ wc, wc = (w.alloc (.cells #[.int .u16 0, .int .u16 0, .string ⟨#[]⟩, .string ⟨#[]⟩, .slice none 0 0] 67)).alloc (.cells #[.int .u16 5, .int .u16 y, .string ⟨#[]⟩, .string ⟨#[]⟩, .slice none 0 0] 67) := ⟨_, rfl⟩
  have HF : Hid (FrT w (w.heap.size + 1) #[.int .u16 5, .int .u16 y, .string ⟨#[]⟩, .string ⟨#[]⟩, .slice none 0 0] wc) := hide (by
    rw [hwc]
    refine ⟨by omega, by simp, ?_, ?_, ?_⟩
    · rw [Below.heap_alloc _ _ _ (by simp)]; exact heap_alloc_new w _
    · have q := heap_alloc_new (w.alloc (.cells #[.int .u16 0, .int .u16 0, .string ⟨#[]⟩, .string ⟨#[]⟩, .slice none 0 0] 67)) (.cells #[.int .u16 5, .int .u16 y, .string ⟨#[]⟩, .string ⟨#[]⟩, .slice none 0 0] 67)
      rw [show (w.alloc (.cells #[.int .u16 0, .int .u16 0, .string ⟨#[]⟩, .string ⟨#[]⟩, .slice none 0 0] 67)).heap.size = w.heap.size + 1 by simp] at q
      exact q
    · exact ((Below.refl _ w).alloc (Nat.le_refl _) _).alloc (by simp) _)
  have HWC := hide hwc
  have hnb : ¬ w.heap.size = w.heap.size + 1 := by omega
  have hnb2 : ¬ w.heap.size + 1 = w.heap.size := by omega
  clear hwc HO
  go_wp2_with fail
  refine (unhide HO2 _).mono ?_
  rintro ee u2 ⟨rfl, hu⟩
  rw [hu]
  clear hu u2
  go_wp2_with fail
  rw [unhide HRS]
  rw [← unhide HWC]
  clear HWC
  refine (unhide HLN _).mono ?_
  rintro ee w1 ⟨v, rfl, hown, hb1⟩
  obtain ⟨g, lc, rfl, hgb, hcp, hAS⟩ := atS_row hown (by omega)
  have hgw : w.heap.size + 1 < g := by have := (unhide HF).2.1; omega
  clear hgb
  have HF1 := hide ((unhide HF).later hb1 (Nat.le_refl _))
  clear hb1 HLN HF
  obtain ⟨c0, c1, c2, c3, c4, cf⟩ := (unhide HF1).vals

  have x0 := hAS 0 n hn0
  have HFX := hide ((unhide HF1).set 2 (.string ⟨n.toArray⟩))
  clear c0 c1 c2 c3 c4 cf hown hAS
  obtain ⟨d0, d1, d2, d3, d4, df⟩ := (unhide HF1).vals
  obtain ⟨z0, z1, z2, z3, z4, zf⟩ := (unhide HFX).zero
  obtain ⟨c0, c1, c2, c3, c4, cf⟩ := (unhide HFX).vals
  obtain ⟨U, hU, u0, u1, u2, u3, u4, hUB, hUC⟩ := (unhide HFX).put (.int .u16 5) (.int .u16 y) (.string ⟨n.toArray⟩) (.string ⟨#[]⟩) (.slice none 0 0)
  have HUB := hide hUB
  have HUC := hide hUC
  clear hUB hUC
  go_wp2
  rw [← hU]
  refine bodyPost_ret (v := .tuple #[.agg #[.int .u16 5, .int .u16 y, .string ⟨n.toArray⟩, .string ⟨#[]⟩, .slice none 0 0], .int .i64 0]) (by simp [results, Try.results39, go_sem, u0, u1, u2, u3, u4]) rfl ?_
  exact ⟨unhide HUB, none, 0, rfl, fun i hi => absurd hi (by simp)⟩
end Go.Proofs.Ytadkcdcdgphhpaa.Tf

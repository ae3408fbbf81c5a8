import Derived.Test.YtadkcdcdgphhpaaTFRead
namespace Go.Proofs.Ytadkcdcdgphhpaa.Tf
open Go.ChangeShapes Go.WideShapes Go.ChangeAt Go.RowKit Bs
open Rd (Rdr errP grown_trans grown_alloc grown_set grown_refl grown_below grown_cells must_ok must_no)
set_option linter.unusedVariables false
set_option linter.unusedSimpArgs false

theorem infoFd : (Try.prog.info? 89).map (fun i => (i.zero, i.size, i.bytes)) = some (some (.agg #[.string ⟨#[]⟩, .string ⟨#[]⟩]), 2, 32) := by kernel_rfl
/-- what a reader's fields answer -/
def FldsPost (l : List UInt8) (B : Nat) (w : World) (e : Ending) (w' : World) : Prop :=
  w.grownBy w' (some B) ∧ match fldsR l with
    | none => e = .panicked (errP 2)
    | some fs => Rdr w' B [] ∧ ∃ v, e = .returned v ∧ w'.ownsRow w.heap.size 89 2 v fs.length (cellsF fs)
theorem own_kept {w w' : World} {B base : Nat} {v : Value} {n : Nat} {xs : List Value} {t : TypeId} {z : Nat} (h : w.ownsRow base t z v n xs) (hg : w.grownBy w' (some B)) (hB : B < base) : w'.ownsRow base t z v n xs :=
  h.kept hg (by
    cases hv : v.ownBlock with
    | none => exact Or.inl rfl
    | some k => refine Or.inr (fun e => ?_); have := (h.lt k hv).1; obtain rfl := Option.some.inj e; omega)
theorem own_slice {w : World} {b e z : Nat} {v : Value} {n : Nat} {xs : List Value} (h : w.ownsRow b e z v n xs) : ∃ ao cp, v = .slice ao n cp := by
  rcases h.2 with ⟨rfl, rfl⟩ | ⟨g, cap, cur, rfl, _⟩
  · exact ⟨_, _, rfl⟩
  · exact ⟨_, _, rfl⟩
theorem ownsRow_below {w w' : World} {base : Nat} {e : TypeId} {size : Nat} {v : Value} {n : Nat} {xs : List Value} (h : w.ownsRow base e size v n xs) (hb : Below w.heap.size w w') : w'.ownsRow base e size v n xs :=
  h.kept (row := none) ⟨hb.os, hb.tape, hb.output, hb.size, fun k hk _ => hb.block k hk⟩ (by cases v.ownBlock <;> simp)
theorem grown_own {w wm w4 : World} {B : Nat} {r : Option Nat} (h : w.grownBy wm (some B)) (hg : wm.grownBy w4 r) (hr : ∀ k, r = some k → w.heap.size ≤ k) : w.grownBy w4 (some B) :=
  ⟨hg.os.trans h.os, hg.tape.trans h.tape, hg.output.trans h.output, Nat.le_trans h.size hg.size, fun i hi hne => (hg.block i (Nat.lt_of_lt_of_le hi h.size) (fun e => by have := hr i e.symm; omega)).trans (h.block i hi hne)⟩
theorem rdr_grown {w w4 : World} {B : Nat} {l : List UInt8} {r : Option Nat} (h : Rdr w B l) (hg : w.grownBy w4 r) (hr : ¬ r = some B) : Rdr w4 B l := by
  unfold Rdr
  rw [hg.block B h.lt (fun e => hr e.symm)]
  exact h
theorem gset (w : World) (a : Addr) (v : Value) : w.grownBy (w.setCell a v) (some a.block) :=
  ⟨rfl, rfl, rfl, by simp [World.setCell], fun k hk hne => by rw [Below.heap_setCell _ _ _ _ (fun e => hne (by rw [e]))]⟩
theorem own_off {v : Value} {g : Nat} (h : ∀ k, v.ownBlock = some k → k < g) : v.ownBlock = none ∨ v.ownBlock ≠ some g := by
  cases hv : v.ownBlock with
  | none => exact Or.inl rfl
  | some k => exact Or.inr (fun e => by have := h k hv; obtain rfl := Option.some.inj e; omega)
theorem set_two0 {w : World} {B : Nat} {a b v : Value} {t : TypeId} (h : w.heap[B]? = some (.cells #[a, b] t (0, 0))) : (w.setCell ⟨B, 0, none⟩ v).heap[B]? = some (.cells #[v, b] t (0, 0)) := by
  rw [setCell_eq_setRow w B 0 _ _ _ _ h, setRow_heap w B _ _ _ _ h]; rfl
theorem set_two1 {w : World} {B : Nat} {a b v : Value} {t : TypeId} (h : w.heap[B]? = some (.cells #[a, b] t (0, 0))) : (w.setCell ⟨B, 1, none⟩ v).heap[B]? = some (.cells #[a, v] t (0, 0)) := by
  rw [setCell_eq_setRow w B 1 _ _ _ _ h, setRow_heap w B _ _ _ _ h]; rfl
theorem atF_own {w : World} {b : Nat} {v : Value} {fs : Flds} (h : w.ownsRow b 89 2 v fs.length (cellsF fs)) : ∃ a cp, v = .slice a fs.length cp ∧ AtF w a fs := by
  have hcl := fun g hg => h.cells (g := g) hg
  rcases h.2 with ⟨e, h0⟩ | ⟨g, cap, cur, e, _⟩
  · exact ⟨none, 0, by rw [e, h0], fun i hi => by omega⟩
  · exact ⟨some ⟨g, 0, none⟩, cap, e, AtF.ofCells (fun j u hj => hcl g (by rw [e]; rfl) j u hj)⟩
/-- the fields that are read so far, and those that are still to be read -/
def stepK (l : List UInt8) (done : Flds) (m : List UInt8) : Prop := fieldsK l = (fieldsK m).map fun r => done ++ r
theorem stepK_next {l m n r v r2 : List UInt8} {done : Flds} (h : stepK l done m) (h0 : m ≠ []) (h1 : cut m = some (n, r)) (h2 : cut r = some (v, r2)) (hn : nameB n = true) (hv : nameB v = true) : stepK l (done ++ [(lowL n, v)]) r2 := by
  unfold stepK at *
  rw [h, fieldsK_next h0 h1 h2 hn hv]
  cases fieldsK r2 <;> simp
theorem stepK_none {l m : List UInt8} {done : Flds} (h : stepK l done m) (h1 : fieldsK m = none) : fldsR l = none := by
  unfold stepK at h
  unfold fldsR
  rw [h, h1]; rfl
theorem stepK_end {l : List UInt8} {done : Flds} (h : stepK l done []) : fldsR l = if apartB (namesF done) then some done else none := by
  unfold stepK at h
  unfold fldsR
  rw [h, fieldsK_nil]
  simp

set_option maxHeartbeats 2000000 in
theorem fieldsR_any (B : Nat) (l : List UInt8) (w : World) (h : Rdr w B l) (hl : l.length ≤ 268435456) :
    Calls Try.prog 134 #[.pointer (some ⟨B, 0, none⟩)] w fun e w' => FldsPost l B w e w' := by
  obtain ⟨i0, hi, hz0, hz1, hz2⟩ := info_parts infoFd
  have HR := hide h
  have hB := h.lt
  clear h
  go_enter Try.func134, Try.ntmps134
  go_wp2
  go_loopg [3] l.length (fun g v3 wr => ∃ (m : List UInt8) (ps : Flds), m.length = g ∧ g ≤ l.length ∧ 2 * ps.length + g ≤ l.length ∧ Hid (Rdr wr B m) ∧ Hid (wr.ownsRow w.heap.size 89 2 v3 ps.length (cellsF ps)) ∧ Hid (stepK l ps m) ∧ Hid (w.grownBy wr (some B)))
  case atStart => exact ⟨l, [], rfl, Nat.le_refl _, by simp, HR, hide (World.ownsRow_nil _ _ _ _), hide (by unfold stepK; simp), hide (grown_refl _ _)⟩
  case round =>
    obtain ⟨m, ps, hm, hg, hps, H1, H2, H3, H4⟩ := hrel
    rename World => wr
    have hc := cell_of_one (unhide H1)
    have hwz := (unhide H4).size
    have hm1 : m.length ≤ gk := by omega
    have hm2 : gk ≤ m.length := by omega
    clear hm
    by_cases h0 : m = []
    · subst h0
      have hie : (⟨([] : List UInt8).toArray⟩ : ByteArray).toList.isEmpty = true := by rw [ByteArray.toList_eq]; rfl
      obtain ⟨a3, c3, hv3, hat⟩ := atF_own (unhide H2)
      subst hv3
      have HD := hide (differ_any a3 c3 ps wr hat (by omega))
      have HE := hide (stepK_end (unhide H3))
      obtain ⟨b, hb⟩ : ∃ b, b = apartB (namesF ps) := ⟨_, rfl⟩
      rw [← hb] at HD HE
      clear hb hat
      go_wp2_with fail
      refine (unhide HD).mono ?_
      rintro e u ⟨rfl, hbu⟩
      have HGu : Hid (w.grownBy u (some B)) := hide (grown_below (unhide H4) hbu)
      have HOu := hide (ownsRow_below (unhide H2) hbu)
      have HRu : Hid (Rdr u B []) := hide ((hbu.block B (unhide H1).lt).trans (unhide H1))
      clear hbu HD
      cases b with
      | true =>
        go_wp2_with fail
        refine (must_ok _ _).mono ?_
        rintro _ w3 ⟨rfl, hu⟩
        obtain rfl := hu.symm
        go_wp2
        go_ret
        refine ⟨unhide HGu, ?_⟩
        rw [unhide HE]
        exact ⟨unhide HRu, _, rfl, unhide HOu⟩
      | false =>
        go_wp2_with fail
        refine (must_no _ _).mono ?_
        rintro _ w3 ⟨rfl, hu⟩
        obtain rfl := hu.symm
        refine ⟨rfl, unhide HGu, ?_⟩
        rw [unhide HE]
        rfl
    · obtain ⟨sm, hsm⟩ : ∃ s : ByteArray, s = ⟨m.toArray⟩ := ⟨_, rfl⟩
      rw [← hsm] at hc
      have hie : sm.toList.isEmpty = false := by
        rw [ByteArray.toList_eq, hsm]
        show m.isEmpty = false
        cases m with
        | nil => exact absurd rfl h0
        | cons => rfl
      obtain ⟨W, hWW⟩ : ∃ W, W = wr.alloc (.cells #[.string ⟨#[]⟩, .string ⟨#[]⟩] 89) := ⟨_, rfl⟩
      have R0 : Hid (Rdr W B m) := hide (by rw [hWW]; exact (unhide H1).alloc _)
      have G0 : Hid (w.grownBy W (some B)) := hide (by rw [hWW]; exact grown_alloc (unhide H4) _)
      have O0 : Hid (W.ownsRow w.heap.size 89 2 _ ps.length (cellsF ps)) := hide (by rw [hWW]; exact (unhide H2).alloc _)
      have X0 : Hid (W.heap[wr.heap.size]? = some (.cells #[.string ⟨#[]⟩, .string ⟨#[]⟩] 89 (0, 0))) := hide (by rw [hWW]; exact heap_alloc_new wr _)
      have hne : wr.heap.size ≠ B := by have := (unhide H1).lt; omega
      have HWW := hide hWW
      have hml : m.length ≤ 268435456 := by omega
      have H0 := hide h0
      clear hWW hsm
      cases hcm : cut m with
      | none =>
        have HN := hide (stepK_none (unhide H3) (fieldsK_none1 h0 hcm))
        have HG := hide (getName_none B m W (unhide R0) hcm)
        clear hcm
        go_wp2_with fail
        rw [← unhide HWW]
        refine (unhide HG).mono ?_
        rintro e u ⟨rfl, gu⟩
        refine ⟨rfl, grown_trans (unhide G0) gu, ?_⟩
        rw [unhide HN]
      | some p =>
        obtain ⟨n, r⟩ := p
        have hl1 := cut_len hcm
        have HL1 := hide hl1
        have hl2 : n.length + 1 + r.length ≤ m.length := by omega
        clear hl1
        by_cases hn : nameB n = true
        rotate_left
        · have hn' : nameB n = false := by simpa using hn
          have HN := hide (stepK_none (unhide H3) (fieldsK_badn h0 hcm hn'))
          have HG := hide (getName_bad B m n r W (unhide R0) hml hcm hn')
          clear hcm hn hn'
          go_wp2_with fail
          rw [← unhide HWW]
          refine (unhide HG).mono ?_
          rintro e u ⟨rfl, gu⟩
          refine ⟨rfl, grown_trans (unhide G0) gu, ?_⟩
          rw [unhide HN]
        · have HG := hide (getName_ok B m n r W (unhide R0) hml hcm hn)
          have HSM := hide (fun u => small_any ⟨n.toArray⟩ n u rfl (by omega))
          go_wp2_with fail
          rw [← unhide HWW]
          refine (unhide HG).mono ?_
          rintro e w1 ⟨rfl, r1, g1⟩
          have R1 := hide r1
          have G1 := hide (grown_trans (unhide G0) g1)
          have O1 := hide (own_kept (unhide O0) g1 hB)
          have X1 : Hid (w1.heap[wr.heap.size]? = some (.cells #[.string ⟨#[]⟩, .string ⟨#[]⟩] 89 (0, 0))) := hide ((g1.block wr.heap.size (lt_of_block (unhide X0)) (by simpa using hne)).trans (unhide X0))
          clear r1 g1 R0 G0 O0 X0 HG HWW hc
          go_wp2_with fail
          refine (unhide HSM _).mono ?_
          rintro e w2 ⟨rfl, hb2⟩
          have R2 : Hid (Rdr w2 B r) := hide ((hb2.block B (unhide R1).lt).trans (unhide R1))
          have G2 := hide (grown_below (unhide G1) hb2)
          have O2 := hide (ownsRow_below (unhide O1) hb2)
          have X2 : Hid (w2.heap[wr.heap.size]? = some (.cells #[.string ⟨#[]⟩, .string ⟨#[]⟩] 89 (0, 0))) := hide ((hb2.block _ (lt_of_block (unhide X1))).trans (unhide X1))
          have x0 : w2.cell? ⟨wr.heap.size, 0, none⟩ = some (.string ⟨#[]⟩) := cell_of_row w2 wr.heap.size 0 _ _ _ (unhide X2)
          have x0f : w2.frozen? ⟨wr.heap.size, 0, none⟩ = false := by simp [World.frozen?, unhide X2]
          obtain ⟨ln, hln⟩ : ∃ s : ByteArray, s = ⟨(lowL n).toArray⟩ := ⟨_, rfl⟩
          rw [← hln]
          have HLN := hide hln
          clear hln
          obtain ⟨W2, hW2⟩ : ∃ W2, W2 = w2.setCell ⟨wr.heap.size, 0, none⟩ (.string ln) := ⟨_, rfl⟩
          have hwl : w.heap.size ≤ wr.heap.size := hwz
          have HV3 : Hid (∀ k, Value.ownBlock _ = some k → k < wr.heap.size) := hide (fun k hk => ((unhide H2).lt k hk).2)
          have R3 : Hid (Rdr W2 B r) := hide (by rw [hW2]; exact rdr_grown (unhide R2) (gset _ _ _) (by simpa using hne))
          have G3 : Hid (w.grownBy W2 (some B)) := hide (by rw [hW2]; exact grown_own (unhide G2) (gset _ _ _) (fun k hk => by obtain rfl := Option.some.inj hk; exact hwl))
          have O3 := hide ((unhide O2).kept (gset w2 ⟨wr.heap.size, 0, none⟩ (.string ln)) (own_off (unhide HV3)))
          rw [← hW2] at O3
          have X3 : Hid (W2.heap[wr.heap.size]? = some (.cells #[.string ln, .string ⟨#[]⟩] 89 (0, 0))) := hide (by rw [hW2]; exact set_two0 (unhide X2))
          have HW2 := hide hW2
          have hrl : r.length ≤ 268435456 := by omega
          clear hW2 hb2 R1 G1 O1 X1 HSM R2 G2 O2
          cases hcr : cut r with
          | none =>
            have HN := hide (stepK_none (unhide H3) (fieldsK_none2 (unhide H0) hcm hcr))
            have HG := hide (getName_none B r W2 (unhide R3) hcr)
            clear hcr hcm hn
            go_wp2_with fail
            rw [← unhide HW2]
            refine (unhide HG).mono ?_
            rintro e u ⟨rfl, gu⟩
            refine ⟨rfl, grown_trans (unhide G3) gu, ?_⟩
            rw [unhide HN]
          | some p2 =>
            obtain ⟨v, r2⟩ := p2
            have hl3 : v.length + 1 + r2.length ≤ r.length := by have := cut_len hcr; omega
            by_cases hv : nameB v = true
            rotate_left
            · have hv' : nameB v = false := by simpa using hv
              have HN := hide (stepK_none (unhide H3) (fieldsK_badv (unhide H0) hcm hcr hv'))
              have HG := hide (getName_bad B r v r2 W2 (unhide R3) hrl hcr hv')
              clear hcr hcm hn hv hv'
              go_wp2_with fail
              rw [← unhide HW2]
              refine (unhide HG).mono ?_
              rintro e u ⟨rfl, gu⟩
              refine ⟨rfl, grown_trans (unhide G3) gu, ?_⟩
              rw [unhide HN]
            · have HG := hide (getName_ok B r v r2 W2 (unhide R3) hrl hcr hv)
              have HST := hide (stepK_next (unhide H3) (unhide H0) hcm hcr hn hv)
              clear hcr hcm hn hv
              go_wp2_with fail
              rw [← unhide HW2]
              refine (unhide HG).mono ?_
              rintro e w4 ⟨rfl, r4, g4⟩
              have R4 := hide r4
              have G4 := hide (grown_trans (unhide G3) g4)
              have O4 := hide (own_kept (unhide O3) g4 hB)
              have X4 : Hid (w4.heap[wr.heap.size]? = some (.cells #[.string ln, .string ⟨#[]⟩] 89 (0, 0))) := hide ((g4.block wr.heap.size (lt_of_block (unhide X3)) (by simpa using hne)).trans (unhide X3))
              obtain ⟨vs, hvs⟩ : ∃ s : ByteArray, s = ⟨v.toArray⟩ := ⟨_, rfl⟩
              rw [← hvs]
              have x1 : w4.cell? ⟨wr.heap.size, 1, none⟩ = some (.string ⟨#[]⟩) := cell_of_row w4 wr.heap.size 1 _ _ _ (unhide X4)
              have x1f : w4.frozen? ⟨wr.heap.size, 1, none⟩ = false := by simp [World.frozen?, unhide X4]
              obtain ⟨W5, hW5⟩ : ∃ W5, W5 = w4.setCell ⟨wr.heap.size, 1, none⟩ (.string vs) := ⟨_, rfl⟩
              have R5 : Hid (Rdr W5 B r2) := hide (by rw [hW5]; exact rdr_grown (unhide R4) (gset _ _ _) (by simpa using hne))
              have G5 : Hid (w.grownBy W5 (some B)) := hide (by rw [hW5]; exact grown_own (unhide G4) (gset _ _ _) (fun k hk => by obtain rfl := Option.some.inj hk; exact hwl))
              have O5 := hide ((unhide O4).kept (gset w4 ⟨wr.heap.size, 1, none⟩ (.string vs)) (own_off (unhide HV3)))
              rw [← hW5] at O5
              have X5 : Hid (W5.heap[wr.heap.size]? = some (.cells #[.string ln, .string vs] 89 (0, 0))) := hide (by rw [hW5]; exact set_two1 (unhide X4))
              have y0 : (w4.setCell ⟨wr.heap.size, 1, none⟩ (.string vs)).cell? ⟨wr.heap.size, 0, none⟩ = some (.string ln) := by rw [← hW5]; exact cell_of_row W5 wr.heap.size 0 _ _ _ (unhide X5)
              have y1 : (w4.setCell ⟨wr.heap.size, 1, none⟩ (.string vs)).cell? ⟨wr.heap.size, 1, none⟩ = some (.string vs) := by rw [← hW5]; exact cell_of_row W5 wr.heap.size 1 _ _ _ (unhide X5)
              have HW5 := hide hW5
              have HZ45 : Hid (W5.heap.size = w4.heap.size) := hide (by rw [hW5]; simp)
              have hz5 : w.heap.size ≤ W5.heap.size := (unhide G5).size
              have HFE : Hid ([.string ln, .string vs] = cellsF [(lowL n, v)]) := hide (by rw [unhide HLN, hvs]; rfl)
              clear r4 g4 HG R3 G3 O3 X3 HW2 R4 G4 O4 X4 hW5 hvs
              go_wp2_with (at_builtin; rw [← unhide HW5]; refine wpList_append_own _ rfl (.tmp 17) (.tmp 19) 159 rfl w.heap.size 89 i0 (.agg #[.string ⟨#[]⟩, .string ⟨#[]⟩]) 2 32 Try.underlying159 hi hz0 hz1 hz2 rfl (by decide) _ ps.length (cellsF ps) rfl ((unhide O5).alloc _) ⟨W5.heap.size, 0, none⟩ 1 1 [.string ln, .string vs] ?ad rfl ?c1 ?one ?h63 ?hby ?hba ?_)
              case ad => rw [unhide HZ45]; rfl
              case c1 => exact cell_new W5 [.string ln, .string vs] 89
              case one => intro u hu; simp at hu; rcases hu with rfl | rfl <;> rfl
              case h63 => simp only [maxLen]; omega
              case hby => omega
              case hba => simp; omega
              intro v' w6 hown hg6 _
              have hnew : ∀ k, Value.ownBlock _ = some k → w.heap.size ≤ k := fun k hk => ((unhide O5).lt k hk).1
              have hG6 := grown_own (grown_alloc (unhide G5) (.cells #[.string ln, .string vs] 89)) hg6 hnew
              have hR6 : Rdr w6 B r2 := rdr_grown ((unhide R5).alloc _) hg6 (fun e => by have := hnew B e; omega)
              have hO6 : w6.ownsRow w.heap.size 89 2 v' (ps ++ [(lowL n, v)]).length (cellsF (ps ++ [(lowL n, v)])) := by
                rw [List.length_append, cellsF_append, ← unhide HFE]
                exact hown
              obtain ⟨ao, cp, hv6⟩ := own_slice hO6
              have G6 := hide hG6
              have R6 := hide hR6
              have O6 := hide hO6
              clear hown hg6 hnew hG6 hR6 hO6 R5 G5 O5 X5 x0 x0f x1 x1f y0 y1
              subst hv6
              go_wp2
              go_roundg r2.length
              case rel => exact ⟨r2, ps ++ [(lowL n, v)], rfl, by omega, by rw [List.length_append]; simp; omega, R6, O6, HST, G6⟩
              case measure => omega
end Go.Proofs.Ytadkcdcdgphhpaa.Tf

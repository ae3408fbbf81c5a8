import Derived.Test.YtadkcdcdgphhpaaDHSame
import Derived.Test.YtadkcdcdgphhpaaDHPieces
import Derived.Test.YtadkcdcdgphhpaaReaderLen
namespace Go.Proofs.Ytadkcdcdgphhpaa.Dh
open Go.ChangeShapes Go.WideShapes Go.ChangeAt Go.RowKit Bs
open Rd (Rdr errP grown_trans grown_alloc grown_set grown_refl take_no take_ok byte_ok)
set_option linter.unusedVariables false
set_option linter.unusedSimpArgs false

theorem byte_no (B : Nat) (w : World) (h : Rdr w B []) :
    Calls Try.prog 120 #[.pointer (some ⟨B, 0, none⟩)] w fun e w' => e = .panicked (errP 1) ∧ w' = w := by
  have HN := hide (take_no B [] 1 w h (by simp))
  clear h
  go_enter Try.func120, Try.ntmps120
  go_wp2_with fail
  refine (unhide HN).mono ?_
  rintro e w1 ⟨rfl, rfl⟩
  exact ⟨rfl, rfl, rfl⟩
theorem infoOpt : (Try.prog.info? 87).map (fun i => (i.zero, i.size, i.bytes)) = some (some (.agg #[.int .u8 0, .string ⟨#[]⟩]), 2, 24) := by kernel_rfl

/-- what a reader's options answer -/
def OptsPost (l : List UInt8) (B : Nat) (w : World) (e : Ending) (w' : World) : Prop :=
  w.grownBy w' (some B) ∧ match pieces l with
    | none => e = .panicked (errP 1)
    | some ps => ∃ v, e = .returned v ∧ w'.ownsRow w.heap.size 87 2 v ps.length (cellsO ps)

theorem own_kept {w w' : World} {B base : Nat} {v : Value} {n : Nat} {xs : List Value} {t : TypeId} {z : Nat} (h : w.ownsRow base t z v n xs) (hg : w.grownBy w' (some B)) (hB : B < base) : w'.ownsRow base t z v n xs :=
  h.kept hg (by
    cases hv : v.ownBlock with
    | none => exact Or.inl rfl
    | some k => refine Or.inr (fun e => ?_); have := (h.lt k hv).1; obtain rfl := Option.some.inj e; omega)
theorem own_slice {w : World} {b e z : Nat} {v : Value} {n : Nat} {xs : List Value} (h : w.ownsRow b e z v n xs) : ∃ ao cp, v = .slice ao n cp := by
  rcases h.2 with ⟨rfl, rfl⟩ | ⟨g, cap, cur, rfl, _⟩
  · exact ⟨_, _, rfl⟩
  · exact ⟨_, _, rfl⟩

theorem grown_own {w wm w4 : World} {B : Nat} {r : Option Nat} (h : w.grownBy wm (some B)) (hg : wm.grownBy w4 r) (hr : ∀ k, r = some k → w.heap.size ≤ k) : w.grownBy w4 (some B) :=
  ⟨hg.os.trans h.os, hg.tape.trans h.tape, hg.output.trans h.output, Nat.le_trans h.size hg.size, fun i hi hne => (hg.block i (Nat.lt_of_lt_of_le hi h.size) (fun e => by have := hr i e.symm; omega)).trans (h.block i hi hne)⟩
theorem rdr_grown {w w4 : World} {B : Nat} {l : List UInt8} {r : Option Nat} (h : Rdr w B l) (hg : w.grownBy w4 r) (hr : ¬ r = some B) : Rdr w4 B l := by
  unfold Rdr
  rw [hg.block B h.lt (fun e => hr e.symm)]
  exact h
theorem pieces_step (l z : List UInt8) (c n : UInt8) (ps : List Pc) (h : pieces l = (pieces (c :: n :: z)).map fun r => ps ++ r) (e1 : ¬ c.toNat = 255) (e2 : ¬ c.toNat = 0) (e3 : ¬ z.length < n.toNat) :
    pieces l = (pieces (z.drop n.toNat)).map fun x => (ps ++ [(c, z.take n.toNat)]) ++ x := by
  refine h.trans ((congrArg _ (pieces_more c n z e1 e2 e3)).trans ?_)
  generalize pieces (z.drop n.toNat) = o
  cases o with
  | none => rfl
  | some x => simp

set_option maxHeartbeats 2000000 in
theorem opts_any (B : Nat) (l : List UInt8) (w : World) (h : Rdr w B l) (hl : l.length ≤ 268435456) :
    Calls Try.prog 140 #[.pointer (some ⟨B, 0, none⟩)] w fun e w' => OptsPost l B w e w' := by
  obtain ⟨i0, hi, hz0, hz1, hz2⟩ := info_parts infoOpt
  have HR := hide h
  have hB := h.lt
  clear h
  go_enter Try.func140, Try.ntmps140
  go_wp2
  go_loopg [3] l.length (fun g v3 wr => ∃ (m : List UInt8) (ps : List Pc), m.length = g ∧ g ≤ l.length ∧ 2 * ps.length + g ≤ l.length ∧ Hid (Rdr wr B m) ∧ Hid (wr.ownsRow w.heap.size 87 2 v3 ps.length (cellsO ps)) ∧ Hid (pieces l = (pieces m).map fun r => ps ++ r) ∧ Hid (w.grownBy wr (some B)))
  case atStart => exact ⟨l, [], rfl, Nat.le_refl _, by simp, HR, hide (World.ownsRow_nil _ _ _ _), hide (by simp), hide (grown_refl _ _)⟩
  case round =>
    obtain ⟨m, ps, hm, hg, hps, H1, H2, H3, H4⟩ := hrel
    rename World => wr
    match m, hm with
    | [], hm =>
      go_wp2_with fail
      refine (byte_no B _ (unhide H1)).mono ?_
      rintro e w1 ⟨rfl, rfl⟩
      refine ⟨rfl, unhide H4, ?_⟩
      rw [unhide H3, pieces_nil]
      rfl
    | c :: r, hm =>
      have hc8 := c.toNat_lt
      have hrl : r.length + 1 = gk := by simpa using hm
      go_wp2_with fail
      refine (byte_ok B c r _ (unhide H1) (by simp only [List.length_cons, maxLen]; omega)).mono ?_
      rintro e w1 ⟨rfl, r1, g1⟩
      have R1 := hide r1
      have G1 := hide (grown_trans (unhide H4) g1)
      have O1 := hide (own_kept (unhide H2) g1 hB)
      clear r1 g1 H1 H2 H4 hm
      by_cases e255 : c.toNat = 255
      · have q : (((c.toNat : Nat) : Int) == 255) = true := by simp [e255]
        have HP : Hid (pieces l = some ps) := hide (by rw [unhide H3, pieces_end c r e255]; simp)
        obtain ⟨ao, cp, hv⟩ := own_slice (unhide O1)
        clear H3
        subst hv
        go_wp2
        go_ret
        refine ⟨unhide G1, ?_⟩
        rw [unhide HP]
        exact ⟨_, rfl, unhide O1⟩
      · have q : (((c.toNat : Nat) : Int) == 255) = false := by simp; omega
        by_cases e0 : c.toNat = 0
        · have q0 : (((c.toNat : Nat) : Int) == 0) = true := by simp [e0]
          have HP : Hid (pieces l = (pieces r).map fun x => ps ++ x) := hide (by rw [unhide H3, pieces_none c r e0])
          clear H3 e255 e0
          go_wp2
          go_roundg (gk - 1)
          case rel => exact ⟨r, ps, by omega, by omega, by omega, R1, O1, HP, G1⟩
          case measure => omega
        · have q0 : (((c.toNat : Nat) : Int) == 0) = false := by simp; omega
          match r, hrl with
          | [], hrl =>
            have HP : Hid (pieces l = none) := hide (by rw [unhide H3, pieces_lone c e255 e0]; rfl)
            clear H3 e255 e0
            go_wp2_with fail
            refine (byte_no B _ (unhide R1)).mono ?_
            rintro e w2 ⟨rfl, rfl⟩
            refine ⟨rfl, unhide G1, ?_⟩
            rw [unhide HP]
          | n :: z, hrl =>
            have hn8 := n.toNat_lt
            have hzl : z.length + 2 = gk := by simpa using hrl
            go_wp2_with fail
            refine (byte_ok B n z _ (unhide R1) (by simp only [List.length_cons, maxLen]; omega)).mono ?_
            rintro e w2 ⟨rfl, r2, g2⟩
            have R2 := hide r2
            have G2 := hide (grown_trans (unhide G1) g2)
            have O2 := hide (own_kept (unhide O1) g2 hB)
            clear r2 g2 R1 G1 O1 hrl
            by_cases hfew : z.length < n.toNat
            · have HP : Hid (pieces l = none) := hide (by rw [unhide H3, pieces_few c n z e255 e0 hfew]; rfl)
              clear H3 e255 e0
              go_wp2_with fail
              refine (take_no B z (n.toNat : Int) _ (unhide R2) (by omega)).mono ?_
              rintro e w3 ⟨rfl, rfl⟩
              refine ⟨rfl, unhide G2, ?_⟩
              rw [unhide HP]
            · have HP : Hid (pieces l = (pieces (z.drop n.toNat)).map fun x => (ps ++ [(c, z.take n.toNat)]) ++ x) := hide (pieces_step l z c n ps (unhide H3) e255 e0 hfew)
              clear H3 e255 e0
              have hw2 : w.heap.size ≤ w2.heap.size := (unhide G2).size
              have hpz : ps.length ≤ 268435456 := by omega
              have OW := hide (ownsRow_setCell_below (a := ⟨B, 0, none⟩) (unhide O2) hB (.string ⟨(z.drop n.toNat).toArray⟩))
              go_wp2_with (first | (go_at_call 126; refine (take_ok B z n.toNat _ (unhide R2) (by omega) (by simp only [maxLen]; omega)).mono ?_; rintro e w3 ⟨rfl, rfl⟩) | (at_builtin; refine wpList_append_own _ rfl (.tmp 16) (.tmp 22) 127 rfl w.heap.size 87 i0 (.agg #[.int .u8 0, .string ⟨#[]⟩]) 2 24 Try.underlying127 hi hz0 hz1 hz2 rfl (by decide) _ ps.length (cellsO ps) rfl ((unhide OW).alloc _) ⟨w2.heap.size, 0, none⟩ 1 1 [.int .u8 c.toNat, .string ⟨(z.take n.toNat).toArray⟩] rfl rfl ?c1 ?one ?h63 ?hby ?hba ?_))
              case c1 =>
                have q := cell_new (w2.setCell ⟨B, 0, none⟩ (.string ⟨(z.drop n.toNat).toArray⟩)) [.int .u8 c.toNat, .string ⟨(z.take n.toNat).toArray⟩] 87
                simpa using q
              case one => intro u hu; simp at hu; rcases hu with rfl | rfl <;> rfl
              case h63 => simp only [maxLen]; omega
              case hby => omega
              case hba => simp; omega
              · intro v' w4 hown hg4 _
                have hnew : ∀ k, Value.ownBlock _ = some k → w.heap.size ≤ k := fun k hk => ((unhide O2).lt k hk).1
                have hG4 := grown_own (grown_alloc (grown_trans (unhide G2) (grown_set (.string ⟨(z.drop n.toNat).toArray⟩))) (.cells #[.int .u8 c.toNat, .string ⟨(z.take n.toNat).toArray⟩] 87)) hg4 hnew
                have hR4 : Rdr w4 B (z.drop n.toNat) := rdr_grown (((unhide R2).set (z.drop n.toNat)).alloc _) hg4 (fun e => by have := hnew B e; omega)
                have R4 := hide hR4
                have G4 := hide hG4
                have hO4 : w4.ownsRow w.heap.size 87 2 v' (ps ++ [(c, z.take n.toNat)]).length (cellsO (ps ++ [(c, z.take n.toNat)])) := by
                  rw [List.length_append, cellsO_append]; exact hown
                have O4 := hide hO4
                clear hown hg4 hnew hG4 hR4 hO4 OW O2 R2 G2
                go_wp2
                go_roundg (z.drop n.toNat).length
                case rel => exact ⟨z.drop n.toNat, ps ++ [(c, z.take n.toNat)], rfl, by rw [List.length_drop]; omega, by simp only [List.length_append, List.length_cons, List.length_nil, List.length_drop]; omega, R4, O4, HP, G4⟩
                case measure => rw [List.length_drop]; omega
end Go.Proofs.Ytadkcdcdgphhpaa.Dh

import Derived.Test.YtoifihhmneldeaaGreatDoorMgDa
import Derived.Test.YtoifihhmneldeaaGreatDoorReaderLen
import Derived.Laws.AppendOwnNone
namespace Go.Proofs.YtoifihhmneldeaaGreatDoor.Dh
set_option linter.unusedVariables false

/-- the pieces that bytes are, up to their end; none: there is no end -/
def pieces (l : List UInt8) : Option (List Pc) :=
  match l with
  | [] => none
  | c :: r =>
    if c.toNat = 255 then some []
    else if c.toNat = 0 then pieces r
    else match r with
      | [] => none
      | n :: q => if q.length < n.toNat then none else (pieces (q.drop n.toNat)).map fun ps => (c, q.take n.toNat) :: ps
termination_by l.length
decreasing_by all_goals (simp; try omega)

theorem pieces_nil : pieces [] = none := by rw [pieces]
theorem pieces_end (c : UInt8) (r : List UInt8) (h : c.toNat = 255) : pieces (c :: r) = some [] := by rw [pieces.eq_def]; exact if_pos h
theorem pieces_none (c : UInt8) (r : List UInt8) (h : c.toNat = 0) : pieces (c :: r) = pieces r := by rw [pieces.eq_def]; exact (if_neg (by omega)).trans (if_pos h)
theorem pieces_lone (c : UInt8) (h : ¬ c.toNat = 255) (h0 : ¬ c.toNat = 0) : pieces [c] = none := by rw [pieces, if_neg h, if_neg h0]
theorem pieces_few (c n : UInt8) (q : List UInt8) (h : ¬ c.toNat = 255) (h0 : ¬ c.toNat = 0) (hq : q.length < n.toNat) : pieces (c :: n :: q) = none := by rw [pieces, if_neg h, if_neg h0]; exact if_pos hq
theorem pieces_more (c n : UInt8) (q : List UInt8) (h : ¬ c.toNat = 255) (h0 : ¬ c.toNat = 0) (hq : ¬ q.length < n.toNat) : pieces (c :: n :: q) = (pieces (q.drop n.toNat)).map fun ps => (c, q.take n.toNat) :: ps := by
  rw [pieces, if_neg h, if_neg h0]; exact if_neg hq

/-- one piece more: behind the data of its code, or at the end -/
def add (l : List Pc) (p : Pc) : List Pc :=
  match l with
  | [] => [p]
  | a :: r => if a.1 = p.1 then (a.1, a.2 ++ p.2) :: r else a :: add r p
def addAll (l : List Pc) (ps : List Pc) : List Pc := ps.foldl add l
def has (l : List Pc) (c : UInt8) : Bool := l.any fun p => p.1 == c
/-- the data of all pieces of a code -/
def data (l : List Pc) (c : UInt8) : List UInt8 := (l.filter fun p => p.1 == c).flatMap fun p => p.2
def drop (l : List Pc) (c : UInt8) : List Pc := l.filter fun p => p.1 != c

theorem has_add (l : List Pc) (p : Pc) (c : UInt8) : has (add l p) c = (has l c || p.1 == c) := by
  induction l with
  | nil => simp [add, has]
  | cons a r ih =>
    simp only [add]
    split
    · rename_i h
      simp only [has, List.any_cons] at ih ⊢
      rw [h]
      cases (p.1 == c) <;> simp
    · simp only [has, List.any_cons] at ih ⊢
      rw [ih, Bool.or_assoc]
theorem has_addAll (l ps : List Pc) (c : UInt8) : has (addAll l ps) c = (has l c || has ps c) := by
  induction ps generalizing l with
  | nil => simp [addAll, has]
  | cons p r ih =>
    show has (addAll (add l p) r) c = _
    rw [ih, has_add]
    simp only [has, List.any_cons, Bool.or_assoc]
/-- the data of a code: of the first of it -/
def look (l : List Pc) (c : UInt8) : Option (List UInt8) :=
  match l with
  | [] => none
  | a :: r => if a.1 = c then some a.2 else look r c
theorem look_add (l : List Pc) (p : Pc) (c : UInt8) : look (add l p) c = if p.1 = c then some ((look l c).getD [] ++ p.2) else look l c := by
  induction l with
  | nil => simp only [add, look]; split <;> simp
  | cons a r ih =>
    simp only [add]
    by_cases h : a.1 = p.1
    · rw [if_pos h]
      simp only [look]
      by_cases hc : p.1 = c
      · rw [if_pos (h.trans hc), if_pos hc, if_pos (h.trans hc)]; rfl
      · rw [if_neg (fun e => hc (h.symm.trans e)), if_neg hc, if_neg (fun e => hc (h.symm.trans e))]
    · rw [if_neg h]
      simp only [look]
      by_cases ha : a.1 = c
      · rw [if_pos ha, if_pos ha, if_neg (fun e => h (ha.trans e.symm))]
      · rw [if_neg ha, if_neg ha, ih]
theorem data_cons (p : Pc) (r : List Pc) (c : UInt8) : data (p :: r) c = (if p.1 = c then p.2 else []) ++ data r c := by
  simp only [data, List.filter_cons]
  by_cases h : p.1 = c
  · rw [if_pos h, if_pos (by simpa using h), List.flatMap_cons]
  · rw [if_neg h, if_neg (by simpa using h), List.nil_append]
theorem has_cons (p : Pc) (r : List Pc) (c : UInt8) : has (p :: r) c = (p.1 == c || has r c) := rfl
theorem data_no (l : List Pc) (c : UInt8) (h : has l c = false) : data l c = [] := by
  induction l with
  | nil => rfl
  | cons p r ih =>
    rw [has_cons, Bool.or_eq_false_iff] at h
    rw [data_cons, if_neg (by simpa using h.1), ih h.2]; rfl
theorem look_addAll (l ps : List Pc) (c : UInt8) : look (addAll l ps) c = if has ps c then some ((look l c).getD [] ++ data ps c) else look l c := by
  induction ps generalizing l with
  | nil => rfl
  | cons p r ih =>
    show look (addAll (add l p) r) c = _
    rw [ih, look_add, has_cons, data_cons]
    by_cases h : p.1 = c
    · have h' : (p.1 == c) = true := by simpa using h
      rw [if_pos h, if_pos h, h', Bool.true_or, if_pos rfl]
      cases hr : has r c
      · simp [data_no r c hr]
      · simp
    · have h' : (p.1 == c) = false := by simpa using h
      rw [if_neg h, if_neg h, h', Bool.false_or, List.nil_append]
theorem drop_add (l : List Pc) (p : Pc) (c : UInt8) : drop (add l p) c = if p.1 = c then drop l c else add (drop l c) p := by
  induction l with
  | nil => simp only [add, drop, List.filter_cons, List.filter_nil]; by_cases h : p.1 = c <;> simp [h]
  | cons a r ih =>
    simp only [add]
    by_cases h : a.1 = p.1
    · rw [if_pos h]
      by_cases hc : p.1 = c
      · rw [if_pos hc]
        have hac : a.1 = c := h.trans hc
        simp only [drop, List.filter_cons, hac, bne_self_eq_false, Bool.false_eq_true, if_false]
      · rw [if_neg hc]
        have hac : ¬ a.1 = c := fun e => hc (h.symm.trans e)
        have hb : (a.1 != c) = true := by simpa using hac
        simp only [drop, List.filter_cons, hb, if_true, add, if_pos h]
    · rw [if_neg h]
      by_cases hac : a.1 = c
      · have hb : (a.1 != c) = false := by simpa using hac
        have hc : ¬ p.1 = c := fun e => h (hac.trans e.symm)
        rw [if_neg hc] at ih ⊢
        simp only [drop, List.filter_cons, hb] at ih ⊢
        exact ih
      · have hb : (a.1 != c) = true := by simpa using hac
        simp only [drop, List.filter_cons, hb, if_true] at ih ⊢
        rw [ih]
        by_cases hc : p.1 = c
        · rw [if_pos hc, if_pos hc]
        · rw [if_neg hc, if_neg hc]
          simp only [add, if_neg h]
theorem drop_addAll (l ps : List Pc) (c : UInt8) : drop (addAll l ps) c = addAll (drop l c) (drop ps c) := by
  induction ps generalizing l with
  | nil => rfl
  | cons p r ih =>
    show drop (addAll (add l p) r) c = _
    rw [ih, drop_add]
    by_cases h : p.1 = c
    · have hb : (p.1 != c) = false := by simpa using h
      rw [if_pos h]
      simp only [drop, List.filter_cons, hb]; rfl
    · have hb : (p.1 != c) = true := by simpa using h
      rw [if_neg h]
      simp only [drop, List.filter_cons, hb, if_true]; rfl
theorem drop_no (l : List Pc) (c : UInt8) (h : has l c = false) : drop l c = l := by
  simp only [drop, List.filter_eq_self]
  intro p hp
  simp only [has, List.any_eq_false] at h
  have := h p hp
  simpa using this
theorem addAll_append (l a b : List Pc) : addAll l (a ++ b) = addAll (addAll l a) b := by simp [addAll]
theorem look_has (l : List Pc) (c : UInt8) : (look l c).isSome = has l c := by
  induction l with
  | nil => rfl
  | cons a r ih =>
    rw [has_cons, look]
    by_cases h : a.1 = c
    · rw [if_pos h]; simp [h]
    · rw [if_neg h, ih]; simp [h]

/-- which error it is, of options and of the two areas -/
def areaD (d : List UInt8) : Bool := match d with | [x] => decide (1 ≤ x.toNat) && decide (x.toNat ≤ 3) | _ => false
def inF (d : List UInt8) : Bool := match d with | [x] => x.toNat % 2 == 1 | _ => false
def inH (d : List UInt8) : Bool := match d with | [x] => decide (2 ≤ x.toNat) | _ => false
/-- the pieces of the areas -/
def moreP (f h : Bool) (file host : List UInt8) : Option (List Pc) :=
  (if f then pieces file else some []).bind fun a => (if h then pieces host else some []).bind fun b => some (a ++ b)
def optK (main host file : List UInt8) : Nat :=
  match pieces main with
  | none => 1
  | some ps => if has ps 52 then (if areaD (data ps 52) then (match moreP (inF (data ps 52)) (inH (data ps 52)) file host with | none => 1 | some m => if has m 52 then 2 else 0) else 2) else 0
def optL (main host file : List UInt8) : List Pc :=
  match pieces main with
  | none => []
  | some ps => if has ps 52 then (match moreP (inF (data ps 52)) (inH (data ps 52)) file host with | none => [] | some m => addAll [] (drop ps 52 ++ m)) else addAll [] ps
end Go.Proofs.YtoifihhmneldeaaGreatDoor.Dh

namespace Go.Proofs.YtoifihhmneldeaaGreatDoor.Dh
open Go.ChangeShapes Go.WideShapes Go.ChangeAt Go.RowKit Bs
open Rd (Rdr errP grown_trans grown_alloc grown_set grown_refl take_no take_ok byte_ok)
set_option linter.unusedVariables false
set_option linter.unusedSimpArgs false

theorem byte_no (B : Nat) (w : World) (h : Rdr w B []) :
    Calls Tryz.prog 63 #[.pointer (some ⟨B, 0, none⟩)] w fun e w' => e = .panicked (errP 1) ∧ w' = w := by
  have HN := hide (take_no B [] 1 w h (by simp))
  clear h
  go_enter Tryz.func63, Tryz.ntmps63
  go_wp2_with fail
  refine (unhide HN).mono ?_
  rintro e w1 ⟨rfl, rfl⟩
  exact ⟨rfl, rfl, rfl⟩
theorem infoOpt : (Tryz.prog.info? 53).map (fun i => (i.zero, i.size, i.bytes)) = some (some (.agg #[.int .u8 0, .string ⟨#[]⟩]), 2, 24) := by kernel_rfl

/-- what a reader's options answer -/
def OptsPost (l : List UInt8) (B : Nat) (w : World) (e : Ending) (w' : World) : Prop :=
  w.grownBy w' (some B) ∧ match pieces l with
    | none => e = .panicked (errP 1)
    | some ps => ∃ v, e = .returned v ∧ w'.ownsRow w.heap.size 53 2 v ps.length (cellsO ps)

theorem own_kept {w w' : World} {B base : Nat} {v : Value} {n : Nat} {xs : List Value} {t : TypeId} {z : Nat} (h : w.ownsRow base t z v n xs) (hg : w.grownBy w' (some B)) (hB : B < base) : w'.ownsRow base t z v n xs :=
  h.kept hg (by
    cases hv : v.ownBlock with
    | none => exact Or.inl rfl
    | some k => refine Or.inr (fun e => ?_); have := (h.lt k hv).1; obtain rfl := Option.some.inj e; omega)
theorem own_slice {w : World} {b e z : Nat} {v : Value} {n : Nat} {xs : List Value} (h : w.ownsRow b e z v n xs) : ∃ ao cp, v = .slice ao n cp := by
  rcases h.2 with ⟨rfl, rfl⟩ | ⟨g, cap, cur, rfl, _⟩
  · exact ⟨_, _, rfl⟩
  · exact ⟨_, _, rfl⟩

theorem grown_own {w wm w4 : World} {B : Nat} {r : Option Nat} (h : w.grownBy wm (some B)) (hg : wm.grownBy w4 r) (hr : ∀ k, r = some k → w.heap.size ≤ k) : w.grownBy w4 (some B) :=
  ⟨hg.os.trans h.os, hg.tape.trans h.tape, hg.output.trans h.output, Nat.le_trans h.size hg.size, fun i hi hne => (hg.block i (Nat.lt_of_lt_of_le hi h.size) (fun e => by have := hr i e.symm; omega)).trans (h.block i hi hne)⟩
theorem rdr_grown {w w4 : World} {B : Nat} {l : List UInt8} {r : Option Nat} (h : Rdr w B l) (hg : w.grownBy w4 r) (hr : ¬ r = some B) : Rdr w4 B l := by
  unfold Rdr
  rw [hg.block B h.lt (fun e => hr e.symm)]
  exact h
theorem pieces_step (l z : List UInt8) (c n : UInt8) (ps : List Pc) (h : pieces l = (pieces (c :: n :: z)).map fun r => ps ++ r) (e1 : ¬ c.toNat = 255) (e2 : ¬ c.toNat = 0) (e3 : ¬ z.length < n.toNat) :
    pieces l = (pieces (z.drop n.toNat)).map fun x => (ps ++ [(c, z.take n.toNat)]) ++ x := by
  refine h.trans ((congrArg _ (pieces_more c n z e1 e2 e3)).trans ?_)
  generalize pieces (z.drop n.toNat) = o
  cases o with
  | none => rfl
  | some x => simp

set_option maxHeartbeats 2000000 in
theorem opts_any (B : Nat) (l : List UInt8) (w : World) (h : Rdr w B l) (hl : l.length ≤ 268435456) :
    Calls Tryz.prog 102 #[.pointer (some ⟨B, 0, none⟩)] w fun e w' => OptsPost l B w e w' := by
  obtain ⟨i0, hi, hz0, hz1, hz2⟩ := info_parts infoOpt
  have HR := hide h
  have hB := h.lt
  clear h
  go_enter Tryz.func102, Tryz.ntmps102
  go_wp2
  go_loopg [3] l.length (fun g v3 wr => ∃ (m : List UInt8) (ps : List Pc), m.length = g ∧ g ≤ l.length ∧ 2 * ps.length + g ≤ l.length ∧ Hid (Rdr wr B m) ∧ Hid (wr.ownsRow w.heap.size 53 2 v3 ps.length (cellsO ps)) ∧ Hid (pieces l = (pieces m).map fun r => ps ++ r) ∧ Hid (w.grownBy wr (some B)))
  case atStart => exact ⟨l, [], rfl, Nat.le_refl _, by simp, HR, hide (World.ownsRow_nil _ _ _ _), hide (by simp), hide (grown_refl _ _)⟩
  case round =>
    obtain ⟨m, ps, hm, hg, hps, H1, H2, H3, H4⟩ := hrel
    rename World => wr
    match m, hm with
    | [], hm =>
      go_wp2_with fail
      refine (byte_no B _ (unhide H1)).mono ?_
      rintro e w1 ⟨rfl, rfl⟩
      refine ⟨rfl, unhide H4, ?_⟩
      rw [unhide H3, pieces_nil]
      rfl
    | c :: r, hm =>
      have hc8 := c.toNat_lt
      have hrl : r.length + 1 = gk := by simpa using hm
      go_wp2_with fail
      refine (byte_ok B c r _ (unhide H1) (by simp only [List.length_cons, maxLen]; omega)).mono ?_
      rintro e w1 ⟨rfl, r1, g1⟩
      have R1 := hide r1
      have G1 := hide (grown_trans (unhide H4) g1)
      have O1 := hide (own_kept (unhide H2) g1 hB)
      clear r1 g1 H1 H2 H4 hm
      by_cases e255 : c.toNat = 255
      · have q : (((c.toNat : Nat) : Int) == 255) = true := by simp [e255]
        have HP : Hid (pieces l = some ps) := hide (by rw [unhide H3, pieces_end c r e255]; simp)
        obtain ⟨ao, cp, hv⟩ := own_slice (unhide O1)
        clear H3
        subst hv
        go_wp2
        go_ret
        refine ⟨unhide G1, ?_⟩
        rw [unhide HP]
        exact ⟨_, rfl, unhide O1⟩
      · have q : (((c.toNat : Nat) : Int) == 255) = false := by simp; omega
        by_cases e0 : c.toNat = 0
        · have q0 : (((c.toNat : Nat) : Int) == 0) = true := by simp [e0]
          have HP : Hid (pieces l = (pieces r).map fun x => ps ++ x) := hide (by rw [unhide H3, pieces_none c r e0])
          clear H3 e255 e0
          go_wp2
          go_roundg (gk - 1)
          case rel => exact ⟨r, ps, by omega, by omega, by omega, R1, O1, HP, G1⟩
          case measure => omega
        · have q0 : (((c.toNat : Nat) : Int) == 0) = false := by simp; omega
          match r, hrl with
          | [], hrl =>
            have HP : Hid (pieces l = none) := hide (by rw [unhide H3, pieces_lone c e255 e0]; rfl)
            clear H3 e255 e0
            go_wp2_with fail
            refine (byte_no B _ (unhide R1)).mono ?_
            rintro e w2 ⟨rfl, rfl⟩
            refine ⟨rfl, unhide G1, ?_⟩
            rw [unhide HP]
          | n :: z, hrl =>
            have hn8 := n.toNat_lt
            have hzl : z.length + 2 = gk := by simpa using hrl
            go_wp2_with fail
            refine (byte_ok B n z _ (unhide R1) (by simp only [List.length_cons, maxLen]; omega)).mono ?_
            rintro e w2 ⟨rfl, r2, g2⟩
            have R2 := hide r2
            have G2 := hide (grown_trans (unhide G1) g2)
            have O2 := hide (own_kept (unhide O1) g2 hB)
            clear r2 g2 R1 G1 O1 hrl
            by_cases hfew : z.length < n.toNat
            · have HP : Hid (pieces l = none) := hide (by rw [unhide H3, pieces_few c n z e255 e0 hfew]; rfl)
              clear H3 e255 e0
              go_wp2_with fail
              refine (take_no B z (n.toNat : Int) _ (unhide R2) (by omega)).mono ?_
              rintro e w3 ⟨rfl, rfl⟩
              refine ⟨rfl, unhide G2, ?_⟩
              rw [unhide HP]
            · have HP : Hid (pieces l = (pieces (z.drop n.toNat)).map fun x => (ps ++ [(c, z.take n.toNat)]) ++ x) := hide (pieces_step l z c n ps (unhide H3) e255 e0 hfew)
              clear H3 e255 e0
              have hw2 : w.heap.size ≤ w2.heap.size := (unhide G2).size
              have hpz : ps.length ≤ 268435456 := by omega
              have OW := hide (ownsRow_setCell_below (a := ⟨B, 0, none⟩) (unhide O2) hB (.string ⟨(z.drop n.toNat).toArray⟩))
              go_wp2_with (first | (go_at_call 80; refine (take_ok B z n.toNat _ (unhide R2) (by omega) (by simp only [maxLen]; omega)).mono ?_; rintro e w3 ⟨rfl, rfl⟩) | (at_builtin; refine wpList_append_own _ rfl (.tmp 16) (.tmp 22) 113 rfl w.heap.size 53 i0 (.agg #[.int .u8 0, .string ⟨#[]⟩]) 2 24 Tryz.underlying113 hi hz0 hz1 hz2 rfl (by decide) _ ps.length (cellsO ps) rfl ((unhide OW).alloc _) ⟨w2.heap.size, 0, none⟩ 1 1 [.int .u8 c.toNat, .string ⟨(z.take n.toNat).toArray⟩] rfl rfl ?c1 ?one ?h63 ?hby ?hba ?_))
              case c1 =>
                have q := cell_new (w2.setCell ⟨B, 0, none⟩ (.string ⟨(z.drop n.toNat).toArray⟩)) [.int .u8 c.toNat, .string ⟨(z.take n.toNat).toArray⟩] 53
                simpa using q
              case one => intro u hu; simp at hu; rcases hu with rfl | rfl <;> rfl
              case h63 => simp only [maxLen]; omega
              case hby => omega
              case hba => simp; omega
              · intro v' w4 hown hg4 _
                have hnew : ∀ k, Value.ownBlock _ = some k → w.heap.size ≤ k := fun k hk => ((unhide O2).lt k hk).1
                have hG4 := grown_own (grown_alloc (grown_trans (unhide G2) (grown_set (.string ⟨(z.drop n.toNat).toArray⟩))) (.cells #[.int .u8 c.toNat, .string ⟨(z.take n.toNat).toArray⟩] 53)) hg4 hnew
                have hR4 : Rdr w4 B (z.drop n.toNat) := rdr_grown (((unhide R2).set (z.drop n.toNat)).alloc _) hg4 (fun e => by have := hnew B e; omega)
                have R4 := hide hR4
                have G4 := hide hG4
                have hO4 : w4.ownsRow w.heap.size 53 2 v' (ps ++ [(c, z.take n.toNat)]).length (cellsO (ps ++ [(c, z.take n.toNat)])) := by
                  rw [List.length_append, cellsO_append]; exact hown
                have O4 := hide hO4
                clear hown hg4 hnew hG4 hR4 hO4 OW O2 R2 G2
                go_wp2
                go_roundg (z.drop n.toNat).length
                case rel => exact ⟨z.drop n.toNat, ps ++ [(c, z.take n.toNat)], rfl, by rw [List.length_drop]; omega, by simp only [List.length_append, List.length_cons, List.length_nil, List.length_drop]; omega, R4, O4, HP, G4⟩
                case measure => rw [List.length_drop]; omega
end Go.Proofs.YtoifihhmneldeaaGreatDoor.Dh

namespace Go.Proofs.YtoifihhmneldeaaGreatDoor.Dh
open Go.ChangeShapes Go.WideShapes Go.ChangeAt Go.RowKit Bs
open Rd (Rdr errP)
set_option linter.unusedVariables false
set_option linter.unusedSimpArgs false

theorem data_take (os : Opts) (c : UInt8) (k : Nat) (h : k < os.length) : data (os.take (k + 1)) c = data (os.take k) c ++ (if os[k].1 = c then os[k].2 else []) := by
  rw [List.take_succ_eq_append_getElem h]
  simp only [data, List.filter_append, List.flatMap_append]
  congr 1
  by_cases e : os[k].1 = c
  · simp [e]
  · have : (os[k].1 == c) = false := by simpa using e
    simp [e, List.filter_cons]
theorem has_take (os : Opts) (c : UInt8) (k : Nat) (h : k < os.length) : has (os.take (k + 1)) c = (has (os.take k) c || os[k].1 == c) := by
  rw [List.take_succ_eq_append_getElem h]
  simp only [has, List.any_append, List.any_cons, List.any_nil, Bool.or_false]
theorem drop_take (os : Opts) (c : UInt8) (k : Nat) (h : k < os.length) : drop (os.take (k + 1)) c = drop (os.take k) c ++ (if os[k].1 = c then [] else [os[k]]) := by
  rw [List.take_succ_eq_append_getElem h]
  simp only [drop, List.filter_append]
  congr 1
  by_cases e : os[k].1 = c
  · simp [e]
  · simp [e, List.filter_cons]
theorem data_le (os : Opts) (c : UInt8) : (data os c).length ≤ heavy os := by
  induction os with
  | nil => simp [data, heavy]
  | cons o r ih =>
    rw [data_cons, List.length_append]
    simp only [heavy, List.length_cons, List.map_cons, List.sum_cons] at ih ⊢
    have hif : (if o.1 = c then o.2 else []).length ≤ o.2.length := by split <;> simp
    omega
theorem toNat_eq (a b : UInt8) : (((a.toNat : Nat) : Int) == ((b.toNat : Nat) : Int)) = decide (a = b) := by
  by_cases h : a = b
  · subst h; simp
  · have : a.toNat ≠ b.toNat := fun e => h (UInt8.toNat_inj.1 e)
    simp [h]; omega

set_option maxHeartbeats 2000000 in
theorem data_any (a : Option Addr) (cap : Nat) (os : Opts) (c : UInt8) (w : World) (hA : At w a os) (hl : heavy os ≤ 268435456) :
    Calls Tryz.prog 104 #[.slice a os.length cap, .int .u8 c.toNat] w fun e w' =>
      e = .returned (.tuple #[.string ⟨(data os c).toArray⟩, .bool (has os c)]) ∧ Below w.heap.size w w' := by
  obtain ⟨i0, hi, hz0, hz1, hz2⟩ := info_parts info8
  have hlen : os.length ≤ heavy os := by unfold heavy; omega
  have HA := hide hA
  clear hA
  go_enter Tryz.func104, Tryz.ntmps104
  go_wp2
  go_loopw [6, 7, 12] (fun v6 v7 i wr => ∃ k : Nat, k ≤ os.length ∧ i = .int .i64 k ∧ v7 = .bool (has (os.take k) c) ∧ Hid (wr.ownsRow w.heap.size 5 1 v6 (data (os.take k) c).length (cells8 (data (os.take k) c))) ∧ Hid (Below w.heap.size w wr)) (fun _ _ i _ => os.length - (intOf i).toNat)
  case atStart => exact ⟨0, Nat.zero_le _, rfl, rfl, hide (World.ownsRow_nil _ _ _ _), hide (Below.refl _ _)⟩
  case round =>
    obtain ⟨k, hk, rfl, rfl, HO, HW⟩ := hrel
    rename World => wr
    have hdl := data_le (os.take k) c
    have hkl := heavy_le os k
    by_cases hlt : k < os.length
    · obtain ⟨ad, rfl, c0, c1⟩ := (unhide HA).below (unhide HW) (Nat.le_refl _) k hlt
      obtain ⟨oc, od, hcd⟩ : ∃ x y, os[k] = (x, y) := ⟨_, _, rfl⟩
      have ht := heavy_take os k hlt
      have htl := heavy_le os (k + 1)
      have hdt := data_take os c k hlt
      have hht := has_take os c k hlt
      rw [hcd] at c0 c1 ht hdt hht
      simp only at c0 c1 ht hdt hht
      have HD := hide hdt
      have HH := hide hht
      have hwz := (unhide HW).size
      obtain ⟨s, hS⟩ : ∃ s : ByteArray, s = ⟨od.toArray⟩ := ⟨_, rfl⟩
      have hsz : s.size = od.length := by rw [hS]; exact str_size od
      have hst : s.data.toList = od := by rw [hS]
      rw [← hS] at c1
      have HS := hide hst
      clear hcd hdt hht hS hst
      by_cases e : oc = c
      · have q : (((oc.toNat : Nat) : Int) == ((c.toNat : Nat) : Int)) = true := by rw [toNat_eq]; simpa using e
        rw [if_pos e] at HD
        have HHT : Hid (has (os.take (k + 1)) c = true) := hide (by rw [unhide HH]; simp [e])
        clear HH e
        go_wp2_with (at_builtin; refine Lib.wpList_append_own_string _ rfl (.tmp 20) (.tmp 22) 71 9 rfl w.heap.size 5 i0 Tryz.underlying71 Tryz.underlying9 hi hz0 hz1 hz2 _ _ _ rfl ((unhide HO).alloc _) s rfl ?h63 ?hby ?hba ?_)
        case h63 => simp only [maxLen]; omega
        case hby => omega
        case hba => simp; omega
        · intro v' w1 hown hg _
          have hnew : ∀ x, Value.ownBlock _ = some x → w.heap.size ≤ x := fun x hx => ((unhide HO).lt x hx).1
          have hB1 : Below w.heap.size w w1 := ((unhide HW).alloc hwz _).grown hg (by simp; omega) hnew
          have hO1 : w1.ownsRow w.heap.size 5 1 v' (data (os.take (k + 1)) c).length (cells8 (data (os.take (k + 1)) c)) := by
            have e8 : cells8 od = Lib.strCells s := by rw [← unhide HS]; rfl
            rw [unhide HD, List.length_append, cells8_append, e8]; exact hown
          have O1 := hide hO1
          have B1 := hide hB1
          clear hown hg hnew hB1 hO1
          go_wp2
          go_roundw
          case rel => exact ⟨k + 1, by omega, by go_num, by rw [unhide HHT], O1, B1⟩
          case measure => simp [intOf]; omega
      · have q : (((oc.toNat : Nat) : Int) == ((c.toNat : Nat) : Int)) = false := by rw [toNat_eq]; simpa using e
        rw [if_neg e, List.append_nil] at HD
        have HHT : Hid (has (os.take (k + 1)) c = has (os.take k) c) := hide (by rw [unhide HH]; simp [e])
        clear HH e
        go_wp2
        go_roundw
        case rel => exact ⟨k + 1, by omega, by go_num, by rw [unhide HHT], hide (by rw [unhide HD]; exact (unhide HO).alloc _), hide ((unhide HW).alloc hwz _)⟩
        case measure => simp [intOf]; omega
    · have e : k = os.length := by omega
      subst e
      rw [List.take_length] at HO
      have HT : Hid (has (os.take os.length) c = has os c) := hide (by rw [List.take_length])
      have hcv := run_own_string wr _ _ _ (unhide HO)
      obtain ⟨ao, cp, hv⟩ := own_slice (unhide HO)
      subst hv
      go_wp2
      go_ret2
      exact ⟨by rw [unhide HT]; rfl, unhide HW⟩

set_option maxHeartbeats 2000000 in
theorem without_any (a : Option Addr) (cap : Nat) (os : Opts) (c : UInt8) (w : World) (hA : At w a os) (hl : heavy os ≤ 268435456) :
    Calls Tryz.prog 105 #[.slice a os.length cap, .int .u8 c.toNat] w fun e w' =>
      ∃ v, e = .returned v ∧ w'.ownsRow w.heap.size 53 2 v (drop os c).length (cellsO (drop os c)) ∧ Below w.heap.size w w' := by
  obtain ⟨i0, hi, hz0, hz1, hz2⟩ := info_parts infoOpt
  have hlen : os.length ≤ heavy os := by unfold heavy; omega
  have HA := hide hA
  clear hA
  go_enter Tryz.func105, Tryz.ntmps105
  go_wp2
  go_loopw [5, 10] (fun v5 i wr => ∃ k : Nat, k ≤ os.length ∧ i = .int .i64 k ∧ (drop (os.take k) c).length ≤ k ∧ Hid (wr.ownsRow w.heap.size 53 2 v5 (drop (os.take k) c).length (cellsO (drop (os.take k) c))) ∧ Hid (Below w.heap.size w wr)) (fun _ i _ => os.length - (intOf i).toNat)
  case atStart => exact ⟨0, Nat.zero_le _, rfl, Nat.le_refl _, hide (World.ownsRow_nil _ _ _ _), hide (Below.refl _ _)⟩
  case round =>
    obtain ⟨k, hk, rfl, hdk, HO, HW⟩ := hrel
    rename World => wr
    by_cases hlt : k < os.length
    · obtain ⟨ad, rfl, c0, c1⟩ := (unhide HA).below (unhide HW) (Nat.le_refl _) k hlt
      obtain ⟨oc, od, hcd⟩ : ∃ x y, os[k] = (x, y) := ⟨_, _, rfl⟩
      have hdt := drop_take os c k hlt
      rw [hcd] at c0 c1 hdt
      simp only at c0 c1 hdt
      have HD := hide hdt
      have hwz := (unhide HW).size
      clear hcd hdt
      by_cases e : oc = c
      · have q : (((oc.toNat : Nat) : Int) != ((c.toNat : Nat) : Int)) = false := by rw [bne, toNat_eq]; simpa using e
        rw [if_pos e, List.append_nil] at HD
        clear e
        go_wp2
        go_roundw
        case rel => exact ⟨k + 1, by omega, by go_num, by rw [unhide HD]; omega, hide (by rw [unhide HD]; exact (unhide HO).alloc _), hide ((unhide HW).alloc hwz _)⟩
        case measure => simp [intOf]; omega
      · have q : (((oc.toNat : Nat) : Int) != ((c.toNat : Nat) : Int)) = true := by rw [bne, toNat_eq]; simpa using e
        rw [if_neg e] at HD
        clear e
        go_wp2_with (at_builtin; refine wpList_append_own _ rfl (.tmp 18) (.tmp 20) 113 rfl w.heap.size 53 i0 (.agg #[.int .u8 0, .string ⟨#[]⟩]) 2 24 Tryz.underlying113 hi hz0 hz1 hz2 rfl (by decide) _ _ _ rfl (((unhide HO).alloc _).alloc _) ⟨wr.heap.size + 1, 0, none⟩ 1 1 [.int .u8 oc.toNat, .string ⟨od.toArray⟩] rfl rfl ?c1 ?one ?h63 ?hby ?hba ?_)
        case c1 =>
          have q := cell_new (wr.alloc (.cells #[.int .u8 oc.toNat, .string ⟨od.toArray⟩] 53)) [.int .u8 oc.toNat, .string ⟨od.toArray⟩] 53
          simpa using q
        case one => intro u hu; simp at hu; rcases hu with rfl | rfl <;> rfl
        case h63 => simp only [maxLen]; omega
        case hby => omega
        case hba => simp; omega
        · intro v' w1 hown hg _
          have hnew : ∀ x, Value.ownBlock _ = some x → w.heap.size ≤ x := fun x hx => ((unhide HO).lt x hx).1
          have hB1 : Below w.heap.size w w1 := (((unhide HW).alloc hwz _).alloc (by simp; omega) _).grown hg (by simp; omega) hnew
          have hO1 : w1.ownsRow w.heap.size 53 2 v' (drop (os.take (k + 1)) c).length (cellsO (drop (os.take (k + 1)) c)) := by
            rw [unhide HD, List.length_append, cellsO_append]; exact hown
          have O1 := hide hO1
          have B1 := hide hB1
          clear hown hg hnew hB1 hO1
          go_wp2
          go_roundw
          case rel => exact ⟨k + 1, by omega, by go_num, by rw [unhide HD, List.length_append, List.length_cons, List.length_nil]; omega, O1, B1⟩
          case measure => simp [intOf]; omega
    · have e : k = os.length := by omega
      subst e
      rw [List.take_length] at HO
      obtain ⟨ao, cp, hv⟩ := own_slice (unhide HO)
      subst hv
      go_wp2
      go_ret
      exact ⟨_, rfl, unhide HO, unhide HW⟩
end Go.Proofs.YtoifihhmneldeaaGreatDoor.Dh

namespace Go.Proofs.YtoifihhmneldeaaGreatDoor.Dh
open Go.ChangeShapes Go.WideShapes Go.ChangeAt Go.RowKit Bs
open Rd (Rdr errP must_if must_else)
set_option linter.unusedVariables false
set_option linter.unusedSimpArgs false

theorem infoS : (Tryz.prog.info? 9).map (fun i => (i.zero, i.size, i.bytes)) = some (some (.string ⟨#[]⟩), 1, 16) := by kernel_rfl
theorem data_52 (a : Option Addr) (cap : Nat) (os : Opts) (w : World) (hA : At w a os) (hl : heavy os ≤ 268435456) :
    Calls Tryz.prog 104 #[.slice a os.length cap, .int .u8 52] w fun e w' =>
      e = .returned (.tuple #[.string ⟨(data os 52).toArray⟩, .bool (has os 52)]) ∧ Below w.heap.size w w' := data_any a cap os 52 w hA hl
theorem without_52 (a : Option Addr) (cap : Nat) (os : Opts) (w : World) (hA : At w a os) (hl : heavy os ≤ 268435456) :
    Calls Tryz.prog 105 #[.slice a os.length cap, .int .u8 52] w fun e w' =>
      ∃ v, e = .returned v ∧ w'.ownsRow w.heap.size 53 2 v (drop os 52).length (cellsO (drop os 52)) ∧ Below w.heap.size w w' := without_any a cap os 52 w hA hl

/-- the areas in which more options stand -/
def areaS (d : List UInt8) (host file : ByteArray) : List ByteArray := (if inF d then [file] else []) ++ (if inH d then [host] else [])
def AreaPost (os : Opts) (host file : ByteArray) (w : World) (e : Ending) (w' : World) : Prop :=
  Below w.heap.size w w' ∧ (if has os 52 then (if areaD (data os 52) then ∃ v, e = .returned v ∧ w'.ownsRow w.heap.size 9 1 v (areaS (data os 52) host file).length ((areaS (data os 52) host file).map Value.string) else e = .panicked (errP 2)) else e = .returned (.slice none 0 0))

set_option maxHeartbeats 4000000 in
set_option maxRecDepth 10000 in
theorem areas_any (a : Option Addr) (cap : Nat) (os : Opts) (host file : ByteArray) (w : World) (hA : At w a os) (hl : heavy os ≤ 268435456) :
    Calls Tryz.prog 103 #[.slice a os.length cap, .string host, .string file] w fun e w' => AreaPost os host file w e w' := by
  obtain ⟨i0, hi, hz0, hz1, hz2⟩ := info_parts infoS
  have HD := hide (data_52 a cap os w hA hl)
  unfold AreaPost
  obtain ⟨d, hd⟩ : ∃ d, d = data os 52 := ⟨_, rfl⟩
  obtain ⟨p, hp⟩ : ∃ p, p = has os 52 := ⟨_, rfl⟩
  rw [← hd, ← hp] at HD ⊢
  clear hA hd hp
  cases p with
  | false =>
    go_enter Tryz.func103, Tryz.ntmps103
    go_wp2_with fail
    refine (unhide HD).mono ?_
    rintro e w1 ⟨rfl, hb1⟩
    have HB1 := hide hb1
    have hz1w := hb1.size
    clear hb1 HD
    go_wp2
    go_ret
    exact ⟨unhide HB1, rfl⟩
  | true =>
    match d with
    | [] =>
      go_enter Tryz.func103, Tryz.ntmps103
      go_wp2_with fail
      refine (unhide HD).mono ?_
      rintro e w1 ⟨rfl, hb1⟩
      have HB1 := hide hb1
      have hz1w := hb1.size
      clear hb1 HD
      go_wp2_with fail
      refine (must_else _ (by simp) _ _).mono ?_
      rintro e w2 ⟨rfl, rfl⟩
      exact ⟨rfl, unhide HB1, rfl⟩
    | x :: y :: r =>
      have hsz : (⟨(x :: y :: r).toArray⟩ : ByteArray).size = r.length + 2 := by rw [str_size]; simp
      obtain ⟨s, hs⟩ : ∃ s : ByteArray, s = ⟨(x :: y :: r).toArray⟩ := ⟨_, rfl⟩
      rw [← hs] at hsz HD
      have hne : ((s.size : Int) == 1) = false := by simp; omega
      clear hs hsz
      go_enter Tryz.func103, Tryz.ntmps103
      go_wp2_with fail
      refine (unhide HD).mono ?_
      rintro e w1 ⟨rfl, hb1⟩
      have HB1 := hide hb1
      have hz1w := hb1.size
      clear hb1 HD
      go_wp2_with fail
      refine (must_else _ (by simp) _ _).mono ?_
      rintro e w2 ⟨rfl, rfl⟩
      exact ⟨rfl, unhide HB1, rfl⟩
    | [x] =>
      have hx8 := x.toNat_lt
      have hix : ∀ u, (Instr.index 9 (.string ⟨#[x]⟩) (.int .i64 0)).run Tryz.prog u = .ok (.int .u8 x.toNat) u := fun _ => by kernel_rfl
      by_cases hok : 1 ≤ x.toNat ∧ x.toNat ≤ 3
      · have hcase : x.toNat = 1 ∨ x.toNat = 2 ∨ x.toNat = 3 := by omega
        have hAD : areaD [x] = true := by simp [areaD, hok]
        rw [hAD]
        rcases hcase with e0 | e0 | e0
        · rw [e0] at hix
          have hS : areaS [x] host file = [file] := by simp [areaS, inF, inH, e0]
          rw [hS]
          clear hok hAD e0 hx8 hS
          go_enter Tryz.func103, Tryz.ntmps103
          go_wp2_with fail
          refine (unhide HD).mono ?_
          rintro e w1 ⟨rfl, hb1⟩
          have HB1 := hide hb1
          have hz1w := hb1.size
          clear hb1 HD
          go_wp2_with fail
          refine (must_if _ (by simp) _ _).mono ?_
          rintro e w2 ⟨rfl, rfl⟩
          go_wp2_with (at_builtin; refine wpList_append_own _ rfl (.tmp 35) (.tmp 37) 97 rfl w.heap.size 9 i0 (.string ⟨#[]⟩) 1 16 Tryz.underlying97 hi hz0 hz1 hz2 rfl (by decide) _ 0 [] rfl ((World.ownsRow_nil _ _ _ _)) ⟨w2.heap.size, 0, none⟩ 1 1 [.string file] rfl rfl ?c1 ?one ?h63 ?hby ?hba ?_)
          case c1 => exact cell_new w2 [.string file] 9
          case one => intro u hu; simp at hu; subst hu; rfl
          case h63 => simp only [maxLen]; omega
          case hby => omega
          case hba => simp; omega
          · intro A wA hownA hgA _
            obtain ⟨ao, cp, hv⟩ := own_slice hownA
            subst hv
            have hBB : Below w.heap.size w wA := ((unhide HB1).alloc hz1w _).grown hgA (by simp; omega) (fun k hk => by simp [Value.ownBlock] at hk)
            have OO := hide hownA
            have BB := hide hBB
            clear hownA hgA hBB
            go_wp2
            go_ret
            exact ⟨unhide BB, _, rfl, unhide OO⟩
        · rw [e0] at hix
          have hS : areaS [x] host file = [host] := by simp [areaS, inF, inH, e0]
          rw [hS]
          clear hok hAD e0 hx8 hS
          go_enter Tryz.func103, Tryz.ntmps103
          go_wp2_with fail
          refine (unhide HD).mono ?_
          rintro e w1 ⟨rfl, hb1⟩
          have HB1 := hide hb1
          have hz1w := hb1.size
          clear hb1 HD
          go_wp2_with fail
          refine (must_if _ (by simp) _ _).mono ?_
          rintro e w2 ⟨rfl, rfl⟩
          go_wp2_with (at_builtin; refine wpList_append_own _ rfl (.tmp 43) (.tmp 45) 97 rfl w.heap.size 9 i0 (.string ⟨#[]⟩) 1 16 Tryz.underlying97 hi hz0 hz1 hz2 rfl (by decide) _ 0 [] rfl ((World.ownsRow_nil _ _ _ _)) ⟨w2.heap.size, 0, none⟩ 1 1 [.string host] rfl rfl ?c1 ?one ?h63 ?hby ?hba ?_)
          case c1 => exact cell_new w2 [.string host] 9
          case one => intro u hu; simp at hu; subst hu; rfl
          case h63 => simp only [maxLen]; omega
          case hby => omega
          case hba => simp; omega
          · intro A wA hownA hgA _
            obtain ⟨ao, cp, hv⟩ := own_slice hownA
            subst hv
            have hBB : Below w.heap.size w wA := ((unhide HB1).alloc hz1w _).grown hgA (by simp; omega) (fun k hk => by simp [Value.ownBlock] at hk)
            have OO := hide hownA
            have BB := hide hBB
            clear hownA hgA hBB
            go_wp2
            go_ret
            exact ⟨unhide BB, _, rfl, unhide OO⟩
        · rw [e0] at hix
          have hS : areaS [x] host file = [file, host] := by simp [areaS, inF, inH, e0]
          rw [hS]
          clear hok hAD e0 hx8 hS
          go_enter Tryz.func103, Tryz.ntmps103
          go_wp2_with fail
          refine (unhide HD).mono ?_
          rintro e w1 ⟨rfl, hb1⟩
          have HB1 := hide hb1
          have hz1w := hb1.size
          clear hb1 HD
          go_wp2_with fail
          refine (must_if _ (by simp) _ _).mono ?_
          rintro e w2 ⟨rfl, rfl⟩
          go_wp2_with (at_builtin; refine wpList_append_own _ rfl (.tmp 35) (.tmp 37) 97 rfl w.heap.size 9 i0 (.string ⟨#[]⟩) 1 16 Tryz.underlying97 hi hz0 hz1 hz2 rfl (by decide) _ 0 [] rfl ((World.ownsRow_nil _ _ _ _)) ⟨w2.heap.size, 0, none⟩ 1 1 [.string file] rfl rfl ?c1 ?one ?h63 ?hby ?hba ?_)
          case c1 => exact cell_new w2 [.string file] 9
          case one => intro u hu; simp at hu; subst hu; rfl
          case h63 => simp only [maxLen]; omega
          case hby => omega
          case hba => simp; omega
          · intro A wA hownA hgA _
            obtain ⟨ao, cp, hv⟩ := own_slice hownA
            have hBA : Below w.heap.size w wA := ((unhide HB1).alloc hz1w _).grown hgA (by simp; omega) (fun k hk => by simp [Value.ownBlock] at hk)
            have hzA := hBA.size
            have OA := hide hownA
            have BA := hide hBA
            clear hownA hgA hBA
            subst hv
            go_wp2_with (at_builtin; refine wpList_append_own _ rfl (.tmp 43) (.tmp 45) 97 rfl w.heap.size 9 i0 (.string ⟨#[]⟩) 1 16 Tryz.underlying97 hi hz0 hz1 hz2 rfl (by decide) _ 1 [.string file] rfl (((unhide OA).alloc _)) ⟨wA.heap.size, 0, none⟩ 1 1 [.string host] rfl rfl ?c1 ?one ?h63 ?hby ?hba ?_)
            case c1 => exact cell_new wA [.string host] 9
            case one => intro u hu; simp at hu; subst hu; rfl
            case h63 => simp only [maxLen]; omega
            case hby => omega
            case hba => simp; omega
            · intro B wB hownB hgB _
              obtain ⟨ao, cp, hv⟩ := own_slice hownB
              subst hv
              have hBB : Below w.heap.size w wB := ((unhide BA).alloc hzA _).grown hgB (by simp; omega) (fun k hk => ((unhide OA).lt k hk).1)
              have OO := hide hownB
              have BB := hide hBB
              clear hownB hgB hBB
              go_wp2
              go_ret
              exact ⟨unhide BB, _, rfl, unhide OO⟩
      · have hAD : areaD [x] = false := by simp [areaD]; omega
        rw [hAD]
        by_cases e0 : x.toNat = 0
        · rw [e0] at hix
          clear hok hAD e0 hx8
          go_enter Tryz.func103, Tryz.ntmps103
          go_wp2_with fail
          refine (unhide HD).mono ?_
          rintro e w1 ⟨rfl, hb1⟩
          have HB1 := hide hb1
          have hz1w := hb1.size
          clear hb1 HD
          go_wp2_with fail
          refine (must_else _ (by simp) _ _).mono ?_
          rintro e w2 ⟨rfl, rfl⟩
          exact ⟨rfl, unhide HB1, rfl⟩
        · have q0 : (((x.toNat : Nat) : Int) != 0) = true := by simp; omega
          have q1 : ¬ ((x.toNat : Nat) : Int) ≤ 3 := by omega
          clear hok hAD e0 hx8
          go_enter Tryz.func103, Tryz.ntmps103
          go_wp2_with fail
          refine (unhide HD).mono ?_
          rintro e w1 ⟨rfl, hb1⟩
          have HB1 := hide hb1
          have hz1w := hb1.size
          clear hb1 HD
          go_wp2_with fail
          refine (must_else _ (by simp; omega) _ _).mono ?_
          rintro e w2 ⟨rfl, rfl⟩
          exact ⟨rfl, unhide HB1, rfl⟩
end Go.Proofs.YtoifihhmneldeaaGreatDoor.Dh

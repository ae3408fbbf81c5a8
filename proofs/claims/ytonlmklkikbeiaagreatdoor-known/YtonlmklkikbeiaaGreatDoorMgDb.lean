import Derived.Test.YtonlmklkikbeiaaGreatDoorMgDa
import Derived.Deep.RegionHeld3
import Derived.Test.YtonlmklkikbeiaaGreatDoorMgRa
namespace Go.Proofs.YtonlmklkikbeiaaGreatDoor.Dh
open Go.ChangeShapes Go.WideShapes Go.ChangeAt Go.RowKit Bs
set_option linter.unusedVariables false
set_option linter.unusedSimpArgs false

theorem below_drewN {N : Nat} {a w : World} (h : Below N a w) (n : Nat) : Below N a (w.drewN n) := ⟨h.os, h.tape, h.output, h.size, h.block⟩
/-- options as cells -/
def cellsO (os : Opts) : List Value := os.flatMap fun o => [.int .u8 o.1.toNat, .string ⟨o.2.toArray⟩]
theorem cellsO_length (os : Opts) : (cellsO os).length = os.length * 2 := by
  induction os with
  | nil => rfl
  | cons o r ih => simp only [cellsO, List.flatMap_cons, List.length_append, List.length_cons, List.length_nil] at ih ⊢; omega
theorem cellsO_append (a b : Opts) : cellsO (a ++ b) = cellsO a ++ cellsO b := by simp [cellsO]
theorem cellsO_get (os : Opts) (i : Nat) (h : i < os.length) : (cellsO os)[i * 2]? = some (.int .u8 os[i].1.toNat) ∧ (cellsO os)[i * 2 + 1]? = some (.string ⟨os[i].2.toArray⟩) := by
  induction os generalizing i with
  | nil => simp at h
  | cons o r ih =>
    cases i with
    | zero => exact ⟨rfl, rfl⟩
    | succ i =>
      have := ih i (by simpa using h)
      simp only [cellsO, List.flatMap_cons] at this ⊢
      rw [show (i + 1) * 2 = i * 2 + 1 + 1 by omega]
      simpa using this
theorem cellsO_one (os : Opts) : ∀ u ∈ cellsO os, u.oneCell' = true := by
  intro u hu
  simp only [cellsO, List.mem_flatMap] at hu
  obtain ⟨o, _, ho⟩ := hu
  simp at ho
  rcases ho with rfl | rfl <;> rfl
theorem add_next (ad : Addr) (n : Nat) : (⟨(ad.add n).block, (ad.add n).off + 1, none⟩ : Addr) = ad.add (n + 1) := by
  unfold Addr.add
  by_cases h : n = 0
  · subst h; simp
  · simp [h]; omega
theorem At.cells {w : World} {ad : Addr} {os : Opts} (h : At w (some ad) os) : ∀ j u, (cellsO os)[j]? = some u → w.cell? (ad.add j) = some u := fun j u hj => by
  have hl := (List.getElem?_eq_some_iff.1 hj).1
  rw [cellsO_length] at hl
  obtain ⟨ad', e, h0, h1⟩ := h (j / 2) (by omega)
  obtain rfl := Option.some.inj e
  obtain ⟨g0, g1⟩ := cellsO_get os (j / 2) (by omega)
  rcases Nat.mod_two_eq_zero_or_one j with e | e
  · have e2 : j / 2 * 2 = j := by omega
    rw [e2] at h0 g0
    rw [h0, ← hj, g0]
  · have e2 : j / 2 * 2 + 1 = j := by omega
    rw [add_next, e2] at h1
    rw [e2] at g1
    rw [h1, ← hj, g1]
theorem At.ofCells {w : World} {ad : Addr} {os : Opts} (h : ∀ j u, (cellsO os)[j]? = some u → w.cell? (ad.add j) = some u) : At w (some ad) os := fun i hi => by
  obtain ⟨g0, g1⟩ := cellsO_get os i hi
  exact ⟨ad, rfl, h _ _ g0, by rw [add_next]; exact h _ _ g1⟩

theorem heavy_more (os : Opts) (k : Nat) : heavy (os.take k) + (os.length - k) ≤ heavy os := by
  have q : heavy (os.take k ++ os.drop k) = heavy (os.take k) + heavy (os.drop k) := by
    simp only [heavy, List.map_append, List.sum_append, List.length_append]; omega
  rw [List.take_append_drop] at q
  have h : (os.drop k).length ≤ heavy (os.drop k) := by unfold heavy; omega
  rw [List.length_drop] at h
  omega

end Go.Proofs.YtonlmklkikbeiaaGreatDoor.Dh

namespace Go.Proofs.YtonlmklkikbeiaaGreatDoor.Dh
set_option linter.unusedVariables false

/-- the pieces that bytes are, up to their end; none: there is no end -/
def pieces (l : List UInt8) : Option (List Pc) :=
  match l with
  | [] => none
  | c :: r =>
    if c.toNat = 255 then some []
    else if c.toNat = 0 then pieces r
    else match r with
      | [] => none
      | n :: q => if q.length < n.toNat then none else (pieces (q.drop n.toNat)).map fun ps => (c, q.take n.toNat) :: ps
termination_by l.length
decreasing_by all_goals (simp; try omega)

theorem pieces_nil : pieces [] = none := by rw [pieces]
theorem pieces_end (c : UInt8) (r : List UInt8) (h : c.toNat = 255) : pieces (c :: r) = some [] := by rw [pieces.eq_def]; exact if_pos h
theorem pieces_none (c : UInt8) (r : List UInt8) (h : c.toNat = 0) : pieces (c :: r) = pieces r := by rw [pieces.eq_def]; exact (if_neg (by omega)).trans (if_pos h)
theorem pieces_lone (c : UInt8) (h : ¬ c.toNat = 255) (h0 : ¬ c.toNat = 0) : pieces [c] = none := by rw [pieces, if_neg h, if_neg h0]
theorem pieces_few (c n : UInt8) (q : List UInt8) (h : ¬ c.toNat = 255) (h0 : ¬ c.toNat = 0) (hq : q.length < n.toNat) : pieces (c :: n :: q) = none := by rw [pieces, if_neg h, if_neg h0]; exact if_pos hq
theorem pieces_more (c n : UInt8) (q : List UInt8) (h : ¬ c.toNat = 255) (h0 : ¬ c.toNat = 0) (hq : ¬ q.length < n.toNat) : pieces (c :: n :: q) = (pieces (q.drop n.toNat)).map fun ps => (c, q.take n.toNat) :: ps := by
  rw [pieces, if_neg h, if_neg h0]; exact if_neg hq

/-- one piece more: behind the data of its code, or at the end -/
def add (l : List Pc) (p : Pc) : List Pc :=
  match l with
  | [] => [p]
  | a :: r => if a.1 = p.1 then (a.1, a.2 ++ p.2) :: r else a :: add r p
def addAll (l : List Pc) (ps : List Pc) : List Pc := ps.foldl add l
def has (l : List Pc) (c : UInt8) : Bool := l.any fun p => p.1 == c
/-- the data of all pieces of a code -/
def data (l : List Pc) (c : UInt8) : List UInt8 := (l.filter fun p => p.1 == c).flatMap fun p => p.2
def drop (l : List Pc) (c : UInt8) : List Pc := l.filter fun p => p.1 != c

theorem has_add (l : List Pc) (p : Pc) (c : UInt8) : has (add l p) c = (has l c || p.1 == c) := by
  induction l with
  | nil => simp [add, has]
  | cons a r ih =>
    simp only [add]
    split
    · rename_i h
      simp only [has, List.any_cons] at ih ⊢
      rw [h]
      cases (p.1 == c) <;> simp
    · simp only [has, List.any_cons] at ih ⊢
      rw [ih, Bool.or_assoc]
theorem has_addAll (l ps : List Pc) (c : UInt8) : has (addAll l ps) c = (has l c || has ps c) := by
  induction ps generalizing l with
  | nil => simp [addAll, has]
  | cons p r ih =>
    show has (addAll (add l p) r) c = _
    rw [ih, has_add]
    simp only [has, List.any_cons, Bool.or_assoc]
/-- the data of a code: of the first of it -/
def look (l : List Pc) (c : UInt8) : Option (List UInt8) :=
  match l with
  | [] => none
  | a :: r => if a.1 = c then some a.2 else look r c
theorem look_add (l : List Pc) (p : Pc) (c : UInt8) : look (add l p) c = if p.1 = c then some ((look l c).getD [] ++ p.2) else look l c := by
  induction l with
  | nil => simp only [add, look]; split <;> simp
  | cons a r ih =>
    simp only [add]
    by_cases h : a.1 = p.1
    · rw [if_pos h]
      simp only [look]
      by_cases hc : p.1 = c
      · rw [if_pos (h.trans hc), if_pos hc, if_pos (h.trans hc)]; rfl
      · rw [if_neg (fun e => hc (h.symm.trans e)), if_neg hc, if_neg (fun e => hc (h.symm.trans e))]
    · rw [if_neg h]
      simp only [look]
      by_cases ha : a.1 = c
      · rw [if_pos ha, if_pos ha, if_neg (fun e => h (ha.trans e.symm))]
      · rw [if_neg ha, if_neg ha, ih]
theorem data_cons (p : Pc) (r : List Pc) (c : UInt8) : data (p :: r) c = (if p.1 = c then p.2 else []) ++ data r c := by
  simp only [data, List.filter_cons]
  by_cases h : p.1 = c
  · rw [if_pos h, if_pos (by simpa using h), List.flatMap_cons]
  · rw [if_neg h, if_neg (by simpa using h), List.nil_append]
theorem has_cons (p : Pc) (r : List Pc) (c : UInt8) : has (p :: r) c = (p.1 == c || has r c) := rfl
theorem data_no (l : List Pc) (c : UInt8) (h : has l c = false) : data l c = [] := by
  induction l with
  | nil => rfl
  | cons p r ih =>
    rw [has_cons, Bool.or_eq_false_iff] at h
    rw [data_cons, if_neg (by simpa using h.1), ih h.2]; rfl
theorem look_addAll (l ps : List Pc) (c : UInt8) : look (addAll l ps) c = if has ps c then some ((look l c).getD [] ++ data ps c) else look l c := by
  induction ps generalizing l with
  | nil => rfl
  | cons p r ih =>
    show look (addAll (add l p) r) c = _
    rw [ih, look_add, has_cons, data_cons]
    by_cases h : p.1 = c
    · have h' : (p.1 == c) = true := by simpa using h
      rw [if_pos h, if_pos h, h', Bool.true_or, if_pos rfl]
      cases hr : has r c
      · simp [data_no r c hr]
      · simp
    · have h' : (p.1 == c) = false := by simpa using h
      rw [if_neg h, if_neg h, h', Bool.false_or, List.nil_append]
theorem drop_add (l : List Pc) (p : Pc) (c : UInt8) : drop (add l p) c = if p.1 = c then drop l c else add (drop l c) p := by
  induction l with
  | nil => simp only [add, drop, List.filter_cons, List.filter_nil]; by_cases h : p.1 = c <;> simp [h]
  | cons a r ih =>
    simp only [add]
    by_cases h : a.1 = p.1
    · rw [if_pos h]
      by_cases hc : p.1 = c
      · rw [if_pos hc]
        have hac : a.1 = c := h.trans hc
        simp only [drop, List.filter_cons, hac, bne_self_eq_false, Bool.false_eq_true, if_false]
      · rw [if_neg hc]
        have hac : ¬ a.1 = c := fun e => hc (h.symm.trans e)
        have hb : (a.1 != c) = true := by simpa using hac
        simp only [drop, List.filter_cons, hb, if_true, add, if_pos h]
    · rw [if_neg h]
      by_cases hac : a.1 = c
      · have hb : (a.1 != c) = false := by simpa using hac
        have hc : ¬ p.1 = c := fun e => h (hac.trans e.symm)
        rw [if_neg hc] at ih ⊢
        simp only [drop, List.filter_cons, hb] at ih ⊢
        exact ih
      · have hb : (a.1 != c) = true := by simpa using hac
        simp only [drop, List.filter_cons, hb, if_true] at ih ⊢
        rw [ih]
        by_cases hc : p.1 = c
        · rw [if_pos hc, if_pos hc]
        · rw [if_neg hc, if_neg hc]
          simp only [add, if_neg h]
theorem drop_addAll (l ps : List Pc) (c : UInt8) : drop (addAll l ps) c = addAll (drop l c) (drop ps c) := by
  induction ps generalizing l with
  | nil => rfl
  | cons p r ih =>
    show drop (addAll (add l p) r) c = _
    rw [ih, drop_add]
    by_cases h : p.1 = c
    · have hb : (p.1 != c) = false := by simpa using h
      rw [if_pos h]
      simp only [drop, List.filter_cons, hb]; rfl
    · have hb : (p.1 != c) = true := by simpa using h
      rw [if_neg h]
      simp only [drop, List.filter_cons, hb, if_true]; rfl
theorem drop_no (l : List Pc) (c : UInt8) (h : has l c = false) : drop l c = l := by
  simp only [drop, List.filter_eq_self]
  intro p hp
  simp only [has, List.any_eq_false] at h
  have := h p hp
  simpa using this
theorem addAll_append (l a b : List Pc) : addAll l (a ++ b) = addAll (addAll l a) b := by simp [addAll]
theorem look_has (l : List Pc) (c : UInt8) : (look l c).isSome = has l c := by
  induction l with
  | nil => rfl
  | cons a r ih =>
    rw [has_cons, look]
    by_cases h : a.1 = c
    · rw [if_pos h]; simp [h]
    · rw [if_neg h, ih]; simp [h]

/-- which error it is, of options and of the two areas -/
def areaD (d : List UInt8) : Bool := match d with | [x] => decide (1 ≤ x.toNat) && decide (x.toNat ≤ 3) | _ => false
def inF (d : List UInt8) : Bool := match d with | [x] => x.toNat % 2 == 1 | _ => false
def inH (d : List UInt8) : Bool := match d with | [x] => decide (2 ≤ x.toNat) | _ => false
/-- the pieces of the areas -/
def moreP (f h : Bool) (file host : List UInt8) : Option (List Pc) :=
  (if f then pieces file else some []).bind fun a => (if h then pieces host else some []).bind fun b => some (a ++ b)
def optK (main host file : List UInt8) : Nat :=
  match pieces main with
  | none => 1
  | some ps => if has ps 52 then (if areaD (data ps 52) then (match moreP (inF (data ps 52)) (inH (data ps 52)) file host with | none => 1 | some m => if has m 52 then 2 else 0) else 2) else 0
def optL (main host file : List UInt8) : List Pc :=
  match pieces main with
  | none => []
  | some ps => if has ps 52 then (match moreP (inF (data ps 52)) (inH (data ps 52)) file host with | none => [] | some m => addAll [] (drop ps 52 ++ m)) else addAll [] ps
end Go.Proofs.YtonlmklkikbeiaaGreatDoor.Dh

namespace Go.Proofs.YtonlmklkikbeiaaGreatDoor.Dh
open Go.ChangeShapes Go.WideShapes Go.ChangeAt Go.RowKit Bs
open Rd (Rdr errP grown_trans grown_alloc grown_set grown_refl take_no take_ok byte_ok)
set_option linter.unusedVariables false
set_option linter.unusedSimpArgs false

theorem byte_no (B : Nat) (w : World) (h : Rdr w B []) :
    Calls Tryz.prog 85 #[.pointer (some ⟨B, 0, none⟩)] w fun e w' => e = .panicked (errP 1) ∧ w' = w := by
  have HN := hide (take_no B [] 1 w h (by simp))
  clear h
  go_enter Tryz.func85, Tryz.ntmps85
  go_wp2_with fail
  refine (unhide HN).mono ?_
  rintro e w1 ⟨rfl, rfl⟩
  exact ⟨rfl, rfl, rfl⟩
theorem infoOpt : (Tryz.prog.info? 67).map (fun i => (i.zero, i.size, i.bytes)) = some (some (.agg #[.int .u8 0, .string ⟨#[]⟩]), 2, 24) := by kernel_rfl

/-- what a reader's options answer -/
def OptsPost (l : List UInt8) (B : Nat) (w : World) (e : Ending) (w' : World) : Prop :=
  w.grownBy w' (some B) ∧ match pieces l with
    | none => e = .panicked (errP 1)
    | some ps => ∃ v, e = .returned v ∧ w'.ownsRow w.heap.size 67 2 v ps.length (cellsO ps)

theorem own_kept {w w' : World} {B base : Nat} {v : Value} {n : Nat} {xs : List Value} {t : TypeId} {z : Nat} (h : w.ownsRow base t z v n xs) (hg : w.grownBy w' (some B)) (hB : B < base) : w'.ownsRow base t z v n xs :=
  h.kept hg (by
    cases hv : v.ownBlock with
    | none => exact Or.inl rfl
    | some k => refine Or.inr (fun e => ?_); have := (h.lt k hv).1; obtain rfl := Option.some.inj e; omega)
theorem own_slice {w : World} {b e z : Nat} {v : Value} {n : Nat} {xs : List Value} (h : w.ownsRow b e z v n xs) : ∃ ao cp, v = .slice ao n cp := by
  rcases h.2 with ⟨rfl, rfl⟩ | ⟨g, cap, cur, rfl, _⟩
  · exact ⟨_, _, rfl⟩
  · exact ⟨_, _, rfl⟩

theorem grown_own {w wm w4 : World} {B : Nat} {r : Option Nat} (h : w.grownBy wm (some B)) (hg : wm.grownBy w4 r) (hr : ∀ k, r = some k → w.heap.size ≤ k) : w.grownBy w4 (some B) :=
  ⟨hg.os.trans h.os, hg.tape.trans h.tape, hg.output.trans h.output, Nat.le_trans h.size hg.size, fun i hi hne => (hg.block i (Nat.lt_of_lt_of_le hi h.size) (fun e => by have := hr i e.symm; omega)).trans (h.block i hi hne)⟩
theorem rdr_grown {w w4 : World} {B : Nat} {l : List UInt8} {r : Option Nat} (h : Rdr w B l) (hg : w.grownBy w4 r) (hr : ¬ r = some B) : Rdr w4 B l := by
  unfold Rdr
  rw [hg.block B h.lt (fun e => hr e.symm)]
  exact h
theorem pieces_step (l z : List UInt8) (c n : UInt8) (ps : List Pc) (h : pieces l = (pieces (c :: n :: z)).map fun r => ps ++ r) (e1 : ¬ c.toNat = 255) (e2 : ¬ c.toNat = 0) (e3 : ¬ z.length < n.toNat) :
    pieces l = (pieces (z.drop n.toNat)).map fun x => (ps ++ [(c, z.take n.toNat)]) ++ x := by
  refine h.trans ((congrArg _ (pieces_more c n z e1 e2 e3)).trans ?_)
  generalize pieces (z.drop n.toNat) = o
  cases o with
  | none => rfl
  | some x => simp

set_option maxHeartbeats 2000000 in
theorem opts_any (B : Nat) (l : List UInt8) (w : World) (h : Rdr w B l) (hl : l.length ≤ 268435456) :
    Calls Tryz.prog 118 #[.pointer (some ⟨B, 0, none⟩)] w fun e w' => OptsPost l B w e w' := by
  obtain ⟨i0, hi, hz0, hz1, hz2⟩ := info_parts infoOpt
  have HR := hide h
  have hB := h.lt
  clear h
  go_enter Tryz.func118, Tryz.ntmps118
  go_wp2
  go_loopg [3] l.length (fun g v3 wr => ∃ (m : List UInt8) (ps : List Pc), m.length = g ∧ g ≤ l.length ∧ 2 * ps.length + g ≤ l.length ∧ Hid (Rdr wr B m) ∧ Hid (wr.ownsRow w.heap.size 67 2 v3 ps.length (cellsO ps)) ∧ Hid (pieces l = (pieces m).map fun r => ps ++ r) ∧ Hid (w.grownBy wr (some B)))
  case atStart => exact ⟨l, [], rfl, Nat.le_refl _, by simp, HR, hide (World.ownsRow_nil _ _ _ _), hide (by simp), hide (grown_refl _ _)⟩
  case round =>
    obtain ⟨m, ps, hm, hg, hps, H1, H2, H3, H4⟩ := hrel
    rename World => wr
    match m, hm with
    | [], hm =>
      go_wp2_with fail
      refine (byte_no B _ (unhide H1)).mono ?_
      rintro e w1 ⟨rfl, rfl⟩
      refine ⟨rfl, unhide H4, ?_⟩
      rw [unhide H3, pieces_nil]
      rfl
    | c :: r, hm =>
      have hc8 := c.toNat_lt
      have hrl : r.length + 1 = gk := by simpa using hm
      go_wp2_with fail
      refine (byte_ok B c r _ (unhide H1) (by simp only [List.length_cons, maxLen]; omega)).mono ?_
      rintro e w1 ⟨rfl, r1, g1⟩
      have R1 := hide r1
      have G1 := hide (grown_trans (unhide H4) g1)
      have O1 := hide (own_kept (unhide H2) g1 hB)
      clear r1 g1 H1 H2 H4 hm
      by_cases e255 : c.toNat = 255
      · have q : (((c.toNat : Nat) : Int) == 255) = true := by simp [e255]
        have HP : Hid (pieces l = some ps) := hide (by rw [unhide H3, pieces_end c r e255]; simp)
        obtain ⟨ao, cp, hv⟩ := own_slice (unhide O1)
        clear H3
        subst hv
        go_wp2
        go_ret
        refine ⟨unhide G1, ?_⟩
        rw [unhide HP]
        exact ⟨_, rfl, unhide O1⟩
      · have q : (((c.toNat : Nat) : Int) == 255) = false := by simp; omega
        by_cases e0 : c.toNat = 0
        · have q0 : (((c.toNat : Nat) : Int) == 0) = true := by simp [e0]
          have HP : Hid (pieces l = (pieces r).map fun x => ps ++ x) := hide (by rw [unhide H3, pieces_none c r e0])
          clear H3 e255 e0
          go_wp2
          go_roundg (gk - 1)
          case rel => exact ⟨r, ps, by omega, by omega, by omega, R1, O1, HP, G1⟩
          case measure => omega
        · have q0 : (((c.toNat : Nat) : Int) == 0) = false := by simp; omega
          match r, hrl with
          | [], hrl =>
            have HP : Hid (pieces l = none) := hide (by rw [unhide H3, pieces_lone c e255 e0]; rfl)
            clear H3 e255 e0
            go_wp2_with fail
            refine (byte_no B _ (unhide R1)).mono ?_
            rintro e w2 ⟨rfl, rfl⟩
            refine ⟨rfl, unhide G1, ?_⟩
            rw [unhide HP]
          | n :: z, hrl =>
            have hn8 := n.toNat_lt
            have hzl : z.length + 2 = gk := by simpa using hrl
            go_wp2_with fail
            refine (byte_ok B n z _ (unhide R1) (by simp only [List.length_cons, maxLen]; omega)).mono ?_
            rintro e w2 ⟨rfl, r2, g2⟩
            have R2 := hide r2
            have G2 := hide (grown_trans (unhide G1) g2)
            have O2 := hide (own_kept (unhide O1) g2 hB)
            clear r2 g2 R1 G1 O1 hrl
            by_cases hfew : z.length < n.toNat
            · have HP : Hid (pieces l = none) := hide (by rw [unhide H3, pieces_few c n z e255 e0 hfew]; rfl)
              clear H3 e255 e0
              go_wp2_with fail
              refine (take_no B z (n.toNat : Int) _ (unhide R2) (by omega)).mono ?_
              rintro e w3 ⟨rfl, rfl⟩
              refine ⟨rfl, unhide G2, ?_⟩
              rw [unhide HP]
            · have HP : Hid (pieces l = (pieces (z.drop n.toNat)).map fun x => (ps ++ [(c, z.take n.toNat)]) ++ x) := hide (pieces_step l z c n ps (unhide H3) e255 e0 hfew)
              clear H3 e255 e0
              have hw2 : w.heap.size ≤ w2.heap.size := (unhide G2).size
              have hpz : ps.length ≤ 268435456 := by omega
              have OW := hide (ownsRow_setCell_below (a := ⟨B, 0, none⟩) (unhide O2) hB (.string ⟨(z.drop n.toNat).toArray⟩))
              go_wp2_with (first | (go_at_call 93; refine (take_ok B z n.toNat _ (unhide R2) (by omega) (by simp only [maxLen]; omega)).mono ?_; rintro e w3 ⟨rfl, rfl⟩) | (at_builtin; refine wpList_append_own _ rfl (.tmp 16) (.tmp 22) 149 rfl w.heap.size 67 i0 (.agg #[.int .u8 0, .string ⟨#[]⟩]) 2 24 Tryz.underlying149 hi hz0 hz1 hz2 rfl (by decide) _ ps.length (cellsO ps) rfl ((unhide OW).alloc _) ⟨w2.heap.size, 0, none⟩ 1 1 [.int .u8 c.toNat, .string ⟨(z.take n.toNat).toArray⟩] rfl rfl ?c1 ?one ?h63 ?hby ?hba ?_))
              case c1 =>
                have q := cell_new (w2.setCell ⟨B, 0, none⟩ (.string ⟨(z.drop n.toNat).toArray⟩)) [.int .u8 c.toNat, .string ⟨(z.take n.toNat).toArray⟩] 67
                simpa using q
              case one => intro u hu; simp at hu; rcases hu with rfl | rfl <;> rfl
              case h63 => simp only [maxLen]; omega
              case hby => omega
              case hba => simp; omega
              · intro v' w4 hown hg4 _
                have hnew : ∀ k, Value.ownBlock _ = some k → w.heap.size ≤ k := fun k hk => ((unhide O2).lt k hk).1
                have hG4 := grown_own (grown_alloc (grown_trans (unhide G2) (grown_set (.string ⟨(z.drop n.toNat).toArray⟩))) (.cells #[.int .u8 c.toNat, .string ⟨(z.take n.toNat).toArray⟩] 67)) hg4 hnew
                have hR4 : Rdr w4 B (z.drop n.toNat) := rdr_grown (((unhide R2).set (z.drop n.toNat)).alloc _) hg4 (fun e => by have := hnew B e; omega)
                have R4 := hide hR4
                have G4 := hide hG4
                have hO4 : w4.ownsRow w.heap.size 67 2 v' (ps ++ [(c, z.take n.toNat)]).length (cellsO (ps ++ [(c, z.take n.toNat)])) := by
                  rw [List.length_append, cellsO_append]; exact hown
                have O4 := hide hO4
                clear hown hg4 hnew hG4 hR4 hO4 OW O2 R2 G2
                go_wp2
                go_roundg (z.drop n.toNat).length
                case rel => exact ⟨z.drop n.toNat, ps ++ [(c, z.take n.toNat)], rfl, by rw [List.length_drop]; omega, by simp only [List.length_append, List.length_cons, List.length_nil, List.length_drop]; omega, R4, O4, HP, G4⟩
                case measure => rw [List.length_drop]; omega
end Go.Proofs.YtonlmklkikbeiaaGreatDoor.Dh

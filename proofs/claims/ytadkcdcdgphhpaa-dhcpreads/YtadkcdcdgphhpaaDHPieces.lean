import Derived.Test.YtadkcdcdgphhpaaDHMath
namespace Go.Proofs.Ytadkcdcdgphhpaa.Dh
set_option linter.unusedVariables false

/-- the pieces that bytes are, up to their end; none: there is no end -/
def pieces (l : List UInt8) : Option (List Pc) :=
  match l with
  | [] => none
  | c :: r =>
    if c.toNat = 255 then some []
    else if c.toNat = 0 then pieces r
    else match r with
      | [] => none
      | n :: q => if q.length < n.toNat then none else (pieces (q.drop n.toNat)).map fun ps => (c, q.take n.toNat) :: ps
termination_by l.length
decreasing_by all_goals (simp; try omega)

theorem pieces_nil : pieces [] = none := by rw [pieces]
theorem pieces_end (c : UInt8) (r : List UInt8) (h : c.toNat = 255) : pieces (c :: r) = some [] := by rw [pieces.eq_def]; exact if_pos h
theorem pieces_none (c : UInt8) (r : List UInt8) (h : c.toNat = 0) : pieces (c :: r) = pieces r := by rw [pieces.eq_def]; exact (if_neg (by omega)).trans (if_pos h)
theorem pieces_lone (c : UInt8) (h : ¬ c.toNat = 255) (h0 : ¬ c.toNat = 0) : pieces [c] = none := by rw [pieces, if_neg h, if_neg h0]
theorem pieces_few (c n : UInt8) (q : List UInt8) (h : ¬ c.toNat = 255) (h0 : ¬ c.toNat = 0) (hq : q.length < n.toNat) : pieces (c :: n :: q) = none := by rw [pieces, if_neg h, if_neg h0]; exact if_pos hq
theorem pieces_more (c n : UInt8) (q : List UInt8) (h : ¬ c.toNat = 255) (h0 : ¬ c.toNat = 0) (hq : ¬ q.length < n.toNat) : pieces (c :: n :: q) = (pieces (q.drop n.toNat)).map fun ps => (c, q.take n.toNat) :: ps := by
  rw [pieces, if_neg h, if_neg h0]; exact if_neg hq

/-- one piece more: behind the data of its code, or at the end -/
def add (l : List Pc) (p : Pc) : List Pc :=
  match l with
  | [] => [p]
  | a :: r => if a.1 = p.1 then (a.1, a.2 ++ p.2) :: r else a :: add r p
def addAll (l : List Pc) (ps : List Pc) : List Pc := ps.foldl add l
def has (l : List Pc) (c : UInt8) : Bool := l.any fun p => p.1 == c
/-- the data of all pieces of a code -/
def data (l : List Pc) (c : UInt8) : List UInt8 := (l.filter fun p => p.1 == c).flatMap fun p => p.2
def drop (l : List Pc) (c : UInt8) : List Pc := l.filter fun p => p.1 != c

theorem has_add (l : List Pc) (p : Pc) (c : UInt8) : has (add l p) c = (has l c || p.1 == c) := by
  induction l with
  | nil => simp [add, has]
  | cons a r ih =>
    simp only [add]
    split
    · rename_i h
      simp only [has, List.any_cons] at ih ⊢
      rw [h]
      cases (p.1 == c) <;> simp
    · simp only [has, List.any_cons] at ih ⊢
      rw [ih, Bool.or_assoc]
theorem has_addAll (l ps : List Pc) (c : UInt8) : has (addAll l ps) c = (has l c || has ps c) := by
  induction ps generalizing l with
  | nil => simp [addAll, has]
  | cons p r ih =>
    show has (addAll (add l p) r) c = _
    rw [ih, has_add]
    simp only [has, List.any_cons, Bool.or_assoc]
/-- the data of a code: of the first of it -/
def look (l : List Pc) (c : UInt8) : Option (List UInt8) :=
  match l with
  | [] => none
  | a :: r => if a.1 = c then some a.2 else look r c
theorem look_add (l : List Pc) (p : Pc) (c : UInt8) : look (add l p) c = if p.1 = c then some ((look l c).getD [] ++ p.2) else look l c := by
  induction l with
  | nil => simp only [add, look]; split <;> simp
  | cons a r ih =>
    simp only [add]
    by_cases h : a.1 = p.1
    · rw [if_pos h]
      simp only [look]
      by_cases hc : p.1 = c
      · rw [if_pos (h.trans hc), if_pos hc, if_pos (h.trans hc)]; rfl
      · rw [if_neg (fun e => hc (h.symm.trans e)), if_neg hc, if_neg (fun e => hc (h.symm.trans e))]
    · rw [if_neg h]
      simp only [look]
      by_cases ha : a.1 = c
      · rw [if_pos ha, if_pos ha, if_neg (fun e => h (ha.trans e.symm))]
      · rw [if_neg ha, if_neg ha, ih]
theorem data_cons (p : Pc) (r : List Pc) (c : UInt8) : data (p :: r) c = (if p.1 = c then p.2 else []) ++ data r c := by
  simp only [data, List.filter_cons]
  by_cases h : p.1 = c
  · rw [if_pos h, if_pos (by simpa using h), List.flatMap_cons]
  · rw [if_neg h, if_neg (by simpa using h), List.nil_append]
theorem has_cons (p : Pc) (r : List Pc) (c : UInt8) : has (p :: r) c = (p.1 == c || has r c) := rfl
theorem data_no (l : List Pc) (c : UInt8) (h : has l c = false) : data l c = [] := by
  induction l with
  | nil => rfl
  | cons p r ih =>
    rw [has_cons, Bool.or_eq_false_iff] at h
    rw [data_cons, if_neg (by simpa using h.1), ih h.2]; rfl
theorem look_addAll (l ps : List Pc) (c : UInt8) : look (addAll l ps) c = if has ps c then some ((look l c).getD [] ++ data ps c) else look l c := by
  induction ps generalizing l with
  | nil => rfl
  | cons p r ih =>
    show look (addAll (add l p) r) c = _
    rw [ih, look_add, has_cons, data_cons]
    by_cases h : p.1 = c
    · have h' : (p.1 == c) = true := by simpa using h
      rw [if_pos h, if_pos h, h', Bool.true_or, if_pos rfl]
      cases hr : has r c
      · simp [data_no r c hr]
      · simp
    · have h' : (p.1 == c) = false := by simpa using h
      rw [if_neg h, if_neg h, h', Bool.false_or, List.nil_append]
theorem drop_add (l : List Pc) (p : Pc) (c : UInt8) : drop (add l p) c = if p.1 = c then drop l c else add (drop l c) p := by
  induction l with
  | nil => simp only [add, drop, List.filter_cons, List.filter_nil]; by_cases h : p.1 = c <;> simp [h]
  | cons a r ih =>
    simp only [add]
    by_cases h : a.1 = p.1
    · rw [if_pos h]
      by_cases hc : p.1 = c
      · rw [if_pos hc]
        have hac : a.1 = c := h.trans hc
        simp only [drop, List.filter_cons, hac, bne_self_eq_false, Bool.false_eq_true, if_false]
      · rw [if_neg hc]
        have hac : ¬ a.1 = c := fun e => hc (h.symm.trans e)
        have hb : (a.1 != c) = true := by simpa using hac
        simp only [drop, List.filter_cons, hb, if_true, add, if_pos h]
    · rw [if_neg h]
      by_cases hac : a.1 = c
      · have hb : (a.1 != c) = false := by simpa using hac
        have hc : ¬ p.1 = c := fun e => h (hac.trans e.symm)
        rw [if_neg hc] at ih ⊢
        simp only [drop, List.filter_cons, hb] at ih ⊢
        exact ih
      · have hb : (a.1 != c) = true := by simpa using hac
        simp only [drop, List.filter_cons, hb, if_true] at ih ⊢
        rw [ih]
        by_cases hc : p.1 = c
        · rw [if_pos hc, if_pos hc]
        · rw [if_neg hc, if_neg hc]
          simp only [add, if_neg h]
theorem drop_addAll (l ps : List Pc) (c : UInt8) : drop (addAll l ps) c = addAll (drop l c) (drop ps c) := by
  induction ps generalizing l with
  | nil => rfl
  | cons p r ih =>
    show drop (addAll (add l p) r) c = _
    rw [ih, drop_add]
    by_cases h : p.1 = c
    · have hb : (p.1 != c) = false := by simpa using h
      rw [if_pos h]
      simp only [drop, List.filter_cons, hb]; rfl
    · have hb : (p.1 != c) = true := by simpa using h
      rw [if_neg h]
      simp only [drop, List.filter_cons, hb, if_true]; rfl
theorem drop_no (l : List Pc) (c : UInt8) (h : has l c = false) : drop l c = l := by
  simp only [drop, List.filter_eq_self]
  intro p hp
  simp only [has, List.any_eq_false] at h
  have := h p hp
  simpa using this
theorem addAll_append (l a b : List Pc) : addAll l (a ++ b) = addAll (addAll l a) b := by simp [addAll]
theorem look_has (l : List Pc) (c : UInt8) : (look l c).isSome = has l c := by
  induction l with
  | nil => rfl
  | cons a r ih =>
    rw [has_cons, look]
    by_cases h : a.1 = c
    · rw [if_pos h]; simp [h]
    · rw [if_neg h, ih]; simp [h]

/-- which error it is, of options and of the two areas -/
def areaD (d : List UInt8) : Bool := match d with | [x] => decide (1 ≤ x.toNat) && decide (x.toNat ≤ 3) | _ => false
def inF (d : List UInt8) : Bool := match d with | [x] => x.toNat % 2 == 1 | _ => false
def inH (d : List UInt8) : Bool := match d with | [x] => decide (2 ≤ x.toNat) | _ => false
/-- the pieces of the areas -/
def moreP (f h : Bool) (file host : List UInt8) : Option (List Pc) :=
  (if f then pieces file else some []).bind fun a => (if h then pieces host else some []).bind fun b => some (a ++ b)
def optK (main host file : List UInt8) : Nat :=
  match pieces main with
  | none => 1
  | some ps => if has ps 52 then (if areaD (data ps 52) then (match moreP (inF (data ps 52)) (inH (data ps 52)) file host with | none => 1 | some m => if has m 52 then 2 else 0) else 2) else 0
def optL (main host file : List UInt8) : List Pc :=
  match pieces main with
  | none => []
  | some ps => if has ps 52 then (match moreP (inF (data ps 52)) (inH (data ps 52)) file host with | none => [] | some m => addAll [] (drop ps 52 ++ m)) else addAll [] ps
end Go.Proofs.Ytadkcdcdgphhpaa.Dh

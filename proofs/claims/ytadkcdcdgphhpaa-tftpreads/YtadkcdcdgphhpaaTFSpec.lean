import Derived.Test.YtadkcdcdgphhpaaTFMath
namespace Go.Proofs.Ytadkcdcdgphhpaa.Tf
set_option linter.unusedVariables false

/-- a text up to its end, and what stands behind -/
def cut : List UInt8 → Option (List UInt8 × List UInt8)
  | [] => none
  | c :: r => if c = 0 then some ([], r) else match cut r with
    | none => none
    | some (a, b) => some (c :: a, b)
theorem cut_some {l a b : List UInt8} (h : cut l = some (a, b)) : l = a ++ 0 :: b ∧ (0 : UInt8) ∉ a := by
  induction l generalizing a b with
  | nil => simp [cut] at h
  | cons c r ih =>
    rw [cut] at h
    by_cases e : c = 0
    · rw [if_pos e] at h
      simp at h
      obtain ⟨rfl, rfl⟩ := h
      simp [e]
    · rw [if_neg e] at h
      cases hc : cut r with
      | none => rw [hc] at h; simp at h
      | some p =>
        obtain ⟨a', b'⟩ := p
        rw [hc] at h
        simp at h
        obtain ⟨rfl, rfl⟩ := h
        obtain ⟨h1, h2⟩ := ih hc
        refine ⟨by rw [h1]; simp, ?_⟩
        simp only [List.mem_cons, not_or]
        exact ⟨fun h => e h.symm, h2⟩
theorem cut_mk (a b : List UInt8) (h : (0 : UInt8) ∉ a) : cut (a ++ 0 :: b) = some (a, b) := by
  induction a with
  | nil => simp [cut]
  | cons c r ih =>
    simp only [List.mem_cons, not_or] at h
    rw [List.cons_append, cut, if_neg (fun e => h.1 e.symm), ih h.2]
theorem cut_none {l : List UInt8} : cut l = none ↔ (0 : UInt8) ∉ l := by
  constructor
  · intro h
    induction l with
    | nil => simp
    | cons c r ih =>
      rw [cut] at h
      by_cases e : c = 0
      · rw [if_pos e] at h; simp at h
      · rw [if_neg e] at h
        cases hc : cut r with
        | none =>
          simp only [List.mem_cons, not_or]
          exact ⟨fun h => e h.symm, ih hc⟩
        | some p => rw [hc] at h; simp at h
  · intro h
    cases hc : cut l with
    | none => rfl
    | some p =>
      obtain ⟨h1, _⟩ := cut_some (a := p.1) (b := p.2) hc
      exact absurd (by rw [h1]; simp) h
theorem cut_len {l a b : List UInt8} (h : cut l = some (a, b)) : l.length = a.length + 1 + b.length := by
  obtain ⟨h1, _⟩ := cut_some h
  rw [h1]; simp; omega

/-- fields, as the program reads them -/
def fieldsK (l : List UInt8) : Option Flds :=
  if l = [] then some [] else
  match h : cut l with
  | none => none
  | some (n, r) => if nameB n then
      (match h2 : cut r with
      | none => none
      | some (v, r2) => if nameB v then (match fieldsK r2 with
        | none => none
        | some fs => some ((lowL n, v) :: fs)) else none)
    else none
termination_by l.length
decreasing_by
  have h1 := cut_len h
  have h2 := cut_len h2
  omega
theorem fieldsK_nil : fieldsK [] = some [] := by rw [fieldsK, if_pos rfl]
theorem fieldsK_none1 {l : List UInt8} (h0 : l ≠ []) (h : cut l = none) : fieldsK l = none := by
  rw [fieldsK, if_neg h0]
  split
  · rfl
  · rename_i n r h'; rw [h] at h'; simp at h'
theorem fieldsK_one {l n r : List UInt8} (h0 : l ≠ []) (h : cut l = some (n, r)) : fieldsK l = if nameB n then (match cut r with
    | none => none
    | some (v, r2) => if nameB v then (match fieldsK r2 with
      | none => none
      | some fs => some ((lowL n, v) :: fs)) else none) else none := by
  rw [fieldsK, if_neg h0]
  split
  · rename_i h'; rw [h] at h'; simp at h'
  · rename_i n' r' h'
    rw [h] at h'
    simp at h'
    obtain ⟨rfl, rfl⟩ := h'
    by_cases hn : nameB n = true
    · rw [if_pos hn, if_pos hn]
      split
      · rename_i h2; rw [h2]
      · rename_i h2; rw [h2]
    · rw [if_neg hn, if_neg hn]
theorem fieldsK_badn {l n r : List UInt8} (h0 : l ≠ []) (h : cut l = some (n, r)) (hn : nameB n = false) : fieldsK l = none := by
  rw [fieldsK_one h0 h, hn]; rfl
theorem fieldsK_none2 {l n r : List UInt8} (h0 : l ≠ []) (h : cut l = some (n, r)) (h2 : cut r = none) : fieldsK l = none := by
  rw [fieldsK_one h0 h, h2]; split <;> rfl
theorem fieldsK_badv {l n r v r2 : List UInt8} (h0 : l ≠ []) (h : cut l = some (n, r)) (h2 : cut r = some (v, r2)) (hv : nameB v = false) : fieldsK l = none := by
  rw [fieldsK_one h0 h, h2]
  simp only [hv]
  split <;> rfl
theorem fieldsK_next {l n r v r2 : List UInt8} (h0 : l ≠ []) (h : cut l = some (n, r)) (h2 : cut r = some (v, r2)) (hn : nameB n = true) (hv : nameB v = true) : fieldsK l = match fieldsK r2 with
    | none => none
    | some fs => some ((lowL n, v) :: fs) := by
  rw [fieldsK_one h0 h, h2, if_pos hn]
  simp only [hv, if_true]

/-- the lines of a text, and whether the last one is ended -/
def linesL (l : List UInt8) : List (List UInt8) :=
  match h : cut l with
  | none => []
  | some (a, b) => a :: linesL b
termination_by l.length
decreasing_by
  have := cut_len h
  omega
def endedB (l : List UInt8) : Bool :=
  match h : cut l with
  | none => l.isEmpty
  | some (a, b) => endedB b
termination_by l.length
decreasing_by
  have := cut_len h
  omega
theorem linesL_none {l : List UInt8} (h : cut l = none) : linesL l = [] := by
  rw [linesL]; split
  · rfl
  · rename_i h'; rw [h] at h'; simp at h'
theorem linesL_some {l a b : List UInt8} (h : cut l = some (a, b)) : linesL l = a :: linesL b := by
  rw [linesL]; split
  · rename_i h'; rw [h] at h'; simp at h'
  · rename_i h'; rw [h] at h'; simp at h'; obtain ⟨rfl, rfl⟩ := h'; rfl
theorem endedB_none {l : List UInt8} (h : cut l = none) : endedB l = l.isEmpty := by
  rw [endedB]; split
  · rfl
  · rename_i h'; rw [h] at h'; simp at h'
theorem endedB_some {l a b : List UInt8} (h : cut l = some (a, b)) : endedB l = endedB b := by
  rw [endedB]; split
  · rename_i h'; rw [h] at h'; simp at h'
  · rename_i h'; rw [h] at h'; simp at h'; obtain ⟨rfl, rfl⟩ := h'; rfl

/-- fields of lines, without a look at names that come twice -/
def pairsR : List (List UInt8) → Option Flds
  | [] => some []
  | [_] => none
  | n :: v :: r => if nameB n && nameB v then (match pairsR r with
    | none => none
    | some fs => some ((lowL n, v) :: fs)) else none
theorem fieldsK_lines (l : List UInt8) : fieldsK l = if endedB l then pairsR (linesL l) else none := by
  by_cases h0 : l = []
  · subst h0
    rw [fieldsK_nil, endedB_none rfl, linesL_none rfl]; rfl
  cases h : cut l with
  | none =>
    rw [fieldsK_none1 h0 h, endedB_none h]
    have : l.isEmpty = false := by cases l with | nil => exact absurd rfl h0 | cons => rfl
    rw [this]; rfl
  | some p =>
    obtain ⟨n, r⟩ := p
    rw [endedB_some h, linesL_some h]
    cases h2 : cut r with
    | none =>
      rw [fieldsK_none2 h0 h h2, linesL_none h2]
      split <;> rfl
    | some p2 =>
      obtain ⟨v, r2⟩ := p2
      have l1 := cut_len h
      have l2 := cut_len h2
      have ih := fieldsK_lines r2
      rw [endedB_some h2, linesL_some h2, fieldsK_one h0 h, h2]
      simp only [pairsR, ih]
      by_cases e : endedB r2 = true
      · simp only [e, if_true]
        by_cases hn : nameB n = true
        · by_cases hv : nameB v = true
          · simp [hn, hv]
          · simp [hn, hv]
        · simp [hn]
      · simp only [e]
        split
        · split <;> simp
        · rfl
termination_by l.length
decreasing_by omega

/-- a message -/
structure Msg where
  op : Nat
  block : Nat
  text : List UInt8
  data : List UInt8
  fs : Flds
def Msg.zero : Msg := ⟨0, 0, [], [], []⟩
def octet : List UInt8 := [111, 99, 116, 101, 116]
def be2 (n : Nat) : List UInt8 := [UInt8.ofNat (n / 256), UInt8.ofNat n]
/-- how a message is written: its kind's error that is ahead of all others; its bytes -/
def toldM (m : Msg) : Bool :=
  if m.op = 1 then nameB m.text && toldB m.fs else if m.op = 6 then toldB m.fs else if m.op = 5 then !m.text.contains 0 else (m.op == 3 || m.op == 4)
def bytesM (m : Msg) : List UInt8 :=
  be2 m.op ++ (if m.op = 1 then m.text ++ [0] ++ (octet ++ [0]) ++ flds8 m.fs else if m.op = 6 then flds8 m.fs else if m.op = 3 then be2 m.block ++ m.data else if m.op = 5 then be2 m.block ++ (m.text ++ [0]) else be2 m.block)
def wrK (m : Msg) : Nat :=
  if toldM m = false then 2 else if m.op = 3 ∧ 1024 < m.data.length then 7 else if 1472 < (bytesM m).length then 7 else 0
def wrB (m : Msg) : List UInt8 := if wrK m = 0 then bytesM m else []
/-- fields, whole -/
def fldsR (l : List UInt8) : Option Flds := match fieldsK l with
  | none => none
  | some fs => if apartB (namesF fs) then some fs else none
/-- how bytes are read -/
def rdR (l : List UInt8) : Nat × Msg :=
  if l.length < 2 then (1, .zero) else
  let op := (l.getD 0 0).toNat * 256 + (l.getD 1 0).toNat
  let r := l.drop 2
  if op = 1 then
    match cut r with
    | none => (2, .zero)
    | some (n, r1) => if nameB n = false then (2, .zero) else match cut r1 with
      | none => (2, .zero)
      | some (m, r2) => if lowL m ≠ octet then (2, .zero) else match fldsR r2 with
        | none => (2, .zero)
        | some fs => (0, ⟨op, 0, n, [], fs⟩)
  else if op = 6 then match fldsR r with
    | none => (2, .zero)
    | some fs => (0, ⟨op, 0, [], [], fs⟩)
  else if op = 3 ∨ op = 4 ∨ op = 5 then
    if r.length < 2 then (1, .zero) else
    let bl := (r.getD 0 0).toNat * 256 + (r.getD 1 0).toNat
    let q := r.drop 2
    if op = 3 then (if 1024 < q.length then (7, .zero) else (0, ⟨op, bl, [], q, []⟩))
    else if op = 4 then (if q = [] then (0, ⟨op, bl, [], [], []⟩) else (2, .zero))
    else match cut q with
      | none => (2, .zero)
      | some (t, q2) => if q2 = [] then (0, ⟨op, bl, t, [], []⟩) else (2, .zero)
  else (2, .zero)
end Go.Proofs.Ytadkcdcdgphhpaa.Tf

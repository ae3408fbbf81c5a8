import Derived.WalkKit
import Derived.ProofKit
import Derived.Lib.SlicesCompact
import Derived.Lib.Bytealg
import Derived.Test.YtoifihhmneldeaaGreatDoorWriterAt
import Derived.Test.YtoifihhmneldeaaGreatDoorShelf
import Derived.Deep.OwnRows
import Derived.Deep.RegionHeld3
namespace Go.Proofs.YtoifihhmneldeaaGreatDoor.Tf
set_option linter.unusedVariables false

/-- a byte of a name -/
def okC (c : UInt8) : Bool := decide (33 ≤ c.toNat ∧ c.toNat ≤ 126)
def nameB (l : List UInt8) : Bool := !l.isEmpty && l.all okC
def lowC (c : UInt8) : UInt8 := if 65 ≤ c.toNat ∧ c.toNat ≤ 90 then UInt8.ofNat (c.toNat + 32) else c
def lowL (l : List UInt8) : List UInt8 := l.map lowC
theorem lowL_length (l : List UInt8) : (lowL l).length = l.length := by simp [lowL]
theorem lowC_nat (c : UInt8) : (lowC c).toNat = if 65 ≤ c.toNat ∧ c.toNat ≤ 90 then c.toNat + 32 else c.toNat := by
  unfold lowC
  split
  · rw [UInt8.toNat_ofNat_of_lt' (by show _ < 256; omega)]
  · rfl
theorem okC_low (c : UInt8) : okC (lowC c) = okC c := by
  unfold okC
  rw [lowC_nat]
  split
  · rw [decide_eq_decide]; omega
  · rfl
theorem nameB_low (l : List UInt8) : nameB (lowL l) = nameB l := by
  unfold nameB lowL
  rw [List.all_map]
  have : (okC ∘ lowC) = okC := funext fun c => okC_low c
  rw [this]
  cases l <;> rfl
theorem lowL_idem (l : List UInt8) : lowL (lowL l) = lowL l := by
  unfold lowL
  rw [List.map_map]
  congr 1
  funext c
  apply UInt8.toNat_inj.1
  simp only [Function.comp]
  rw [lowC_nat (lowC c), if_neg]
  rw [lowC_nat]
  split <;> omega

/-- a name and its value -/
abbrev Fd := List UInt8 × List UInt8
abbrev Flds := List Fd
def fd8 (f : Fd) : List UInt8 := f.1 ++ [0] ++ (f.2 ++ [0])
def flds8 (fs : Flds) : List UInt8 := fs.flatMap fd8
theorem flds8_take (fs : Flds) (k : Nat) (h : k < fs.length) : flds8 (fs.take (k + 1)) = flds8 (fs.take k) ++ fd8 fs[k] := by
  rw [flds8, List.take_succ_eq_append_getElem h, List.flatMap_append]
  simp [flds8]
theorem flds8_le (fs : Flds) (k : Nat) : (flds8 (fs.take k)).length ≤ (flds8 fs).length := by
  have e : flds8 fs = flds8 (fs.take k) ++ flds8 (fs.drop k) := by
    rw [flds8, flds8, flds8, ← List.flatMap_append, List.take_append_drop]
  rw [e, List.length_append]; omega
/-- how much fields are: their number and their bytes -/
def heavyF (fs : Flds) : Nat := fs.length + (fs.map fun f => f.1.length + f.2.length).sum
theorem flds8_heavy (fs : Flds) : (flds8 fs).length ≤ 2 * heavyF fs := by
  induction fs with
  | nil => simp [flds8, heavyF]
  | cons f r ih =>
    simp only [flds8, heavyF, fd8, List.flatMap_cons, List.length_append, List.length_cons, List.length_nil, List.map_cons, List.sum_cons] at ih ⊢
    omega
theorem heavyF_take (fs : Flds) (k : Nat) (h : k < fs.length) : heavyF (fs.take (k + 1)) = heavyF (fs.take k) + 1 + (fs[k].1.length + fs[k].2.length) := by
  simp only [heavyF, List.take_succ_eq_append_getElem h, List.map_append, List.sum_append, List.length_append, List.length_cons, List.length_nil, List.map_cons, List.map_nil, List.sum_cons, List.sum_nil]
  omega
theorem heavyF_more (fs : Flds) (k : Nat) : heavyF (fs.take k) + (fs.length - k) ≤ heavyF fs := by
  have q : heavyF (fs.take k ++ fs.drop k) = heavyF (fs.take k) + heavyF (fs.drop k) := by
    simp only [heavyF, List.map_append, List.sum_append, List.length_append]; omega
  rw [List.take_append_drop] at q
  have h : (fs.drop k).length ≤ heavyF (fs.drop k) := by unfold heavyF; omega
  rw [List.length_drop] at h
  omega
theorem heavyF_le (fs : Flds) (k : Nat) : heavyF (fs.take k) ≤ heavyF fs := by
  have := heavyF_more fs k
  omega
theorem heavyF_one (fs : Flds) (k : Nat) (h : k < fs.length) : fs[k].1.length + fs[k].2.length ≤ heavyF fs := by
  have := heavyF_take fs k h
  have := heavyF_le fs (k + 1)
  omega

def namesF (fs : Flds) : List (List UInt8) := fs.map Prod.fst
theorem namesF_length (fs : Flds) : (namesF fs).length = fs.length := by simp [namesF]
theorem namesF_take (fs : Flds) (k : Nat) : namesF (fs.take k) = (namesF fs).take k := by simp [namesF, List.map_take]
/-- a field that may be told -/
def goodF (f : Fd) : Bool := nameB f.1 && (lowL f.1 == f.1) && nameB f.2
/-- no name comes twice -/
def apartB : List (List UInt8) → Bool
  | [] => true
  | x :: r => !r.contains x && apartB r
theorem apartB_nodup (l : List (List UInt8)) : apartB l = true ↔ l.Nodup := by
  induction l with
  | nil => simp [apartB]
  | cons x r ih =>
    simp only [apartB, Bool.and_eq_true, ih, List.nodup_cons]
    simp
def namedB (fs : Flds) (n : List UInt8) : Bool := fs.any fun f => f.1 == n
theorem namedB_iff (fs : Flds) (n : List UInt8) : namedB fs n = true ↔ n ∈ namesF fs := by
  simp only [namedB, List.any_eq_true, namesF, List.mem_map]
  constructor
  · rintro ⟨f, hf, h⟩; exact ⟨f, hf, by simpa using h⟩
  · rintro ⟨f, hf, h⟩; exact ⟨f, hf, by simpa using h⟩
def toldB (fs : Flds) : Bool := fs.all goodF && apartB (namesF fs)
theorem nodup_snoc {α : Type} (l : List α) (x : α) : (l ++ [x]).Nodup ↔ l.Nodup ∧ x ∉ l := by
  rw [List.nodup_append]
  constructor
  · rintro ⟨h1, _, h3⟩; exact ⟨h1, fun hx => h3 x hx x (by simp) rfl⟩
  · rintro ⟨h1, h2⟩; exact ⟨h1, by simp, fun a ha b hb => by simp at hb; subst hb; rintro rfl; exact h2 ha⟩
theorem toldB_take (fs : Flds) (k : Nat) (h : k < fs.length) : toldB (fs.take (k + 1)) = (toldB (fs.take k) && (goodF fs[k] && !namedB (fs.take k) fs[k].1)) := by
  rw [Bool.eq_iff_iff]
  unfold toldB
  simp only [Bool.and_eq_true, apartB_nodup, Bool.not_eq_true', ← Bool.not_eq_true, namedB_iff]
  rw [List.take_succ_eq_append_getElem h]
  simp only [namesF, List.map_append, List.map_cons, List.map_nil, nodup_snoc, List.all_append, List.all_cons, List.all_nil, Bool.and_true, Bool.and_eq_true]
  constructor
  · rintro ⟨⟨a, b⟩, c, d⟩; exact ⟨⟨a, c⟩, b, d⟩
  · rintro ⟨⟨a, c⟩, b, d⟩; exact ⟨⟨a, b⟩, c, d⟩
theorem nodup_take {α : Type} {l : List α} (h : l.Nodup) (k : Nat) : (l.take k).Nodup := h.sublist (List.take_sublist k l)
theorem toldB_prefix (fs : Flds) (k : Nat) (h : toldB (fs.take k) = false) : toldB fs = false := by
  rw [← Bool.not_eq_true] at h ⊢
  intro hh
  apply h
  unfold toldB at hh ⊢
  rw [Bool.and_eq_true, apartB_nodup] at hh ⊢
  refine ⟨?_, ?_⟩
  · rw [List.all_eq_true] at hh ⊢
    exact fun f hf => hh.1 f (List.mem_of_mem_take hf)
  · rw [namesF_take]; exact nodup_take hh.2 k

/-! what is put in order and made one: as long as before iff no two are equal -/
theorem le_trans8 (a b c : List UInt8) : decide (a ≤ b) = true → decide (b ≤ c) = true → decide (a ≤ c) = true := by
  simp only [decide_eq_true_eq]; exact List.le_trans
theorem le_total8 (a b : List UInt8) : (decide (a ≤ b) || decide (b ≤ a)) = true := by
  simp only [Bool.or_eq_true, decide_eq_true_eq]; exact List.le_total a b
theorem keeps_all_of_nodup (zs : List (List UInt8)) (h : zs.Nodup) : ∀ j, j < zs.length → Lib.keeps zs.toArray j = true := by
  intro j hj
  by_cases e : j = 0
  · simp [Lib.keeps, e]
  · apply Lib.keeps_pos
    have h1 : j - 1 < zs.length := by omega
    simp only [List.getElem!_toArray]
    rw [getElem!_pos zs j hj, getElem!_pos zs (j - 1) h1]
    intro hh
    have q := (List.pairwise_iff_getElem.1 h) (j - 1) j h1 hj (by omega)
    exact q hh.symm
theorem compact_len_lt {zs : List (List UInt8)} {j : Nat} (hj : j < zs.length) (hk : Lib.keeps zs.toArray j = false) : (Lib.compact zs).length < zs.length := by
  unfold Lib.compact Lib.compactUpTo
  rw [List.length_map]
  have h1 : ((List.range zs.length).filter (Lib.keeps zs.toArray)).length < (List.range zs.length).length := by
    rw [List.length_filter_lt_length_iff_exists]
    exact ⟨j, by simpa using hj, by rw [hk]; simp⟩
  simpa using h1
theorem sorted_nodup {zs : List (List UInt8)} (hs : zs.Pairwise (fun a b => a ≤ b)) (hk : ∀ j, j < zs.length → Lib.keeps zs.toArray j = true) : zs.Nodup := by
  rw [List.Nodup, List.pairwise_iff_getElem]
  intro i j hi hj hij e
  have h1 : i + 1 < zs.length := by omega
  have hkk := hk (i + 1) h1
  have hle1 : zs[i] ≤ zs[i + 1] := (List.pairwise_iff_getElem.1 hs) i (i + 1) hi h1 (by omega)
  have hle2 : zs[i + 1] ≤ zs[j] := by
    by_cases e2 : i + 1 = j
    · subst e2; exact List.le_refl _
    · exact (List.pairwise_iff_getElem.1 hs) (i + 1) j h1 hj (by omega)
  rw [← e] at hle2
  have heq : zs[i + 1] = zs[i] := List.le_antisymm hle2 hle1
  simp only [Lib.keeps, decide_eq_true_eq] at hkk
  rcases hkk with h0 | h0
  · omega
  · apply h0
    simp only [List.getElem!_toArray, Nat.add_sub_cancel]
    rw [getElem!_pos zs (i + 1) h1, getElem!_pos zs i hi]
    exact heq
def sortL (l : List (List UInt8)) : List (List UInt8) := l.mergeSort fun x y => decide (x ≤ y)
theorem sortL_length (l : List (List UInt8)) : (sortL l).length = l.length := (List.mergeSort_perm l _).length_eq
theorem sort_compact (l : List (List UInt8)) : decide ((Lib.compact (sortL l)).length = l.length) = apartB l := by
  have hp : (sortL l).Perm l := List.mergeSort_perm l _
  have hs : (sortL l).Pairwise (fun a b => a ≤ b) := by
    have := List.pairwise_mergeSort le_trans8 le_total8 l
    exact this.imp (fun h => by simpa using h)
  have hl : (sortL l).length = l.length := hp.length_eq
  rw [Bool.eq_iff_iff, decide_eq_true_eq, apartB_nodup]
  constructor
  · intro h
    apply hp.nodup_iff.1
    apply sorted_nodup hs
    intro j hj
    cases hk : Lib.keeps (sortL l).toArray j with
    | true => rfl
    | false => have := compact_len_lt hj hk; omega
  · intro h
    rw [Lib.compact_all _ (keeps_all_of_nodup _ (hp.nodup_iff.2 h)), hl]
end Go.Proofs.YtoifihhmneldeaaGreatDoor.Tf

namespace Go.Proofs.YtoifihhmneldeaaGreatDoor.Tf
set_option linter.unusedVariables false

/-- a text up to its end, and what stands behind -/
def cut : List UInt8 → Option (List UInt8 × List UInt8)
  | [] => none
  | c :: r => if c = 0 then some ([], r) else match cut r with
    | none => none
    | some (a, b) => some (c :: a, b)
theorem cut_some {l a b : List UInt8} (h : cut l = some (a, b)) : l = a ++ 0 :: b ∧ (0 : UInt8) ∉ a := by
  induction l generalizing a b with
  | nil => simp [cut] at h
  | cons c r ih =>
    rw [cut] at h
    by_cases e : c = 0
    · rw [if_pos e] at h
      simp at h
      obtain ⟨rfl, rfl⟩ := h
      simp [e]
    · rw [if_neg e] at h
      cases hc : cut r with
      | none => rw [hc] at h; simp at h
      | some p =>
        obtain ⟨a', b'⟩ := p
        rw [hc] at h
        simp at h
        obtain ⟨rfl, rfl⟩ := h
        obtain ⟨h1, h2⟩ := ih hc
        refine ⟨by rw [h1]; simp, ?_⟩
        simp only [List.mem_cons, not_or]
        exact ⟨fun h => e h.symm, h2⟩
theorem cut_mk (a b : List UInt8) (h : (0 : UInt8) ∉ a) : cut (a ++ 0 :: b) = some (a, b) := by
  induction a with
  | nil => simp [cut]
  | cons c r ih =>
    simp only [List.mem_cons, not_or] at h
    rw [List.cons_append, cut, if_neg (fun e => h.1 e.symm), ih h.2]
theorem cut_none {l : List UInt8} : cut l = none ↔ (0 : UInt8) ∉ l := by
  constructor
  · intro h
    induction l with
    | nil => simp
    | cons c r ih =>
      rw [cut] at h
      by_cases e : c = 0
      · rw [if_pos e] at h; simp at h
      · rw [if_neg e] at h
        cases hc : cut r with
        | none =>
          simp only [List.mem_cons, not_or]
          exact ⟨fun h => e h.symm, ih hc⟩
        | some p => rw [hc] at h; simp at h
  · intro h
    cases hc : cut l with
    | none => rfl
    | some p =>
      obtain ⟨h1, _⟩ := cut_some (a := p.1) (b := p.2) hc
      exact absurd (by rw [h1]; simp) h
theorem cut_len {l a b : List UInt8} (h : cut l = some (a, b)) : l.length = a.length + 1 + b.length := by
  obtain ⟨h1, _⟩ := cut_some h
  rw [h1]; simp; omega

/-- fields, as the program reads them -/
def fieldsK (l : List UInt8) : Option Flds :=
  if l = [] then some [] else
  match h : cut l with
  | none => none
  | some (n, r) => if nameB n then
      (match h2 : cut r with
      | none => none
      | some (v, r2) => if nameB v then (match fieldsK r2 with
        | none => none
        | some fs => some ((lowL n, v) :: fs)) else none)
    else none
termination_by l.length
decreasing_by
  have h1 := cut_len h
  have h2 := cut_len h2
  omega
theorem fieldsK_nil : fieldsK [] = some [] := by rw [fieldsK, if_pos rfl]
theorem fieldsK_none1 {l : List UInt8} (h0 : l ≠ []) (h : cut l = none) : fieldsK l = none := by
  rw [fieldsK, if_neg h0]
  split
  · rfl
  · rename_i n r h'; rw [h] at h'; simp at h'
theorem fieldsK_one {l n r : List UInt8} (h0 : l ≠ []) (h : cut l = some (n, r)) : fieldsK l = if nameB n then (match cut r with
    | none => none
    | some (v, r2) => if nameB v then (match fieldsK r2 with
      | none => none
      | some fs => some ((lowL n, v) :: fs)) else none) else none := by
  rw [fieldsK, if_neg h0]
  split
  · rename_i h'; rw [h] at h'; simp at h'
  · rename_i n' r' h'
    rw [h] at h'
    simp at h'
    obtain ⟨rfl, rfl⟩ := h'
    by_cases hn : nameB n = true
    · rw [if_pos hn, if_pos hn]
      split
      · rename_i h2; rw [h2]
      · rename_i h2; rw [h2]
    · rw [if_neg hn, if_neg hn]
theorem fieldsK_badn {l n r : List UInt8} (h0 : l ≠ []) (h : cut l = some (n, r)) (hn : nameB n = false) : fieldsK l = none := by
  rw [fieldsK_one h0 h, hn]; rfl
theorem fieldsK_none2 {l n r : List UInt8} (h0 : l ≠ []) (h : cut l = some (n, r)) (h2 : cut r = none) : fieldsK l = none := by
  rw [fieldsK_one h0 h, h2]; split <;> rfl
theorem fieldsK_badv {l n r v r2 : List UInt8} (h0 : l ≠ []) (h : cut l = some (n, r)) (h2 : cut r = some (v, r2)) (hv : nameB v = false) : fieldsK l = none := by
  rw [fieldsK_one h0 h, h2]
  simp only [hv]
  split <;> rfl
theorem fieldsK_next {l n r v r2 : List UInt8} (h0 : l ≠ []) (h : cut l = some (n, r)) (h2 : cut r = some (v, r2)) (hn : nameB n = true) (hv : nameB v = true) : fieldsK l = match fieldsK r2 with
    | none => none
    | some fs => some ((lowL n, v) :: fs) := by
  rw [fieldsK_one h0 h, h2, if_pos hn]
  simp only [hv, if_true]

/-- the lines of a text, and whether the last one is ended -/
def linesL (l : List UInt8) : List (List UInt8) :=
  match h : cut l with
  | none => []
  | some (a, b) => a :: linesL b
termination_by l.length
decreasing_by
  have := cut_len h
  omega
def endedB (l : List UInt8) : Bool :=
  match h : cut l with
  | none => l.isEmpty
  | some (a, b) => endedB b
termination_by l.length
decreasing_by
  have := cut_len h
  omega
theorem linesL_none {l : List UInt8} (h : cut l = none) : linesL l = [] := by
  rw [linesL]; split
  · rfl
  · rename_i h'; rw [h] at h'; simp at h'
theorem linesL_some {l a b : List UInt8} (h : cut l = some (a, b)) : linesL l = a :: linesL b := by
  rw [linesL]; split
  · rename_i h'; rw [h] at h'; simp at h'
  · rename_i h'; rw [h] at h'; simp at h'; obtain ⟨rfl, rfl⟩ := h'; rfl
theorem endedB_none {l : List UInt8} (h : cut l = none) : endedB l = l.isEmpty := by
  rw [endedB]; split
  · rfl
  · rename_i h'; rw [h] at h'; simp at h'
theorem endedB_some {l a b : List UInt8} (h : cut l = some (a, b)) : endedB l = endedB b := by
  rw [endedB]; split
  · rename_i h'; rw [h] at h'; simp at h'
  · rename_i h'; rw [h] at h'; simp at h'; obtain ⟨rfl, rfl⟩ := h'; rfl

/-- fields of lines, without a look at names that come twice -/
def pairsR : List (List UInt8) → Option Flds
  | [] => some []
  | [_] => none
  | n :: v :: r => if nameB n && nameB v then (match pairsR r with
    | none => none
    | some fs => some ((lowL n, v) :: fs)) else none
theorem fieldsK_lines (l : List UInt8) : fieldsK l = if endedB l then pairsR (linesL l) else none := by
  by_cases h0 : l = []
  · subst h0
    rw [fieldsK_nil, endedB_none rfl, linesL_none rfl]; rfl
  cases h : cut l with
  | none =>
    rw [fieldsK_none1 h0 h, endedB_none h]
    have : l.isEmpty = false := by cases l with | nil => exact absurd rfl h0 | cons => rfl
    rw [this]; rfl
  | some p =>
    obtain ⟨n, r⟩ := p
    rw [endedB_some h, linesL_some h]
    cases h2 : cut r with
    | none =>
      rw [fieldsK_none2 h0 h h2, linesL_none h2]
      split <;> rfl
    | some p2 =>
      obtain ⟨v, r2⟩ := p2
      have l1 := cut_len h
      have l2 := cut_len h2
      have ih := fieldsK_lines r2
      rw [endedB_some h2, linesL_some h2, fieldsK_one h0 h, h2]
      simp only [pairsR, ih]
      by_cases e : endedB r2 = true
      · simp only [e, if_true]
        by_cases hn : nameB n = true
        · by_cases hv : nameB v = true
          · simp [hn, hv]
          · simp [hn, hv]
        · simp [hn]
      · simp only [e]
        split
        · split <;> simp
        · rfl
termination_by l.length
decreasing_by omega

/-- a message -/
structure Msg where
  op : Nat
  block : Nat
  text : List UInt8
  data : List UInt8
  fs : Flds
def Msg.zero : Msg := ⟨0, 0, [], [], []⟩
def octet : List UInt8 := [111, 99, 116, 101, 116]
def be2 (n : Nat) : List UInt8 := [UInt8.ofNat (n / 256), UInt8.ofNat n]
/-- how a message is written: its kind's error that is ahead of all others; its bytes -/
def toldM (m : Msg) : Bool :=
  if m.op = 1 then nameB m.text && toldB m.fs else if m.op = 6 then toldB m.fs else if m.op = 5 then !m.text.contains 0 else (m.op == 3 || m.op == 4)
def bytesM (m : Msg) : List UInt8 :=
  be2 m.op ++ (if m.op = 1 then m.text ++ [0] ++ (octet ++ [0]) ++ flds8 m.fs else if m.op = 6 then flds8 m.fs else if m.op = 3 then be2 m.block ++ m.data else if m.op = 5 then be2 m.block ++ (m.text ++ [0]) else be2 m.block)
def wrK (m : Msg) : Nat :=
  if toldM m = false then 2 else if m.op = 3 ∧ 1024 < m.data.length then 7 else if 1472 < (bytesM m).length then 7 else 0
def wrB (m : Msg) : List UInt8 := if wrK m = 0 then bytesM m else []
/-- fields, whole -/
def fldsR (l : List UInt8) : Option Flds := match fieldsK l with
  | none => none
  | some fs => if apartB (namesF fs) then some fs else none
/-- how bytes are read -/
def rdR (l : List UInt8) : Nat × Msg :=
  if l.length < 2 then (1, .zero) else
  let op := (l.getD 0 0).toNat * 256 + (l.getD 1 0).toNat
  let r := l.drop 2
  if op = 1 then
    match cut r with
    | none => (2, .zero)
    | some (n, r1) => if nameB n = false then (2, .zero) else match cut r1 with
      | none => (2, .zero)
      | some (m, r2) => if lowL m ≠ octet then (2, .zero) else match fldsR r2 with
        | none => (2, .zero)
        | some fs => (0, ⟨op, 0, n, [], fs⟩)
  else if op = 6 then match fldsR r with
    | none => (2, .zero)
    | some fs => (0, ⟨op, 0, [], [], fs⟩)
  else if op = 3 ∨ op = 4 ∨ op = 5 then
    if r.length < 2 then (1, .zero) else
    let bl := (r.getD 0 0).toNat * 256 + (r.getD 1 0).toNat
    let q := r.drop 2
    if op = 3 then (if 1024 < q.length then (7, .zero) else (0, ⟨op, bl, [], q, []⟩))
    else if op = 4 then (if q = [] then (0, ⟨op, bl, [], [], []⟩) else (2, .zero))
    else match cut q with
      | none => (2, .zero)
      | some (t, q2) => if q2 = [] then (0, ⟨op, bl, t, [], []⟩) else (2, .zero)
  else (2, .zero)
end Go.Proofs.YtoifihhmneldeaaGreatDoor.Tf

namespace Go.Proofs.YtoifihhmneldeaaGreatDoor.Tf
open Go.ChangeShapes Go.WideShapes Go.ChangeAt Go.RowKit Bs
set_option linter.unusedVariables false
set_option linter.unusedSimpArgs false

theorem str_size (l : List UInt8) : (⟨l.toArray⟩ : ByteArray).size = l.length := by show l.toArray.size = _; simp
theorem str_of {s : ByteArray} {l : List UInt8} (h : s.data.toList = l) : s = ⟨l.toArray⟩ := by rw [← h]
/-- index of a text, byte by byte -/
theorem idx_get (s : ByteArray) (l : List UInt8) (hsl : s.data.toList = l) (k : Nat) (hk : k < l.length) (u : World) : (Instr.index 9 (.string s) (.int .i64 (k : Int))).run Tryz.prog u = .ok (.int .u8 (l.getD k 0).toNat) u := by
  have hz : s.size = l.length := by rw [← hsl, Array.length_toList]; rfl
  have h2 : (k : Int) < (s.size : Int) := by omega
  have hk' : k < s.size := by omega
  have h3 : s[k] = l.getD k 0 := by
    have hk2 : k < s.data.size := hk'
    have q : s.data[k]? = l[k]? := by rw [← hsl, Array.getElem?_toList]
    rw [Array.getElem?_eq_getElem hk2, List.getElem?_eq_getElem hk] at q
    rw [List.getD_eq_getElem?_getD, List.getElem?_eq_getElem hk]
    exact Option.some.inj q
  simp [Instr.index, run_underlying Tryz.underlying9, asIntOf, h2, hk', go_sem, h3]
theorem all_take {l : List UInt8} {k : Nat} (h : k < l.length) (h0 : (l.take k).all okC = true) (h1 : okC (l.getD k 0) = true) : (l.take (k + 1)).all okC = true := by
  rw [List.take_succ_eq_append_getElem h, List.all_append, h0]
  rw [List.getD_eq_getElem?_getD, List.getElem?_eq_getElem h] at h1
  simpa using h1
theorem all_bad {l : List UInt8} {k : Nat} (h : k < l.length) (h1 : okC (l.getD k 0) = false) : nameB l = false := by
  rw [List.getD_eq_getElem?_getD, List.getElem?_eq_getElem h] at h1
  unfold nameB
  have : l.all okC = false := by
    rw [← Bool.not_eq_true, List.all_eq_true]
    intro hh
    have := hh l[k] (List.getElem_mem h)
    simp at h1
    rw [h1] at this; cases this
  rw [this, Bool.and_false]
theorem empty_str (s : ByteArray) (l : List UInt8) (hsl : s.data.toList = l) : s.toList.isEmpty = l.isEmpty := by rw [ByteArray.toList_eq, hsl]

set_option maxHeartbeats 1000000 in
theorem isName_any (s : ByteArray) (l : List UInt8) (w : World) (hsl : s.data.toList = l) (hl : l.length ≤ 9223372036854775807) :
    Calls Tryz.prog 91 #[.string s] w fun e w' => e = .returned (.bool (nameB l)) ∧ w' = w := by
  have hz : s.size = l.length := by rw [← hsl, Array.length_toList]; rfl
  have hie := empty_str s l hsl
  have HIX := hide (fun k hk u => idx_get s l hsl k hk u)
  have HZ := hide hz
  clear hsl hz
  go_enter Tryz.func91, Tryz.ntmps91
  go_wp2
  go_loop [6] (fun i => ∃ k : Nat, k ≤ l.length ∧ i = .int .i64 k ∧ Hid ((l.take k).all okC = true)) (fun i => l.length - (intOf i).toNat)
  case atStart => exact ⟨0, Nat.zero_le _, rfl, hide rfl⟩
  case round =>
    obtain ⟨k, hk, rfl, HA⟩ := hrel
    have hz := unhide HZ
    by_cases hlt : k < l.length
    · have x0 := unhide HIX k hlt
      have hlt' : (k : Int) < (s.size : Int) := by omega
      have l0 := (l.getD k 0).toNat_lt
      have hcd : okC (l.getD k 0) = decide (33 ≤ (l.getD k 0).toNat ∧ (l.getD k 0).toNat ≤ 126) := rfl
      have HBAD := hide (fun h => all_bad (l := l) hlt h)
      have HOK := hide (fun h => all_take (l := l) hlt (unhide HA) h)
      obtain ⟨c, hc⟩ : ∃ c, c = l.getD k 0 := ⟨_, rfl⟩
      rw [← hc] at x0 l0 hcd HBAD HOK
      obtain ⟨y, hy⟩ : ∃ y : Nat, y = c.toNat := ⟨_, rfl⟩
      rw [← hy] at x0 l0 hcd
      have HC := hide hcd
      clear hc hcd hz
      by_cases h33 : y < 33
      · have g0 : (y : Int) < 33 := by omega
        have HN : Hid (nameB l = false) := hide (unhide HBAD (by rw [unhide HC, decide_eq_false_iff_not]; omega))
        clear HBAD HOK hy
        go_wp2
        go_ret
        exact ⟨by rw [unhide HN]; rfl, rfl⟩
      · have g0 : ¬ (y : Int) < 33 := by omega
        by_cases h126 : 126 < y
        · have g1 : (126 : Int) < (y : Int) := by omega
          have HN : Hid (nameB l = false) := hide (unhide HBAD (by rw [unhide HC, decide_eq_false_iff_not]; omega))
          clear HBAD HOK hy
          go_wp2
          go_ret
          exact ⟨by rw [unhide HN]; rfl, rfl⟩
        · have g1 : ¬ (126 : Int) < (y : Int) := by omega
          have HN : Hid ((l.take (k + 1)).all okC = true) := hide (unhide HOK (by rw [unhide HC, decide_eq_true_eq]; omega))
          clear HBAD HOK hy
          go_wp2
          go_round
          case rel => exact ⟨k + 1, by omega, by go_num, HN⟩
          case measure => simp [intOf]; omega
    · have hlt' : ¬ (k : Int) < (s.size : Int) := by omega
      have HN : Hid (nameB l = !l.isEmpty) := hide (by
        have q := unhide HA
        rw [List.take_of_length_le (by omega)] at q
        unfold nameB; rw [q, Bool.and_true])
      clear hz
      go_wp2
      go_ret
      exact ⟨by rw [unhide HN]; rfl, rfl⟩

/-- bytes that lie in a block and may be written -/
def Bt (w : World) (g : Nat) (L : List UInt8) : Prop :=
  ∃ cur t fz, w.heap[g]? = some (.cells cur t fz) ∧ (L.length ≤ fz.1 ∨ fz.2 = 0) ∧ ∀ j (h : j < L.length), cur[j]? = some (.int .u8 L[j].toNat)
theorem Bt.cell {w : World} {g : Nat} {L : List UInt8} (h : Bt w g L) (j : Nat) (hj : j < L.length) : w.cell? ⟨g, j, none⟩ = some (.int .u8 (L.getD j 0).toNat) := by
  obtain ⟨cur, t, fz, hg, _, hc⟩ := h
  rw [cell_of_row w g j _ _ _ hg, hc j hj, List.getD_eq_getElem?_getD, List.getElem?_eq_getElem hj]; rfl
theorem Bt.free {w : World} {g : Nat} {L : List UInt8} (h : Bt w g L) (j : Nat) (hj : j < L.length) : w.frozen? ⟨g, j, none⟩ = false := by
  obtain ⟨cur, t, fz, hg, hf, hc⟩ := h
  obtain ⟨lo, hi⟩ := fz
  simp only [World.frozen?, hg, Bool.and_eq_false_iff, decide_eq_false_iff_not]
  simp only at hf
  omega
theorem Bt.set {w : World} {g : Nat} {L : List UInt8} (h : Bt w g L) (j : Nat) (hj : j < L.length) (x : UInt8) : Bt (w.setCell ⟨g, j, none⟩ (.int .u8 x.toNat)) g (L.set j x) := by
  obtain ⟨cur, t, fz, hg, hf, hc⟩ := h
  refine ⟨cur.setIfInBounds j (.int .u8 x.toNat), t, fz, ?_, by rw [List.length_set]; exact hf, fun i hi => ?_⟩
  · rw [setCell_eq_setRow w g j cur t fz _ hg]; exact setRow_heap w g cur _ t _ hg
  · rw [List.length_set] at hi
    have hz : j < cur.size := (Array.getElem?_eq_some_iff.1 (hc j hj)).1
    rw [Array.getElem?_setIfInBounds]
    by_cases e : j = i
    · subst e
      rw [if_pos rfl, if_pos hz, List.getElem_set_self]
    · rw [if_neg e, hc i hi, List.getElem_set_ne e]
theorem Bt.new (w : World) (s : ByteArray) (l : List UInt8) (hsl : s.data.toList = l) : Bt (w.drew.alloc (.cells (bytesRow s (grownCap w s.size 0 5)) 5 ((bytesRow s (grownCap w s.size 0 5)).size, (bytesRow s (grownCap w s.size 0 5)).size + 1))) w.heap.size l := by
  have hz : s.size = l.length := by rw [← hsl, Array.length_toList]; rfl
  have hge := grownCap_ge w s.size 0 5
  have hrz : (bytesRow s (grownCap w s.size 0 5)).size = grownCap w s.size 0 5 := by
    simp only [bytesRow, Array.size_append, Array.size_map, Array.size_replicate]
    have : s.data.size = s.size := rfl
    omega
  refine ⟨_, _, _, heap_alloc_new w.drew _, Or.inl ?_, fun j hj => ?_⟩
  · show l.length ≤ (bytesRow s (grownCap w s.size 0 5)).size
    rw [hrz]; omega
  · have hj2 : j < s.data.size := by show j < s.size; omega
    rw [bytesRow, Array.getElem?_append_left (by rw [Array.size_map]; exact hj2), Array.getElem?_map, Array.getElem?_eq_getElem hj2]
    subst hsl
    rfl
/-- the first k bytes with small letters -/
def lowTo (l : List UInt8) (k : Nat) : List UInt8 := lowL (l.take k) ++ l.drop k
theorem lowTo_length (l : List UInt8) (k : Nat) : (lowTo l k).length = l.length := by
  unfold lowTo; rw [List.length_append, lowL_length, List.length_take, List.length_drop]; omega
theorem lowTo_get (l : List UInt8) (k : Nat) (h : k < l.length) : (lowTo l k).getD k 0 = l.getD k 0 := by
  unfold lowTo
  rw [List.getD_eq_getElem?_getD, List.getElem?_append_right (by rw [lowL_length, List.length_take]; omega), lowL_length, List.length_take, Nat.min_eq_left (by omega), Nat.sub_self, List.getElem?_drop, Nat.add_zero, List.getD_eq_getElem?_getD]
theorem lowTo_next (l : List UInt8) (k : Nat) (h : k < l.length) : (lowTo l k).set k (lowC (l.getD k 0)) = lowTo l (k + 1) := by
  unfold lowTo
  rw [List.set_append_right _ _ (by rw [lowL_length, List.length_take]; omega), lowL_length, List.length_take, Nat.min_eq_left (by omega), Nat.sub_self, List.take_succ_eq_append_getElem h, List.drop_eq_getElem_cons h, List.set_cons_zero]
  rw [List.getD_eq_getElem?_getD, List.getElem?_eq_getElem h, lowL, lowL, List.map_append, List.append_assoc]
  rfl
theorem lowTo_same (l : List UInt8) (k : Nat) (h : k < l.length) (hc : lowC (l.getD k 0) = l.getD k 0) : lowTo l k = lowTo l (k + 1) := by
  have q := lowTo_next l k h
  rw [hc] at q
  rw [← q]
  have hz : k < (lowTo l k).length := by rw [lowTo_length]; exact h
  have e := lowTo_get l k h
  rw [List.getD_eq_getElem?_getD, List.getElem?_eq_getElem hz] at e
  simp only [Option.getD_some] at e
  rw [← e, List.set_getElem_self]
theorem lowTo_zero (l : List UInt8) : lowTo l 0 = l := by simp [lowTo, lowL]
theorem lowTo_all (l : List UInt8) : lowTo l l.length = lowL l := by simp [lowTo]

set_option maxHeartbeats 1000000 in
theorem small_any (s : ByteArray) (l : List UInt8) (w : World) (hsl : s.data.toList = l) (hl : l.length ≤ 1099511627776) :
    Calls Tryz.prog 107 #[.string s] w fun e w' => e = .returned (.string ⟨(lowL l).toArray⟩) ∧ Below w.heap.size w w' := by
  have hz : s.size = l.length := by rw [← hsl, Array.length_toList]; rfl
  have hcv := fun (w : World) => run_bytes_of_string (P := Tryz.prog) w 9 71 5 s Tryz.underlying9 Tryz.underlying71 Tryz.underlying5
  have HB0 := hide (Bt.new w s l hsl)
  have HZ := hide hz
  clear hsl
  go_enter Tryz.func107, Tryz.ntmps107
  rw [hz] at HB0
  go_wp2
  go_loopw [10] (fun i wr => ∃ k : Nat, k ≤ l.length ∧ i = .int .i64 k ∧ Hid (Bt wr w.heap.size (lowTo l k)) ∧ Hid (Below w.heap.size w wr)) (fun i _ => l.length - (intOf i).toNat)
  case atStart => exact ⟨0, Nat.zero_le _, rfl, hide (by rw [lowTo_zero]; exact unhide HB0), hide (((Below.refl _ w).alloc (Nat.le_refl _) _).drew)⟩
  case round =>
    obtain ⟨k, hk, rfl, HB, HW⟩ := hrel
    rename World => wr
    by_cases hlt : k < l.length
    · have c0 := (unhide HB).cell k (by rw [lowTo_length]; exact hlt)
      have f0 := (unhide HB).free k (by rw [lowTo_length]; exact hlt)
      rw [lowTo_get l k hlt] at c0
      have HS := hide (fun x => (unhide HB).set k (by rw [lowTo_length]; exact hlt) x)
      have hlt' : (k : Int) < (l.length : Int) := by omega
      have HN := hide (lowTo_next l k hlt)
      have HM := hide (lowTo_same l k hlt)
      have hlc := lowC_nat (l.getD k 0)
      obtain ⟨c, hc⟩ : ∃ c, c = l.getD k 0 := ⟨_, rfl⟩
      rw [← hc] at c0 HN HM hlc
      have l0 := c.toNat_lt
      obtain ⟨y, hy⟩ : ∃ y : Nat, y = c.toNat := ⟨_, rfl⟩
      rw [← hy] at c0 l0 hlc
      have HLC := hide hlc
      have HY := hide hy
      clear hc hy hlc
      by_cases hup : 65 ≤ y ∧ y ≤ 90
      · obtain ⟨g0, g1⟩ := hup
        have g0' : (65 : Int) ≤ (y : Int) := by omega
        have g1' : (y : Int) ≤ 90 := by omega
        have q1 : IntKind.u8.wrap ((y : Int) - 65) = (y : Int) - 65 := by rw [IntKind.wrap_u8]; omega
        have q2 : IntKind.u8.wrap ((y : Int) - 65 + 97) = ((lowC c).toNat : Int) := by rw [IntKind.wrap_u8, unhide HLC, if_pos ⟨g0, g1⟩]; omega
        go_wp2
        go_roundw
        case rel => exact ⟨k + 1, by omega, by go_num, hide (by rw [← unhide HN]; exact unhide HS _), hide ((unhide HW).setCell (Nat.le_refl _) _)⟩
        case measure => simp [intOf]; omega
      · have HE : Hid (lowTo l k = lowTo l (k + 1)) := hide (unhide HM (by
          apply UInt8.toNat_inj.1
          rw [unhide HLC, if_neg hup, unhide HY]))
        by_cases g0 : 65 ≤ y
        · have g0' : (65 : Int) ≤ (y : Int) := by omega
          have g1' : ¬ (y : Int) ≤ 90 := by omega
          clear hup
          go_wp2
          go_roundw
          case rel => exact ⟨k + 1, by omega, by go_num, hide (by rw [← unhide HE]; exact unhide HB), HW⟩
          case measure => simp [intOf]; omega
        · have g0' : ¬ (65 : Int) ≤ (y : Int) := by omega
          clear hup
          go_wp2
          go_roundw
          case rel => exact ⟨k + 1, by omega, by go_num, hide (by rw [← unhide HE]; exact unhide HB), HW⟩
          case measure => simp [intOf]; omega
    · have e : k = l.length := by omega
      have HF : Hid (Bt wr w.heap.size (lowL l)) := hide (by rw [← lowTo_all, ← e]; exact unhide HB)
      have hlt' : ¬ (k : Int) < (l.length : Int) := by omega
      have hcb := run_convert_bytes_back (P := Tryz.prog) wr 71 9 5 ⟨w.heap.size, 0, none⟩ (grownCap w l.length 0 5) (lowL l) Tryz.underlying71 Tryz.underlying5 Tryz.underlying9 (fun j hj => by
        rw [add_lit', (unhide HF).cell j hj, List.getD_eq_getElem?_getD, List.getElem?_eq_getElem hj]; rfl)
      rw [lowL_length] at hcb
      clear e hcv
      go_wp2
      go_ret
      exact ⟨rfl, unhide HW⟩
end Go.Proofs.YtoifihhmneldeaaGreatDoor.Tf

namespace Go.Proofs.YtoifihhmneldeaaGreatDoor.Tf
open Go.ChangeShapes Go.WideShapes Go.ChangeAt Go.RowKit Bs
open Go.Sort (Holds grow putRow mapBlock holds_grow holds_putRow heap_grow_old)
set_option linter.unusedVariables false
set_option linter.unusedSimpArgs false

/-- a list of fields as it lies in memory -/
def AtF (w : World) (a : Option Addr) (fs : Flds) : Prop :=
  ∀ i (h : i < fs.length), ∃ ad, a = some ad ∧ w.cell? (ad.add (i * 2)) = some (.string ⟨fs[i].1.toArray⟩) ∧ w.cell? ⟨(ad.add (i * 2)).block, (ad.add (i * 2)).off + 1, none⟩ = some (.string ⟨fs[i].2.toArray⟩)
theorem cell_lt {w : World} {p : Addr} {v : Value} (h : w.cell? p = some v) : p.block < w.heap.size := by
  by_cases hlt : p.block < w.heap.size
  · exact hlt
  · have hn : w.heap[p.block]? = none := by simp; omega
    simp [World.cell?, hn] at h
theorem add_block (ad : Addr) (n : Nat) : (ad.add n).block = ad.block := by unfold Addr.add; split <;> rfl
theorem AtF.below {w w' : World} {a : Option Addr} {fs : Flds} {n : Nat} (h : AtF w a fs) (hb : Below n w w') (hn : w.heap.size ≤ n) : AtF w' a fs := fun i hi => by
  obtain ⟨ad, e, h0, h1⟩ := h i hi
  have l0 := cell_lt h0
  refine ⟨ad, e, ?_, ?_⟩
  · rw [hb.cell (by omega)]; exact h0
  · rw [hb.cell (by show (ad.add (i * 2)).block < n; omega)]; exact h1
theorem AtF.lower {w w' : World} {a : Option Addr} {fs : Flds} {n : Nat} (h : AtF w a fs) (hb : Below n w w') (hn : ∀ ad, a = some ad → 0 < fs.length → ad.block < n) : AtF w' a fs := fun i hi => by
  obtain ⟨ad, e, h0, h1⟩ := h i hi
  have l0 := hn ad e (by omega)
  have l1 := add_block ad (i * 2)
  refine ⟨ad, e, ?_, ?_⟩
  · rw [hb.cell (by rw [l1]; exact l0)]; exact h0
  · rw [hb.cell (by show (ad.add (i * 2)).block < n; rw [l1]; exact l0)]; exact h1
theorem AtF.old {w : World} {a : Option Addr} {fs : Flds} {n : Nat} (h : AtF w a fs) (hn : w.heap.size ≤ n) : ∀ ad, a = some ad → 0 < fs.length → ad.block < n := fun ad e hl => by
  obtain ⟨ad', e', h0, _⟩ := h 0 hl
  have h1 := cell_lt h0
  rw [add_block] at h1
  rw [e] at e'
  obtain rfl := Option.some.inj e'
  omega

/-- a row of texts -/
def SRow (w : World) (g : Nat) (L : List (List UInt8)) : Prop := w.heap[g]? = some (.cells (L.map encStr).toArray 9 (0, 0))
theorem SRow.lt {w : World} {g : Nat} {L : List (List UInt8)} (h : SRow w g L) : g < w.heap.size := (Array.getElem?_eq_some_iff.1 h).1
theorem SRow.cell {w : World} {g : Nat} {L : List (List UInt8)} (h : SRow w g L) (j : Nat) (hj : j < L.length) : w.cell? ⟨g, j, none⟩ = some (.string ⟨L[j].toArray⟩) := by
  rw [cell_of_row w g j _ _ _ h]; simp [hj]
theorem SRow.free {w : World} {g : Nat} {L : List (List UInt8)} (h : SRow w g L) (j : Nat) : w.frozen? ⟨g, j, none⟩ = false := by
  unfold SRow at h
  simp [World.frozen?, h]
theorem SRow.set {w : World} {g : Nat} {L : List (List UInt8)} (h : SRow w g L) (j : Nat) (x : List UInt8) : SRow (w.setCell ⟨g, j, none⟩ (.string ⟨x.toArray⟩)) g (L.set j x) := by
  unfold SRow at *
  rw [setCell_eq_setRow w g j _ _ _ _ h, setRow_heap w g _ _ _ _ h]
  congr 2
  simp [List.map_set]
theorem SRow.holds {w : World} {g : Nat} {L : List (List UInt8)} (h : SRow w g L) : Holds encStr w g 0 L.toArray := fun j hj => by
  have hj' : j < L.length := by simpa using hj
  rw [Nat.zero_add]
  refine ⟨?_, h.free j⟩
  rw [h.cell j hj']
  congr 3
  rw [List.getElem!_toArray, getElem!_pos L j hj']
theorem SRow.made (w : World) (n : Nat) : SRow (w.alloc (.cells (madeCells #[.string ⟨#[]⟩] n) 9)) w.heap.size (List.replicate n []) := by
  have e : madeCells #[Value.string ⟨#[]⟩] n = ((List.replicate n ([] : List UInt8)).map encStr).toArray := by
    apply Array.ext'; rw [toList_madeCells_one]; simp [encStr]
  unfold SRow
  rw [e]; exact heap_alloc_new w _
theorem SRow.alloc {w : World} {g : Nat} {L : List (List UInt8)} (h : SRow w g L) (o : Obj) : SRow (w.alloc o) g L := by
  unfold SRow at *
  rw [Below.heap_alloc _ _ _ (lt_of_block h)]; exact h
/-- the first k names -/
def namesTo (fs : Flds) (k : Nat) : List (List UInt8) := (namesF fs).take k ++ List.replicate (fs.length - k) []
theorem namesTo_zero (fs : Flds) : namesTo fs 0 = List.replicate fs.length [] := by simp [namesTo]
theorem namesTo_all (fs : Flds) : namesTo fs fs.length = namesF fs := by
  unfold namesTo; rw [← namesF_length fs, List.take_length]; simp
theorem namesTo_next (fs : Flds) (k : Nat) (h : k < fs.length) : (namesTo fs k).set k fs[k].1 = namesTo fs (k + 1) := by
  have hl := namesF_length fs
  unfold namesTo
  rw [List.set_append_right _ _ (by rw [List.length_take]; omega), List.length_take, hl, Nat.min_eq_left (by omega), Nat.sub_self, show fs.length - k = (fs.length - (k + 1)) + 1 by omega, List.replicate_succ, List.set_cons_zero, List.take_succ_eq_append_getElem (by omega), List.append_assoc]
  simp [namesF]
theorem below_put {N g : Nat} {w : World} (n : Nat) (d : Array (List UInt8)) (os : Array Obj) (h : N ≤ g) (hN : N ≤ w.heap.size) : Below N w (grow (putRow encStr (Sort.ahead w n) g 0 d) os) := by
  refine ⟨rfl, rfl, rfl, by simp, fun k hk => ?_⟩
  rw [heap_grow_old _ _ (by simp; omega)]
  simp only [putRow, mapBlock, Sort.ahead, Array.getElem?_modify]
  rw [if_neg (by omega)]
theorem infoS : (Tryz.prog.info? 9).map (fun i => (i.zero, i.size, i.bytes)) = some (some (.string ⟨#[]⟩), 1, 16) := by kernel_rfl

set_option maxHeartbeats 1000000 in
theorem differ_any (a : Option Addr) (cap : Nat) (fs : Flds) (w : World) (hA : AtF w a fs) (hl : fs.length ≤ 268435456) :
    Calls Tryz.prog 108 #[.slice a fs.length cap] w fun e w' => e = .returned (.bool (apartB (namesF fs))) ∧ Below w.heap.size w w' := by
  have hmk := fun (w : World) => run_make_row' (P := Tryz.prog) 97 9 (.string ⟨#[]⟩) 16 Tryz.underlying97 infoS rfl .i64 .i64 fs.length (by omega) (by omega) w
  have HA := hide hA
  have HM := hide (SRow.made w fs.length)
  clear hA
  go_enter Tryz.func108, Tryz.ntmps108
  go_wp2
  go_loopw [11] (fun i wr => ∃ k : Nat, k ≤ fs.length ∧ i = .int .i64 k ∧ Hid (SRow wr w.heap.size (namesTo fs k)) ∧ Hid (Below w.heap.size w wr)) (fun i _ => fs.length - (intOf i).toNat)
  case atStart => exact ⟨0, Nat.zero_le _, rfl, hide (by rw [namesTo_zero]; exact unhide HM), hide ((Below.refl _ w).alloc (Nat.le_refl _) _)⟩
  case round =>
    obtain ⟨k, hk, rfl, HR, HW⟩ := hrel
    rename World => wr
    have hg := (unhide HR).lt
    by_cases hlt : k < fs.length
    · obtain ⟨ad, rfl, c0, c1⟩ := (unhide HA).below (unhide HW) (Nat.le_refl _) k hlt
      have hlt' : (k : Int) < (fs.length : Int) := by omega
      have f0 := (unhide HR).free k
      have hnl : (namesTo fs k).length = fs.length := by unfold namesTo; rw [List.length_append, List.length_take, namesF_length, List.length_replicate]; omega
      have c2 := (unhide HR).cell k (by omega)
      obtain ⟨o, ho⟩ : ∃ o : ByteArray, o = ⟨(namesTo fs k)[k].toArray⟩ := ⟨_, rfl⟩
      rw [← ho] at c2
      have HN := hide (namesTo_next fs k hlt)
      have HS := hide (fun x => (unhide HR).set k x)
      obtain ⟨n, v, hnv⟩ : ∃ n v, fs[k] = (n, v) := ⟨_, _, rfl⟩
      rw [hnv] at c0 c1 HN
      clear hnv ho hnl
      go_wp2
      go_roundw
      case rel => exact ⟨k + 1, by omega, by go_num, hide (by rw [← unhide HN]; exact (unhide HS n).alloc _), hide (((unhide HW).setCell (Nat.le_refl _) _).alloc (by simp; omega) _)⟩
      case measure => simp [intOf]; omega
    · have e : k = fs.length := by omega
      have hlt' : ¬ (k : Int) < (fs.length : Int) := by omega
      have HF : Hid (SRow wr w.heap.size (namesF fs)) := hide (by rw [← namesTo_all, ← e]; exact unhide HR)
      have HC := hide (Sf.slices_Sort_string w.heap.size 0 fs.length (namesF fs) wr (unhide HF).holds hg (by rw [namesF_length]; omega))
      rw [namesF_length] at HC
      have HSC := hide (sort_compact (namesF fs))
      rw [namesF_length] at HSC
      have hsl : (sortL (namesF fs)).length = fs.length := by rw [sortL_length, namesF_length]
      have HSL := hide hsl
      have HH := hide ((unhide HF).holds)
      clear e hmk hsl
      go_wp2_with fail
      refine (unhide HC).mono ?_
      rintro e w1 ⟨rfl, n, os, hw1⟩
      have hw1' : w1 = grow (putRow encStr (Sort.ahead wr n) w.heap.size 0 (sortL (namesF fs)).toArray) os := hw1
      have hB1 : Below w.heap.size w w1 := (unhide HW).trans (by rw [hw1']; exact below_put n _ os (Nat.le_refl _) (by omega))
      have hH1 : Holds encStr w1 w.heap.size 0 (sortL (namesF fs)).toArray := by
        rw [hw1']
        refine holds_grow _ _ _ _ _ _ (by simp; exact hg) (holds_putRow _ _ _ _ (namesF fs).toArray _ (unhide HH) (by simp [unhide HSL, namesF_length]))
      have HC2 := hide (Sf.slices_Compact_string w.heap.size 0 fs.length (sortL (namesF fs)) w1 hH1 (by rw [unhide HSL]; omega) (by rw [unhide HSL]; exact Nat.le_refl _))
      rw [unhide HSL] at HC2
      have hz1 := hB1.size
      have HB1 := hide hB1
      clear hw1 hw1' hH1 hB1 HC
      obtain ⟨m, hm⟩ : ∃ m, m = (Lib.compact (sortL (namesF fs))).length := ⟨_, rfl⟩
      rw [← hm] at HC2 HSC
      go_wp2_with fail
      refine (unhide HC2).mono ?_
      rintro e w2 ⟨rfl, q, hw2⟩
      have HB2 : Hid (Below w.heap.size w w2) := hide ((unhide HB1).trans (by
        rw [hw2, ← Sort.grow_empty (putRow _ _ _ _ _)]
        exact below_put q _ #[] (Nat.le_refl _) (by omega)))
      clear hw2 HC2
      go_wp2
      go_ret
      refine ⟨?_, unhide HB2⟩
      rw [← unhide HSC]
      show Ending.returned (.bool _) = _
      congr 2
      rw [Bool.eq_iff_iff]
      simp
      omega
end Go.Proofs.YtoifihhmneldeaaGreatDoor.Tf

namespace Go.Proofs.YtoifihhmneldeaaGreatDoor.Tf
open Go.ChangeShapes Go.WideShapes Go.ChangeAt Go.RowKit Bs
set_option linter.unusedVariables false
set_option linter.unusedSimpArgs false

theorem below_cells {w w' : World} (h : Below w.heap.size w w') : ∀ b o, b < w.heap.size → w'.cell? ⟨b, o, none⟩ = w.cell? ⟨b, o, none⟩ := fun b o hb => h.cell (p := ⟨b, o, none⟩) hb
theorem below_drewN {N : Nat} {a w : World} (h : Below N a w) (n : Nat) : Below N a (w.drewN n) := ⟨h.os, h.tape, h.output, h.size, h.block⟩
theorem told_bad {fs : Flds} {k : Nat} (h : k < fs.length) (hb : goodF fs[k] = false) : toldB fs = false := by
  apply toldB_prefix fs (k + 1)
  rw [toldB_take fs k h, hb]; simp
def allGood (fs : Flds) : Bool := fs.all goodF
theorem allGood_take {fs : Flds} {k : Nat} (h : k < fs.length) (h0 : allGood (fs.take k) = true) (h1 : goodF fs[k] = true) : allGood (fs.take (k + 1)) = true := by
  unfold allGood at *
  rw [List.take_succ_eq_append_getElem h, List.all_append, h0]
  simpa using h1

set_option maxHeartbeats 1000000 in
set_option maxRecDepth 10000 in
theorem mayFs_any (a : Option Addr) (cap : Nat) (fs : Flds) (w : World) (hA : AtF w a fs) (hl : heavyF fs ≤ 268435456) :
    Calls Tryz.prog 92 #[.slice a fs.length cap] w fun e w' => e = .returned (.bool (toldB fs)) ∧ Below w.heap.size w w' := by
  have hlen : fs.length ≤ heavyF fs := by unfold heavyF; omega
  have HA := hide hA
  clear hA
  go_enter Tryz.func92, Tryz.ntmps92
  go_wp2
  go_loopw [7] (fun i wr => ∃ k : Nat, k ≤ fs.length ∧ i = .int .i64 k ∧ Hid (allGood (fs.take k) = true) ∧ Hid (Below w.heap.size w wr)) (fun i _ => fs.length - (intOf i).toNat)
  case atStart => exact ⟨0, Nat.zero_le _, rfl, hide rfl, hide (Below.refl _ _)⟩
  case round =>
    obtain ⟨k, hk, rfl, HG, HW⟩ := hrel
    rename World => wr
    have hwz := (unhide HW).size
    by_cases hlt : k < fs.length
    · obtain ⟨ad, rfl, c0, c1⟩ := (unhide HA).below (unhide HW) (Nat.le_refl _) k hlt
      have hlt' : (k : Int) < (fs.length : Int) := by omega
      have h1 := heavyF_one fs k hlt
      have HBD := hide (fun h => told_bad (fs := fs) hlt h)
      have HOK := hide (fun h => allGood_take (fs := fs) hlt (unhide HG) h)
      obtain ⟨n, v, hnv⟩ : ∃ n v, fs[k] = (n, v) := ⟨_, _, rfl⟩
      rw [hnv] at c0 c1 HBD HOK h1
      simp only at h1
      have hgd : goodF (n, v) = (nameB n && (lowL n == n) && nameB v) := rfl
      obtain ⟨ns, hns⟩ : ∃ s : ByteArray, s = ⟨n.toArray⟩ := ⟨_, rfl⟩
      obtain ⟨vs, hvs⟩ : ∃ s : ByteArray, s = ⟨v.toArray⟩ := ⟨_, rfl⟩
      rw [← hns] at c0
      rw [← hvs] at c1
      have hbn : ns.data.toList.length ≤ 9223372036854775807 := by rw [hns]; simp; omega
      have hbv : vs.data.toList.length ≤ 9223372036854775807 := by rw [hvs]; simp; omega
      have HI := hide (fun (s : ByteArray) (h : s.data.toList.length ≤ 9223372036854775807) u => isName_any s _ u rfl h)
      have HSM := hide (fun u => small_any ns n u (by rw [hns]) (by omega))
      have gn : nameB ns.data.toList = nameB n := by rw [hns]
      have gv : nameB vs.data.toList = nameB v := by rw [hvs]
      have HNS := hide hns
      clear hns hvs hnv
      by_cases hn : nameB n = true
      · rw [hn] at gn
        obtain ⟨ls, hls⟩ : ∃ s : ByteArray, s = ⟨(lowL n).toArray⟩ := ⟨_, rfl⟩
        rw [← hls] at HSM
        by_cases hlo : lowL n = n
        · have e1 : ls = ns := by rw [hls, hlo, unhide HNS]
          rw [e1] at HSM
          clear hls e1
          by_cases hv : nameB v = true
          · rw [hv] at gv
            have HN : Hid (allGood (fs.take (k + 1)) = true) := hide (unhide HOK (by rw [hgd, hn, hlo, hv]; simp))
            clear HBD HOK hgd hn hlo hv
            go_wp2
            go_region_held3 (fun u => u.cell? ⟨wr.heap.size, 0, none⟩ = some (.string ns) ∧ u.cell? ⟨wr.heap.size, 1, none⟩ = some (.string vs) ∧ wr.heap.size < u.heap.size) (go_keep)
              (first | (go_at_call 91; refine (unhide HI _ (by first | exact hbn | exact hbv) _).mono ?_; rintro e u ⟨rfl, rfl⟩) | (go_at_call 107; refine (unhide HSM _).mono ?_; rintro e u ⟨rfl, hb⟩; have hc := below_cells hb; have hz := hb.size; have hzz : wr.heap.size < u.heap.size := by first | omega | (simp at hz; omega)))
            have HBU : Hid (Below w.heap.size w u) := hide ((((unhide HW).alloc hwz _).drew).trans (‹Below _ _ u›.mono (by simp; omega)))
            go_wp2
            exact ⟨⟨k + 1, by omega, by go_num, HN, HBU⟩, by simp [intOf]; omega⟩
          · have hv' : nameB v = false := by simpa using hv
            rw [hv'] at gv
            have HN : Hid (toldB fs = false) := hide (unhide HBD (by rw [hgd, hv']; simp))
            clear HBD HOK hgd hn hlo hv hv'
            go_wp2
            go_region_held3 (fun u => u.cell? ⟨wr.heap.size, 0, none⟩ = some (.string ns) ∧ u.cell? ⟨wr.heap.size, 1, none⟩ = some (.string vs) ∧ wr.heap.size < u.heap.size) (go_keep)
              (first | (go_at_call 91; refine (unhide HI _ (by first | exact hbn | exact hbv) _).mono ?_; rintro e u ⟨rfl, rfl⟩) | (go_at_call 107; refine (unhide HSM _).mono ?_; rintro e u ⟨rfl, hb⟩; have hc := below_cells hb; have hz := hb.size; have hzz : wr.heap.size < u.heap.size := by first | omega | (simp at hz; omega)))
            have HBU : Hid (Below w.heap.size w u) := hide ((((unhide HW).alloc hwz _).drew).trans (‹Below _ _ u›.mono (by simp; omega)))
            go_wp2
            go_ret
            exact ⟨by rw [unhide HN]; rfl, unhide HBU⟩
        · have hne : (ls.toList == ns.toList) = false := by
            rw [ByteArray.toList_eq, ByteArray.toList_eq, hls, unhide HNS]
            simpa using hlo
          have HN : Hid (toldB fs = false) := hide (unhide HBD (by rw [hgd, hn]; simp [hlo]))
          clear HBD HOK hgd hn hlo hls
          go_wp2
          refine wp_region_held_drew (S := fun u => u.cell? ⟨wr.heap.size, 0, none⟩ = some (.string ns)) (by kernel_rfl) (by go_keep) (fun hS0 => ?_)
          refine wpAnyH_take (i := 0) (v := .pointer (some ⟨wr.heap.size, 0, none⟩)) rfl (by kernel_rfl) (by kernel_rfl) (by kernel_rfl) (fun _ _ _ h => h) (Or.inl ⟨by rfl, ?_⟩) hS0 ?_
          · intro u hu; go_simp
          try simp only [Act.put, List.setIfInBounds_toArray, List.set_cons_zero, List.set_cons_succ]
          refine wpAnyH_take (i := 1) (v := .string ns) rfl (by kernel_rfl) (by kernel_rfl) (by kernel_rfl) (fun _ _ _ h => h) (Or.inl ⟨by rfl, ?_⟩) hS0 ?_
          · intro u hu; go_simp
          try simp only [Act.put, List.setIfInBounds_toArray, List.set_cons_zero, List.set_cons_succ]
          refine wpAnyH_ready (rs := [2]) (by kernel_rfl) (by simp) ?_
          refine AllReadyH.cons rfl (fun K hK => ?_) AllReadyH.nil
          go_simp
          refine (unhide HI _ hbn _).mono ?_
          rintro e u ⟨rfl, rfl⟩
          rw [gn]
          refine hK.out _ _ hS0 (fun _ => ?_)
          clear hK K
          try simp only [Act.put, List.setIfInBounds_toArray, List.set_cons_zero, List.set_cons_succ]
          refine wpAnyH_take (i := 3) (v := .bool false) rfl (by kernel_rfl) (by kernel_rfl) (by kernel_rfl) (fun _ _ _ h => h) (Or.inl ⟨by rfl, ?_⟩) hS0 ?_
          · intro u hu; go_simp
          try simp only [Act.put, List.setIfInBounds_toArray, List.set_cons_zero, List.set_cons_succ]
          refine wpAnyH_take (i := 4) (v := .bool false) rfl (by kernel_rfl) (by kernel_rfl) (by kernel_rfl) (fun _ _ _ h => h) (Or.inl ⟨by rfl, ?_⟩) hS0 ?_
          · intro u hu; go_simp
          try simp only [Act.put, List.setIfInBounds_toArray, List.set_cons_zero, List.set_cons_succ]
          refine wpAnyH_take (i := 5) (v := .pointer (some ⟨wr.heap.size, 0, none⟩)) rfl (by kernel_rfl) (by kernel_rfl) (by kernel_rfl) (fun _ _ _ h => h) (Or.inl ⟨by rfl, ?_⟩) hS0 ?_
          · intro u hu; go_simp
          try simp only [Act.put, List.setIfInBounds_toArray, List.set_cons_zero, List.set_cons_succ]
          refine wpAnyH_take (i := 6) (v := .string ns) rfl (by kernel_rfl) (by kernel_rfl) (by kernel_rfl) (fun _ _ _ h => h) (Or.inl ⟨by rfl, ?_⟩) hS0 ?_
          · intro u hu; go_simp
          try simp only [Act.put, List.setIfInBounds_toArray, List.set_cons_zero, List.set_cons_succ]
          refine wpAnyH_take (i := 8) (v := .pointer (some ⟨wr.heap.size, 0, none⟩)) rfl (by kernel_rfl) (by kernel_rfl) (by kernel_rfl) (fun _ _ _ h => h) (Or.inl ⟨by rfl, ?_⟩) hS0 ?_
          · intro u hu; go_simp
          try simp only [Act.put, List.setIfInBounds_toArray, List.set_cons_zero, List.set_cons_succ]
          refine wpAnyH_take (i := 9) (v := .string ns) rfl (by kernel_rfl) (by kernel_rfl) (by kernel_rfl) (fun _ _ _ h => h) (Or.inl ⟨by rfl, ?_⟩) hS0 ?_
          · intro u hu; go_simp
          try simp only [Act.put, List.setIfInBounds_toArray, List.set_cons_zero, List.set_cons_succ]
          refine wpAnyH_ready (rs := [7]) (by kernel_rfl) (by simp) ?_
          refine AllReadyH.cons rfl (fun K hK => ?_) AllReadyH.nil
          go_simp
          refine (unhide HSM _).mono ?_
          rintro e u ⟨rfl, hb⟩
          have hS1 : u.cell? ⟨wr.heap.size, 0, none⟩ = some (.string ns) := (below_cells hb _ _ (by simp)).trans hS0
          have HBU : Hid (Below w.heap.size w u) := hide ((((unhide HW).alloc hwz _).drew).trans (hb.mono (by simp; omega)))
          clear hb
          refine hK.out _ _ hS1 (fun _ => ?_)
          clear hK K
          try simp only [Act.put, List.setIfInBounds_toArray, List.set_cons_zero, List.set_cons_succ]
          refine wpAnyH_take (i := 10) (v := .bool true) rfl (by kernel_rfl) (by kernel_rfl) (by kernel_rfl) (fun _ _ _ h => h) (Or.inl ⟨by rfl, ?_⟩) hS1 ?_
          · intro u hu; go_simp
          try simp only [Act.put, List.setIfInBounds_toArray, List.set_cons_zero, List.set_cons_succ]
          refine wpAnyH_take (i := 11) (v := .bool true) rfl (by kernel_rfl) (by kernel_rfl) (by kernel_rfl) (fun _ _ _ h => h) (Or.inl ⟨by rfl, ?_⟩) hS1 ?_
          · intro u hu; go_simp
          try simp only [Act.put, List.setIfInBounds_toArray, List.set_cons_zero, List.set_cons_succ]
          refine wpAnyH_take (i := 12) (v := .bool true) rfl (by kernel_rfl) (by kernel_rfl) (by kernel_rfl) (fun _ _ _ h => h) (Or.inl ⟨by rfl, ?_⟩) hS1 ?_
          · intro u hu; go_simp
          try simp only [Act.put, List.setIfInBounds_toArray, List.set_cons_zero, List.set_cons_succ]
          refine wpAnyH_take (i := 13) (v := undef) rfl (by kernel_rfl) (by kernel_rfl) (by kernel_rfl) (fun _ _ _ h => h) (Or.inr ⟨by rfl, rfl⟩) hS1 ?_
          try simp only [Act.put, List.setIfInBounds_toArray, List.set_cons_zero, List.set_cons_succ]
          refine wpAnyH_take (i := 14) (v := undef) rfl (by kernel_rfl) (by kernel_rfl) (by kernel_rfl) (fun _ _ _ h => h) (Or.inr ⟨by rfl, rfl⟩) hS1 ?_
          try simp only [Act.put, List.setIfInBounds_toArray, List.set_cons_zero, List.set_cons_succ]
          refine wpAnyH_take (i := 15) (v := undef) rfl (by kernel_rfl) (by kernel_rfl) (by kernel_rfl) (fun _ _ _ h => h) (Or.inr ⟨by rfl, rfl⟩) hS1 ?_
          try simp only [Act.put, List.setIfInBounds_toArray, List.set_cons_zero, List.set_cons_succ]
          refine wpAnyH_take (i := 16) (v := undef) rfl (by kernel_rfl) (by kernel_rfl) (by kernel_rfl) (fun _ _ _ h => h) (Or.inr ⟨by rfl, rfl⟩) hS1 ?_
          try simp only [Act.put, List.setIfInBounds_toArray, List.set_cons_zero, List.set_cons_succ]
          refine wpAnyH_ready (rs := [17]) (by kernel_rfl) (by simp) ?_
          refine AllReadyH.cons rfl (fun K hK => ?_) AllReadyH.nil
          go_simp
          refine hK.out _ _ hS1 (fun _ => ?_)
          clear hK K
          try simp only [Act.put, List.setIfInBounds_toArray, List.set_cons_zero, List.set_cons_succ]
          refine wpAnyH_done (by kernel_rfl) ?_ _
          go_wp2
          go_ret
          exact ⟨by rw [unhide HN]; rfl, unhide HBU⟩
      · have hn' : nameB n = false := by simpa using hn
        rw [hn'] at gn
        have HN : Hid (toldB fs = false) := hide (unhide HBD (by rw [hgd, hn']; simp))
        clear HBD HOK hgd hn hn'
        go_wp2
        go_quiet ((go_at_call 91; exact Calls.quiet_of_same (unhide HI _ (by first | exact hbn | exact hbv) _)))
        go_wp2
        go_ret
        exact ⟨by rw [unhide HN]; rfl, below_drewN ((unhide HW).alloc hwz _) _⟩
    · have e : k = fs.length := by omega
      have hlt' : ¬ (k : Int) < (fs.length : Int) := by omega
      have HT : Hid (toldB fs = apartB (namesF fs)) := hide (by
        have q := unhide HG
        rw [e, List.take_length] at q
        unfold toldB
        unfold allGood at q
        rw [q, Bool.true_and])
      have HD := hide (differ_any a cap fs wr ((unhide HA).below (unhide HW) (Nat.le_refl _)) (by omega))
      clear e
      go_wp2_with fail
      refine (unhide HD).mono ?_
      rintro e u ⟨rfl, hb⟩
      have HB : Hid (Below w.heap.size w u) := hide ((unhide HW).trans (hb.mono hwz))
      clear hb
      go_wp2
      go_ret
      exact ⟨by rw [unhide HT]; rfl, unhide HB⟩

theorem index_le (l : List UInt8) : decide (0 ≤ Lib.indexByte l 0) = l.contains 0 := by
  induction l with
  | nil => rfl
  | cons c r ih =>
    have hge := Lib.indexByte_ge r 0
    unfold Lib.indexByte
    rw [List.contains_cons]
    by_cases hc : c = 0
    · subst hc; simp
    · have e1 : (c == 0) = false := by simpa using hc
      have e2 : ((0 : UInt8) == c) = false := by simpa using fun h => hc h.symm
      rw [e1, e2, Bool.false_or, ← ih]
      simp only [Bool.false_eq_true, if_false]
      by_cases hm : Lib.indexByte r 0 = -1
      · rw [hm]; rfl
      · have : (Lib.indexByte r 0 == -1) = false := by simpa using hm
        rw [this]
        simp only [Bool.false_eq_true, if_false]
        rw [decide_eq_decide]; omega
end Go.Proofs.YtoifihhmneldeaaGreatDoor.Tf

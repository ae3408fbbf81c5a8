import Derived.WalkKit
import Derived.ProofKit
import Derived.Lib.SlicesCompact
import Derived.Lib.Bytealg
namespace Go.Proofs.Ytadkcdcdgphhpaa.Tf
set_option linter.unusedVariables false

/-- a byte of a name -/
def okC (c : UInt8) : Bool := decide (33 ≤ c.toNat ∧ c.toNat ≤ 126)
def nameB (l : List UInt8) : Bool := !l.isEmpty && l.all okC
def lowC (c : UInt8) : UInt8 := if 65 ≤ c.toNat ∧ c.toNat ≤ 90 then UInt8.ofNat (c.toNat + 32) else c
def lowL (l : List UInt8) : List UInt8 := l.map lowC
theorem lowL_length (l : List UInt8) : (lowL l).length = l.length := by simp [lowL]
theorem lowC_nat (c : UInt8) : (lowC c).toNat = if 65 ≤ c.toNat ∧ c.toNat ≤ 90 then c.toNat + 32 else c.toNat := by
  unfold lowC
  split
  · rw [UInt8.toNat_ofNat_of_lt' (by show _ < 256; omega)]
  · rfl
theorem okC_low (c : UInt8) : okC (lowC c) = okC c := by
  unfold okC
  rw [lowC_nat]
  split
  · rw [decide_eq_decide]; omega
  · rfl
theorem nameB_low (l : List UInt8) : nameB (lowL l) = nameB l := by
  unfold nameB lowL
  rw [List.all_map]
  have : (okC ∘ lowC) = okC := funext fun c => okC_low c
  rw [this]
  cases l <;> rfl
theorem lowL_idem (l : List UInt8) : lowL (lowL l) = lowL l := by
  unfold lowL
  rw [List.map_map]
  congr 1
  funext c
  apply UInt8.toNat_inj.1
  simp only [Function.comp]
  rw [lowC_nat (lowC c), if_neg]
  rw [lowC_nat]
  split <;> omega

/-- a name and its value -/
abbrev Fd := List UInt8 × List UInt8
abbrev Flds := List Fd
def fd8 (f : Fd) : List UInt8 := f.1 ++ [0] ++ (f.2 ++ [0])
def flds8 (fs : Flds) : List UInt8 := fs.flatMap fd8
theorem flds8_take (fs : Flds) (k : Nat) (h : k < fs.length) : flds8 (fs.take (k + 1)) = flds8 (fs.take k) ++ fd8 fs[k] := by
  rw [flds8, List.take_succ_eq_append_getElem h, List.flatMap_append]
  simp [flds8]
theorem flds8_le (fs : Flds) (k : Nat) : (flds8 (fs.take k)).length ≤ (flds8 fs).length := by
  have e : flds8 fs = flds8 (fs.take k) ++ flds8 (fs.drop k) := by
    rw [flds8, flds8, flds8, ← List.flatMap_append, List.take_append_drop]
  rw [e, List.length_append]; omega
/-- how much fields are: their number and their bytes -/
def heavyF (fs : Flds) : Nat := fs.length + (fs.map fun f => f.1.length + f.2.length).sum
theorem flds8_heavy (fs : Flds) : (flds8 fs).length ≤ 2 * heavyF fs := by
  induction fs with
  | nil => simp [flds8, heavyF]
  | cons f r ih =>
    simp only [flds8, heavyF, fd8, List.flatMap_cons, List.length_append, List.length_cons, List.length_nil, List.map_cons, List.sum_cons] at ih ⊢
    omega
theorem heavyF_take (fs : Flds) (k : Nat) (h : k < fs.length) : heavyF (fs.take (k + 1)) = heavyF (fs.take k) + 1 + (fs[k].1.length + fs[k].2.length) := by
  simp only [heavyF, List.take_succ_eq_append_getElem h, List.map_append, List.sum_append, List.length_append, List.length_cons, List.length_nil, List.map_cons, List.map_nil, List.sum_cons, List.sum_nil]
  omega
theorem heavyF_more (fs : Flds) (k : Nat) : heavyF (fs.take k) + (fs.length - k) ≤ heavyF fs := by
  have q : heavyF (fs.take k ++ fs.drop k) = heavyF (fs.take k) + heavyF (fs.drop k) := by
    simp only [heavyF, List.map_append, List.sum_append, List.length_append]; omega
  rw [List.take_append_drop] at q
  have h : (fs.drop k).length ≤ heavyF (fs.drop k) := by unfold heavyF; omega
  rw [List.length_drop] at h
  omega
theorem heavyF_le (fs : Flds) (k : Nat) : heavyF (fs.take k) ≤ heavyF fs := by
  have := heavyF_more fs k
  omega
theorem heavyF_one (fs : Flds) (k : Nat) (h : k < fs.length) : fs[k].1.length + fs[k].2.length ≤ heavyF fs := by
  have := heavyF_take fs k h
  have := heavyF_le fs (k + 1)
  omega

def namesF (fs : Flds) : List (List UInt8) := fs.map Prod.fst
theorem namesF_length (fs : Flds) : (namesF fs).length = fs.length := by simp [namesF]
theorem namesF_take (fs : Flds) (k : Nat) : namesF (fs.take k) = (namesF fs).take k := by simp [namesF, List.map_take]
/-- a field that may be told -/
def goodF (f : Fd) : Bool := nameB f.1 && (lowL f.1 == f.1) && nameB f.2
/-- no name comes twice -/
def apartB : List (List UInt8) → Bool
  | [] => true
  | x :: r => !r.contains x && apartB r
theorem apartB_nodup (l : List (List UInt8)) : apartB l = true ↔ l.Nodup := by
  induction l with
  | nil => simp [apartB]
  | cons x r ih =>
    simp only [apartB, Bool.and_eq_true, ih, List.nodup_cons]
    simp
def namedB (fs : Flds) (n : List UInt8) : Bool := fs.any fun f => f.1 == n
theorem namedB_iff (fs : Flds) (n : List UInt8) : namedB fs n = true ↔ n ∈ namesF fs := by
  simp only [namedB, List.any_eq_true, namesF, List.mem_map]
  constructor
  · rintro ⟨f, hf, h⟩; exact ⟨f, hf, by simpa using h⟩
  · rintro ⟨f, hf, h⟩; exact ⟨f, hf, by simpa using h⟩
def toldB (fs : Flds) : Bool := fs.all goodF && apartB (namesF fs)
theorem nodup_snoc {α : Type} (l : List α) (x : α) : (l ++ [x]).Nodup ↔ l.Nodup ∧ x ∉ l := by
  rw [List.nodup_append]
  constructor
  · rintro ⟨h1, _, h3⟩; exact ⟨h1, fun hx => h3 x hx x (by simp) rfl⟩
  · rintro ⟨h1, h2⟩; exact ⟨h1, by simp, fun a ha b hb => by simp at hb; subst hb; rintro rfl; exact h2 ha⟩
theorem toldB_take (fs : Flds) (k : Nat) (h : k < fs.length) : toldB (fs.take (k + 1)) = (toldB (fs.take k) && (goodF fs[k] && !namedB (fs.take k) fs[k].1)) := by
  rw [Bool.eq_iff_iff]
  unfold toldB
  simp only [Bool.and_eq_true, apartB_nodup, Bool.not_eq_true', ← Bool.not_eq_true, namedB_iff]
  rw [List.take_succ_eq_append_getElem h]
  simp only [namesF, List.map_append, List.map_cons, List.map_nil, nodup_snoc, List.all_append, List.all_cons, List.all_nil, Bool.and_true, Bool.and_eq_true]
  constructor
  · rintro ⟨⟨a, b⟩, c, d⟩; exact ⟨⟨a, c⟩, b, d⟩
  · rintro ⟨⟨a, c⟩, b, d⟩; exact ⟨⟨a, b⟩, c, d⟩
theorem nodup_take {α : Type} {l : List α} (h : l.Nodup) (k : Nat) : (l.take k).Nodup := h.sublist (List.take_sublist k l)
theorem toldB_prefix (fs : Flds) (k : Nat) (h : toldB (fs.take k) = false) : toldB fs = false := by
  rw [← Bool.not_eq_true] at h ⊢
  intro hh
  apply h
  unfold toldB at hh ⊢
  rw [Bool.and_eq_true, apartB_nodup] at hh ⊢
  refine ⟨?_, ?_⟩
  · rw [List.all_eq_true] at hh ⊢
    exact fun f hf => hh.1 f (List.mem_of_mem_take hf)
  · rw [namesF_take]; exact nodup_take hh.2 k

/-! what is put in order and made one: as long as before iff no two are equal -/
theorem le_trans8 (a b c : List UInt8) : decide (a ≤ b) = true → decide (b ≤ c) = true → decide (a ≤ c) = true := by
  simp only [decide_eq_true_eq]; exact List.le_trans
theorem le_total8 (a b : List UInt8) : (decide (a ≤ b) || decide (b ≤ a)) = true := by
  simp only [Bool.or_eq_true, decide_eq_true_eq]; exact List.le_total a b
theorem keeps_all_of_nodup (zs : List (List UInt8)) (h : zs.Nodup) : ∀ j, j < zs.length → Lib.keeps zs.toArray j = true := by
  intro j hj
  by_cases e : j = 0
  · simp [Lib.keeps, e]
  · apply Lib.keeps_pos
    have h1 : j - 1 < zs.length := by omega
    simp only [List.getElem!_toArray]
    rw [getElem!_pos zs j hj, getElem!_pos zs (j - 1) h1]
    intro hh
    have q := (List.pairwise_iff_getElem.1 h) (j - 1) j h1 hj (by omega)
    exact q hh.symm
theorem compact_len_lt {zs : List (List UInt8)} {j : Nat} (hj : j < zs.length) (hk : Lib.keeps zs.toArray j = false) : (Lib.compact zs).length < zs.length := by
  unfold Lib.compact Lib.compactUpTo
  rw [List.length_map]
  have h1 : ((List.range zs.length).filter (Lib.keeps zs.toArray)).length < (List.range zs.length).length := by
    rw [List.length_filter_lt_length_iff_exists]
    exact ⟨j, by simpa using hj, by rw [hk]; simp⟩
  simpa using h1
theorem sorted_nodup {zs : List (List UInt8)} (hs : zs.Pairwise (fun a b => a ≤ b)) (hk : ∀ j, j < zs.length → Lib.keeps zs.toArray j = true) : zs.Nodup := by
  rw [List.Nodup, List.pairwise_iff_getElem]
  intro i j hi hj hij e
  have h1 : i + 1 < zs.length := by omega
  have hkk := hk (i + 1) h1
  have hle1 : zs[i] ≤ zs[i + 1] := (List.pairwise_iff_getElem.1 hs) i (i + 1) hi h1 (by omega)
  have hle2 : zs[i + 1] ≤ zs[j] := by
    by_cases e2 : i + 1 = j
    · subst e2; exact List.le_refl _
    · exact (List.pairwise_iff_getElem.1 hs) (i + 1) j h1 hj (by omega)
  rw [← e] at hle2
  have heq : zs[i + 1] = zs[i] := List.le_antisymm hle2 hle1
  simp only [Lib.keeps, decide_eq_true_eq] at hkk
  rcases hkk with h0 | h0
  · omega
  · apply h0
    simp only [List.getElem!_toArray, Nat.add_sub_cancel]
    rw [getElem!_pos zs (i + 1) h1, getElem!_pos zs i hi]
    exact heq
def sortL (l : List (List UInt8)) : List (List UInt8) := l.mergeSort fun x y => decide (x ≤ y)
theorem sortL_length (l : List (List UInt8)) : (sortL l).length = l.length := (List.mergeSort_perm l _).length_eq
theorem sort_compact (l : List (List UInt8)) : decide ((Lib.compact (sortL l)).length = l.length) = apartB l := by
  have hp : (sortL l).Perm l := List.mergeSort_perm l _
  have hs : (sortL l).Pairwise (fun a b => a ≤ b) := by
    have := List.pairwise_mergeSort le_trans8 le_total8 l
    exact this.imp (fun h => by simpa using h)
  have hl : (sortL l).length = l.length := hp.length_eq
  rw [Bool.eq_iff_iff, decide_eq_true_eq, apartB_nodup]
  constructor
  · intro h
    apply hp.nodup_iff.1
    apply sorted_nodup hs
    intro j hj
    cases hk : Lib.keeps (sortL l).toArray j with
    | true => rfl
    | false => have := compact_len_lt hj hk; omega
  · intro h
    rw [Lib.compact_all _ (keeps_all_of_nodup _ (hp.nodup_iff.2 h)), hl]
end Go.Proofs.Ytadkcdcdgphhpaa.Tf

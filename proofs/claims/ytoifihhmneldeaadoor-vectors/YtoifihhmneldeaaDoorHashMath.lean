import Derived.Test.YtoifihhmneldeaaDoorHashRound
namespace Go.Proofs.YtoifihhmneldeaaDoor.Hm
open Ht
set_option linter.unusedVariables false

theorem not32 (e : Nat) (he : e < 4294967296) : 4294967295 ^^^ e = 4294967295 - e := by
  have h := congrArg BitVec.toNat (BitVec.xor_allOnes (x := BitVec.ofNat 32 e))
  rw [BitVec.toNat_xor, BitVec.toNat_not, BitVec.toNat_ofNat, BitVec.toNat_allOnes] at h
  rw [Nat.mod_eq_of_lt (by omega : e < 2 ^ 32)] at h
  rw [Nat.xor_comm]
  simpa using h
/-- the reference's choice and majority, with 'or' -/
theorem ch_or (e f g : Nat) (he : e < 4294967296) : (e &&& f) ||| ((4294967295 - e) &&& g) = chF e f g := by
  rw [chF, ← not32 e he]
  apply Nat.eq_of_testBit_eq
  intro i
  simp only [Nat.testBit_or, Nat.testBit_xor, Nat.testBit_and]
  by_cases hi : i < 32
  · have h1 : Nat.testBit 4294967295 i = true := by
      have := Nat.testBit_two_pow_sub_one 32 i
      simpa [hi] using this
    rw [h1]
    cases e.testBit i <;> cases f.testBit i <;> cases g.testBit i <;> rfl
  · have h1 : Nat.testBit 4294967295 i = false := by
      have := Nat.testBit_two_pow_sub_one 32 i
      simpa [hi] using this
    have h2 : e.testBit i = false := Nat.testBit_lt_two_pow (Nat.lt_of_lt_of_le he (Nat.pow_le_pow_right (show 2 > 0 by decide) (by omega : 32 ≤ i)))
    rw [h1, h2]
    cases f.testBit i <;> cases g.testBit i <;> rfl
theorem maj_or (a b c : Nat) : ((a &&& b) ||| (a &&& c)) ||| (b &&& c) = majF a b c := by
  rw [majF]
  apply Nat.eq_of_testBit_eq
  intro i
  simp only [Nat.testBit_or, Nat.testBit_xor, Nat.testBit_and]
  cases a.testBit i <;> cases b.testBit i <;> cases c.testBit i <;> rfl

/-- eight words -/
structure St where
  a : Nat
  b : Nat
  c : Nat
  d : Nat
  e : Nat
  f : Nat
  g : Nat
  h : Nat
def St.ok (s : St) : Prop := s.a < 4294967296 ∧ s.b < 4294967296 ∧ s.c < 4294967296 ∧ s.d < 4294967296 ∧ s.e < 4294967296 ∧ s.f < 4294967296 ∧ s.g < 4294967296 ∧ s.h < 4294967296
/-- one round of the code -/
def St.round (s : St) (x : Nat) : St := ⟨(oneF s.e s.f s.g s.h x + twoF s.a s.b s.c) % 4294967296, s.a, s.b, s.c, (s.d + oneF s.e s.f s.g s.h x) % 4294967296, s.e, s.f, s.g⟩
theorem St.round_ok (s : St) (x : Nat) (h : s.ok) : (s.round x).ok := by
  obtain ⟨h1, h2, h3, h4, h5, h6, h7, h8⟩ := h
  exact ⟨Nat.mod_lt _ (by decide), h1, h2, h3, Nat.mod_lt _ (by decide), h5, h6, h7⟩
/-- the same with sums that are cut at their ends alone, as the reference says it -/
theorem St.round_ref (s : St) (k w : Nat) (hs : s.ok) :
    s.round ((k + w) % 4294967296) = ⟨(s.h + turn3F s.e 6 11 25 + chF s.e s.f s.g + k + w + turn3F s.a 2 13 22 + majF s.a s.b s.c) % 4294967296, s.a, s.b, s.c, (s.d + (s.h + turn3F s.e 6 11 25 + chF s.e s.f s.g + k + w)) % 4294967296, s.e, s.f, s.g⟩ := by
  have e1 : (oneF s.e s.f s.g s.h ((k + w) % 4294967296) + twoF s.a s.b s.c) % 4294967296 = (s.h + turn3F s.e 6 11 25 + chF s.e s.f s.g + k + w + turn3F s.a 2 13 22 + majF s.a s.b s.c) % 4294967296 := by
    unfold oneF twoF; omega
  have e2 : (s.d + oneF s.e s.f s.g s.h ((k + w) % 4294967296)) % 4294967296 = (s.d + (s.h + turn3F s.e 6 11 25 + chF s.e s.f s.g + k + w)) % 4294967296 := by
    unfold oneF; omega
  unfold St.round
  rw [e1, e2]
def St.rounds (s : St) (K W : Nat → Nat) : Nat → St
  | 0 => s
  | n + 1 => (St.rounds s K W n).round ((K n + W n) % 4294967296)
theorem St.rounds_ok (s : St) (K W : Nat → Nat) (h : s.ok) : ∀ n, (s.rounds K W n).ok
  | 0 => h
  | n + 1 => St.round_ok _ _ (St.rounds_ok s K W h n)
def St.plus (s t : St) : St := ⟨(s.a + t.a) % 4294967296, (s.b + t.b) % 4294967296, (s.c + t.c) % 4294967296, (s.d + t.d) % 4294967296, (s.e + t.e) % 4294967296, (s.f + t.f) % 4294967296, (s.g + t.g) % 4294967296, (s.h + t.h) % 4294967296⟩
theorem St.plus_ok (s t : St) : (s.plus t).ok := by
  unfold St.plus St.ok
  exact ⟨Nat.mod_lt _ (by decide), Nat.mod_lt _ (by decide), Nat.mod_lt _ (by decide), Nat.mod_lt _ (by decide), Nat.mod_lt _ (by decide), Nat.mod_lt _ (by decide), Nat.mod_lt _ (by decide), Nat.mod_lt _ (by decide)⟩

/-- a number of n bytes from s on, the highest first -/
def be (b : List UInt8) (s : Nat) : Nat → Nat
  | 0 => 0
  | n + 1 => 256 * be b s n + (b.getD (s + n) 0).toNat
theorem be_lt (b : List UInt8) (s : Nat) : ∀ n, be b s n < 256 ^ n
  | 0 => by simp [be]
  | n + 1 => by
    have h := be_lt b s n
    have hb := (b.getD (s + n) 0).toNat_lt
    rw [be, Nat.pow_succ]
    omega
theorem be_4 (b : List UInt8) (s : Nat) : be b s 4 = (b.getD s 0).toNat * 16777216 + (b.getD (s + 1) 0).toNat * 65536 + (b.getD (s + 2) 0).toNat * 256 + (b.getD (s + 3) 0).toNat := by
  simp only [be, Nat.add_zero]; omega
/-- the words of a block: as a list that grows -/
def nextW (L : List Nat) : Nat :=
  let i := L.length
  (L.getD (i - 16) 0 + L.getD (i - 7) 0 + (turn2F (L.getD (i - 2) 0) 17 19 ^^^ (L.getD (i - 2) 0 / 1024)) + (turn2F (L.getD (i - 15) 0) 7 18 ^^^ (L.getD (i - 15) 0 / 8))) % 4294967296
def wordsL (b : List UInt8) : Nat → List Nat
  | 0 => []
  | i + 1 => let L := wordsL b i; L ++ [if i < 16 then be b (4 * i) 4 else nextW L]
theorem wordsL_length (b : List UInt8) : ∀ i, (wordsL b i).length = i
  | 0 => rfl
  | i + 1 => by simp [wordsL, wordsL_length b i]
def wordF (b : List UInt8) (i : Nat) : Nat := (wordsL b (i + 1)).getD i 0
theorem wordsL_get (b : List UInt8) (i j : Nat) (h : i < j) : (wordsL b j).getD i 0 = wordF b i := by
  induction j with
  | zero => omega
  | succ j ih =>
    by_cases hij : i = j
    · subst hij; rfl
    · rw [wordsL]
      have hl := wordsL_length b j
      rw [List.getD_eq_getElem?_getD, List.getElem?_append_left (by omega), ← List.getD_eq_getElem?_getD]
      exact ih (by omega)
theorem wordF_low (b : List UInt8) (i : Nat) (h : i < 16) : wordF b i = be b (4 * i) 4 := by
  have hl := wordsL_length b i
  unfold wordF
  rw [wordsL, List.getD_eq_getElem?_getD, List.getElem?_append_right (by omega), hl]
  simp [h]
theorem wordF_high (b : List UInt8) (i : Nat) (h : 16 ≤ i) : wordF b i = (wordF b (i - 16) + wordF b (i - 7) + (turn2F (wordF b (i - 2)) 17 19 ^^^ (wordF b (i - 2) / 1024)) + (turn2F (wordF b (i - 15)) 7 18 ^^^ (wordF b (i - 15) / 8))) % 4294967296 := by
  have hl := wordsL_length b i
  rw [show wordF b i = nextW (wordsL b i) by
    unfold wordF
    rw [wordsL, List.getD_eq_getElem?_getD, List.getElem?_append_right (by omega), hl]
    have : ¬ i < 16 := by omega
    simp [this]]
  unfold nextW
  simp only [hl]
  rw [wordsL_get b (i - 16) i (by omega), wordsL_get b (i - 7) i (by omega), wordsL_get b (i - 2) i (by omega), wordsL_get b (i - 15) i (by omega)]
theorem wordF_lt (b : List UInt8) (i : Nat) : wordF b i < 4294967296 := by
  by_cases h : i < 16
  · rw [wordF_low b i h]; exact be_lt b _ 4
  · rw [wordF_high b i (by omega)]; exact Nat.mod_lt _ (by decide)
/-- a state behind one block, behind all whole blocks of a text -/
def St.mix (s : St) (K : Nat → Nat) (b : List UInt8) : St := s.plus (s.rounds K (wordF b) 64)
def St.mixN (s : St) (K : Nat → Nat) (l : List UInt8) : Nat → St
  | 0 => s
  | n + 1 => (St.mixN s K l n).mix K ((l.drop (64 * n)).take 64)
theorem St.mixN_ok (s : St) (K : Nat → Nat) (l : List UInt8) (h : s.ok) : ∀ n, (s.mixN K l n).ok
  | 0 => h
  | n + 1 => St.plus_ok _ _
theorem St.mixN_left (s : St) (K : Nat → Nat) (l r : List UInt8) (n : Nat) (h : 64 * n ≤ l.length) : s.mixN K (l ++ r) n = s.mixN K l n := by
  induction n with
  | zero => rfl
  | succ n ih =>
    rw [St.mixN, St.mixN, ih (by omega), List.drop_append_of_le_length (by omega), List.take_append_of_le_length (by rw [List.length_drop]; omega)]
theorem St.mixN_split (s : St) (K : Nat → Nat) (l r : List UInt8) (m n : Nat) (h : l.length = 64 * m) : s.mixN K (l ++ r) (m + n) = (s.mixN K l m).mixN K r n := by
  induction n with
  | zero => rw [Nat.add_zero, St.mixN_left s K l r m (by omega)]; rfl
  | succ n ih =>
    rw [← Nat.add_assoc, St.mixN, ih, St.mixN]
    have e : (l ++ r).drop (64 * (m + n)) = r.drop (64 * n) := by
      rw [List.drop_append, List.drop_eq_nil_of_le (by omega), List.nil_append]
      congr 1
      omega
    rw [e]
end Go.Proofs.YtoifihhmneldeaaDoor.Hm

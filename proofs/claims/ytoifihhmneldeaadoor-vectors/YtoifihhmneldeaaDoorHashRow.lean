import Derived.Test.YtoifihhmneldeaaDoorHashMath
import Derived.Test.YtoifihhmneldeaaDoorHashRoundW
import Derived.Deep.MidRow
namespace Go.Proofs.YtoifihhmneldeaaDoor.Hs
open Go.ChangeShapes Go.WideShapes Go.ChangeAt Go.RowKit Hb Ht Hm
set_option linter.unusedVariables false

/-- sixty-four words -/
def rowF (f : Nat → Nat) : List Value := (List.range 64).map fun j => Value.int .u32 (f j)
theorem rowF_length (f : Nat → Nat) : (rowF f).length = 64 := by simp [rowF]
theorem rowF_get (f : Nat → Nat) (j : Nat) (h : j < 64) : (rowF f)[j]? = some (.int .u32 (f j)) := by simp [rowF, h]
theorem rowF_congr {f g : Nat → Nat} (h : ∀ j, j < 64 → f j = g j) : rowF f = rowF g := by
  unfold rowF
  apply List.map_congr_left
  intro j hj
  rw [h j (by simpa using hj)]
theorem rowF_set (f : Nat → Nat) (j v : Nat) : (rowF f).set j (.int .u32 v) = rowF (fun k => if k = j then v else f k) := by
  apply List.ext_getElem?
  intro k
  by_cases hk : k < 64
  · rw [rowF_get _ k hk]
    by_cases e : j = k
    · subst e
      rw [List.getElem?_set_self (by rw [rowF_length]; exact hk)]
      simp
    · rw [List.getElem?_set_ne e, rowF_get f k hk]
      have e' : ¬ k = j := fun q => e q.symm
      simp [e']
  · rw [List.getElem?_eq_none (by rw [List.length_set, rowF_length]; omega), List.getElem?_eq_none (by rw [rowF_length]; omega)]
def R (w : World) (g : Nat) (f : Nat → Nat) : Prop := w.heap[g]? = some (.cells (rowF f).toArray 92 (0, 0))
theorem R.cell {w : World} {g : Nat} {f : Nat → Nat} (h : R w g f) (j : Nat) (hj : j < 64) : w.cell? ⟨g, j, none⟩ = some (.int .u32 (f j)) := by
  rw [cell_of_row w g j _ _ _ h]; simpa using rowF_get f j hj
theorem R.free {w : World} {g : Nat} {f : Nat → Nat} (h : R w g f) (j : Nat) : w.frozen? ⟨g, j, none⟩ = false := by
  simp [World.frozen?, show w.heap[g]? = _ from h]
theorem R.lt {w : World} {g : Nat} {f : Nat → Nat} (h : R w g f) : g < w.heap.size := lt_of_block h
theorem R.congr {w : World} {g : Nat} {f f' : Nat → Nat} (h : R w g f) (e : ∀ j, j < 64 → f j = f' j) : R w g f' := by
  unfold R; rw [← rowF_congr e]; exact h
theorem R.set {w : World} {g : Nat} {f : Nat → Nat} (h : R w g f) (j v : Nat) : R (w.setCell ⟨g, j, none⟩ (.int .u32 v)) g (fun k => if k = j then v else f k) := by
  unfold R
  rw [heap_setCell_same w g j _ _ _ h, ← rowF_set f j v]
  congr 2
  simp
theorem R.below {w w' : World} {g B : Nat} {f : Nat → Nat} (h : R w g f) (hb : Below B w w') (hg : g < B) : R w' g f := (hb.block g hg).trans h
theorem R.alloc {w : World} {g : Nat} {f : Nat → Nat} (h : R w g f) (o : Obj) : R (w.alloc o) g f := by unfold R; rw [Below.heap_alloc _ _ _ h.lt]; exact h
theorem R.other {w : World} {g : Nat} {f : Nat → Nat} (h : R w g f) {p : Addr} (hp : g ≠ p.block) (v : Value) : R (w.setCell p v) g f := by unfold R; rw [Below.heap_setCell _ _ _ _ hp]; exact h
theorem R.range {w : World} {g : Nat} {f : Nat → Nat} (h : R w g f) : w.rangeAt g 0 (rowF f) := fun j v hv => by
  have hj : j < 64 := by
    have := (List.getElem?_eq_some_iff.1 hv).1
    rwa [rowF_length] at this
  rw [rowF_get f j hj] at hv
  rw [Nat.zero_add, h.cell j hj]; exact hv
theorem R.there {w : World} {g : Nat} {f : Nat → Nat} (h : R w g f) : w.there g 0 64 := fun j hj => by
  rw [Nat.zero_add, h.cell j hj, h.free j]; exact ⟨rfl, rfl⟩

/-- the words that are made of the bytes up to k -/
def ldF (b : List UInt8) (k j : Nat) : Nat := be b (4 * j) (min 4 (k - 4 * j))
theorem ldF_step (b : List UInt8) (k j : Nat) : ldF b (k + 1) j = if j = k / 4 then 256 * ldF b k (k / 4) + (b.getD k 0).toNat else ldF b k j := by
  unfold ldF
  by_cases e : j = k / 4
  · rw [if_pos e, e]
    have e1 : min 4 (k + 1 - 4 * (k / 4)) = (k - 4 * (k / 4)) + 1 := by omega
    have e2 : min 4 (k - 4 * (k / 4)) = k - 4 * (k / 4) := by omega
    rw [e1, e2, be]
    have e3 : 4 * (k / 4) + (k - 4 * (k / 4)) = k := by omega
    rw [e3]
  · rw [if_neg e]
    have e1 : min 4 (k + 1 - 4 * j) = min 4 (k - 4 * j) := by omega
    rw [e1]
theorem ldF_lt (b : List UInt8) (k : Nat) : ldF b k (k / 4) < 16777216 := by
  unfold ldF
  have e2 : min 4 (k - 4 * (k / 4)) = k - 4 * (k / 4) := by omega
  rw [e2]
  have h := be_lt b (4 * (k / 4)) (k - 4 * (k / 4))
  have h3 : k - 4 * (k / 4) ≤ 3 := by omega
  generalize k - 4 * (k / 4) = n at h h3
  match n, h3 with
  | 0, _ => omega
  | 1, _ => omega
  | 2, _ => omega
  | 3, _ => omega
/-- the words up to k -/
def scF (b : List UInt8) (k j : Nat) : Nat := if j < k then wordF b j else 0
theorem ldF_end (b : List UInt8) (j : Nat) : ldF b 64 j = scF b 16 j := by
  unfold ldF scF
  by_cases h : j < 16
  · rw [if_pos h, wordF_low b j h, show min 4 (64 - 4 * j) = 4 by omega]
  · rw [if_neg h, show min 4 (64 - 4 * j) = 0 by omega]; rfl
theorem scF_step (b : List UInt8) (k j : Nat) : scF b (k + 1) j = if j = k then wordF b k else scF b k j := by
  unfold scF
  by_cases e : j = k
  · subst e; simp
  · rw [if_neg e]
    by_cases h : j < k
    · rw [if_pos h, if_pos (by omega)]
    · rw [if_neg h, if_neg (by omega)]
theorem or_byte (x y : Nat) (hx : x < 16777216) (hy : y < 256) : bits .or .u32 ((x : Int) * 256) (y : Int) = ((256 * x + y : Nat) : Int) := by
  have e1 : (x : Int) * 256 = ((256 * x : Nat) : Int) := by omega
  rw [e1, u32_or_nat _ _ (by omega) (by omega), nat_join 8 _ _ (by omega) (by omega)]
end Go.Proofs.YtoifihhmneldeaaDoor.Hs

import Derived.Test.YtoifihhmneldeaaDoorHashRot
import Derived.Deep.RegionWith
import Derived.Deep.CutRange
import Derived.Deep.DeepCutAuto
namespace Go.Proofs.YtoifihhmneldeaaDoor.Ht
open Go.ChangeShapes Go.WideShapes Go.ChangeAt Go.RowKit Hb
set_option linter.unusedVariables false

def turn3F (x p q r : Nat) : Nat := turnF x p ^^^ turnF x q ^^^ turnF x r
def turn2F (x p q : Nat) : Nat := turnF x p ^^^ turnF x q
def chF (e f g : Nat) : Nat := (e &&& f) ^^^ ((4294967295 ^^^ e) &&& g)
def majF (a b c : Nat) : Nat := ((a &&& b) ^^^ (a &&& c)) ^^^ (b &&& c)
/-- the first sum of a round, and the second -/
def oneF (e f g h x : Nat) : Nat := (h + turn3F e 6 11 25 + chF e f g + x) % 4294967296
def twoF (a b c : Nat) : Nat := (turn3F a 2 13 22 + majF a b c) % 4294967296

theorem turn3F_lt (x p q r : Nat) (hx : x < 4294967296) : turn3F x p q r < 4294967296 :=
  Nat.xor_lt_two_pow (n := 32) (Nat.xor_lt_two_pow (n := 32) (turnF_lt x p hx) (turnF_lt x q hx)) (turnF_lt x r hx)
theorem turn2F_lt (x p q : Nat) (hx : x < 4294967296) : turn2F x p q < 4294967296 :=
  Nat.xor_lt_two_pow (n := 32) (turnF_lt x p hx) (turnF_lt x q hx)
theorem and_lt32 (a b : Nat) (hb : b < 4294967296) : a &&& b < 4294967296 := Nat.and_lt_two_pow (n := 32) _ hb
theorem xor_lt32 (a b : Nat) (ha : a < 4294967296) (hb : b < 4294967296) : a ^^^ b < 4294967296 := Nat.xor_lt_two_pow (n := 32) ha hb
theorem chF_lt (e f g : Nat) (hf : f < 4294967296) (hg : g < 4294967296) : chF e f g < 4294967296 := xor_lt32 _ _ (and_lt32 _ _ hf) (and_lt32 _ _ hg)
theorem majF_lt (a b c : Nat) (hb : b < 4294967296) (hc : c < 4294967296) : majF a b c < 4294967296 := xor_lt32 _ _ (xor_lt32 _ _ (and_lt32 _ _ hb) (and_lt32 _ _ hc)) (and_lt32 _ _ hc)
theorem ch_num (e f g : Nat) (he : e < 4294967296) (hf : f < 4294967296) (hg : g < 4294967296) :
    bits .xor .u32 (bits .and .u32 (e : Int) (f : Int)) (bits .and .u32 (bits .xor .u32 IntKind.u32.max (e : Int)) (g : Int)) = ((chF e f g : Nat) : Int) := by
  have e0 : IntKind.u32.max = ((4294967295 : Nat) : Int) := by decide
  rw [e0, u32_xor_nat _ _ (by omega) he, u32_and_nat _ _ he hf, u32_and_nat _ _ (xor_lt32 _ _ (by omega) he) hg, u32_xor_nat _ _ (and_lt32 _ _ hf) (and_lt32 _ _ hg)]
  rfl
theorem maj_num (a b c : Nat) (ha : a < 4294967296) (hb : b < 4294967296) (hc : c < 4294967296) :
    bits .xor .u32 (bits .xor .u32 (bits .and .u32 (a : Int) (b : Int)) (bits .and .u32 (a : Int) (c : Int))) (bits .and .u32 (b : Int) (c : Int)) = ((majF a b c : Nat) : Int) := by
  rw [u32_and_nat _ _ ha hb, u32_and_nat _ _ ha hc, u32_and_nat _ _ hb hc, u32_xor_nat _ _ (and_lt32 _ _ hb) (and_lt32 _ _ hc), u32_xor_nat _ _ (xor_lt32 _ _ (and_lt32 _ _ hb) (and_lt32 _ _ hc)) (and_lt32 _ _ hc)]
  rfl
theorem turned_3 (x p q r : Nat) (w : World) (hx : x < 4294967296) (hp0 : 0 < p) (hp : p < 32) (hq0 : 0 < q) (hq : q < 32) (hr0 : 0 < r) (hr : r < 32) :
    Calls Tryd.prog 58 #[.int .u32 x, .slice (some ⟨w.heap.size, 0, none⟩) 3 3] (w.alloc (.cells #[.int .i64 p, .int .i64 q, .int .i64 r] 3)) fun e w' =>
      e = .returned (.int .u32 (turn3F x p q r)) ∧ w' = w.alloc (.cells #[.int .i64 p, .int .i64 q, .int .i64 r] 3) := by
  have h := turned_any x w.heap.size 3 [(p : Int), (q : Int), (r : Int)] _ hx (Row.of (heap_alloc_new w (.cells #[.int .i64 p, .int .i64 q, .int .i64 r] 3))) (by simp) (by
    intro j hj
    match j, hj with
    | 0, _ => simp; omega
    | 1, _ => simp; omega
    | 2, _ => simp; omega)
  refine h.mono ?_
  rintro e w' ⟨rfl, rfl⟩
  refine ⟨?_, rfl⟩
  simp [turnsF, turn3F]
theorem turned_2 (x p q : Nat) (w : World) (hx : x < 4294967296) (hp0 : 0 < p) (hp : p < 32) (hq0 : 0 < q) (hq : q < 32) :
    Calls Tryd.prog 58 #[.int .u32 x, .slice (some ⟨w.heap.size, 0, none⟩) 2 2] (w.alloc (.cells #[.int .i64 p, .int .i64 q] 3)) fun e w' =>
      e = .returned (.int .u32 (turn2F x p q)) ∧ w' = w.alloc (.cells #[.int .i64 p, .int .i64 q] 3) := by
  have h := turned_any x w.heap.size 2 [(p : Int), (q : Int)] _ hx (Row.of (heap_alloc_new w (.cells #[.int .i64 p, .int .i64 q] 3))) (by simp) (by
    intro j hj
    match j, hj with
    | 0, _ => simp; omega
    | 1, _ => simp; omega)
  refine h.mono ?_
  rintro e w' ⟨rfl, rfl⟩
  refine ⟨?_, rfl⟩
  simp [turnsF, turn2F]
end Go.Proofs.YtoifihhmneldeaaDoor.Ht

import Derived.Test.YtoifihhmneldeaaDoorHashSumA
namespace Go.Proofs.YtoifihhmneldeaaDoor.Hs
open Go.ChangeShapes Go.WideShapes Go.ChangeAt Go.RowKit Hb Ht Hm
set_option linter.unusedVariables false
set_option linter.unusedSimpArgs false

/-- the loops of a text, in their order -/
def loopsOf : Code → List Code
  | .loop c => .loop c :: loopsOf c
  | .seq a b => loopsOf a ++ loopsOf b
  | .block _ c => loopsOf c
  | .scope c => loopsOf c
  | .cond _ a b => loopsOf a ++ loopsOf b
  | _ => []
noncomputable def lp (k : Nat) : Code := ((Tryd.f7.body.map loopsOf).getD []).getD k .skip
/-- a word turned, by a number of the program's -/
def turnI (x : Nat) (n : Int) : Nat := turnF x n.toNat
theorem turn_int (x : Nat) (n : Int) (hx : x < 4294967296) (h0 : 0 < n) (h1 : n < 32) (u : World) :
    Calls Tryd.prog 18 #[.int .i64 (x : Int), .int .i64 n] u fun e w' => e = .returned (.int .i64 (turnI x n : Int)) ∧ ∃ m, w' = u.drewN m := by
  obtain ⟨k, rfl⟩ : ∃ k : Nat, n = (k : Int) := ⟨n.toNat, by omega⟩
  refine (turn_any x k u hx (by omega) (by omega)).mono fun _ _ h => ⟨?_, 1, h.2⟩
  rw [h.1]; rfl
end Go.Proofs.YtoifihhmneldeaaDoor.Hs

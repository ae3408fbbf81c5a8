import Derived.Test.YtbhbbeebncmaiaaGreatDoorMgZ00
import Derived.JoinedCond
namespace Go.Proofs.YtbhbbeebncmaiaaGreatDoor.ringsJ
open Go.RowKit
set_option linter.unusedVariables false
set_option maxRecDepth 100000 in
theorem j10:(Rows.ringsRow.inPlace==Tryz.prog.inPlace 3)=true:=by kernel_rfl
set_option maxRecDepth 100000 in
theorem j11:(Rows.ringsRow.unfollowed==Tryz.prog.unfollowed 3)=true:=by kernel_rfl
set_option maxRecDepth 100000 in
theorem j12:(Rows.ringsRow.recurses==Tryz.prog.recurses 3)=true:=by kernel_rfl
set_option maxRecDepth 100000 in
theorem j13:(Rows.ringsRow.named==Tryz.prog.varsNamed 3)=true:=by kernel_rfl
set_option maxRecDepth 100000 in
theorem closed:joinedFacts Tryz.prog 3 Tryz.f3 (OpenSpec.ofChange Rows.ringsSpec).bare Rows.ringsRow=true:=by
 unfold joinedFacts
 simp only [Bool.and_eq_true]
 and_intros
 all_goals first | with_reducible exact j10 | with_reducible exact j11 | with_reducible exact j12 | with_reducible exact j13 | kernel_rfl
end Go.Proofs.YtbhbbeebncmaiaaGreatDoor.ringsJ

import Derived.Test.YtbhbbeebncmaiaaGreatDoorMgZ01
import Derived.JoinedCond
namespace Go.Proofs.YtbhbbeebncmaiaaGreatDoor.startsJ
open Go.RowKit
set_option linter.unusedVariables false
set_option maxRecDepth 100000 in
theorem j10 : (Rows.startsRow.inPlace == Tryz.prog.inPlace 4) = true := by kernel_rfl
set_option maxRecDepth 100000 in
theorem j11 : (Rows.startsRow.unfollowed == Tryz.prog.unfollowed 4) = true := by kernel_rfl
set_option maxRecDepth 100000 in
theorem j12 : (Rows.startsRow.recurses == Tryz.prog.recurses 4) = true := by kernel_rfl
set_option maxRecDepth 100000 in
theorem j13 : (Rows.startsRow.named == Tryz.prog.varsNamed 4) = true := by kernel_rfl
set_option maxRecDepth 100000 in
theorem closed : joinedFacts Tryz.prog 4 Tryz.f4 (OpenSpec.ofChange Rows.startsSpec).bare Rows.startsRow = true := by
  unfold joinedFacts
  simp only [Bool.and_eq_true]
  and_intros
  all_goals first | with_reducible exact j10 | with_reducible exact j11 | with_reducible exact j12 | with_reducible exact j13 | kernel_rfl
end Go.Proofs.YtbhbbeebncmaiaaGreatDoor.startsJ

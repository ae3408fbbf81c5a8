import Derived.Test.YtnbaacgmlbhhcaaGreatDoorMg46
import Derived.JoinedCond
set_option linter.all false
set_option maxHeartbeats 400000
set_option maxRecDepth 100000
open Go.RowKit
open Go.Proofs.Tryz
namespace Go.Proofs.YtnbaacgmlbhhcaaGreatDoor
namespace bd9
theorem j10:(Rows.loadsRow.inPlace==prog.inPlace 3)=true:=by kernel_rfl
theorem j11:(Rows.loadsRow.unfollowed==prog.unfollowed 3)=true:=by kernel_rfl
theorem j12:(Rows.loadsRow.recurses==prog.recurses 3)=true:=by kernel_rfl
theorem j13:(Rows.loadsRow.named==prog.varsNamed 3)=true:=by kernel_rfl
theorem closed:joinedFacts prog 3 f3 (OpenSpec.ofChange Rows.loadsSpec).bare Rows.loadsRow=true:=by
 unfold joinedFacts;simp only[bG];and_intros
 all_goals first|with_reducible exact j10|with_reducible exact j11|with_reducible exact j12|with_reducible exact j13|kernel_rfl
end bd9
end Go.Proofs.YtnbaacgmlbhhcaaGreatDoor

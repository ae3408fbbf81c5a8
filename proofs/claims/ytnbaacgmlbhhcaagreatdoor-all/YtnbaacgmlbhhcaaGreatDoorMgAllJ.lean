import Derived.Test.YtnbaacgmlbhhcaaGreatDoorMg46
import Derived.JoinedCond
set_option linter.all false
set_option maxHeartbeats 400000
set_option maxRecDepth 100000
open Go.RowKit
open Go.Proofs.Tryz
namespace Go.Proofs.YtnbaacgmlbhhcaaGreatDoor
namespace av9
theorem j10:(Rows.allRow.inPlace==prog.inPlace 5)=true:=by kernel_rfl
theorem j11:(Rows.allRow.unfollowed==prog.unfollowed 5)=true:=by kernel_rfl
theorem j12:(Rows.allRow.recurses==prog.recurses 5)=true:=by kernel_rfl
theorem j13:(Rows.allRow.named==prog.varsNamed 5)=true:=by kernel_rfl
theorem closed:joinedFacts prog 5 f5 (OpenSpec.ofChange Rows.allSpec).bare Rows.allRow=true:=by
 unfold joinedFacts;simp only[bG];and_intros
 all_goals first|with_reducible exact j10|with_reducible exact j11|with_reducible exact j12|with_reducible exact j13|kernel_rfl
end av9
end Go.Proofs.YtnbaacgmlbhhcaaGreatDoor

import Derived.Test.YtnbaacgmlbhhcaaGreatDoorMg46
import Derived.JoinedCond
set_option linter.all false
set_option maxHeartbeats 400000
set_option maxRecDepth 100000
open Go.RowKit
open Go.Proofs.Tryz
namespace Go.Proofs.YtnbaacgmlbhhcaaGreatDoor
namespace bd9
theorem j10:(Rows.imagesRow.inPlace==prog.inPlace 4)=true:=by kernel_rfl
theorem j11:(Rows.imagesRow.unfollowed==prog.unfollowed 4)=true:=by kernel_rfl
theorem j12:(Rows.imagesRow.recurses==prog.recurses 4)=true:=by kernel_rfl
theorem j13:(Rows.imagesRow.named==prog.varsNamed 4)=true:=by kernel_rfl
theorem closed:joinedFacts prog 4 f4 (OpenSpec.ofChange Rows.imagesSpec).bare Rows.imagesRow=true:=by
 unfold joinedFacts;simp only[bG];and_intros
 all_goals first|with_reducible exact j10|with_reducible exact j11|with_reducible exact j12|with_reducible exact j13|kernel_rfl
end bd9
end Go.Proofs.YtnbaacgmlbhhcaaGreatDoor

import Derived.Test.YtdgacidndknceaaGreatDoorMg11
import Derived.JoinedCond
set_option linter.all false
set_option maxHeartbeats 400000
set_option maxRecDepth 100000
open Go.RowKit
open Go.Proofs.Tryz
namespace Go.Proofs.YtdgacidndknceaaGreatDoor
namespace aQ4
theorem j10:(Rows.longRow.inPlace==prog.inPlace 4)=true:=by kernel_rfl
theorem j11:(Rows.longRow.unfollowed==prog.unfollowed 4)=true:=by kernel_rfl
theorem j12:(Rows.longRow.recurses==prog.recurses 4)=true:=by kernel_rfl
theorem j13:(Rows.longRow.named==prog.varsNamed 4)=true:=by kernel_rfl
theorem closed:joinedFacts prog 4 f4 (OpenSpec.ofChange Rows.longSpec).bare Rows.longRow=true:=by
 unfold joinedFacts
 simp only[dw]
 and_intros
 all_goals first|with_reducible exact j10|with_reducible exact j11|with_reducible exact j12|with_reducible exact j13|kernel_rfl
end aQ4
end Go.Proofs.YtdgacidndknceaaGreatDoor

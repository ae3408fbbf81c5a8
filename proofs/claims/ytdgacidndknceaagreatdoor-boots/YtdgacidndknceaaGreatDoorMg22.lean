import Derived.Test.YtdgacidndknceaaGreatDoorMg01
import Derived.JoinedCond
set_option linter.all false
set_option maxHeartbeats 400000
set_option maxRecDepth 100000
open Go.RowKit
open Go.Proofs.Tryz
namespace Go.Proofs.YtdgacidndknceaaGreatDoor
namespace bN9
theorem j10:(Rows.bootsRow.inPlace==prog.inPlace 3)=true:=by kernel_rfl
theorem j11:(Rows.bootsRow.unfollowed==prog.unfollowed 3)=true:=by kernel_rfl
theorem j12:(Rows.bootsRow.recurses==prog.recurses 3)=true:=by kernel_rfl
theorem j13:(Rows.bootsRow.named==prog.varsNamed 3)=true:=by kernel_rfl
theorem closed:joinedFacts prog 3 f3 (OpenSpec.ofChange Rows.bootsSpec).bare Rows.bootsRow=true:=by
 unfold joinedFacts;simp only[bu7];and_intros
 all_goals first|with_reducible exact j10|with_reducible exact j11|with_reducible exact j12|with_reducible exact j13|kernel_rfl
end bN9
end Go.Proofs.YtdgacidndknceaaGreatDoor

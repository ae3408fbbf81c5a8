import Derived.Test.YtdgacidndknceaaGreatDoorMg00
import Derived.JoinedCond
set_option linter.all false
set_option maxHeartbeats 400000
set_option maxRecDepth 100000
open Go.RowKit
open Go.Proofs.Tryz
namespace Go.Proofs.YtdgacidndknceaaGreatDoor
namespace bl2
theorem j10:(Rows.safeRow.inPlace==prog.inPlace 5)=true:=by kernel_rfl
theorem j11:(Rows.safeRow.unfollowed==prog.unfollowed 5)=true:=by kernel_rfl
theorem j12:(Rows.safeRow.recurses==prog.recurses 5)=true:=by kernel_rfl
theorem j13:(Rows.safeRow.named==prog.varsNamed 5)=true:=by kernel_rfl
theorem closed:joinedFacts prog 5 f5 (OpenSpec.ofChange Rows.safeSpec).bare Rows.safeRow=true:=by
 unfold joinedFacts;simp only[aZ7];and_intros
 all_goals first|with_reducible exact j10|with_reducible exact j11|with_reducible exact j12|with_reducible exact j13|kernel_rfl
end bl2
end Go.Proofs.YtdgacidndknceaaGreatDoor

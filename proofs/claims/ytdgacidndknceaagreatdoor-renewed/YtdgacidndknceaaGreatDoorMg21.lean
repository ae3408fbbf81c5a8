import Derived.Test.YtdgacidndknceaaGreatDoorMg03
import Derived.JoinedCond
set_option linter.all false
set_option maxHeartbeats 400000
set_option maxRecDepth 100000
open Go.RowKit
open Go.Proofs.Tryz
namespace Go.Proofs.YtdgacidndknceaaGreatDoor
namespace aT2
theorem j10:(Rows.renewedRow.inPlace==prog.inPlace 6)=true:=by kernel_rfl
theorem j11:(Rows.renewedRow.unfollowed==prog.unfollowed 6)=true:=by kernel_rfl
theorem j12:(Rows.renewedRow.recurses==prog.recurses 6)=true:=by kernel_rfl
theorem j13:(Rows.renewedRow.named==prog.varsNamed 6)=true:=by kernel_rfl
theorem closed:joinedFacts prog 6 f6 (OpenSpec.ofChange Rows.renewedSpec).bare Rows.renewedRow=true:=by
 unfold joinedFacts;simp only[bu7];and_intros
 all_goals first|with_reducible exact j10|with_reducible exact j11|with_reducible exact j12|with_reducible exact j13|kernel_rfl
end aT2
end Go.Proofs.YtdgacidndknceaaGreatDoor

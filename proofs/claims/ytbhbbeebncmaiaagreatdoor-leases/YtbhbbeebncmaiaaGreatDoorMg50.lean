import Derived.Test.YtbhbbeebncmaiaaGreatDoorMg45
import Derived.JoinedCond
set_option linter.all false
set_option maxHeartbeats 400000
set_option maxRecDepth 100000
open Go.RowKit
open Go.Proofs.Tryz
namespace Go.Proofs.YtbhbbeebncmaiaaGreatDoor
namespace I9
theorem j10:(Rows.leasesRow.inPlace==prog.inPlace 5)=true:=by kernel_rfl
theorem j11:(Rows.leasesRow.unfollowed==prog.unfollowed 5)=true:=by kernel_rfl
theorem j12:(Rows.leasesRow.recurses==prog.recurses 5)=true:=by kernel_rfl
theorem j13:(Rows.leasesRow.named==prog.varsNamed 5)=true:=by kernel_rfl
theorem closed:joinedFacts prog 5 f5 (OpenSpec.ofChange Rows.leasesSpec).bare Rows.leasesRow=true:=by
 unfold joinedFacts
 simp only[dw]
 and_intros
 all_goals first|with_reducible exact j10|with_reducible exact j11|with_reducible exact j12|with_reducible exact j13|kernel_rfl
end I9
end Go.Proofs.YtbhbbeebncmaiaaGreatDoor

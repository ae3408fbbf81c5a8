import Derived.Test.YtdgacidndknceaaGreatDoorMg01
import Derived.OpenShut
set_option linter.all false
set_option maxHeartbeats 400000
open Go.ChangeShapes Go.WideShapes Go.ChangeAt Go.RowKit
open Go.Proofs.Tryz
namespace Go.Proofs.YtdgacidndknceaaGreatDoor
namespace Op
open Bs
theorem laid:laidOutB prog=true:=by kernel_rfl
theorem own:ownKnob prog.godebug=none:=by kernel_rfl
theorem gY:prog.cellsOf 5=1:=by kernel_rfl
section
variable{H:Type} {enc:TypeId×Value→H} {w:World} {base:Nat} {spare:Nat→Bool} {held:Bool} {fuel:Nat}
end
end Op
end Go.Proofs.YtdgacidndknceaaGreatDoor

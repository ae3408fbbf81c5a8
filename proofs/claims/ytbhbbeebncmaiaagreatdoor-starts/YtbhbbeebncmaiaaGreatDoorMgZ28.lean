import Derived.Test.YtbhbbeebncmaiaaGreatDoorMgZ24
import Derived.Test.YtbhbbeebncmaiaaGreatDoorMgZ48
import Derived.Test.YtbhbbeebncmaiaaGreatDoorMgZ12
import Derived.Test.YtbhbbeebncmaiaaGreatDoorMgZ07
import Derived.Test.YtbhbbeebncmaiaaGreatDoorMgZ26
import Derived.Test.YtbhbbeebncmaiaaGreatDoorMgZ29
import Derived.Test.YtbhbbeebncmaiaaGreatDoorMgZ27
import Derived.Test.YtbhbbeebncmaiaaGreatDoorMgZ03
import Derived.Test.YtbhbbeebncmaiaaGreatDoorMgZ23
import Derived.Test.YtbhbbeebncmaiaaGreatDoorMgZ08
import Derived.Test.YtbhbbeebncmaiaaGreatDoorMgZ18
import Derived.Test.YtbhbbeebncmaiaaGreatDoorMgZ25
import Derived.Deep.DeepCutAuto
import Derived.Lib.OwnKind
import Derived.Deep.RegionLaw
import Derived.Laws.AppendOwnNone
import Derived.Deep.RegionHeld
import Derived.Lib.BufferWrite
import Derived.Deep.RegionHeld3
import Derived.LoopN
import Derived.Laws.EntriesVeiled
import Derived.Handy
namespace Go.Proofs.YtbhbbeebncmaiaaGreatDoor.Ref
open Go.ChangeShapes Go.WideShapes Go.ChangeAt Go.RowKit Bs Mac
set_option linter.unusedVariables false
set_option linter.unusedSimpArgs false
variable {w0 : World} {P : Nat → Prop} {w w' : World} {G : Nat} {r r' : Rf}
def ActR (f : Nat) (args : Array Value) (G : Nat) (r r' : Rf) : Prop := ∀ (w0 : World) (P : Nat → Prop) (u : World), Rm w0 P u G r → Calls Tryz.prog f args u fun ee w' => ee = .returned (.tuple #[]) ∧ Rm w0 P w' G r'
end Go.Proofs.YtbhbbeebncmaiaaGreatDoor.Ref

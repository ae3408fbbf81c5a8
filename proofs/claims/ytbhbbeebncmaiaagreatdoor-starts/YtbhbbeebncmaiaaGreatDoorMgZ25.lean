import Derived.Test.YtbhbbeebncmaiaaGreatDoorMgZ48
import Derived.Test.YtbhbbeebncmaiaaGreatDoorMgZ18
import Derived.Test.YtbhbbeebncmaiaaGreatDoorMgZ24
import Derived.Test.YtbhbbeebncmaiaaGreatDoorMgZ08
import Derived.Test.YtbhbbeebncmaiaaGreatDoorMgZ23
import Derived.Test.YtbhbbeebncmaiaaGreatDoorMgZ12
import Derived.Deep.DeepCutAuto
import Derived.Lib.OwnKind
import Derived.Deep.RegionLaw
import Derived.Laws.AppendOwnNone
import Derived.Handy
import Derived.LoopN
import Derived.Laws.EntriesVeiled
import Derived.Deep.RegionHeld
namespace Go.Proofs.YtbhbbeebncmaiaaGreatDoor.Dh
open Go.ChangeShapes Go.WideShapes Go.ChangeAt Go.RowKit Bs
set_option linter.unusedVariables false
set_option linter.unusedSimpArgs false
end Go.Proofs.YtbhbbeebncmaiaaGreatDoor.Dh
namespace Go.Proofs.YtbhbbeebncmaiaaGreatDoor.Ref
open Go.ChangeShapes Go.WideShapes Go.ChangeAt Go.RowKit Bs Mac
set_option linter.unusedVariables false
set_option linter.unusedSimpArgs false
variable {w0 : World} {P : Nat → Prop} {w w' : World} {G : Nat} {r r' : Rf}
theorem str_size (l : List UInt8) : (⟨l.toArray⟩ : ByteArray).size = l.length := by show l.toArray.size = _; simp
theorem address_off (h : Rm w0 P w G r) (hl : r.lease < 4) : Calls Tryz.prog 46 #[.pointer (some ⟨G, 0, none⟩)] w fun ee w' => ee = .returned (.int .u32 0) ∧ w' = w := by
  have c22 := h.c22
  have hge : ¬ (4 : Int) ≤ r.lease := by omega
  clear h
  go_enter Tryz.func46, Tryz.ntmps46
  go_wp2
  go_ret
  exact ⟨rfl, rfl⟩
end Go.Proofs.YtbhbbeebncmaiaaGreatDoor.Ref

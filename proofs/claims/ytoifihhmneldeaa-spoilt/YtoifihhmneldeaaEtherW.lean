import Derived.Test.YtoifihhmneldeaaRefBytes
import Derived.Test.YtoifihhmneldeaaARPMath
import Derived.Deep.RegionHeld3
namespace Go.Proofs.Ytoifihhmneldeaa.Eth
open Go.ChangeShapes Go.WideShapes Go.ChangeAt Go.RowKit Bs Rb Wt Arp
set_option linter.unusedVariables false

/-- the bytes of a frame -/
def ethL (m : List UInt8) (ty : Int) (load : ByteArray) : List UInt8 := m ++ word8 ty ++ load.data.toList ++ List.replicate (60 - (m ++ word8 ty ++ load.data.toList).length) 0
def okTy (ty : Int) : Bool := decide (1536 ≤ ty)
def okLoad (s : ByteArray) : Bool := decide (s.size ≤ 1500)
def ethS (m : List UInt8) (ty : Int) (load : ByteArray) : ByteArray := if okTy ty && okLoad load then ⟨(ethL m ty load).toArray⟩ else ⟨#[]⟩
def ethE (ty : Int) (load : ByteArray) : Int := if okTy ty then (if okLoad load then 0 else 7) else 3

end Go.Proofs.Ytoifihhmneldeaa.Eth


import Derived.Test.YtbaelldgpefmoabEtherRf
namespace Go.Proofs.Ytbaelldgpefmoab.EtR
open Go.ChangeShapes Go.WideShapes Go.ChangeAt Go.RowKit Bs Rd
set_option linter.unusedVariables false

end Go.Proofs.Ytbaelldgpefmoab.EtR

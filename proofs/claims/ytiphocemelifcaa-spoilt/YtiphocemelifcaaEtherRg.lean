import Derived.Test.YtiphocemelifcaaEtherRf
namespace Go.Proofs.Ytiphocemelifcaa.EtR
open Go.ChangeShapes Go.WideShapes Go.ChangeAt Go.RowKit Bs Rd
set_option linter.unusedVariables false

end Go.Proofs.Ytiphocemelifcaa.EtR

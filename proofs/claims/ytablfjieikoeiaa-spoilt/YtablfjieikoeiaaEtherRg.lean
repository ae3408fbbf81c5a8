import Derived.Test.YtablfjieikoeiaaEtherRf
namespace Go.Proofs.Ytablfjieikoeiaa.EtR
open Go.ChangeShapes Go.WideShapes Go.ChangeAt Go.RowKit Bs Rd
set_option linter.unusedVariables false

end Go.Proofs.Ytablfjieikoeiaa.EtR

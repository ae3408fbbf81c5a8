import Derived.Test.YtoifihhmneldeaaEtherRf
namespace Go.Proofs.Ytoifihhmneldeaa.EtR
open Go.ChangeShapes Go.WideShapes Go.ChangeAt Go.RowKit Bs Rd
set_option linter.unusedVariables false

end Go.Proofs.Ytoifihhmneldeaa.EtR

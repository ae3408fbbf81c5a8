import Derived.Test.YtoifihhmneldeaaDoorEtherRf
namespace Go.Proofs.YtoifihhmneldeaaDoor.EtR
open Go.ChangeShapes Go.WideShapes Go.ChangeAt Go.RowKit Bs Rd
set_option linter.unusedVariables false

end Go.Proofs.YtoifihhmneldeaaDoor.EtR

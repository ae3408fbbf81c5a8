import Derived.Test.YtbmdbfnakojbgaaDoorEtherRf
namespace Go.Proofs.YtbmdbfnakojbgaaDoor.EtR
open Go.ChangeShapes Go.WideShapes Go.ChangeAt Go.RowKit Bs Rd
set_option linter.unusedVariables false

end Go.Proofs.YtbmdbfnakojbgaaDoor.EtR

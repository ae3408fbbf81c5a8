import Derived.Test.YtbmdbfnakojbgaaDoorReaderCard
import Derived.Test.YtbmdbfnakojbgaaDoorReaderText
import Derived.Test.YtbmdbfnakojbgaaDoorEtherW
namespace Go.Proofs.YtbmdbfnakojbgaaDoor.EtR
open Go.ChangeShapes Go.WideShapes Go.ChangeAt Go.RowKit Bs Rd
set_option linter.unusedVariables false

theorem unot (x : Bool) (w : World) : (Op.unary .not (.bool x)).run Tryd.prog w = .ok (.bool (!x)) w := rfl

end Go.Proofs.YtbmdbfnakojbgaaDoor.EtR

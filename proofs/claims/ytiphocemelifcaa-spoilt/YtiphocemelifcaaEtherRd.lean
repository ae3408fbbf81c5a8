import Derived.Test.YtiphocemelifcaaReaderCard
import Derived.Test.YtiphocemelifcaaReaderText
import Derived.Test.YtiphocemelifcaaEtherW
namespace Go.Proofs.Ytiphocemelifcaa.EtR
open Go.ChangeShapes Go.WideShapes Go.ChangeAt Go.RowKit Bs Rd
set_option linter.unusedVariables false

theorem unot (x : Bool) (w : World) : (Op.unary .not (.bool x)).run Try.prog w = .ok (.bool (!x)) w := rfl

end Go.Proofs.Ytiphocemelifcaa.EtR

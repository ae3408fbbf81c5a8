import Derived.Test.YtoifihhmneldeaaReaderCard
import Derived.Test.YtoifihhmneldeaaReaderText
import Derived.Test.YtoifihhmneldeaaEtherW
namespace Go.Proofs.Ytoifihhmneldeaa.EtR
open Go.ChangeShapes Go.WideShapes Go.ChangeAt Go.RowKit Bs Rd
set_option linter.unusedVariables false

theorem unot (x : Bool) (w : World) : (Op.unary .not (.bool x)).run Try.prog w = .ok (.bool (!x)) w := rfl

end Go.Proofs.Ytoifihhmneldeaa.EtR

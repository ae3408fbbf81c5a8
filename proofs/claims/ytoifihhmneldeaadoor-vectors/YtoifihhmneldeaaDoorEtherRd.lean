import Derived.Test.YtoifihhmneldeaaDoorReaderCard
import Derived.Test.YtoifihhmneldeaaDoorReaderText
import Derived.Test.YtoifihhmneldeaaDoorEtherW
namespace Go.Proofs.YtoifihhmneldeaaDoor.EtR
open Go.ChangeShapes Go.WideShapes Go.ChangeAt Go.RowKit Bs Rd
set_option linter.unusedVariables false

theorem unot (x : Bool) (w : World) : (Op.unary .not (.bool x)).run Tryd.prog w = .ok (.bool (!x)) w := rfl

end Go.Proofs.YtoifihhmneldeaaDoor.EtR

import Derived.Test.YtkbcmkfgkomddaaDoorSeg
import Derived.Test.YtkbcmkfgkomddaaDoorShelf
import Derived.Deep.LoopGhost
namespace Go.Proofs.YtkbcmkfgkomddaaDoor.Cmp
open Go.ChangeShapes Go.WideShapes Go.ChangeAt Go.RowKit
open Go.Proofs.YtkbcmkfgkomddaaDoor.Num Go.Proofs.YtkbcmkfgkomddaaDoor.Kit Go.Proofs.YtkbcmkfgkomddaaDoor.Pts
set_option linter.unusedVariables false
set_option linter.unusedSimpArgs false
end Go.Proofs.YtkbcmkfgkomddaaDoor.Cmp

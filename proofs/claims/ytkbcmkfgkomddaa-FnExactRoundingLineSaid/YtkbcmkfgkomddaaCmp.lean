import Derived.Test.YtkbcmkfgkomddaaSeg
import Derived.Test.YtkbcmkfgkomddaaShelf
import Derived.Deep.LoopGhost
namespace Go.Proofs.Ytkbcmkfgkomddaa.Cmp
open Go.ChangeShapes Go.WideShapes Go.ChangeAt Go.RowKit
open Go.Proofs.Ytkbcmkfgkomddaa.Num Go.Proofs.Ytkbcmkfgkomddaa.Kit Go.Proofs.Ytkbcmkfgkomddaa.Pts
set_option linter.unusedVariables false
set_option linter.unusedSimpArgs false
end Go.Proofs.Ytkbcmkfgkomddaa.Cmp

import Derived.Test.YtkbcmkfgkomddaaGreatMPts
import Derived.Test.YtkbcmkfgkomddaaGreatShelf
import Derived.Deep.LoopGhost
namespace Go.Proofs.YtkbcmkfgkomddaaGreat.Cmp
open Go.ChangeShapes Go.WideShapes Go.ChangeAt Go.RowKit
open Go.Proofs.YtkbcmkfgkomddaaGreat.Num Go.Proofs.YtkbcmkfgkomddaaGreat.Kit Go.Proofs.YtkbcmkfgkomddaaGreat.Pts
set_option linter.unusedVariables false
set_option linter.unusedSimpArgs false
end Go.Proofs.YtkbcmkfgkomddaaGreat.Cmp

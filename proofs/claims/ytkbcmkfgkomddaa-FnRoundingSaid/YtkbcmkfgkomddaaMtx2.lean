import Derived.Test.YtkbcmkfgkomddaaMtx
import Derived.Test.YtkbcmkfgkomddaaSta
namespace Go.Proofs.Ytkbcmkfgkomddaa.Crs
open Go.ChangeShapes Go.WideShapes Go.ChangeAt Go.RowKit
open Go.Proofs.Ytkbcmkfgkomddaa.Num Go.Proofs.Ytkbcmkfgkomddaa.Kit Go.Proofs.Ytkbcmkfgkomddaa.Pts Go.Proofs.Ytkbcmkfgkomddaa.Seg
set_option linter.unusedVariables false
set_option linter.unusedSimpArgs false
end Go.Proofs.Ytkbcmkfgkomddaa.Crs

import Derived.Test.YtkbcmkfgkomddaaGreatMMom
import Derived.Test.YtkbcmkfgkomddaaGreatMPts
namespace Go.Proofs.YtkbcmkfgkomddaaGreat.Trk
open Go.ChangeShapes Go.WideShapes Go.ChangeAt Go.RowKit
open Go.Proofs.YtkbcmkfgkomddaaGreat.Num Go.Proofs.YtkbcmkfgkomddaaGreat.Kit Go.Proofs.YtkbcmkfgkomddaaGreat.Pts Go.Proofs.YtkbcmkfgkomddaaGreat.Seg
set_option linter.unusedVariables false
set_option linter.unusedSimpArgs false
end Go.Proofs.YtkbcmkfgkomddaaGreat.Trk

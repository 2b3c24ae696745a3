/- Crossings of the laws: contract of toCrossing. -/
import Derived.Test.YtaliopnhdcdajaaMom2
import Derived.Test.YtaliopnhdcdajaaSeg
namespace Go.Proofs.Ytaliopnhdcdajaa.Trk
open Go.ChangeShapes Go.WideShapes Go.ChangeAt Go.RowKit
open Go.Proofs.Ytaliopnhdcdajaa.Num Go.Proofs.Ytaliopnhdcdajaa.Kit Go.Proofs.Ytaliopnhdcdajaa.Pts Go.Proofs.Ytaliopnhdcdajaa.Seg
set_option linter.unusedVariables false
set_option linter.unusedSimpArgs false

end Go.Proofs.Ytaliopnhdcdajaa.Trk

import Derived.Test.YtmlojndkpnhalaaGreatMPts
import Derived.Test.YtmlojndkpnhalaaGreatShelf
import Derived.Deep.LoopGhost
namespace Go.Proofs.YtmlojndkpnhalaaGreat.Cmp
open Go.ChangeShapes Go.WideShapes Go.ChangeAt Go.RowKit
open Go.Proofs.YtmlojndkpnhalaaGreat.Num Go.Proofs.YtmlojndkpnhalaaGreat.Kit Go.Proofs.YtmlojndkpnhalaaGreat.Pts
set_option linter.unusedVariables false
set_option linter.unusedSimpArgs false
end Go.Proofs.YtmlojndkpnhalaaGreat.Cmp

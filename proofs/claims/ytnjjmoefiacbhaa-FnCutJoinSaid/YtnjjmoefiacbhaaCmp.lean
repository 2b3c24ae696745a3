import Derived.Test.YtnjjmoefiacbhaaSeg
import Derived.Test.YtnjjmoefiacbhaaShelf
import Derived.Deep.LoopGhost
namespace Go.Proofs.Ytnjjmoefiacbhaa.Cmp
open Go.ChangeShapes Go.WideShapes Go.ChangeAt Go.RowKit
open Go.Proofs.Ytnjjmoefiacbhaa.Num Go.Proofs.Ytnjjmoefiacbhaa.Kit Go.Proofs.Ytnjjmoefiacbhaa.Pts
set_option linter.unusedVariables false
set_option linter.unusedSimpArgs false
def cmpZ (x y : Int) : Int := if x < y then -1 else if y < x then 1 else 0
end Go.Proofs.Ytnjjmoefiacbhaa.Cmp

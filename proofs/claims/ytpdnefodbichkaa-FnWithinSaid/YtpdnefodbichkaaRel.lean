import Derived.Test.YtpdnefodbichkaaSeg
import Derived.Test.YtpdnefodbichkaaOrd
namespace Go.Proofs.Ytpdnefodbichkaa.Seg
open Go.ChangeShapes Go.WideShapes Go.ChangeAt Go.RowKit
open Go.Proofs.Ytpdnefodbichkaa.Num Go.Proofs.Ytpdnefodbichkaa.Kit Go.Proofs.Ytpdnefodbichkaa.Pts
set_option linter.unusedVariables false
set_option linter.unusedSimpArgs false
def sepB (a b c d p q u v : Int) : Bool := decide (sgn (crs a b c d p q) * sgn (crs a b c d u v) < 0)
end Go.Proofs.Ytpdnefodbichkaa.Seg

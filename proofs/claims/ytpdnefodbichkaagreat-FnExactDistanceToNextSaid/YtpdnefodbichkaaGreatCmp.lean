import Derived.Test.YtpdnefodbichkaaGreatMPts
import Derived.Test.YtpdnefodbichkaaGreatShelf
import Derived.Deep.LoopGhost
namespace Go.Proofs.YtpdnefodbichkaaGreat.Cmp
open Go.ChangeShapes Go.WideShapes Go.ChangeAt Go.RowKit
open Go.Proofs.YtpdnefodbichkaaGreat.Num Go.Proofs.YtpdnefodbichkaaGreat.Kit Go.Proofs.YtpdnefodbichkaaGreat.Pts
set_option linter.unusedVariables false
set_option linter.unusedSimpArgs false
end Go.Proofs.YtpdnefodbichkaaGreat.Cmp

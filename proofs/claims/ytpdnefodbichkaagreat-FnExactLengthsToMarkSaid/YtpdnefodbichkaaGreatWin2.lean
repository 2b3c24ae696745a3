import Derived.Test.YtpdnefodbichkaaGreatWin
import Derived.Test.YtpdnefodbichkaaGreatRel2
import Derived.Test.YtpdnefodbichkaaGreatIpd
namespace Go.Proofs.YtpdnefodbichkaaGreat.Win
open Go.ChangeShapes Go.WideShapes Go.ChangeAt Go.RowKit
open Go.Proofs.YtpdnefodbichkaaGreat.Num Go.Proofs.YtpdnefodbichkaaGreat.Kit Go.Proofs.YtpdnefodbichkaaGreat.Pts Go.Proofs.YtpdnefodbichkaaGreat.Seg Go.Proofs.YtpdnefodbichkaaGreat.Gcd Go.Proofs.YtpdnefodbichkaaGreat.Cmp Go.Proofs.YtpdnefodbichkaaGreat.Rt Go.Proofs.YtpdnefodbichkaaGreat.Wid
set_option linter.unusedVariables false
set_option linter.unusedSimpArgs false
end Go.Proofs.YtpdnefodbichkaaGreat.Win

import Derived.Test.YtpdnefodbichkaaGreatMMom
import Derived.Test.YtpdnefodbichkaaGreatMPts
namespace Go.Proofs.YtpdnefodbichkaaGreat.Trk
open Go.ChangeShapes Go.WideShapes Go.ChangeAt Go.RowKit
open Go.Proofs.YtpdnefodbichkaaGreat.Num Go.Proofs.YtpdnefodbichkaaGreat.Kit Go.Proofs.YtpdnefodbichkaaGreat.Pts Go.Proofs.YtpdnefodbichkaaGreat.Seg
set_option linter.unusedVariables false
set_option linter.unusedSimpArgs false
end Go.Proofs.YtpdnefodbichkaaGreat.Trk

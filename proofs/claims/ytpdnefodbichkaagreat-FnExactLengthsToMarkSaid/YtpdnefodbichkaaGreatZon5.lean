import Derived.Test.YtpdnefodbichkaaGreatMZon2
import Derived.Test.YtpdnefodbichkaaGreatZon4
namespace Go.Proofs.YtpdnefodbichkaaGreat.Crs
open Go.ChangeShapes Go.WideShapes Go.ChangeAt Go.RowKit Go.PlainAid
open Go.Proofs.YtpdnefodbichkaaGreat.Num Go.Proofs.YtpdnefodbichkaaGreat.Kit Go.Proofs.YtpdnefodbichkaaGreat.Pts Go.Proofs.YtpdnefodbichkaaGreat.Seg Go.Proofs.YtpdnefodbichkaaGreat.Div Go.Proofs.YtpdnefodbichkaaGreat.Root Go.Proofs.YtpdnefodbichkaaGreat.Rt Go.Proofs.YtpdnefodbichkaaGreat.Gcd
open Go.Proofs.YtpdnefodbichkaaGreat.Trk (F3 Fxs Tr trB fx lastB legOf pkX pkY)

set_option linter.unusedVariables false
set_option linter.unusedSimpArgs false
end Go.Proofs.YtpdnefodbichkaaGreat.Crs

import Derived.Test.YtpdnefodbichkaaGreatMRel
namespace Go.Proofs.YtpdnefodbichkaaGreat.Gcd
open Go.ChangeShapes Go.WideShapes Go.ChangeAt Go.RowKit
open Go.Proofs.YtpdnefodbichkaaGreat.Num Go.Proofs.YtpdnefodbichkaaGreat.Kit Go.Proofs.YtpdnefodbichkaaGreat.Pts Go.Proofs.YtpdnefodbichkaaGreat.Seg
set_option linter.unusedVariables false
set_option linter.unusedSimpArgs false
def cl (n m : Int) : Int := if n < 0 then 0 else if m < n then m else n
end Go.Proofs.YtpdnefodbichkaaGreat.Gcd

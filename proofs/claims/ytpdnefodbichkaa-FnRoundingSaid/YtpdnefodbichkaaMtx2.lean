import Derived.Test.YtpdnefodbichkaaMtx
import Derived.Test.YtpdnefodbichkaaSta
namespace Go.Proofs.Ytpdnefodbichkaa.Crs
open Go.ChangeShapes Go.WideShapes Go.ChangeAt Go.RowKit
open Go.Proofs.Ytpdnefodbichkaa.Num Go.Proofs.Ytpdnefodbichkaa.Kit Go.Proofs.Ytpdnefodbichkaa.Pts Go.Proofs.Ytpdnefodbichkaa.Seg
set_option linter.unusedVariables false
set_option linter.unusedSimpArgs false
end Go.Proofs.Ytpdnefodbichkaa.Crs

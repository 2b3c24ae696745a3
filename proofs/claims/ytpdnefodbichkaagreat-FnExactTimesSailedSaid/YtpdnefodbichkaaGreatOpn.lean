import Derived.Lib.SmallJoins
import Derived.OpenShut
namespace Go.Proofs.YtpdnefodbichkaaGreat.Opn
open Go.ChangeShapes Go.WideShapes Go.ChangeAt Go.RowKit Go.Deep
end Go.Proofs.YtpdnefodbichkaaGreat.Opn

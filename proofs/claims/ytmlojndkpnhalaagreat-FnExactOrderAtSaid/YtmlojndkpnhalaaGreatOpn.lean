import Derived.Lib.SmallJoins
import Derived.OpenShut
namespace Go.Proofs.YtmlojndkpnhalaaGreat.Opn
open Go.ChangeShapes Go.WideShapes Go.ChangeAt Go.RowKit Go.Deep
end Go.Proofs.YtmlojndkpnhalaaGreat.Opn

import Derived.Lib.SmallJoins
import Derived.OpenShut
namespace Go.Proofs.YtkbcmkfgkomddaaGreat.Opn
open Go.ChangeShapes Go.WideShapes Go.ChangeAt Go.RowKit Go.Deep
end Go.Proofs.YtkbcmkfgkomddaaGreat.Opn

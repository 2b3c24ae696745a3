import Derived.Test.YtkbcmkfgkomddaaGreatMPts
import Derived.Lib.SmallJoins
import Derived.OpenShut
import Derived.Deep.Slices
import Derived.Deep.Fields
import Derived.ChangeSame
namespace Go.Proofs.YtkbcmkfgkomddaaGreat.Trk
open Go.ChangeShapes Go.WideShapes Go.ChangeAt Go.RowKit Go.Deep
open Go.Proofs.YtkbcmkfgkomddaaGreat.Kit
end Go.Proofs.YtkbcmkfgkomddaaGreat.Trk

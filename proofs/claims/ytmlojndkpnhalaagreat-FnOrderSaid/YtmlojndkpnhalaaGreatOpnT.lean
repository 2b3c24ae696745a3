import Derived.Test.YtmlojndkpnhalaaGreatMPts
import Derived.Lib.SmallJoins
import Derived.OpenShut
import Derived.Deep.Slices
import Derived.Deep.Fields
import Derived.ChangeSame
namespace Go.Proofs.YtmlojndkpnhalaaGreat.Trk
open Go.ChangeShapes Go.WideShapes Go.ChangeAt Go.RowKit Go.Deep
open Go.Proofs.YtmlojndkpnhalaaGreat.Kit
end Go.Proofs.YtmlojndkpnhalaaGreat.Trk

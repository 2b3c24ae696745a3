import Derived.Lib.SmallJoins
import Derived.OpenShut
namespace Go.Proofs.YtcangdcakgcpaaaGreat.Opn
open Go.ChangeShapes Go.WideShapes Go.ChangeAt Go.RowKit Go.Deep
end Go.Proofs.YtcangdcakgcpaaaGreat.Opn

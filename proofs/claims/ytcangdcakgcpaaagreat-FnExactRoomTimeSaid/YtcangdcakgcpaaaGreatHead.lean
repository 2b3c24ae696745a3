import Derived.Test.YtcangdcakgcpaaaGreatSpd
import Derived.Deep.DeepCutAuto
namespace Go.Proofs.YtcangdcakgcpaaaGreat.Trk
open Go.ChangeShapes Go.WideShapes Go.ChangeAt Go.RowKit
open Go.Proofs.YtcangdcakgcpaaaGreat.Num Go.Proofs.YtcangdcakgcpaaaGreat.Kit Go.Proofs.YtcangdcakgcpaaaGreat.Pts Go.Proofs.YtcangdcakgcpaaaGreat.Seg
set_option linter.unusedVariables false
set_option linter.unusedSimpArgs false
end Go.Proofs.YtcangdcakgcpaaaGreat.Trk

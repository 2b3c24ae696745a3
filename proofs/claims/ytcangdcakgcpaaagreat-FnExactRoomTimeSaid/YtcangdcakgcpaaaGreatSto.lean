import Derived.Test.YtcangdcakgcpaaaGreatMSta
import Derived.Test.YtcangdcakgcpaaaGreatMCrs2
namespace Go.Proofs.YtcangdcakgcpaaaGreat.Crs
open Go.ChangeShapes Go.WideShapes Go.ChangeAt Go.RowKit Go.PlainAid
open Go.Proofs.YtcangdcakgcpaaaGreat.Num Go.Proofs.YtcangdcakgcpaaaGreat.Kit Go.Proofs.YtcangdcakgcpaaaGreat.Pts Go.Proofs.YtcangdcakgcpaaaGreat.Seg Go.Proofs.YtcangdcakgcpaaaGreat.Div
set_option linter.unusedVariables false
set_option linter.unusedSimpArgs false
end Go.Proofs.YtcangdcakgcpaaaGreat.Crs

import Derived.Test.YtcangdcakgcpaaaGreatMPts
namespace Go.Proofs.YtcangdcakgcpaaaGreat.Pts
open Go.ChangeShapes Go.WideShapes Go.ChangeAt Go.RowKit
open Go.Proofs.YtcangdcakgcpaaaGreat.Num Go.Proofs.YtcangdcakgcpaaaGreat.Kit
set_option linter.unusedVariables false
end Go.Proofs.YtcangdcakgcpaaaGreat.Pts

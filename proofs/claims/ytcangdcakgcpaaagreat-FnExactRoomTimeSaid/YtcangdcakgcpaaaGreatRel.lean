import Derived.Test.YtcangdcakgcpaaaGreatMPts
import Derived.Test.YtcangdcakgcpaaaGreatOrd
namespace Go.Proofs.YtcangdcakgcpaaaGreat.Seg
open Go.ChangeShapes Go.WideShapes Go.ChangeAt Go.RowKit
open Go.Proofs.YtcangdcakgcpaaaGreat.Num Go.Proofs.YtcangdcakgcpaaaGreat.Kit Go.Proofs.YtcangdcakgcpaaaGreat.Pts
set_option linter.unusedVariables false
set_option linter.unusedSimpArgs false
def sepB (a b c d p q u v : Int) : Bool := decide (sgn (crs a b c d p q) * sgn (crs a b c d u v) < 0)
end Go.Proofs.YtcangdcakgcpaaaGreat.Seg

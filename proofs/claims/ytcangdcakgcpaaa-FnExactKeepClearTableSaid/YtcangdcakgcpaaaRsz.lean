/- A vector with another length (impl): both coordinates rounded down. -/
import Derived.Test.YtcangdcakgcpaaaLth
import Derived.Test.YtcangdcakgcpaaaCel
import Derived.Test.YtcangdcakgcpaaaOrd
import Derived.Deep.DeepCutAuto
namespace Go.Proofs.Ytcangdcakgcpaaa.Rsz
open Go.ChangeShapes Go.WideShapes Go.ChangeAt Go.RowKit
open Go.Proofs.Ytcangdcakgcpaaa.Num Go.Proofs.Ytcangdcakgcpaaa.Kit Go.Proofs.Ytcangdcakgcpaaa.Pts Go.Proofs.Ytcangdcakgcpaaa.Rt Go.Proofs.Ytcangdcakgcpaaa.Root
open Go.Proofs.Ytcangdcakgcpaaa.Lth (ln2 ln2_pos sqs_bd)
set_option linter.unusedVariables false
set_option linter.unusedSimpArgs false

end Go.Proofs.Ytcangdcakgcpaaa.Rsz

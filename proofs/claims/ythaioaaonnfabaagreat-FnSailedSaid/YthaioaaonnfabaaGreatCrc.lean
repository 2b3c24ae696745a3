import Derived.Test.YthaioaaonnfabaaGreatMMom
import Derived.Test.YthaioaaonnfabaaGreatMPts
namespace Go.Proofs.YthaioaaonnfabaaGreat.Trk
open Go.ChangeShapes Go.WideShapes Go.ChangeAt Go.RowKit
open Go.Proofs.YthaioaaonnfabaaGreat.Num Go.Proofs.YthaioaaonnfabaaGreat.Kit Go.Proofs.YthaioaaonnfabaaGreat.Pts Go.Proofs.YthaioaaonnfabaaGreat.Seg
set_option linter.unusedVariables false
set_option linter.unusedSimpArgs false
end Go.Proofs.YthaioaaonnfabaaGreat.Trk

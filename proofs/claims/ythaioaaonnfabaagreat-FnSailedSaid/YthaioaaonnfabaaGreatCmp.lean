import Derived.Test.YthaioaaonnfabaaGreatMPts
import Derived.Test.YthaioaaonnfabaaGreatShelf
import Derived.Deep.LoopGhost
namespace Go.Proofs.YthaioaaonnfabaaGreat.Cmp
open Go.ChangeShapes Go.WideShapes Go.ChangeAt Go.RowKit
open Go.Proofs.YthaioaaonnfabaaGreat.Num Go.Proofs.YthaioaaonnfabaaGreat.Kit Go.Proofs.YthaioaaonnfabaaGreat.Pts
set_option linter.unusedVariables false
set_option linter.unusedSimpArgs false
end Go.Proofs.YthaioaaonnfabaaGreat.Cmp

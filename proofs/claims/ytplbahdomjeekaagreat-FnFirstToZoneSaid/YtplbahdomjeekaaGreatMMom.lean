import Derived.Test.YtplbahdomjeekaaGreatSpd
import Derived.Test.YtplbahdomjeekaaGreatMPart0
import Derived.Test.YtplbahdomjeekaaGreatMRat
import Derived.Test.YtplbahdomjeekaaGreatMKit
import Derived.Deep.LoopGhost
import Derived.Test.YtplbahdomjeekaaGreatMPts
namespace Go.Proofs.YtplbahdomjeekaaGreat.Trk
open Go.ChangeShapes Go.WideShapes Go.ChangeAt Go.RowKit
open Go.Proofs.YtplbahdomjeekaaGreat.Num Go.Proofs.YtplbahdomjeekaaGreat.Kit Go.Proofs.YtplbahdomjeekaaGreat.Pts Go.Proofs.YtplbahdomjeekaaGreat.Seg Go.Proofs.YtplbahdomjeekaaGreat.Div Go.Proofs.YtplbahdomjeekaaGreat.Cmp
set_option linter.unusedVariables false
set_option linter.unusedSimpArgs false
end Go.Proofs.YtplbahdomjeekaaGreat.Trk
namespace Go.Proofs.YtplbahdomjeekaaGreat.Trk
open Go.ChangeShapes Go.WideShapes Go.ChangeAt Go.RowKit
open Go.Proofs.YtplbahdomjeekaaGreat.Num Go.Proofs.YtplbahdomjeekaaGreat.Kit Go.Proofs.YtplbahdomjeekaaGreat.Pts Go.Proofs.YtplbahdomjeekaaGreat.Seg Go.Proofs.YtplbahdomjeekaaGreat.Div Go.Proofs.YtplbahdomjeekaaGreat.Cmp
set_option linter.unusedVariables false
set_option linter.unusedSimpArgs false
end Go.Proofs.YtplbahdomjeekaaGreat.Trk
namespace Go.Proofs.YtplbahdomjeekaaGreat.Trk
open Go.ChangeShapes Go.WideShapes Go.ChangeAt Go.RowKit
open Go.Proofs.YtplbahdomjeekaaGreat.Num Go.Proofs.YtplbahdomjeekaaGreat.Kit Go.Proofs.YtplbahdomjeekaaGreat.Pts Go.Proofs.YtplbahdomjeekaaGreat.Seg
set_option linter.unusedVariables false
set_option linter.unusedSimpArgs false
end Go.Proofs.YtplbahdomjeekaaGreat.Trk

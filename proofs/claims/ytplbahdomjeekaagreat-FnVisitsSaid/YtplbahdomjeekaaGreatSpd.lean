import Derived.Test.YtplbahdomjeekaaGreatMTrk
import Derived.Test.YtplbahdomjeekaaGreatRoot
namespace Go.Proofs.YtplbahdomjeekaaGreat.Trk
open Go.ChangeShapes Go.WideShapes Go.ChangeAt Go.RowKit
open Go.Proofs.YtplbahdomjeekaaGreat.Num Go.Proofs.YtplbahdomjeekaaGreat.Kit Go.Proofs.YtplbahdomjeekaaGreat.Pts Go.Proofs.YtplbahdomjeekaaGreat.Seg Go.Proofs.YtplbahdomjeekaaGreat.Rt Go.Proofs.YtplbahdomjeekaaGreat.Root
set_option linter.unusedVariables false
set_option linter.unusedSimpArgs false
end Go.Proofs.YtplbahdomjeekaaGreat.Trk

import Derived.Test.YtplbahdomjeekaaGreatWin
import Derived.Test.YtplbahdomjeekaaGreatRel2
namespace Go.Proofs.YtplbahdomjeekaaGreat.Win
open Go.ChangeShapes Go.WideShapes Go.ChangeAt Go.RowKit
open Go.Proofs.YtplbahdomjeekaaGreat.Num Go.Proofs.YtplbahdomjeekaaGreat.Kit Go.Proofs.YtplbahdomjeekaaGreat.Pts Go.Proofs.YtplbahdomjeekaaGreat.Seg Go.Proofs.YtplbahdomjeekaaGreat.Gcd Go.Proofs.YtplbahdomjeekaaGreat.Cmp Go.Proofs.YtplbahdomjeekaaGreat.Rt Go.Proofs.YtplbahdomjeekaaGreat.Wid
set_option linter.unusedVariables false
set_option linter.unusedSimpArgs false
end Go.Proofs.YtplbahdomjeekaaGreat.Win

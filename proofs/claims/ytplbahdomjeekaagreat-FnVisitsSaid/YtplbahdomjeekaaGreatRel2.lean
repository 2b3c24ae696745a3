import Derived.Test.YtplbahdomjeekaaGreatMRel
import Derived.Laws.EntriesVeiled
import Derived.Deep.LoopGhost
namespace Go.Proofs.YtplbahdomjeekaaGreat.Seg
open Go.ChangeShapes Go.WideShapes Go.ChangeAt Go.RowKit
open Go.Proofs.YtplbahdomjeekaaGreat.Num Go.Proofs.YtplbahdomjeekaaGreat.Kit Go.Proofs.YtplbahdomjeekaaGreat.Pts
set_option linter.unusedVariables false
set_option linter.unusedSimpArgs false
def crB (a b c d p q u v : Int) : Bool := sepB a b c d p q u v && sepB p q u v a b c d
end Go.Proofs.YtplbahdomjeekaaGreat.Seg

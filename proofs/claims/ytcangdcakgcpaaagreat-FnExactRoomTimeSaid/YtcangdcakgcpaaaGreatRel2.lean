import Derived.Test.YtcangdcakgcpaaaGreatRel
import Derived.Laws.EntriesVeiled
import Derived.Deep.LoopGhost
namespace Go.Proofs.YtcangdcakgcpaaaGreat.Seg
open Go.ChangeShapes Go.WideShapes Go.ChangeAt Go.RowKit
open Go.Proofs.YtcangdcakgcpaaaGreat.Num Go.Proofs.YtcangdcakgcpaaaGreat.Kit Go.Proofs.YtcangdcakgcpaaaGreat.Pts
set_option linter.unusedVariables false
set_option linter.unusedSimpArgs false
def crB (a b c d p q u v : Int) : Bool := sepB a b c d p q u v && sepB p q u v a b c d
end Go.Proofs.YtcangdcakgcpaaaGreat.Seg

import Derived.Test.YtnjjmoefiacbhaaPts
import Derived.Test.YtnjjmoefiacbhaaRt
import Derived.Deep.LoopGhost
namespace Go.Proofs.Ytnjjmoefiacbhaa.Root
open Go.ChangeShapes Go.WideShapes Go.ChangeAt Go.RowKit
open Go.Proofs.Ytnjjmoefiacbhaa.Num Go.Proofs.Ytnjjmoefiacbhaa.Rt
set_option linter.unusedVariables false
def RelS (n : Int) (s t : Value) : Prop := ∃ lo hi : Int, 0 ≤ lo ∧ lo < hi ∧ hi ≤ 1000000001 ∧ lo * lo ≤ n ∧ n < hi * hi ∧ s = .int .i64 lo ∧ t = .int .i64 hi
end Go.Proofs.Ytnjjmoefiacbhaa.Root

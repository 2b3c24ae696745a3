import Derived.Test.YtkbcmkfgkomddaaDoorPts
import Derived.Test.YtkbcmkfgkomddaaDoorRt
import Derived.Deep.LoopGhost
namespace Go.Proofs.YtkbcmkfgkomddaaDoor.Root
open Go.ChangeShapes Go.WideShapes Go.ChangeAt Go.RowKit
open Go.Proofs.YtkbcmkfgkomddaaDoor.Num Go.Proofs.YtkbcmkfgkomddaaDoor.Rt
set_option linter.unusedVariables false
def RelI (n : Int) (s t : Value) : Prop := ∃ lo hi : Int, 0 ≤ lo ∧ lo ≤ hi ∧ hi ≤ 1000000000 ∧ lo * lo ≤ n ∧ n < (hi + 1) * (hi + 1) ∧ s = .int .i64 lo ∧ t = .int .i64 hi
end Go.Proofs.YtkbcmkfgkomddaaDoor.Root

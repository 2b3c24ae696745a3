/- Contracts of CompareRatios (impl, spec), for all ratios. -/
import Derived.Test.YteljjmellbgnlaaRat
namespace Go.Proofs.Yteljjmellbgnlaa.Cmp
open Go.ChangeShapes Go.WideShapes Go.ChangeAt Go.RowKit
open Go.Proofs.Yteljjmellbgnlaa.Num Go.Proofs.Yteljjmellbgnlaa.Kit Go.Proofs.Yteljjmellbgnlaa.Pts
set_option linter.unusedVariables false
set_option linter.unusedSimpArgs false

/-- What both CompareRatios answer. -/
def crQ (x y u v : Int) : Int := if raB x y (-1) = true ∧ raB u v (-1) = true then cmpZ (x * v) (u * y) else 0
def crC (x y u v : Int) : Int := if raB x y (-1) = true ∧ raB u v (-1) = true then 0 else 2
theorem cr_shift (x y u v : Int) : cmpZ ((x + y) * v) ((u + v) * y) = cmpZ (x * v) (u * y) := cmpZ_shift (by grind)

end Go.Proofs.Yteljjmellbgnlaa.Cmp

/- Contracts of NearestPlace (impl, spec), for all arguments. -/
import Derived.Test.YteljjmellbgnlaaMPlace
namespace Go.Proofs.Yteljjmellbgnlaa.Gcd
open Go.ChangeShapes Go.WideShapes Go.ChangeAt Go.RowKit
open Go.Proofs.Yteljjmellbgnlaa.Num Go.Proofs.Yteljjmellbgnlaa.Kit Go.Proofs.Yteljjmellbgnlaa.Pts Go.Proofs.Yteljjmellbgnlaa.Seg
set_option linter.unusedVariables false
set_option linter.unusedSimpArgs false

def npN (a b c d p q : Int) : Int := if sgB a b c d = true ∧ ptB p q = true then neN a b c d p q else 0
def npD (a b c d p q : Int) : Int := if sgB a b c d = true ∧ ptB p q = true then neD a b c d p q else 0
def npC (a b c d p q : Int) : Int := if sgB a b c d = true ∧ ptB p q = true then 0 else 1

end Go.Proofs.Yteljjmellbgnlaa.Gcd

/- The contract of the reference model's WithinDistance, of valid arguments. -/
import Derived.Test.YteljjmellbgnlaaWin
import Derived.Test.YteljjmellbgnlaaRel2
namespace Go.Proofs.Yteljjmellbgnlaa.Win
open Go.ChangeShapes Go.WideShapes Go.ChangeAt Go.RowKit
open Go.Proofs.Yteljjmellbgnlaa.Num Go.Proofs.Yteljjmellbgnlaa.Kit Go.Proofs.Yteljjmellbgnlaa.Pts Go.Proofs.Yteljjmellbgnlaa.Seg Go.Proofs.Yteljjmellbgnlaa.Gcd Go.Proofs.Yteljjmellbgnlaa.Cmp Go.Proofs.Yteljjmellbgnlaa.Rt Go.Proofs.Yteljjmellbgnlaa.Wid
set_option linter.unusedVariables false
set_option linter.unusedSimpArgs false

theorem Ext.of_eq {w w' : World} (h : w = w') : Ext w w' := by subst h; exact Ext.refl _

/-- What both WithinDistances answer. -/
def wdB (a b c d p q r : Int) : Bool := if (sgB a b c d = true ∧ ptB p q = true) ∧ 0 ≤ r ∧ r ≤ 10000 then wiB a b c d p q r else false
def wdC (a b c d p q r : Int) : Int := if sgB a b c d = true ∧ ptB p q = true then (if 0 ≤ r ∧ r ≤ 10000 then 0 else 2) else 1

end Go.Proofs.Yteljjmellbgnlaa.Win

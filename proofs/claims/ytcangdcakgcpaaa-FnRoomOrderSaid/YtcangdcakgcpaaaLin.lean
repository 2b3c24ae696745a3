/- Lines of chapter 4: contracts of IsLine and BeforeLine (impl, spec), and of the laws' conversion. -/
import Derived.Test.YtcangdcakgcpaaaSeg
namespace Go.Proofs.Ytcangdcakgcpaaa.Crs
open Go.ChangeShapes Go.WideShapes Go.ChangeAt Go.RowKit
open Go.Proofs.Ytcangdcakgcpaaa.Num Go.Proofs.Ytcangdcakgcpaaa.Kit Go.Proofs.Ytcangdcakgcpaaa.Pts Go.Proofs.Ytcangdcakgcpaaa.Seg
set_option linter.unusedVariables false

/-! ### laws -/
/-- On which side of a line a point is, and the code. -/
def blQ (a b c d p q : Int) : Int := if sgB a b c d = true ∧ ptB p q = true then trn a b c d p q else 0
def blC (a b c d p q : Int) : Int := if sgB a b c d = true ∧ ptB p q = true then 0 else 1

end Go.Proofs.Ytcangdcakgcpaaa.Crs

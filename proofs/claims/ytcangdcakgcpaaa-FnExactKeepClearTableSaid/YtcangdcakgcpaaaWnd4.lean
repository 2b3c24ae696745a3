/- WindwardGain of both. -/
import Derived.Test.YtcangdcakgcpaaaWnd2
namespace Go.Proofs.Ytcangdcakgcpaaa.Wnd
open Go.ChangeShapes Go.WideShapes Go.ChangeAt Go.RowKit
open Go.Proofs.Ytcangdcakgcpaaa.Num Go.Proofs.Ytcangdcakgcpaaa.Kit Go.Proofs.Ytcangdcakgcpaaa.Pts Go.Proofs.Ytcangdcakgcpaaa.Seg Go.Proofs.Ytcangdcakgcpaaa.Gcd Go.Proofs.Ytcangdcakgcpaaa.Rt Go.Proofs.Ytcangdcakgcpaaa.Root
open Go.Proofs.Ytcangdcakgcpaaa.Lth (ln2 ln2_pos sqs_bd)
set_option linter.unusedVariables false
set_option linter.unusedSimpArgs false

/-- The answers of WindwardGain. -/
def wgN (x y p q u v : Int) : Int := flo (-((u - p) * x + (v - q) * y)) (ln2 x y)
def wgB (x y p q u v : Int) : Bool := wdB x y && (ptB p q && ptB u v)
def wgV (x y p q u v : Int) : Int := if wgB x y p q u v = true then wgN x y p q u v else 0
def wgC (x y p q u v : Int) : Int := if wgB x y p q u v = true then 0 else 1
theorem fdQ_in {a b : Int} (h1 : 1 ≤ b) (h2 : b ≤ 1000000000000000000) (h3 : -1000000000000000000 ≤ a) (h4 : a ≤ 1000000000000000000) : fdQ a b = flo a b ∧ fdC a b = 0 := ⟨if_pos ⟨h1, h2, h3, h4⟩, if_pos ⟨h1, h2, h3, h4⟩⟩

end Go.Proofs.Ytcangdcakgcpaaa.Wnd

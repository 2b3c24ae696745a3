/- What SternOf, ClearAstern, OverlapOf, GapBehind and WindwardOf answer (chapter 9), both. -/
import Derived.Test.YtcangdcakgcpaaaHul4
import Derived.Test.YtcangdcakgcpaaaWnd4
import Derived.Test.YtcangdcakgcpaaaRel2
namespace Go.Proofs.Ytcangdcakgcpaaa.Hul
open Go.ChangeShapes Go.WideShapes Go.ChangeAt Go.RowKit
open Go.Proofs.Ytcangdcakgcpaaa.Num Go.Proofs.Ytcangdcakgcpaaa.Kit Go.Proofs.Ytcangdcakgcpaaa.Pts Go.Proofs.Ytcangdcakgcpaaa.Seg Go.Proofs.Ytcangdcakgcpaaa.Wnd
open Go.Proofs.Ytcangdcakgcpaaa.Lth (ln2 ln2_pos sqs_bd)
set_option linter.unusedVariables false
set_option linter.unusedSimpArgs false

def soC (a b c d n : Int) : Int := if hlB a b c d n = true then 0 else 1
def soX (a b c d n : Int) : Int := if hlB a b c d n = true then stX a c d n else 0
def soY (a b c d n : Int) : Int := if hlB a b c d n = true then stY b c d n else 0
/-- Are both hulls valid? -/
def h2B (a b c d n p q u v m : Int) : Bool := hlB a b c d n && hlB p q u v m
def h2C (a b c d n p q u v m : Int) : Int := if h2B a b c d n p q u v m = true then 0 else 1
def caV (a b c d n p q u v m : Int) : Bool := if h2B a b c d n p q u v m = true then caB a b c d n p q else false
def ovV (a b c d n p q u v m : Int) : Int := if h2B a b c d n p q u v m = true then ovN (caB a b c d n p q) (caB p q u v m a b) else 0
def gpN (a b c d n p q : Int) : Int := flo (-alH a b c d p q) (ln2 c d) - n
def gpV (a b c d n p q u v m : Int) : Int := if h2B a b c d n p q u v m = true then gpN a b c d n p q else 0
def wwN (s t : Int) : Int := if s < t then 1 else if t < s then 2 else 0
def wwB (x y a b c d n p q u v m : Int) : Bool := wdB x y && h2B a b c d n p q u v m
def wwC (x y a b c d n p q u v m : Int) : Int := if wwB x y a b c d n p q u v m = true then 0 else 1
def wwV (x y a b c d n p q u v m : Int) : Int := if wwB x y a b c d n p q u v m = true then wwN (a * x + b * y) (p * x + q * y) else 0
theorem h2_no1 {a b c d n p q u v m : Int} (h : hlB a b c d n = false) : h2B a b c d n p q u v m = false := by unfold h2B; rw [h]; rfl
theorem h2_no2 {a b c d n p q u v m : Int} (h : hlB p q u v m = false) : h2B a b c d n p q u v m = false := by unfold h2B; rw [h, Bool.and_false]
theorem h2_yes {a b c d n p q u v m : Int} (h : hlB a b c d n = true) (g : hlB p q u v m = true) : h2B a b c d n p q u v m = true := by unfold h2B; rw [h, g]; rfl
theorem if_no {α : Type} {c : Bool} {x y : α} (h : c = false) : (if c = true then x else y) = y := by rw [h]; rfl
theorem if_yes {α : Type} {c : Bool} {x y : α} (h : c = true) : (if c = true then x else y) = x := by rw [h]; rfl

end Go.Proofs.Ytcangdcakgcpaaa.Hul

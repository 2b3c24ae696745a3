/- The contract of laws.big: is a code longer than 4096 bytes? -/
import Derived.Test.YtcangdcakgcpaaaNum
import Derived.Test.YtcangdcakgcpaaaKit
namespace Go.Proofs.Ytcangdcakgcpaaa.Draw
open Go.ChangeShapes Go.WideShapes Go.ChangeAt Go.RowKit
open Go.Proofs.Ytcangdcakgcpaaa.Kit Go.Proofs.Ytcangdcakgcpaaa.Num
set_option linter.unusedVariables false

def bigB (len : Nat) : Bool := decide (4096 < len)

theorem big_any (a : Option Addr) (len cap : Nat) (w : World) : Calls Try.prog 12 #[.slice a len cap] w fun e w' => e = .returned (.bool (bigB len)) ∧ w = w' := by
  have H := Lib.hid (show bigB len = decide (4096 < (len : Int)) by unfold bigB; rw [decide_eq_decide]; omega)
  go_enter Try.func12, Try.ntmps12
  go_wp2
  go_ret
  exact ⟨ret_bool H.out, rfl⟩

end Go.Proofs.Ytcangdcakgcpaaa.Draw

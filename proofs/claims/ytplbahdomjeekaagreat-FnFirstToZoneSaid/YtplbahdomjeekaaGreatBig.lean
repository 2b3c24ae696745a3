import Derived.Test.YtplbahdomjeekaaGreatNum
import Derived.Test.YtplbahdomjeekaaGreatMKit
namespace Go.Proofs.YtplbahdomjeekaaGreat.Draw
open Go.ChangeShapes Go.WideShapes Go.ChangeAt Go.RowKit
open Go.Proofs.YtplbahdomjeekaaGreat.Kit Go.Proofs.YtplbahdomjeekaaGreat.Num
set_option linter.unusedVariables false
def bigB (len : Nat) : Bool := decide (4096 < len)
theorem big_any (a : Option Addr) (len cap : Nat) (w : World) : Calls Tryz.prog 15 #[.slice a len cap] w fun e w' => e = .returned (.bool (bigB len)) ∧ w = w' := by
  have H := Lib.hid (show bigB len = decide (4096 < (len : Int)) by unfold bigB; rw [decide_eq_decide]; omega)
  go_enter Tryz.func15, Tryz.ntmps15
  go_wp2
  go_ret
  exact ⟨ret_bool H.out, rfl⟩
end Go.Proofs.YtplbahdomjeekaaGreat.Draw

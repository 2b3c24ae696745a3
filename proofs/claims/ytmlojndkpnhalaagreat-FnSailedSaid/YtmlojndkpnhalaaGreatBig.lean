import Derived.Test.YtmlojndkpnhalaaGreatNum
import Derived.Test.YtmlojndkpnhalaaGreatMKit
namespace Go.Proofs.YtmlojndkpnhalaaGreat.Draw
open Go.ChangeShapes Go.WideShapes Go.ChangeAt Go.RowKit
open Go.Proofs.YtmlojndkpnhalaaGreat.Kit Go.Proofs.YtmlojndkpnhalaaGreat.Num
set_option linter.unusedVariables false
def bigB (len : Nat) : Bool := decide (4096 < len)
theorem big_any (a : Option Addr) (len cap : Nat) (w : World) : Calls Tryz.prog 11 #[.slice a len cap] w fun e w' => e = .returned (.bool (bigB len)) ∧ w = w' := by
  have H := Lib.hid (show bigB len = decide (4096 < (len : Int)) by unfold bigB; rw [decide_eq_decide]; omega)
  go_enter Tryz.func11, Tryz.ntmps11
  go_wp2
  go_ret
  exact ⟨ret_bool H.out, rfl⟩
end Go.Proofs.YtmlojndkpnhalaaGreat.Draw

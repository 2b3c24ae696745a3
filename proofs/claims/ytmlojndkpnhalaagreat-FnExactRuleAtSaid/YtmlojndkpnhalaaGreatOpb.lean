import Derived.Test.YtmlojndkpnhalaaGreatWnd
import Derived.Laws.EntriesVeiled
namespace Go.Proofs.YtmlojndkpnhalaaGreat.Wnd
open Go.ChangeShapes Go.WideShapes Go.ChangeAt Go.RowKit
open Go.Proofs.YtmlojndkpnhalaaGreat.Num Go.Proofs.YtmlojndkpnhalaaGreat.Kit Go.Proofs.YtmlojndkpnhalaaGreat.Pts Go.Proofs.YtmlojndkpnhalaaGreat.Seg
set_option linter.unusedVariables false
set_option linter.unusedSimpArgs false
def opB (a b : Int) : Bool := (a != 0) && ((b != 0) && (a != b))
theorem opposite_any (a b : Int) (w : World) : Calls Tryz.prog 272 #[.int .i64 a, .int .i64 b] w fun e w' => e = .returned (.bool (opB a b)) ∧ w = w' := by
  cases h1 : (a != 0)
  · have H := Lib.hid (show opB a b = false by unfold opB; rw [h1]; rfl)
    go_enter Tryz.func272, Tryz.ntmps272
    go_wp2
    go_ret
    exact ⟨ret_bool H.out, rfl⟩
  cases h2 : (b != 0)
  · have H := Lib.hid (show opB a b = false by unfold opB; rw [h1, h2]; rfl)
    go_enter Tryz.func272, Tryz.ntmps272
    go_wp2
    go_ret
    exact ⟨ret_bool H.out, rfl⟩
  · have H := Lib.hid (show opB a b = (a != b) by unfold opB; rw [h1, h2]; rfl)
    go_enter Tryz.func272, Tryz.ntmps272
    go_wp2
    go_ret
    exact ⟨ret_bool H.out, rfl⟩
end Go.Proofs.YtmlojndkpnhalaaGreat.Wnd

/- Opposite tacks. -/
import Derived.Test.YtcangdcakgcpaaaWnd
import Derived.Laws.EntriesVeiled
namespace Go.Proofs.Ytcangdcakgcpaaa.Wnd
open Go.ChangeShapes Go.WideShapes Go.ChangeAt Go.RowKit
open Go.Proofs.Ytcangdcakgcpaaa.Num Go.Proofs.Ytcangdcakgcpaaa.Kit Go.Proofs.Ytcangdcakgcpaaa.Pts Go.Proofs.Ytcangdcakgcpaaa.Seg
set_option linter.unusedVariables false
set_option linter.unusedSimpArgs false

/-- Are two tacks opposite? -/
def opB (a b : Int) : Bool := (a != 0) && ((b != 0) && (a != b))
theorem opposite_any (a b : Int) (w : World) : Calls Try.prog 112 #[.int .i64 a, .int .i64 b] w fun e w' => e = .returned (.bool (opB a b)) ∧ w = w' := by
  cases h1 : (a != 0)
  · have H := Lib.hid (show opB a b = false by unfold opB; rw [h1]; rfl)
    go_enter Try.func112, Try.ntmps112
    go_wp2
    go_ret
    exact ⟨ret_bool H.out, rfl⟩
  cases h2 : (b != 0)
  · have H := Lib.hid (show opB a b = false by unfold opB; rw [h1, h2]; rfl)
    go_enter Try.func112, Try.ntmps112
    go_wp2
    go_ret
    exact ⟨ret_bool H.out, rfl⟩
  · have H := Lib.hid (show opB a b = (a != b) by unfold opB; rw [h1, h2]; rfl)
    go_enter Try.func112, Try.ntmps112
    go_wp2
    go_ret
    exact ⟨ret_bool H.out, rfl⟩

end Go.Proofs.Ytcangdcakgcpaaa.Wnd

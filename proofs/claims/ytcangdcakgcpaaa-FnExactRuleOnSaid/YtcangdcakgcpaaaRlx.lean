/- Rulings of the laws as rulings of the program, and comparing them (chapter 10's laws). -/
import Derived.Test.YtcangdcakgcpaaaRul
namespace Go.Proofs.Ytcangdcakgcpaaa.Rul
open Go.ChangeShapes Go.WideShapes Go.ChangeAt Go.RowKit
open Go.Proofs.Ytcangdcakgcpaaa.Num Go.Proofs.Ytcangdcakgcpaaa.Kit Go.Proofs.Ytcangdcakgcpaaa.Pts
set_option linter.unusedVariables false
set_option linter.unusedSimpArgs false

theorem eqRuling_same (k r : Int) (w : World) : Calls Try.prog 32 #[Pt k r, Pt k r] w fun e w' => e = .returned (.bool true) ∧ Ext w w' := by
  go_enter Try.func32, Try.ntmps32
  go_wp2
  go_ret
  exact ⟨rfl, (by repeat (first | exact Ext.refl _ | assumption | apply Ext.alloc | apply Ext.drew | (refine Ext.trans ?_ (by assumption)) | (refine Ext.setNew ?_ (by simp <;> omega) _)))⟩

end Go.Proofs.Ytcangdcakgcpaaa.Rul

/- Rulings of the laws as rulings of the program, and comparing them (chapter 10's laws). -/
import Derived.Test.YtlheppblioglpaaRul
namespace Go.Proofs.Ytlheppblioglpaa.Rul
open Go.ChangeShapes Go.WideShapes Go.ChangeAt Go.RowKit
open Go.Proofs.Ytlheppblioglpaa.Num Go.Proofs.Ytlheppblioglpaa.Kit Go.Proofs.Ytlheppblioglpaa.Pts
set_option linter.unusedVariables false
set_option linter.unusedSimpArgs false

theorem eqRuling_same (k r : Int) (w : World) : Calls Try.prog 23 #[Pt k r, Pt k r] w fun e w' => e = .returned (.bool true) ∧ Ext w w' := by
  go_enter Try.func23, Try.ntmps23
  go_wp2
  go_ret
  exact ⟨rfl, (by repeat (first | exact Ext.refl _ | assumption | apply Ext.alloc | apply Ext.drew | (refine Ext.trans ?_ (by assumption)) | (refine Ext.setNew ?_ (by simp <;> omega) _)))⟩

end Go.Proofs.Ytlheppblioglpaa.Rul

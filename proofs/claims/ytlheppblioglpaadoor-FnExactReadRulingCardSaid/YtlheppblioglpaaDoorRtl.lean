/- Rulings of the laws as rulings of the program, and comparing them (the door's seat). -/
import Derived.Test.YtlheppblioglpaaDoorRtx
namespace Go.Proofs.YtlheppblioglpaaDoor.Rtx
open Go.ChangeShapes Go.WideShapes Go.ChangeAt Go.RowKit
open Go.Proofs.YtlheppblioglpaaDoor.Num Go.Proofs.YtlheppblioglpaaDoor.Kit Go.Proofs.YtlheppblioglpaaDoor.Txt
set_option linter.unusedVariables false
set_option linter.unusedSimpArgs false

theorem toRuling_any (k r : Int) (w : World) : Calls Tryd.prog 6 #[Ru k r] w fun e w' => e = .returned (Ru k r) ∧ Ext w w' := by
  go_enter Tryd.func6, Tryd.ntmps6
  go_wp2
  exact bodyPost_ret (v := Ru k r) (by simp [results, Tryd.results6, go_sem]) rfl ⟨rfl, (by repeat (first | exact Ext.refl _ | assumption | apply Ext.alloc | apply Ext.drew | (refine Ext.trans ?_ (by assumption)) | (refine Ext.setNew ?_ (by simp <;> omega) _)))⟩
theorem eqRu_same (k r : Int) (w : World) : Calls Tryd.prog 10 #[Ru k r, Ru k r] w fun e w' => e = .returned (.bool true) ∧ Ext w w' := by
  go_enter Tryd.func10, Tryd.ntmps10
  go_wp2
  go_ret
  exact ⟨rfl, (by repeat (first | exact Ext.refl _ | assumption | apply Ext.alloc | apply Ext.drew | (refine Ext.trans ?_ (by assumption)) | (refine Ext.setNew ?_ (by simp <;> omega) _)))⟩

end Go.Proofs.YtlheppblioglpaaDoor.Rtx

/- Incidents of the laws as incidents of the program, comparing them (chapter 12's laws). -/
import Derived.Test.YtknelhceaoblhaaDoorIv0
import Derived.Test.YtknelhceaoblhaaDoorNum
namespace Go.Proofs.YtknelhceaoblhaaDoor.Iv
open Go.ChangeShapes Go.WideShapes Go.ChangeAt Go.RowKit
open Go.Proofs.YtknelhceaoblhaaDoor.Num Go.Proofs.YtknelhceaoblhaaDoor.Kit
set_option linter.unusedVariables false
set_option linter.unusedSimpArgs false

theorem toIncident_any (a b c d e : Int) (w : World) : Calls Tryd.prog 11 #[V5 a b c d e] w fun x w' => x = .returned (V5 a b c d e) ∧ Ext w w' := by
  go_enter Tryd.func11, Tryd.ntmps11
  go_wp2
  exact bodyPost_ret (v := V5 a b c d e) (by simp [results, Tryd.results11, go_sem]) rfl ⟨rfl, (by repeat (first | exact Ext.refl _ | assumption | apply Ext.alloc | apply Ext.drew | (refine Ext.trans ?_ (by assumption)) | (refine Ext.setNew ?_ (by simp <;> omega) _)))⟩
theorem eqIncident_same (a b c d e : Int) (w : World) : Calls Tryd.prog 13 #[V5 a b c d e, V5 a b c d e] w fun x w' => x = .returned (.bool true) ∧ Ext w w' := by
  go_enter Tryd.func13, Tryd.ntmps13
  go_wp2
  go_ret
  exact ⟨rfl, (by repeat (first | exact Ext.refl _ | assumption | apply Ext.alloc | apply Ext.drew | (refine Ext.trans ?_ (by assumption)) | (refine Ext.setNew ?_ (by simp <;> omega) _)))⟩

end Go.Proofs.YtknelhceaoblhaaDoor.Iv

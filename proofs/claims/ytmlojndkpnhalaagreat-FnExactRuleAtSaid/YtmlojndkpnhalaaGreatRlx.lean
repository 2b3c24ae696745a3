import Derived.Test.YtmlojndkpnhalaaGreatRul
namespace Go.Proofs.YtmlojndkpnhalaaGreat.Rul
open Go.ChangeShapes Go.WideShapes Go.ChangeAt Go.RowKit
open Go.Proofs.YtmlojndkpnhalaaGreat.Num Go.Proofs.YtmlojndkpnhalaaGreat.Kit Go.Proofs.YtmlojndkpnhalaaGreat.Pts
set_option linter.unusedVariables false
set_option linter.unusedSimpArgs false
theorem eqRuling_same (k r : Int) (w : World) : Calls Tryz.prog 52 #[Pt k r, Pt k r] w fun e w' => e = .returned (.bool true) ∧ Ext w w' := by
  go_enter Tryz.func52, Tryz.ntmps52
  go_wp2
  go_ret
  exact ⟨rfl, (by repeat (first | exact Ext.refl _ | assumption | apply Ext.alloc | apply Ext.drew | (refine Ext.trans ?_ (by assumption)) | (refine Ext.setNew ?_ (by simp <;> omega) _)))⟩
end Go.Proofs.YtmlojndkpnhalaaGreat.Rul

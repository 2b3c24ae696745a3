import Derived.Test.YtmlojndkpnhalaaGreatRmB
import Derived.Test.YtmlojndkpnhalaaGreatMKit
import Derived.Test.YtmlojndkpnhalaaGreatNum
import Derived.Laws.EntriesVeiled
namespace Go.Proofs.YtmlojndkpnhalaaGreat.Rmx
open Go.ChangeShapes Go.WideShapes Go.ChangeAt Go.RowKit
open Go.Proofs.YtmlojndkpnhalaaGreat.Num Go.Proofs.YtmlojndkpnhalaaGreat.Kit Go.Proofs.YtmlojndkpnhalaaGreat.RmT
set_option linter.unusedVariables false
set_option linter.unusedSimpArgs false
abbrev Rm (k r : Int) : Value := .agg #[.int .i64 k, .int .i64 r]
theorem eqRoom_same (k r : Int) (w : World) : Calls Tryz.prog 56 #[Rm k r, Rm k r] w fun e w' => e = .returned (.bool true) ∧ Ext w w' := by
  go_enter Tryz.func56, Tryz.ntmps56
  go_wp2
  go_ret
  exact ⟨rfl, (by repeat (first | exact Ext.refl _ | assumption | apply Ext.alloc | apply Ext.drew | (refine Ext.trans ?_ (by assumption)) | (refine Ext.setNew ?_ (by simp <;> omega) _)))⟩
end Go.Proofs.YtmlojndkpnhalaaGreat.Rmx

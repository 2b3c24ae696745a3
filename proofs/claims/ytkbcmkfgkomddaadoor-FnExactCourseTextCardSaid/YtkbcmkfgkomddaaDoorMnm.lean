import Derived.Test.YtkbcmkfgkomddaaDoorCrs2
namespace Go.Proofs.YtkbcmkfgkomddaaDoor.Crs
open Go.ChangeShapes Go.WideShapes Go.ChangeAt Go.RowKit Go.PlainAid
open Go.Proofs.YtkbcmkfgkomddaaDoor.Num Go.Proofs.YtkbcmkfgkomddaaDoor.Kit Go.Proofs.YtkbcmkfgkomddaaDoor.Pts Go.Proofs.YtkbcmkfgkomddaaDoor.Seg Go.Proofs.YtkbcmkfgkomddaaDoor.Div
set_option linter.unusedVariables false
set_option linter.unusedSimpArgs false
theorem cr_eight {l k : L4} {ms : List M5} (h : crB l k ms = true) : ms.length ≤ 8 := by
  unfold crB at h
  simp only [Bool.and_eq_true, decide_eq_true_eq] at h
  exact h.2.1
end Go.Proofs.YtkbcmkfgkomddaaDoor.Crs

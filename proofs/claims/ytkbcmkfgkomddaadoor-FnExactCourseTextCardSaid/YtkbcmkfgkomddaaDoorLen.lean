import Derived.Test.YtkbcmkfgkomddaaDoorSto
import Derived.Test.YtkbcmkfgkomddaaDoorRoot
namespace Go.Proofs.YtkbcmkfgkomddaaDoor.Crs
open Go.ChangeShapes Go.WideShapes Go.ChangeAt Go.RowKit Go.PlainAid
open Go.Proofs.YtkbcmkfgkomddaaDoor.Num Go.Proofs.YtkbcmkfgkomddaaDoor.Kit Go.Proofs.YtkbcmkfgkomddaaDoor.Pts Go.Proofs.YtkbcmkfgkomddaaDoor.Seg Go.Proofs.YtkbcmkfgkomddaaDoor.Div Go.Proofs.YtkbcmkfgkomddaaDoor.Root Go.Proofs.YtkbcmkfgkomddaaDoor.Rt
set_option linter.unusedVariables false
set_option linter.unusedSimpArgs false
theorem cr_pv {l k : L4} {ms : List M5} (h : crB l k ms = true) : pvB l k ms = true := by
  unfold crB at h
  simp only [Bool.and_eq_true] at h
  exact h.2.2.1
end Go.Proofs.YtkbcmkfgkomddaaDoor.Crs

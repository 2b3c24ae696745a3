import Derived.Test.YtpdnefodbichkaaPro
import Derived.Test.YtpdnefodbichkaaMCrs2
namespace Go.Proofs.Ytpdnefodbichkaa.Crs
open Go.ChangeShapes Go.WideShapes Go.ChangeAt Go.RowKit Go.PlainAid
open Go.Proofs.Ytpdnefodbichkaa.Num Go.Proofs.Ytpdnefodbichkaa.Kit Go.Proofs.Ytpdnefodbichkaa.Pts Go.Proofs.Ytpdnefodbichkaa.Seg Go.Proofs.Ytpdnefodbichkaa.Div
set_option linter.unusedVariables false
set_option linter.unusedSimpArgs false
theorem cr_lines {l k : L4} {ms : List M5} (h : crB l k ms = true) : liB l = true ∧ liB k = true := by
  unfold crB at h
  simp only [Bool.and_eq_true] at h
  exact pv_lines h.2.2.1
end Go.Proofs.Ytpdnefodbichkaa.Crs

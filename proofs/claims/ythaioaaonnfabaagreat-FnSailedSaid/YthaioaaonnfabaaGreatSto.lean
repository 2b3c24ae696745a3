import Derived.Test.YthaioaaonnfabaaGreatPro
import Derived.Test.YthaioaaonnfabaaGreatMSta
namespace Go.Proofs.YthaioaaonnfabaaGreat.Crs
open Go.ChangeShapes Go.WideShapes Go.ChangeAt Go.RowKit Go.PlainAid
open Go.Proofs.YthaioaaonnfabaaGreat.Num Go.Proofs.YthaioaaonnfabaaGreat.Kit Go.Proofs.YthaioaaonnfabaaGreat.Pts Go.Proofs.YthaioaaonnfabaaGreat.Seg Go.Proofs.YthaioaaonnfabaaGreat.Div
set_option linter.unusedVariables false
set_option linter.unusedSimpArgs false
theorem cr_lines {l k : L4} {ms : List M5} (h : crB l k ms = true) : liB l = true ∧ liB k = true := by
  unfold crB at h
  simp only [Bool.and_eq_true] at h
  exact pv_lines h.2.2.1
end Go.Proofs.YthaioaaonnfabaaGreat.Crs

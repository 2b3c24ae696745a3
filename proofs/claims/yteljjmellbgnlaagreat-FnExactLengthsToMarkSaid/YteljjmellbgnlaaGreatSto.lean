/- StationsOf (impl, spec): both answers. -/
import Derived.Test.YteljjmellbgnlaaGreatPro
import Derived.Test.YteljjmellbgnlaaGreatMCrs2
namespace Go.Proofs.YteljjmellbgnlaaGreat.Crs
open Go.ChangeShapes Go.WideShapes Go.ChangeAt Go.RowKit Go.PlainAid
open Go.Proofs.YteljjmellbgnlaaGreat.Num Go.Proofs.YteljjmellbgnlaaGreat.Kit Go.Proofs.YteljjmellbgnlaaGreat.Pts Go.Proofs.YteljjmellbgnlaaGreat.Seg Go.Proofs.YteljjmellbgnlaaGreat.Div
set_option linter.unusedVariables false
set_option linter.unusedSimpArgs false

def soC (l k : L4) (ms : List M5) : Int := if crB l k ms = true then 0 else 1
def soP (l k : L4) (ms : List M5) : List P2 := if crB l k ms = true then stL l k ms else []
theorem soP_len (l k : L4) (ms : List M5) : (soP l k ms).length ≤ 10 := by
  unfold soP
  split
  · rename_i h
    rw [stL_len]
    have := cr_eight h
    omega
  · simp
theorem cr_lines {l k : L4} {ms : List M5} (h : crB l k ms = true) : liB l = true ∧ liB k = true := by
  unfold crB at h
  simp only [Bool.and_eq_true] at h
  exact pv_lines h.2.2.1

end Go.Proofs.YteljjmellbgnlaaGreat.Crs

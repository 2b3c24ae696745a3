/- MarkNamed (impl, spec). -/
import Derived.Test.YthaioaaonnfabaaCrs2
namespace Go.Proofs.Ythaioaaonnfabaa.Crs
open Go.ChangeShapes Go.WideShapes Go.ChangeAt Go.RowKit Go.PlainAid
open Go.Proofs.Ythaioaaonnfabaa.Num Go.Proofs.Ythaioaaonnfabaa.Kit Go.Proofs.Ythaioaaonnfabaa.Pts Go.Proofs.Ythaioaaonnfabaa.Seg Go.Proofs.Ythaioaaonnfabaa.Div
set_option linter.unusedVariables false
set_option linter.unusedSimpArgs false

/-- The answer of MarkNamed, and its code. -/
def mnI (l k : L4) (ms : List M5) (n : ByteArray) : Int := if crB l k ms = true then (if ixI ms n < 0 then 0 else ixI ms n) else 0
def mnC (l k : L4) (ms : List M5) (n : ByteArray) : Int := if crB l k ms = true then (if ixI ms n < 0 then 4 else 0) else 1
theorem ix_bd (ms : List M5) (n : ByteArray) : -1 ≤ ixI ms n ∧ ixI ms n ≤ ms.length := by
  unfold ixI
  cases h : ixO ms n with
  | none => constructor <;> simp <;> omega
  | some k =>
    have := List.mem_of_find?_eq_some h
    simp at this
    constructor <;> simp <;> omega
theorem cr_eight {l k : L4} {ms : List M5} (h : crB l k ms = true) : ms.length ≤ 8 := by
  unfold crB at h
  simp only [Bool.and_eq_true, decide_eq_true_eq] at h
  exact h.2.1

end Go.Proofs.Ythaioaaonnfabaa.Crs

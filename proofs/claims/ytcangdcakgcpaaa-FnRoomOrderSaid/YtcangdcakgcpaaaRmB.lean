/- Which rooms are valid (chapter 11). No program is named here. -/
import Derived.Test.YtcangdcakgcpaaaNum
namespace Go.Proofs.Ytcangdcakgcpaaa.RmT
open Go.Proofs.Ytcangdcakgcpaaa.Num
set_option linter.unusedVariables false
set_option linter.unusedSimpArgs false

/-- Is a room valid? -/
def rmB (k r : Int) : Bool := if (r == 2 || r == 3) = true then (k == 1 || k == 2) else if (r == 0 || (r == 1 || r == 4)) = true then k == 0 else false
theorem rm_cases {k r : Int} (h : rmB k r = true) : ((r = 2 ∨ r = 3) ∧ (k = 1 ∨ k = 2)) ∨ ((r = 0 ∨ r = 1 ∨ r = 4) ∧ k = 0) := by
  unfold rmB at h
  split at h
  · next g => exact .inl ⟨by simpa using g, by simpa using h⟩
  · split at h
    · next g => exact .inr ⟨by simpa using g, by simpa using h⟩
    · cases h
theorem rm_bd {k r : Int} (h : rmB k r = true) : (0 ≤ k ∧ k ≤ 2) ∧ 0 ≤ r ∧ r ≤ 4 := by
  rcases rm_cases h with ⟨g, f⟩ | ⟨g, f⟩ <;> omega

end Go.Proofs.Ytcangdcakgcpaaa.RmT

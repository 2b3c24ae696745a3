/- Contracts of HeadingAt (impl, spec). -/
import Derived.Test.YteljjmellbgnlaaSpd
import Derived.Deep.DeepCutAuto
namespace Go.Proofs.Yteljjmellbgnlaa.Trk
open Go.ChangeShapes Go.WideShapes Go.ChangeAt Go.RowKit
open Go.Proofs.Yteljjmellbgnlaa.Num Go.Proofs.Yteljjmellbgnlaa.Kit Go.Proofs.Yteljjmellbgnlaa.Pts Go.Proofs.Yteljjmellbgnlaa.Seg
set_option linter.unusedVariables false
set_option linter.unusedSimpArgs false

/-- Has the leg at a time no length? -/
def hzB (fs : List F3) (t : Int) : Bool := (hdX fs (legOf fs t) == 0) && (hdY fs (legOf fs t) == 0)
/-- The code of HeadingAt, and its coordinates. -/
def heC (fs : List F3) (t : Int) : Int := if ctI fs t = 0 then (if hzB fs t = true then 5 else 0) else ctI fs t
def heX (fs : List F3) (t : Int) : Int := if heC fs t = 0 then hdX fs (legOf fs t) else 0
def heY (fs : List F3) (t : Int) : Int := if heC fs t = 0 then hdY fs (legOf fs t) else 0

theorem he_no {fs : List F3} {t : Int} (h : ctI fs t ≠ 0) : heC fs t = ctI fs t ∧ heX fs t = 0 ∧ heY fs t = 0 := by
  have e : heC fs t = ctI fs t := by unfold heC; rw [if_neg h]
  exact ⟨e, by unfold heX; rw [e, if_neg h], by unfold heY; rw [e, if_neg h]⟩
theorem he_zero {fs : List F3} {t : Int} (h : ctI fs t = 0) (g : hzB fs t = true) : heC fs t = 5 ∧ heX fs t = 0 ∧ heY fs t = 0 := by
  have e : heC fs t = 5 := by unfold heC; rw [if_pos h, if_pos g]
  exact ⟨e, by unfold heX; rw [e]; rfl, by unfold heY; rw [e]; rfl⟩
theorem he_yes {fs : List F3} {t : Int} (h : ctI fs t = 0) (g : hzB fs t = false) : heC fs t = 0 ∧ heX fs t = hdX fs (legOf fs t) ∧ heY fs t = hdY fs (legOf fs t) := by
  have e : heC fs t = 0 := by unfold heC; rw [if_pos h, g]; rfl
  exact ⟨e, by unfold heX; rw [e]; rfl, by unfold heY; rw [e]; rfl⟩
theorem ctI_zero {fs : List F3} {t : Int} (h : ctI fs t = 0) : trB fs = true ∧ lastB fs t = true := by
  unfold ctI at h
  split at h
  · rename_i g
    split at h
    · exact ⟨g, by assumption⟩
    · cases h
  · cases h
theorem legOf_lt {fs : List F3} (t : Int) (h2 : 2 ≤ fs.length) : legOf fs t + 1 < fs.length := by
  have := legUp_lt fs t (fs.length - 1) (by omega)
  unfold legOf; omega

end Go.Proofs.Yteljjmellbgnlaa.Trk

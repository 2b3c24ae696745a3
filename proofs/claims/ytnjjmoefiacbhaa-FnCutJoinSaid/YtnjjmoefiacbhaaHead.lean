import Derived.Test.YtnjjmoefiacbhaaSpd
import Derived.Deep.DeepCutAuto
namespace Go.Proofs.Ytnjjmoefiacbhaa.Trk
open Go.ChangeShapes Go.WideShapes Go.ChangeAt Go.RowKit
open Go.Proofs.Ytnjjmoefiacbhaa.Num Go.Proofs.Ytnjjmoefiacbhaa.Kit Go.Proofs.Ytnjjmoefiacbhaa.Pts Go.Proofs.Ytnjjmoefiacbhaa.Seg
set_option linter.unusedVariables false
set_option linter.unusedSimpArgs false
theorem ctI_zero {fs : List F3} {t : Int} (h : ctI fs t = 0) : trB fs = true ∧ lastB fs t = true := by
  unfold ctI at h
  split at h
  · rename_i g
    split at h
    · exact ⟨g, by assumption⟩
    · cases h
  · cases h
theorem legOf_lt {fs : List F3} (t : Int) (h2 : 2 ≤ fs.length) : legOf fs t + 1 < fs.length := by
  have := legUp_lt fs t (fs.length - 1) (by omega)
  unfold legOf; omega
end Go.Proofs.Ytnjjmoefiacbhaa.Trk

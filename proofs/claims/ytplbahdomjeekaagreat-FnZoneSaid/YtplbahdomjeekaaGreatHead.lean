import Derived.Test.YtplbahdomjeekaaGreatSpd
import Derived.Deep.DeepCutAuto
namespace Go.Proofs.YtplbahdomjeekaaGreat.Trk
open Go.ChangeShapes Go.WideShapes Go.ChangeAt Go.RowKit
open Go.Proofs.YtplbahdomjeekaaGreat.Num Go.Proofs.YtplbahdomjeekaaGreat.Kit Go.Proofs.YtplbahdomjeekaaGreat.Pts Go.Proofs.YtplbahdomjeekaaGreat.Seg
set_option linter.unusedVariables false
set_option linter.unusedSimpArgs false
theorem ctI_zero {fs : List F3} {t : Int} (h : ctI fs t = 0) : trB fs = true ∧ lastB fs t = true := by
  unfold ctI at h
  split at h
  · rename_i g
    split at h
    · exact ⟨g, by assumption⟩
    · cases h
  · cases h
theorem legOf_lt {fs : List F3} (t : Int) (h2 : 2 ≤ fs.length) : legOf fs t + 1 < fs.length := by
  have := legUp_lt fs t (fs.length - 1) (by omega)
  unfold legOf; omega
end Go.Proofs.YtplbahdomjeekaaGreat.Trk

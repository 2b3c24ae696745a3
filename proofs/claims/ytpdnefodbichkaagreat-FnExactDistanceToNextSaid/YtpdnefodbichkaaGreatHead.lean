import Derived.Test.YtpdnefodbichkaaGreatSpd
import Derived.Deep.DeepCutAuto
namespace Go.Proofs.YtpdnefodbichkaaGreat.Trk
open Go.ChangeShapes Go.WideShapes Go.ChangeAt Go.RowKit
open Go.Proofs.YtpdnefodbichkaaGreat.Num Go.Proofs.YtpdnefodbichkaaGreat.Kit Go.Proofs.YtpdnefodbichkaaGreat.Pts Go.Proofs.YtpdnefodbichkaaGreat.Seg
set_option linter.unusedVariables false
set_option linter.unusedSimpArgs false
theorem legOf_lt {fs : List F3} (t : Int) (h2 : 2 ≤ fs.length) : legOf fs t + 1 < fs.length := by
  have := legUp_lt fs t (fs.length - 1) (by omega)
  unfold legOf; omega
end Go.Proofs.YtpdnefodbichkaaGreat.Trk

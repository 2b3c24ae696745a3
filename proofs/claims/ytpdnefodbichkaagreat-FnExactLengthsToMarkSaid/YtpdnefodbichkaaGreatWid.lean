import Derived.Test.YtpdnefodbichkaaGreatMRoot
import Derived.Test.YtpdnefodbichkaaGreatMKit
import Derived.Deep.LoopGhost
import Derived.Deep.QuietTactic
import Derived.BigQuiet
namespace Go.Proofs.YtpdnefodbichkaaGreat.Wid
open Go.ChangeShapes Go.WideShapes Go.ChangeAt Go.RowKit
open Go.Proofs.YtpdnefodbichkaaGreat.Num Go.Proofs.YtpdnefodbichkaaGreat.Kit Go.Proofs.YtpdnefodbichkaaGreat.Pts Go.Proofs.YtpdnefodbichkaaGreat.Rt Go.Proofs.YtpdnefodbichkaaGreat.Root
set_option linter.unusedVariables false
set_option linter.unusedSimpArgs false
theorem rt_bd {m : Int} (m0 : 0 ≤ m) (m1 : m ≤ 8000000000000) : 0 ≤ rt m ∧ rt m ≤ 2828428 := by
  refine ⟨rt_nonneg m, ?_⟩
  rcases Int.lt_or_le 2828428 (rt m) with h | h
  · have h1 := rt_sq m0
    have h2 := sq_le (a := 2828429) (b := rt m) (by omega) (by omega)
    simp only [Int.reduceMul] at h2
    omega
  · exact h
end Go.Proofs.YtpdnefodbichkaaGreat.Wid

import Derived.Test.YtplbahdomjeekaaGreatRoot
import Derived.Test.YtplbahdomjeekaaGreatMKit
import Derived.Deep.LoopGhost
import Derived.Deep.QuietTactic
import Derived.BigQuiet
namespace Go.Proofs.YtplbahdomjeekaaGreat.Wid
open Go.ChangeShapes Go.WideShapes Go.ChangeAt Go.RowKit
open Go.Proofs.YtplbahdomjeekaaGreat.Num Go.Proofs.YtplbahdomjeekaaGreat.Kit Go.Proofs.YtplbahdomjeekaaGreat.Pts Go.Proofs.YtplbahdomjeekaaGreat.Rt Go.Proofs.YtplbahdomjeekaaGreat.Root
set_option linter.unusedVariables false
set_option linter.unusedSimpArgs false
theorem nn_bd {x y A B : Int} (hx : 0 ≤ x) (hx2 : x ≤ A) (hy : 0 ≤ y) (hy2 : y ≤ B) : 0 ≤ x * y ∧ x * y ≤ A * B :=
  ⟨Int.mul_nonneg hx hy, Int.mul_le_mul hx2 hy2 hy (by omega)⟩
theorem rt_bd {m : Int} (m0 : 0 ≤ m) (m1 : m ≤ 8000000000000) : 0 ≤ rt m ∧ rt m ≤ 2828428 := by
  refine ⟨rt_nonneg m, ?_⟩
  rcases Int.lt_or_le 2828428 (rt m) with h | h
  · have h1 := rt_sq m0
    have h2 := sq_le (a := 2828429) (b := rt m) (by omega) (by omega)
    simp only [Int.reduceMul] at h2
    omega
  · exact h
end Go.Proofs.YtplbahdomjeekaaGreat.Wid

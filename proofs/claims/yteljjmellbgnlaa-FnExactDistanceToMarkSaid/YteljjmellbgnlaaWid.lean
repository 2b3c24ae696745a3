/- Contracts of the reference model's roots of products (l02Wide, l02Less, l02RootOf). -/
import Derived.Test.YteljjmellbgnlaaRoot
import Derived.Test.YteljjmellbgnlaaMKit
import Derived.Deep.LoopGhost
import Derived.Deep.QuietTactic
import Derived.BigQuiet
namespace Go.Proofs.Yteljjmellbgnlaa.Wid
open Go.ChangeShapes Go.WideShapes Go.ChangeAt Go.RowKit
open Go.Proofs.Yteljjmellbgnlaa.Num Go.Proofs.Yteljjmellbgnlaa.Kit Go.Proofs.Yteljjmellbgnlaa.Pts Go.Proofs.Yteljjmellbgnlaa.Rt Go.Proofs.Yteljjmellbgnlaa.Root
set_option linter.unusedVariables false
set_option linter.unusedSimpArgs false

theorem nn_bd {x y A B : Int} (hx : 0 ≤ x) (hx2 : x ≤ A) (hy : 0 ≤ y) (hy2 : y ≤ B) : 0 ≤ x * y ∧ x * y ≤ A * B :=
  ⟨Int.mul_nonneg hx hy, Int.mul_le_mul hx2 hy2 hy (by omega)⟩
theorem wide_eq (u v p q : Int) : (u * 1048576 + v) * (p * 1048576 + q) = u * p * 1099511627776 + (u * q + v * p) * 1048576 + v * q := by grind
theorem words_le (P Q : Int) : (decide (P / 1099511627776 < Q / 1099511627776) || (P / 1099511627776 == Q / 1099511627776 && decide (P % 1099511627776 ≤ Q % 1099511627776))) = decide (P ≤ Q) := by
  rw [Bool.eq_iff_iff]
  simp only [Bool.or_eq_true, Bool.and_eq_true, decide_eq_true_eq, beq_iff_eq]
  omega

/-- What the loop of l02RootOf keeps. -/
def RelR (K : Int) (s t : Value) : Prop := ∃ lo hi : Int, 0 ≤ lo ∧ lo < hi ∧ hi ≤ 100000000000 ∧ lo * lo ≤ K ∧ K < hi * hi ∧ s = .int .i64 lo ∧ t = .int .i64 hi

theorem high_ok {d m : Int} (d0 : 0 ≤ d) (m0 : 0 ≤ m) : d * d * m < (d * (rt m + 1) + 1) * (d * (rt m + 1) + 1) := by
  have h1 := lt_next m
  have h2 : d * d * m ≤ d * d * ((rt m + 1) * (rt m + 1)) := Int.mul_le_mul_of_nonneg_left (by omega) (Int.mul_nonneg d0 d0)
  have h3 : 0 ≤ d * (rt m + 1) := Int.mul_nonneg d0 (by have := rt_nonneg m; omega)
  have e : d * d * ((rt m + 1) * (rt m + 1)) = d * (rt m + 1) * (d * (rt m + 1)) := by grind
  rw [e] at h2
  generalize d * (rt m + 1) = Z at *
  have e2 : (Z + 1) * (Z + 1) = Z * Z + 2 * Z + 1 := by grind
  omega
theorem rt_bd {m : Int} (m0 : 0 ≤ m) (m1 : m ≤ 8000000000000) : 0 ≤ rt m ∧ rt m ≤ 2828428 := by
  refine ⟨rt_nonneg m, ?_⟩
  rcases Int.lt_or_le 2828428 (rt m) with h | h
  · have h1 := rt_sq m0
    have h2 := sq_le (a := 2828429) (b := rt m) (by omega) (by omega)
    simp only [Int.reduceMul] at h2
    omega
  · exact h

end Go.Proofs.Yteljjmellbgnlaa.Wid

import Derived.Test.YtknelhceaoblhaaGreatCmp
import Derived.Deep.QuietTactic
import Derived.BigQuiet
namespace Go.Proofs.YtknelhceaoblhaaGreat.Cmp
open Go.ChangeShapes Go.WideShapes Go.ChangeAt Go.RowKit
open Go.Proofs.YtknelhceaoblhaaGreat.Num Go.Proofs.YtknelhceaoblhaaGreat.Kit Go.Proofs.YtknelhceaoblhaaGreat.Pts
set_option linter.unusedVariables false
set_option linter.unusedSimpArgs false
theorem flo_bd {a b : Int} (hb : 1 ≤ b) : 0 ≤ a - flo a b * b ∧ a - flo a b * b < b := by
  have h : (a.tmod b).natAbs = a.natAbs % b.natAbs := Int.natAbs_tmod a b
  have h2 := Nat.mod_lt a.natAbs (show 0 < b.natAbs by omega)
  have h3 := Int.mul_tdiv_add_tmod a b
  unfold flo
  by_cases hm : a.tmod b < 0
  · rw [if_pos hm, Int.sub_mul, Int.mul_comm (a.tdiv b) b]; omega
  · rw [if_neg hm, Int.mul_comm (a.tdiv b) b]; omega
theorem flo_abs {a b : Int} (hb : 1 ≤ b) (M : Int) (h1 : -M ≤ a) (h2 : a ≤ M) : -M - 1 ≤ flo a b ∧ flo a b ≤ M := by
  obtain ⟨g1, g2⟩ := tdiv_bd hb M h1 h2
  unfold flo; by_cases hm : a.tmod b < 0
  · rw [if_pos hm]; omega
  · rw [if_neg hm]; omega
theorem sgn_bd (n : Int) : -1 ≤ sgn n ∧ sgn n ≤ 1 := by
  unfold sgn; rcases Int.lt_trichotomy n 0 with h | h | h
  · rw [if_pos h]; decide
  · subst h; decide
  · rw [if_neg (by omega : ¬ n < 0), if_pos h]; decide
end Go.Proofs.YtknelhceaoblhaaGreat.Cmp

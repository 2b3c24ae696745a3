import Derived.Test.YtnjjmoefiacbhaaCmp
import Derived.Deep.QuietTactic
import Derived.BigQuiet
namespace Go.Proofs.Ytnjjmoefiacbhaa.Cmp
open Go.ChangeShapes Go.WideShapes Go.ChangeAt Go.RowKit
open Go.Proofs.Ytnjjmoefiacbhaa.Num Go.Proofs.Ytnjjmoefiacbhaa.Kit Go.Proofs.Ytnjjmoefiacbhaa.Pts
set_option linter.unusedVariables false
set_option linter.unusedSimpArgs false
theorem flo_bd {a b : Int} (hb : 1 ≤ b) : 0 ≤ a - flo a b * b ∧ a - flo a b * b < b := by
  have h : (a.tmod b).natAbs = a.natAbs % b.natAbs := Int.natAbs_tmod a b
  have h2 := Nat.mod_lt a.natAbs (show 0 < b.natAbs by omega)
  have h3 := Int.mul_tdiv_add_tmod a b
  unfold flo
  by_cases hm : a.tmod b < 0
  · rw [if_pos hm, Int.sub_mul, Int.mul_comm (a.tdiv b) b]; omega
  · rw [if_neg hm, Int.mul_comm (a.tdiv b) b]; omega
theorem flo_abs {a b : Int} (hb : 1 ≤ b) (M : Int) (h1 : -M ≤ a) (h2 : a ≤ M) : -M - 1 ≤ flo a b ∧ flo a b ≤ M := by
  obtain ⟨g1, g2⟩ := tdiv_bd hb M h1 h2
  unfold flo; by_cases hm : a.tmod b < 0
  · rw [if_pos hm]; omega
  · rw [if_neg hm]; omega
def RelC (T : Int) (s5 s6 s7 s8 s9 : Value) : Prop := ∃ a b c d g : Int, -100000000000000 ≤ a ∧ a ≤ 100000000000000 ∧ 1 ≤ b ∧ b ≤ 100000000000000 ∧ -100000000000000 ≤ c ∧ c ≤ 100000000000000 ∧ 1 ≤ d ∧ d ≤ 100000000000000 ∧
  (g = 1 ∨ g = -1) ∧ T = g * cmpZ (a * d) (c * b) ∧ s5 = .int .i64 a ∧ s6 = .int .i64 b ∧ s7 = .int .i64 c ∧ s8 = .int .i64 d ∧ s9 = .int .i64 g
end Go.Proofs.Ytnjjmoefiacbhaa.Cmp

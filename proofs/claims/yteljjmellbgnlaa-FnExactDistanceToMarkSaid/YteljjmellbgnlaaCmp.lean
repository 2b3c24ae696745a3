/- Contracts of comparing two products of two words (impl.compareProducts), over the library's Mul64. -/
import Derived.Test.YteljjmellbgnlaaMPts
import Derived.Test.YteljjmellbgnlaaShelf
import Derived.Deep.LoopGhost
namespace Go.Proofs.Yteljjmellbgnlaa.Cmp
open Go.ChangeShapes Go.WideShapes Go.ChangeAt Go.RowKit
open Go.Proofs.Yteljjmellbgnlaa.Num Go.Proofs.Yteljjmellbgnlaa.Kit Go.Proofs.Yteljjmellbgnlaa.Pts
set_option linter.unusedVariables false
set_option linter.unusedSimpArgs false

/-- -1, 0 or 1 as x is less than, equal to or greater than y. -/
def cmpZ (x y : Int) : Int := if x < y then -1 else if y < x then 1 else 0
theorem cmpZ_bd (x y : Int) : -1 ≤ cmpZ x y ∧ cmpZ x y ≤ 1 := by
  unfold cmpZ; by_cases h : x < y
  · rw [if_pos h]; decide
  · by_cases g : y < x
    · rw [if_neg h, if_pos g]; decide
    · rw [if_neg h, if_neg g]; decide
theorem cmpZ_lt {x y : Int} (h : x < y) : cmpZ x y = -1 := if_pos h
theorem cmpZ_gt {x y : Int} (h : y < x) : cmpZ x y = 1 := by unfold cmpZ; rw [if_neg (by omega), if_pos h]
theorem cmpZ_eq {x y : Int} (h : x = y) : cmpZ x y = 0 := by unfold cmpZ; rw [if_neg (by omega), if_neg (by omega)]
/-- By the upper words; where they are equal, by the lower ones. -/
theorem cmpZ_words (P Q : Int) : (if cmpZ (P / 18446744073709551616) (Q / 18446744073709551616) = 0 then cmpZ (P % 18446744073709551616) (Q % 18446744073709551616) else cmpZ (P / 18446744073709551616) (Q / 18446744073709551616)) = cmpZ P Q := by
  rcases Int.lt_trichotomy (P / 18446744073709551616) (Q / 18446744073709551616) with h | h | h
  · rw [cmpZ_lt h, if_neg (by decide), cmpZ_lt (by omega)]
  · rw [cmpZ_eq h, if_pos rfl]
    rcases Int.lt_trichotomy (P % 18446744073709551616) (Q % 18446744073709551616) with g | g | g
    · rw [cmpZ_lt g, cmpZ_lt (by omega)]
    · rw [cmpZ_eq g, cmpZ_eq (by omega)]
    · rw [cmpZ_gt g, cmpZ_gt (by omega)]
  · rw [cmpZ_gt h, if_neg (by decide), cmpZ_gt (by omega)]

/-- The first of two numbers that is not 0. -/
def orZ (x y : Int) : Int := if x = 0 then y else x
def RelO (x y : Int) (s : Value) : Prop := s = .int .i64 0 ∨ (s = .int .i64 1 ∧ x = 0) ∨ (s = .int .i64 2 ∧ x = 0 ∧ y = 0)
end Go.Proofs.Yteljjmellbgnlaa.Cmp

/- Contracts of the relations of two segments of chapter 2 (impl and spec): crossing and meeting. -/
import Derived.Test.YtcangdcakgcpaaaSeg
import Derived.Test.YtcangdcakgcpaaaOrd
namespace Go.Proofs.Ytcangdcakgcpaaa.Seg
open Go.ChangeShapes Go.WideShapes Go.ChangeAt Go.RowKit
open Go.Proofs.Ytcangdcakgcpaaa.Num Go.Proofs.Ytcangdcakgcpaaa.Kit Go.Proofs.Ytcangdcakgcpaaa.Pts
set_option linter.unusedVariables false
set_option linter.unusedSimpArgs false

/-- The ends of the second segment lie strictly on different sides of the first. -/
def sepB (a b c d p q u v : Int) : Bool := decide (sgn (crs a b c d p q) * sgn (crs a b c d u v) < 0)
/-- The point lies on the segment. -/
def onB (a b c d p q : Int) : Bool := (crs a b c d p q == 0) && decide ((a - p) * (c - p) + (b - q) * (d - q) ≤ 0)

theorem sgn_bd (n : Int) : -1 ≤ sgn n ∧ sgn n ≤ 1 := by
  unfold sgn; rcases Int.lt_trichotomy n 0 with h | h | h
  · rw [if_pos h]; decide
  · subst h; decide
  · rw [if_neg (by omega : ¬ n < 0), if_pos h]; decide
theorem sgn0 (n : Int) : sgn n = 0 ↔ n = 0 := by
  unfold sgn; rcases Int.lt_trichotomy n 0 with h | h | h
  · rw [if_pos h]; omega
  · subst h; decide
  · rw [if_neg (by omega : ¬ n < 0), if_pos h]; omega

end Go.Proofs.Ytcangdcakgcpaaa.Seg

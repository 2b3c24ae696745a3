import Derived.Test.YtplbahdomjeekaaGreatMPts
import Derived.Test.YtplbahdomjeekaaGreatOrd
namespace Go.Proofs.YtplbahdomjeekaaGreat.Seg
open Go.ChangeShapes Go.WideShapes Go.ChangeAt Go.RowKit
open Go.Proofs.YtplbahdomjeekaaGreat.Num Go.Proofs.YtplbahdomjeekaaGreat.Kit Go.Proofs.YtplbahdomjeekaaGreat.Pts
set_option linter.unusedVariables false
set_option linter.unusedSimpArgs false
def sepB (a b c d p q u v : Int) : Bool := decide (sgn (crs a b c d p q) * sgn (crs a b c d u v) < 0)
end Go.Proofs.YtplbahdomjeekaaGreat.Seg
namespace Go.Proofs.YtplbahdomjeekaaGreat.Crs
open Go.ChangeShapes Go.WideShapes Go.ChangeAt Go.RowKit
open Go.Proofs.YtplbahdomjeekaaGreat.Num Go.Proofs.YtplbahdomjeekaaGreat.Kit Go.Proofs.YtplbahdomjeekaaGreat.Pts Go.Proofs.YtplbahdomjeekaaGreat.Seg
set_option linter.unusedVariables false
set_option linter.unusedSimpArgs false
end Go.Proofs.YtplbahdomjeekaaGreat.Crs
namespace Go.Proofs.YtplbahdomjeekaaGreat.Gcd
open Go.ChangeShapes Go.WideShapes Go.ChangeAt Go.RowKit
open Go.Proofs.YtplbahdomjeekaaGreat.Num Go.Proofs.YtplbahdomjeekaaGreat.Kit Go.Proofs.YtplbahdomjeekaaGreat.Pts Go.Proofs.YtplbahdomjeekaaGreat.Seg
set_option linter.unusedVariables false
set_option linter.unusedSimpArgs false
theorem crs_bd {a b c d p q : Int} (ha : Co a) (hb : Co b) (hc : Co c) (hd : Co d) (hp : Co p) (hq : Co q) : -8000000000000 ≤ crs a b c d p q ∧ crs a b c d p q ≤ 8000000000000 := by
  obtain ⟨a1, a2⟩ := mul_bd (x := c - a) (y := q - b) 2000000 2000000 (by omega) (by omega)
  obtain ⟨b1, b2⟩ := mul_bd (x := d - b) (y := p - a) 2000000 2000000 (by omega) (by omega)
  simp only [Int.reduceMul, Int.reduceNeg] at a1 a2 b1 b2
  unfold crs; omega
theorem ab_bd {n M : Int} (h1 : -M ≤ n) (h2 : n ≤ M) : 0 ≤ ab n ∧ ab n ≤ M := by
  unfold ab; by_cases h : n < 0
  · rw [if_pos h]; omega
  · rw [if_neg h]; omega
end Go.Proofs.YtplbahdomjeekaaGreat.Gcd
namespace Go.Proofs.YtplbahdomjeekaaGreat.Gcd
open Go.ChangeShapes Go.WideShapes Go.ChangeAt Go.RowKit
open Go.Proofs.YtplbahdomjeekaaGreat.Num Go.Proofs.YtplbahdomjeekaaGreat.Kit Go.Proofs.YtplbahdomjeekaaGreat.Pts Go.Proofs.YtplbahdomjeekaaGreat.Seg
set_option linter.unusedVariables false
set_option linter.unusedSimpArgs false
end Go.Proofs.YtplbahdomjeekaaGreat.Gcd

/- Contracts of CrossingPlace (impl, spec), for all segments. -/
import Derived.Test.YtcangdcakgcpaaaGcd
import Derived.Test.YtcangdcakgcpaaaRel
namespace Go.Proofs.Ytcangdcakgcpaaa.Gcd
open Go.ChangeShapes Go.WideShapes Go.ChangeAt Go.RowKit
open Go.Proofs.Ytcangdcakgcpaaa.Num Go.Proofs.Ytcangdcakgcpaaa.Kit Go.Proofs.Ytcangdcakgcpaaa.Pts Go.Proofs.Ytcangdcakgcpaaa.Seg
set_option linter.unusedVariables false
set_option linter.unusedSimpArgs false

theorem crs_bd {a b c d p q : Int} (ha : Co a) (hb : Co b) (hc : Co c) (hd : Co d) (hp : Co p) (hq : Co q) : -8000000000000 ≤ crs a b c d p q ∧ crs a b c d p q ≤ 8000000000000 := by
  obtain ⟨a1, a2⟩ := mul_bd (x := c - a) (y := q - b) 2000000 2000000 (by omega) (by omega)
  obtain ⟨b1, b2⟩ := mul_bd (x := d - b) (y := p - a) 2000000 2000000 (by omega) (by omega)
  simp only [Int.reduceMul, Int.reduceNeg] at a1 a2 b1 b2
  unfold crs; omega
theorem ab_bd {n M : Int} (h1 : -M ≤ n) (h2 : n ≤ M) : 0 ≤ ab n ∧ ab n ≤ M := by
  unfold ab; by_cases h : n < 0
  · rw [if_pos h]; omega
  · rw [if_neg h]; omega
theorem sgn_cases (n : Int) : (n < 0 ∧ sgn n = -1) ∨ (n = 0 ∧ sgn n = 0) ∨ (0 < n ∧ sgn n = 1) := by
  unfold sgn; rcases Int.lt_trichotomy n 0 with h | h | h
  · exact .inl ⟨h, by rw [if_pos h]⟩
  · subst h; exact .inr (.inl ⟨rfl, rfl⟩)
  · exact .inr (.inr ⟨h, by rw [if_neg (by omega : ¬ n < 0), if_pos h]⟩)

/-- The place of the crossing, from the turns of both ends: numerator, denominator, code. -/
def plN (A B : Int) : Int := if sgn A = sgn B then 0 else ab A / gc (ab A) (ab (A - B))
def plD (A B : Int) : Int := if sgn A = sgn B then 0 else ab (A - B) / gc (ab A) (ab (A - B))
def plC (A B : Int) : Int := if sgn A = sgn B then 4 else 0
/-- What both CrossingPlaces answer. -/
def cpN (a b c d p q u v : Int) : Int := if sgB a b c d = true ∧ sgB p q u v = true then plN (crs p q u v a b) (crs p q u v c d) else 0
def cpD (a b c d p q u v : Int) : Int := if sgB a b c d = true ∧ sgB p q u v = true then plD (crs p q u v a b) (crs p q u v c d) else 0
def cpC (a b c d p q u v : Int) : Int := if sgB a b c d = true ∧ sgB p q u v = true then plC (crs p q u v a b) (crs p q u v c d) else 1

theorem ret_pt_int {x y z x' y' z' : Int} (h : x' = x) (g : y' = y) (k : z' = z) : Ending.returned (.tuple #[Pt x y, .int .i64 z]) = .returned (.tuple #[Pt x' y', .int .i64 z']) := by rw [h, g, k]

end Go.Proofs.Ytcangdcakgcpaaa.Gcd

/- Contracts of NearestPlace (impl, spec). -/
import Derived.Test.YtcangdcakgcpaaaPlace
namespace Go.Proofs.Ytcangdcakgcpaaa.Gcd
open Go.ChangeShapes Go.WideShapes Go.ChangeAt Go.RowKit
open Go.Proofs.Ytcangdcakgcpaaa.Num Go.Proofs.Ytcangdcakgcpaaa.Kit Go.Proofs.Ytcangdcakgcpaaa.Pts Go.Proofs.Ytcangdcakgcpaaa.Seg
set_option linter.unusedVariables false
set_option linter.unusedSimpArgs false

/-- The square of a segment's length; how far a point is along it (times its length). -/
def sqL (a b c d : Int) : Int := (c - a) * (c - a) + (d - b) * (d - b)
def alg (a b c d p q : Int) : Int := (c - a) * (p - a) + (d - b) * (q - b)
/-- Between 0 and m. -/
def cl (n m : Int) : Int := if n < 0 then 0 else if m < n then m else n
theorem sqn (a : Int) : 0 ≤ a * a := by
  rcases Int.le_total 0 a with h | h
  · exact Int.mul_nonneg h h
  · exact Int.mul_nonneg_of_nonpos_of_nonpos h h
theorem sqL_bd {a b c d : Int} (ha : Co a) (hb : Co b) (hc : Co c) (hd : Co d) (hne : ¬ (a = c ∧ b = d)) : 1 ≤ sqL a b c d ∧ sqL a b c d ≤ 8000000000000 := by
  obtain ⟨a1, a2⟩ := mul_bd (x := c - a) (y := c - a) 2000000 2000000 (by omega) (by omega)
  obtain ⟨b1, b2⟩ := mul_bd (x := d - b) (y := d - b) 2000000 2000000 (by omega) (by omega)
  simp only [Int.reduceMul, Int.reduceNeg] at a1 a2 b1 b2
  have s1 := sqn (c - a)
  have s2 := sqn (d - b)
  unfold sqL
  refine ⟨?_, by omega⟩
  rcases Int.lt_or_le 0 ((c - a) * (c - a) + (d - b) * (d - b)) with h | h
  · omega
  · exfalso
    have e1 : (c - a) * (c - a) = 0 := by omega
    have e2 : (d - b) * (d - b) = 0 := by omega
    have f1 : c - a = 0 := by rcases Int.mul_eq_zero.1 e1 with h | h <;> exact h
    have f2 : d - b = 0 := by rcases Int.mul_eq_zero.1 e2 with h | h <;> exact h
    exact hne ⟨by omega, by omega⟩
theorem alg_bd {a b c d p q : Int} (ha : Co a) (hb : Co b) (hc : Co c) (hd : Co d) (hp : Co p) (hq : Co q) : -8000000000000 ≤ alg a b c d p q ∧ alg a b c d p q ≤ 8000000000000 := by
  obtain ⟨a1, a2⟩ := mul_bd (x := c - a) (y := p - a) 2000000 2000000 (by omega) (by omega)
  obtain ⟨b1, b2⟩ := mul_bd (x := d - b) (y := q - b) 2000000 2000000 (by omega) (by omega)
  simp only [Int.reduceMul, Int.reduceNeg] at a1 a2 b1 b2
  unfold alg; omega

/-- The nearest place in lowest terms. -/
def neK (a b c d p q : Int) : Int := cl (alg a b c d p q) (sqL a b c d)
def neN (a b c d p q : Int) : Int := neK a b c d p q / gc (neK a b c d p q) (sqL a b c d)
def neD (a b c d p q : Int) : Int := sqL a b c d / gc (neK a b c d p q) (sqL a b c d)

end Go.Proofs.Ytcangdcakgcpaaa.Gcd

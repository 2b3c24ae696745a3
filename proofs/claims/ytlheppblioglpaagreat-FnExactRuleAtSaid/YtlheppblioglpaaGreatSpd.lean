/- Contracts of SpeedOf (impl, spec). -/
import Derived.Test.YtlheppblioglpaaGreatWay
import Derived.Test.YtlheppblioglpaaGreatRoot
namespace Go.Proofs.YtlheppblioglpaaGreat.Trk
open Go.ChangeShapes Go.WideShapes Go.ChangeAt Go.RowKit
open Go.Proofs.YtlheppblioglpaaGreat.Num Go.Proofs.YtlheppblioglpaaGreat.Kit Go.Proofs.YtlheppblioglpaaGreat.Pts Go.Proofs.YtlheppblioglpaaGreat.Seg Go.Proofs.YtlheppblioglpaaGreat.Rt Go.Proofs.YtlheppblioglpaaGreat.Root
set_option linter.unusedVariables false
set_option linter.unusedSimpArgs false

/-- The square of a leg's length. -/
def sqI (fs : List F3) (k : Nat) : Int := hdX fs k * hdX fs k + hdY fs k * hdY fs k
/-- What the root is taken of. -/
def spQ (fs : List F3) (k : Nat) : Int := sqI fs k * 1000000 / (durI fs k * durI fs k)
/-- The speed of a leg. -/
def spI (fs : List F3) (k : Nat) : Int := rt (if spQ fs k ≤ 1000000000000 then spQ fs k else 1000000000000)

theorem leg_bounds {fs : List F3} (hv : trB fs = true) {k : Nat} (hk : k + 1 < fs.length) :
    (Co (fx fs k).x ∧ Co (fx fs k).y ∧ Co (fx fs (k + 1)).x ∧ Co (fx fs (k + 1)).y) ∧ 1 ≤ durI fs k ∧ durI fs k ≤ 1000000000 := by
  obtain ⟨_, hok⟩ := trB_yes hv
  obtain ⟨t0, p0⟩ := fxB_yes (okB_fx (hok k (by omega)))
  obtain ⟨t1, p1⟩ := fxB_yes (okB_fx (hok (k + 1) hk))
  have := okB_lt (hok (k + 1) hk)
  exact ⟨⟨p0.1, p0.2, p1.1, p1.2⟩, by unfold durI; omega, by unfold durI; omega⟩

theorem sq_nonneg (x : Int) : 0 ≤ x * x := by
  rcases Int.le_total 0 x with h | h
  · exact Int.mul_nonneg h h
  · exact Int.mul_nonneg_of_nonpos_of_nonpos h h
theorem sqI_bounds {fs : List F3} (hv : trB fs = true) {k : Nat} (hk : k + 1 < fs.length) : 0 ≤ sqI fs k ∧ sqI fs k ≤ 8000000000000 := by
  obtain ⟨⟨a, b, c, d⟩, _⟩ := leg_bounds hv hk
  obtain ⟨_, h1⟩ := mul_bd (x := hdX fs k) (y := hdX fs k) 2000000 2000000 (by unfold hdX; omega) (by unfold hdX; omega)
  obtain ⟨_, h2⟩ := mul_bd (x := hdY fs k) (y := hdY fs k) 2000000 2000000 (by unfold hdY; omega) (by unfold hdY; omega)
  have := sq_nonneg (hdX fs k)
  have := sq_nonneg (hdY fs k)
  simp only [Int.reduceMul] at h1 h2
  unfold sqI
  exact ⟨by omega, by omega⟩

/-- What SpeedOf answers: the speed and the code. -/
def spC (fs : List F3) (l : Int) : Int := if trB fs = true then (if 0 ≤ l ∧ l + 1 < fs.length then 0 else 4) else 1
def spV (fs : List F3) (l : Int) : Int := if spC fs l = 0 then spI fs l.toNat else 0
theorem spC_bad {fs : List F3} {l : Int} (h : trB fs = false) : spC fs l = 1 := by unfold spC; rw [h]; simp
theorem spC_out {fs : List F3} {l : Int} (h : trB fs = true) (g : ¬ (0 ≤ l ∧ l + 1 < fs.length)) : spC fs l = 4 := by unfold spC; rw [if_pos h, if_neg g]
theorem spC_in {fs : List F3} {l : Int} (h : trB fs = true) (g : 0 ≤ l ∧ l + 1 < fs.length) : spC fs l = 0 := by unfold spC; rw [if_pos h, if_pos g]

/-- Is a number that of a leg? -/
def hlB (fs : List F3) (l : Int) : Bool := decide (0 ≤ l ∧ l + 1 < (fs.length : Int))
end Go.Proofs.YtlheppblioglpaaGreat.Trk

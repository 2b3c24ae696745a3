/- Contracts of the search for the leg at a time, third part: legAt (impl), l03Leg (spec), LegAt of both. -/
import Derived.Test.YtccggjhmnbebbaaLeg3
namespace Go.Proofs.Ytccggjhmnbebbaa.Trk
open Go.ChangeShapes Go.WideShapes Go.ChangeAt Go.RowKit
open Go.Proofs.Ytccggjhmnbebbaa.Num Go.Proofs.Ytccggjhmnbebbaa.Kit Go.Proofs.Ytccggjhmnbebbaa.Pts
set_option linter.unusedVariables false
set_option linter.unusedSimpArgs false

theorem lastB_yes {fs : List F3} {t : Int} (h : lastB fs t = true) : (fx fs 0).t ≤ t ∧ t ≤ (fx fs (fs.length - 1)).t := by simpa [lastB, inB] using h

theorem times_le {fs : List F3} (h : trB fs = true) (i j : Nat) (hij : i ≤ j) (hj : j < fs.length) : (fx fs i).t ≤ (fx fs j).t := by
  by_cases e : i = j
  · subst e; omega
  · have := times_lt h i j (by omega) hj; omega

/-- What l03Leg keeps. -/
def RelL (w : World) (fs : List F3) (t : Int) (k i : Value) (wr : World) : Prop := ∃ n : Nat, i = .int .i64 n ∧ k = .int .i64 (legUp fs t n) ∧ n ≤ fs.length - 1 ∧ Ext w wr

/-- The leg that LegAt answers. -/
def lgI (fs : List F3) (t : Int) : Int := if ctI fs t = 0 then (legOf fs t : Int) else 0

end Go.Proofs.Ytccggjhmnbebbaa.Trk

/- Contracts of RootOf (impl, spec): both answer the integer root. -/
import Derived.Test.YtccggjhmnbebbaaBase
import Derived.Test.YtccggjhmnbebbaaRt
import Derived.Deep.LoopGhost
namespace Go.Proofs.Ytccggjhmnbebbaa.Root
open Go.ChangeShapes Go.WideShapes Go.ChangeAt Go.RowKit
open Go.Proofs.Ytccggjhmnbebbaa.Num Go.Proofs.Ytccggjhmnbebbaa.Rt
set_option linter.unusedVariables false

theorem sq_bd {m : Int} (h0 : 0 ≤ m) (h1 : m ≤ 1000000001) : 0 ≤ m * m ∧ m * m ≤ 1000000002000000001 := by
  have a := sq_le (a := 0) (b := m) (by omega) h0
  have b := sq_le (a := m) (b := 1000000001) h0 h1
  simp only [Int.reduceMul] at a b
  omega

/-- What the loop of l01Root keeps. -/
def RelS (n : Int) (s t : Value) : Prop := ∃ lo hi : Int, 0 ≤ lo ∧ lo < hi ∧ hi ≤ 1000000001 ∧ lo * lo ≤ n ∧ n < hi * hi ∧ s = .int .i64 lo ∧ t = .int .i64 hi

/-- What RootOf's loop keeps. -/
def RelI (n : Int) (s t : Value) : Prop := ∃ lo hi : Int, 0 ≤ lo ∧ lo ≤ hi ∧ hi ≤ 1000000000 ∧ lo * lo ≤ n ∧ n < (hi + 1) * (hi + 1) ∧ s = .int .i64 lo ∧ t = .int .i64 hi

def roQ (n : Int) : Int := if 0 ≤ n ∧ n ≤ 1000000000000000000 then rt n else 0
def roC (n : Int) : Int := if 0 ≤ n ∧ n ≤ 1000000000000000000 then 0 else 2

end Go.Proofs.Ytccggjhmnbebbaa.Root

/- Contracts of the ways in which two segments have a common point (impl). -/
import Derived.Test.YtcangdcakgcpaaaRel
import Derived.Laws.EntriesVeiled
import Derived.Deep.LoopGhost
namespace Go.Proofs.Ytcangdcakgcpaaa.Seg
open Go.ChangeShapes Go.WideShapes Go.ChangeAt Go.RowKit
open Go.Proofs.Ytcangdcakgcpaaa.Num Go.Proofs.Ytcangdcakgcpaaa.Kit Go.Proofs.Ytcangdcakgcpaaa.Pts
set_option linter.unusedVariables false
set_option linter.unusedSimpArgs false

/-- Two segments cross properly. -/
def crB (a b c d p q u v : Int) : Bool := sepB a b c d p q u v && sepB p q u v a b c d
/-- An end of the second segment lies on the first. -/
def endB (a b c d p q u v : Int) : Bool := onB a b c d p q || onB a b c d u v

abbrev Fv (f : FuncId) : Value := .func (.func f) #[] #[]

/-- What haveCommonPoint answers of valid segments. -/
def hvB (a b c d p q u v : Int) (z : Bool) : Bool := crB a b c d p q u v || (!z && (endB a b c d p q u v || endB p q u v a b c d))
/-- What its loop keeps. -/
def RelH (w : World) (a b c d p q u v : Int) (z : Bool) (i : Value) (wr : World) : Prop :=
  (i = .int .i64 0 ∨ (i = .int .i64 1 ∧ crB a b c d p q u v = false) ∨ (i = .int .i64 2 ∧ crB a b c d p q u v = false ∧ (z = true ∨ endB a b c d p q u v = false)) ∨
    (i = .int .i64 3 ∧ crB a b c d p q u v = false ∧ (z = true ∨ endB a b c d p q u v = false) ∧ (z = true ∨ endB p q u v a b c d = false))) ∧
  Ext w wr ∧ Box wr w.heap.size [.int .i64 a, .int .i64 b, .int .i64 c, .int .i64 d] ∧ Box wr (w.heap.size + 1) [.int .i64 p, .int .i64 q, .int .i64 u, .int .i64 v]
theorem ret_bool_int {k : IntKind} {a b : Bool} {c d : Int} (h : b = a) (g : d = c) : Ending.returned (.tuple #[.bool a, .int k c]) = .returned (.tuple #[.bool b, .int k d]) := by rw [h, g]

end Go.Proofs.Ytcangdcakgcpaaa.Seg

import Derived.Test.YtpdnefodbichkaaRel
import Derived.Laws.EntriesVeiled
import Derived.Deep.LoopGhost
namespace Go.Proofs.Ytpdnefodbichkaa.Seg
open Go.ChangeShapes Go.WideShapes Go.ChangeAt Go.RowKit
open Go.Proofs.Ytpdnefodbichkaa.Num Go.Proofs.Ytpdnefodbichkaa.Kit Go.Proofs.Ytpdnefodbichkaa.Pts
set_option linter.unusedVariables false
set_option linter.unusedSimpArgs false
def crB (a b c d p q u v : Int) : Bool := sepB a b c d p q u v && sepB p q u v a b c d
theorem ret_bool_int {k : IntKind} {a b : Bool} {c d : Int} (h : b = a) (g : d = c) : Ending.returned (.tuple #[.bool a, .int k c]) = .returned (.tuple #[.bool b, .int k d]) := by rw [h, g]
end Go.Proofs.Ytpdnefodbichkaa.Seg

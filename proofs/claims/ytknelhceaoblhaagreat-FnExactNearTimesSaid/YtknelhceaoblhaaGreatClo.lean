import Derived.Test.YtknelhceaoblhaaGreatMNum
import Derived.JoinedOf
namespace Go.Proofs.YtknelhceaoblhaaGreat.Clo
open Go.ChangeShapes Go.WideShapes Go.ChangeAt Go.RowKit
set_option linter.unusedVariables false
set_option maxRecDepth 100000 in
theorem laid : laidOutB Tryz.pinned.checked.prog = true := by kernel_rfl
set_option maxRecDepth 100000 in
theorem rowed : mapsRowed Tryz.pinned.checked.prog = true := by kernel_rfl
set_option maxRecDepth 100000 in
theorem heard : Tryz.pinned.checked.prog.stopsHeard = true := by kernel_rfl
set_option maxRecDepth 100000 in
theorem enter : Tryz.pinned.checked.prog.mayEnter = true := by kernel_rfl
set_option maxRecDepth 100000 in
theorem lifts : Tryz.pinned.checked.prog.liftsFinal = false := by kernel_rfl
set_option maxRecDepth 100000 in
theorem made : Tryz.pinned.checked.prog.make = some .cut := by kernel_rfl
end Go.Proofs.YtknelhceaoblhaaGreat.Clo

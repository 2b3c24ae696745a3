/- Closed facts of the whole program, once for all laws of a seat (the kernel's memory: together with a law's own they pass 10 GB at a great program). -/
import Derived.Test.YtknelhceaoblhaaDoorNum
import Derived.JoinedOf
namespace Go.Proofs.YtknelhceaoblhaaDoor.Clo
open Go.ChangeShapes Go.WideShapes Go.ChangeAt Go.RowKit
set_option linter.unusedVariables false

set_option maxRecDepth 100000 in
theorem laid : laidOutB Tryd.pinned.checked.prog = true := by kernel_rfl
set_option maxRecDepth 100000 in
theorem rowed : mapsRowed Tryd.pinned.checked.prog = true := by kernel_rfl
set_option maxRecDepth 100000 in
theorem heard : Tryd.pinned.checked.prog.stopsHeard = true := by kernel_rfl
set_option maxRecDepth 100000 in
theorem enter : Tryd.pinned.checked.prog.mayEnter = true := by kernel_rfl
set_option maxRecDepth 100000 in
theorem lifts : Tryd.pinned.checked.prog.liftsFinal = false := by kernel_rfl
set_option maxRecDepth 100000 in
theorem made : Tryd.pinned.checked.prog.make = some .cut := by kernel_rfl

end Go.Proofs.YtknelhceaoblhaaDoor.Clo

/- Closed facts of the whole program, once for all laws of a seat (the kernel's memory: together with a law's own they pass 10 GB at a great program). -/
import Derived.Test.YtknelhceaoblhaaNum
import Derived.JoinedOf
namespace Go.Proofs.Ytknelhceaoblhaa.Clo
open Go.ChangeShapes Go.WideShapes Go.ChangeAt Go.RowKit
set_option linter.unusedVariables false

set_option maxRecDepth 100000 in
theorem laid : laidOutB Try.pinned.checked.prog = true := by kernel_rfl
set_option maxRecDepth 100000 in
theorem rowed : mapsRowed Try.pinned.checked.prog = true := by kernel_rfl
set_option maxRecDepth 100000 in
theorem heard : Try.pinned.checked.prog.stopsHeard = true := by kernel_rfl
set_option maxRecDepth 100000 in
theorem enter : Try.pinned.checked.prog.mayEnter = true := by kernel_rfl
set_option maxRecDepth 100000 in
theorem lifts : Try.pinned.checked.prog.liftsFinal = false := by kernel_rfl
set_option maxRecDepth 100000 in
theorem made : Try.pinned.checked.prog.make = some .cut := by kernel_rfl

end Go.Proofs.Ytknelhceaoblhaa.Clo

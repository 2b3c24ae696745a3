/-
  No cell of these rows narrows 'for every input' (looked for: loops, veiled, ifaces, maps, wideKeys, modest, calm, conditions, laid).
  DERIVED. THE GIVEN ROWS OF THIS SEAT. 12 by the template 'for every input the law returns true; each argument reads behind the call as it read before'; 0 by the template 'total and deterministic' (their statements: YtichcamknpccpaaTotals.lean).
  GIVEN WITH THE SEED: the statements are not yours to turn. If you find one false, say at which input.
  Laid BY PROGRAM, IN A SANDBOX (cutbox-rows.mjs): the forced cells as the released guide's own fill.sh prints them over the translation 6ea0719c1d741b9a… (all of the seat's roots in one cut). By AI agents, Wed Nov 11 2026. No macro, syntax, notation, axiom, sorry.
-/
import Derived.Test.YtichcamknpccpaaChecked
import GoSem.Claim
import GoSem.ClaimJoined
import GoSem.ClaimMapViews
import Derived.JoinedTies
import Derived.KernelRfl
namespace Go.Proofs.Ytichcamknpccpaa
/- THE CELL 'sum', in the pinned program and in every row, IS THE sha256 OF THE DUMP (.gsa) THAT YtichcamknpccpaaProg.lean LOADS. Nothing in Lean hashes anything: it is a label: what it is worth is what the hold of that sum in a sandbox is worth. -/
noncomputable def Try.pinned : Pinned := { name := "ytichcamknpccpaa", sum := "6ea0719c1d741b9a4d98194d1e1a03f90c869783e1a5657233d94a1a851d1d2d", checked := Try.checked }
namespace Rows
def none {H : Type} : Left H := { results := [], args := [] }

/-- 'laws.FnWay': WHATEVER THE INPUT: true; the input reads as it did. -/
def fnWaySpec : ChangeSpec := { name := "fnWay", fn := fun _ => fun
  | [d] => { results := [.lit (.bool true)], args := [d] }
  | _ => none }
def fnWayRow : OpenClaim := { program := "ytichcamknpccpaa", sum := "6ea0719c1d741b9a4d98194d1e1a03f90c869783e1a5657233d94a1a851d1d2d", func := "loop.example/g00887/laws.FnWay", spec := "fnWay", apart := false }
def FnWaySaid : Prop := fnWayRow.holds Try.pinned (OpenSpec.ofChange fnWaySpec)

/-- ITS FALSE NEIGHBOUR: 'it returns false'. Refute it at one input. -/
def fnWayWrong : ChangeSpec := { name := "fnWay", fn := fun _ => fun
  | [d] => { results := [.lit (.bool false)], args := [d] }
  | _ => none }
def FnWayWrongFalsely : Prop := fnWayRow.holds Try.pinned (OpenSpec.ofChange fnWayWrong)

/-- 'laws.FnCrossings': WHATEVER THE INPUT: true; the input reads as it did. -/
def fnCrossingsSpec : ChangeSpec := { name := "fnCrossings", fn := fun _ => fun
  | [d] => { results := [.lit (.bool true)], args := [d] }
  | _ => none }
def fnCrossingsRow : OpenClaim := { program := "ytichcamknpccpaa", sum := "6ea0719c1d741b9a4d98194d1e1a03f90c869783e1a5657233d94a1a851d1d2d", func := "loop.example/g00887/laws.FnCrossings", spec := "fnCrossings", unfollowed := true, recurses := true, named := ["math/bits.divideError", "math/bits.overflowError"], apart := false }
def FnCrossingsSaid : Prop := fnCrossingsRow.holds Try.pinned (OpenSpec.ofChange fnCrossingsSpec)

/-- ITS FALSE NEIGHBOUR: 'it returns false'. Refute it at one input. -/
def fnCrossingsWrong : ChangeSpec := { name := "fnCrossings", fn := fun _ => fun
  | [d] => { results := [.lit (.bool false)], args := [d] }
  | _ => none }
def FnCrossingsWrongFalsely : Prop := fnCrossingsRow.holds Try.pinned (OpenSpec.ofChange fnCrossingsWrong)

/-- 'laws.FnFirstCrossing': WHATEVER THE INPUT: true; the input reads as it did. -/
def fnFirstCrossingSpec : ChangeSpec := { name := "fnFirstCrossing", fn := fun _ => fun
  | [d] => { results := [.lit (.bool true)], args := [d] }
  | _ => none }
def fnFirstCrossingRow : OpenClaim := { program := "ytichcamknpccpaa", sum := "6ea0719c1d741b9a4d98194d1e1a03f90c869783e1a5657233d94a1a851d1d2d", func := "loop.example/g00887/laws.FnFirstCrossing", spec := "fnFirstCrossing", unfollowed := true, recurses := true, named := ["math/bits.divideError", "math/bits.overflowError"], apart := false }
def FnFirstCrossingSaid : Prop := fnFirstCrossingRow.holds Try.pinned (OpenSpec.ofChange fnFirstCrossingSpec)

/-- ITS FALSE NEIGHBOUR: 'it returns false'. Refute it at one input. -/
def fnFirstCrossingWrong : ChangeSpec := { name := "fnFirstCrossing", fn := fun _ => fun
  | [d] => { results := [.lit (.bool false)], args := [d] }
  | _ => none }
def FnFirstCrossingWrongFalsely : Prop := fnFirstCrossingRow.holds Try.pinned (OpenSpec.ofChange fnFirstCrossingWrong)

/-- 'laws.FnCompareCrossings': WHATEVER THE INPUT: true; the input reads as it did. -/
def fnCompareCrossingsSpec : ChangeSpec := { name := "fnCompareCrossings", fn := fun _ => fun
  | [d] => { results := [.lit (.bool true)], args := [d] }
  | _ => none }
def fnCompareCrossingsRow : OpenClaim := { program := "ytichcamknpccpaa", sum := "6ea0719c1d741b9a4d98194d1e1a03f90c869783e1a5657233d94a1a851d1d2d", func := "loop.example/g00887/laws.FnCompareCrossings", spec := "fnCompareCrossings", named := ["math/bits.divideError", "math/bits.overflowError"], apart := false }
def FnCompareCrossingsSaid : Prop := fnCompareCrossingsRow.holds Try.pinned (OpenSpec.ofChange fnCompareCrossingsSpec)

/-- ITS FALSE NEIGHBOUR: 'it returns false'. Refute it at one input. -/
def fnCompareCrossingsWrong : ChangeSpec := { name := "fnCompareCrossings", fn := fun _ => fun
  | [d] => { results := [.lit (.bool false)], args := [d] }
  | _ => none }
def FnCompareCrossingsWrongFalsely : Prop := fnCompareCrossingsRow.holds Try.pinned (OpenSpec.ofChange fnCompareCrossingsWrong)

/-- 'laws.FnExactPointAt': WHATEVER THE INPUT: true; the input reads as it did. -/
def fnExactPointAtSpec : ChangeSpec := { name := "fnExactPointAt", fn := fun _ => fun
  | [d1, d2] => { results := [.lit (.bool true)], args := [d1, d2] }
  | _ => none }
def fnExactPointAtRow : OpenClaim := { program := "ytichcamknpccpaa", sum := "6ea0719c1d741b9a4d98194d1e1a03f90c869783e1a5657233d94a1a851d1d2d", func := "loop.example/g00887/laws.FnExactPointAt", spec := "fnExactPointAt", named := ["math/bits.divideError", "math/bits.overflowError"], apart := false }
def FnExactPointAtSaid : Prop := fnExactPointAtRow.holds Try.pinned (OpenSpec.ofChange fnExactPointAtSpec)

/-- ITS FALSE NEIGHBOUR: 'it returns false'. Refute it at one input. -/
def fnExactPointAtWrong : ChangeSpec := { name := "fnExactPointAt", fn := fun _ => fun
  | [d1, d2] => { results := [.lit (.bool false)], args := [d1, d2] }
  | _ => none }
def FnExactPointAtWrongFalsely : Prop := fnExactPointAtRow.holds Try.pinned (OpenSpec.ofChange fnExactPointAtWrong)

/-- 'laws.FnExactWayAcross': WHATEVER THE INPUT: true; the input reads as it did. -/
def fnExactWayAcrossSpec : ChangeSpec := { name := "fnExactWayAcross", fn := fun _ => fun
  | [d1, d2, d3] => { results := [.lit (.bool true)], args := [d1, d2, d3] }
  | _ => none }
def fnExactWayAcrossRow : OpenClaim := { program := "ytichcamknpccpaa", sum := "6ea0719c1d741b9a4d98194d1e1a03f90c869783e1a5657233d94a1a851d1d2d", func := "loop.example/g00887/laws.FnExactWayAcross", spec := "fnExactWayAcross", apart := false }
def FnExactWayAcrossSaid : Prop := fnExactWayAcrossRow.holds Try.pinned (OpenSpec.ofChange fnExactWayAcrossSpec)

/-- ITS FALSE NEIGHBOUR: 'it returns false'. Refute it at one input. -/
def fnExactWayAcrossWrong : ChangeSpec := { name := "fnExactWayAcross", fn := fun _ => fun
  | [d1, d2, d3] => { results := [.lit (.bool false)], args := [d1, d2, d3] }
  | _ => none }
def FnExactWayAcrossWrongFalsely : Prop := fnExactWayAcrossRow.holds Try.pinned (OpenSpec.ofChange fnExactWayAcrossWrong)

/-- 'laws.FnExactCrossingsOf': WHATEVER THE INPUT: true; the input reads as it did. -/
def fnExactCrossingsOfSpec : ChangeSpec := { name := "fnExactCrossingsOf", fn := fun _ => fun
  | [d1, d2] => { results := [.lit (.bool true)], args := [d1, d2] }
  | _ => none }
def fnExactCrossingsOfRow : OpenClaim := { program := "ytichcamknpccpaa", sum := "6ea0719c1d741b9a4d98194d1e1a03f90c869783e1a5657233d94a1a851d1d2d", func := "loop.example/g00887/laws.FnExactCrossingsOf", spec := "fnExactCrossingsOf", unfollowed := true, recurses := true, named := ["math/bits.divideError", "math/bits.overflowError"], apart := false }
def FnExactCrossingsOfSaid : Prop := fnExactCrossingsOfRow.holds Try.pinned (OpenSpec.ofChange fnExactCrossingsOfSpec)

/-- ITS FALSE NEIGHBOUR: 'it returns false'. Refute it at one input. -/
def fnExactCrossingsOfWrong : ChangeSpec := { name := "fnExactCrossingsOf", fn := fun _ => fun
  | [d1, d2] => { results := [.lit (.bool false)], args := [d1, d2] }
  | _ => none }
def FnExactCrossingsOfWrongFalsely : Prop := fnExactCrossingsOfRow.holds Try.pinned (OpenSpec.ofChange fnExactCrossingsOfWrong)

/-- 'laws.FnExactFirstCrossing': WHATEVER THE INPUT: true; the input reads as it did. -/
def fnExactFirstCrossingSpec : ChangeSpec := { name := "fnExactFirstCrossing", fn := fun _ => fun
  | [d1, d2, d3, d4] => { results := [.lit (.bool true)], args := [d1, d2, d3, d4] }
  | _ => none }
def fnExactFirstCrossingRow : OpenClaim := { program := "ytichcamknpccpaa", sum := "6ea0719c1d741b9a4d98194d1e1a03f90c869783e1a5657233d94a1a851d1d2d", func := "loop.example/g00887/laws.FnExactFirstCrossing", spec := "fnExactFirstCrossing", unfollowed := true, recurses := true, named := ["math/bits.divideError", "math/bits.overflowError"], apart := false }
def FnExactFirstCrossingSaid : Prop := fnExactFirstCrossingRow.holds Try.pinned (OpenSpec.ofChange fnExactFirstCrossingSpec)

/-- ITS FALSE NEIGHBOUR: 'it returns false'. Refute it at one input. -/
def fnExactFirstCrossingWrong : ChangeSpec := { name := "fnExactFirstCrossing", fn := fun _ => fun
  | [d1, d2, d3, d4] => { results := [.lit (.bool false)], args := [d1, d2, d3, d4] }
  | _ => none }
def FnExactFirstCrossingWrongFalsely : Prop := fnExactFirstCrossingRow.holds Try.pinned (OpenSpec.ofChange fnExactFirstCrossingWrong)

/-- 'laws.FnExactCountCrossings': WHATEVER THE INPUT: true; the input reads as it did. -/
def fnExactCountCrossingsSpec : ChangeSpec := { name := "fnExactCountCrossings", fn := fun _ => fun
  | [d1, d2] => { results := [.lit (.bool true)], args := [d1, d2] }
  | _ => none }
def fnExactCountCrossingsRow : OpenClaim := { program := "ytichcamknpccpaa", sum := "6ea0719c1d741b9a4d98194d1e1a03f90c869783e1a5657233d94a1a851d1d2d", func := "loop.example/g00887/laws.FnExactCountCrossings", spec := "fnExactCountCrossings", unfollowed := true, recurses := true, named := ["math/bits.divideError", "math/bits.overflowError"], apart := false }
def FnExactCountCrossingsSaid : Prop := fnExactCountCrossingsRow.holds Try.pinned (OpenSpec.ofChange fnExactCountCrossingsSpec)

/-- ITS FALSE NEIGHBOUR: 'it returns false'. Refute it at one input. -/
def fnExactCountCrossingsWrong : ChangeSpec := { name := "fnExactCountCrossings", fn := fun _ => fun
  | [d1, d2] => { results := [.lit (.bool false)], args := [d1, d2] }
  | _ => none }
def FnExactCountCrossingsWrongFalsely : Prop := fnExactCountCrossingsRow.holds Try.pinned (OpenSpec.ofChange fnExactCountCrossingsWrong)

/-- 'laws.FnExactCrossingPoint': WHATEVER THE INPUT: true; the input reads as it did. -/
def fnExactCrossingPointSpec : ChangeSpec := { name := "fnExactCrossingPoint", fn := fun _ => fun
  | [d1, d2, d3] => { results := [.lit (.bool true)], args := [d1, d2, d3] }
  | _ => none }
def fnExactCrossingPointRow : OpenClaim := { program := "ytichcamknpccpaa", sum := "6ea0719c1d741b9a4d98194d1e1a03f90c869783e1a5657233d94a1a851d1d2d", func := "loop.example/g00887/laws.FnExactCrossingPoint", spec := "fnExactCrossingPoint", unfollowed := true, recurses := true, named := ["math/bits.divideError", "math/bits.overflowError"], apart := false }
def FnExactCrossingPointSaid : Prop := fnExactCrossingPointRow.holds Try.pinned (OpenSpec.ofChange fnExactCrossingPointSpec)

/-- ITS FALSE NEIGHBOUR: 'it returns false'. Refute it at one input. -/
def fnExactCrossingPointWrong : ChangeSpec := { name := "fnExactCrossingPoint", fn := fun _ => fun
  | [d1, d2, d3] => { results := [.lit (.bool false)], args := [d1, d2, d3] }
  | _ => none }
def FnExactCrossingPointWrongFalsely : Prop := fnExactCrossingPointRow.holds Try.pinned (OpenSpec.ofChange fnExactCrossingPointWrong)

/-- 'laws.FnExactSideAt': WHATEVER THE INPUT: true; the input reads as it did. -/
def fnExactSideAtSpec : ChangeSpec := { name := "fnExactSideAt", fn := fun _ => fun
  | [d1, d2, d3] => { results := [.lit (.bool true)], args := [d1, d2, d3] }
  | _ => none }
def fnExactSideAtRow : OpenClaim := { program := "ytichcamknpccpaa", sum := "6ea0719c1d741b9a4d98194d1e1a03f90c869783e1a5657233d94a1a851d1d2d", func := "loop.example/g00887/laws.FnExactSideAt", spec := "fnExactSideAt", unfollowed := true, recurses := true, named := ["math/bits.divideError", "math/bits.overflowError"], apart := false }
def FnExactSideAtSaid : Prop := fnExactSideAtRow.holds Try.pinned (OpenSpec.ofChange fnExactSideAtSpec)

/-- ITS FALSE NEIGHBOUR: 'it returns false'. Refute it at one input. -/
def fnExactSideAtWrong : ChangeSpec := { name := "fnExactSideAt", fn := fun _ => fun
  | [d1, d2, d3] => { results := [.lit (.bool false)], args := [d1, d2, d3] }
  | _ => none }
def FnExactSideAtWrongFalsely : Prop := fnExactSideAtRow.holds Try.pinned (OpenSpec.ofChange fnExactSideAtWrong)

/-- 'laws.FnExactCompareCrossings': WHATEVER THE INPUT: true; the input reads as it did. -/
def fnExactCompareCrossingsSpec : ChangeSpec := { name := "fnExactCompareCrossings", fn := fun _ => fun
  | [d1, d2, d3, d4] => { results := [.lit (.bool true)], args := [d1, d2, d3, d4] }
  | _ => none }
def fnExactCompareCrossingsRow : OpenClaim := { program := "ytichcamknpccpaa", sum := "6ea0719c1d741b9a4d98194d1e1a03f90c869783e1a5657233d94a1a851d1d2d", func := "loop.example/g00887/laws.FnExactCompareCrossings", spec := "fnExactCompareCrossings", named := ["math/bits.divideError", "math/bits.overflowError"], apart := false }
def FnExactCompareCrossingsSaid : Prop := fnExactCompareCrossingsRow.holds Try.pinned (OpenSpec.ofChange fnExactCompareCrossingsSpec)

/-- ITS FALSE NEIGHBOUR: 'it returns false'. Refute it at one input. -/
def fnExactCompareCrossingsWrong : ChangeSpec := { name := "fnExactCompareCrossings", fn := fun _ => fun
  | [d1, d2, d3, d4] => { results := [.lit (.bool false)], args := [d1, d2, d3, d4] }
  | _ => none }
def FnExactCompareCrossingsWrongFalsely : Prop := fnExactCompareCrossingsRow.holds Try.pinned (OpenSpec.ofChange fnExactCompareCrossingsWrong)

/- THE SECOND FORM. 'bulk': how many values and letters a reading holds, each counted each time it is reached (what is shared counts as often as it is met; a slice's spare places count too). A statement '..UptoSaid' is the law's where the arguments, and the package variables that the reading takes, are together of bulk at most 1048576: NARROWER than '..Said'. Prove '..Said' where nothing that the law and all that it calls make is longer than what came in: it says more and counts as full. Else prove '..UptoSaid'. A law counts once. -/
mutual
def uptoBulk {H : Type} : DataW H → Nat
  | .lit (.string bytes) => bytes.length + 1
  | .lit _ => 1
  | .nil => 1
  | .ptr d => uptoBulk d + 1
  | .slice elems spare => uptoBulkAll elems + uptoBulkAll spare + 1
  | .agg parts => uptoBulkAll parts + 1
  | .iface _ d => uptoBulk d + 1
  | .map entries => uptoBulkEntries entries + 1
  | .held _ => 1
def uptoBulkAll {H : Type} : List (DataW H) → Nat
  | [] => 0
  | d :: r => uptoBulk d + uptoBulkAll r
def uptoBulkEntries {H : Type} : List (Lit × DataW H) → Nat
  | [] => 0
  | x :: r => uptoBulkEntry x + uptoBulkEntries r
def uptoBulkEntry {H : Type} : Lit × DataW H → Nat
  | (.string bytes, d) => bytes.length + uptoBulk d + 1
  | (_, d) => uptoBulk d + 1
 end
def uptoSmall : (H : Type) → List (DataW H) → Bool := fun _ ds => decide (uptoBulkAll ds ≤ 1048576)
def OpenSpec.upto (s : _root_.Go.ChangeSpec) : _root_.Go.OpenSpec := { _root_.Go.OpenSpec.ofChange s with cond := some uptoSmall }

/-- 'laws.FnWay', WHERE WHAT IT READS IS OF BULK AT MOST 1048576: true; the input reads as it did. -/
def fnWayUptoRow : OpenClaim := { program := "ytichcamknpccpaa", sum := "6ea0719c1d741b9a4d98194d1e1a03f90c869783e1a5657233d94a1a851d1d2d", func := "loop.example/g00887/laws.FnWay", spec := "fnWay", apart := false, narrowed := true }
def FnWayUptoSaid : Prop := fnWayUptoRow.holds Try.pinned (OpenSpec.upto fnWaySpec)

/-- 'laws.FnCrossings', WHERE WHAT IT READS IS OF BULK AT MOST 1048576: true; the input reads as it did. -/
def fnCrossingsUptoRow : OpenClaim := { program := "ytichcamknpccpaa", sum := "6ea0719c1d741b9a4d98194d1e1a03f90c869783e1a5657233d94a1a851d1d2d", func := "loop.example/g00887/laws.FnCrossings", spec := "fnCrossings", unfollowed := true, recurses := true, named := ["math/bits.divideError", "math/bits.overflowError"], apart := false, narrowed := true }
def FnCrossingsUptoSaid : Prop := fnCrossingsUptoRow.holds Try.pinned (OpenSpec.upto fnCrossingsSpec)

/-- 'laws.FnFirstCrossing', WHERE WHAT IT READS IS OF BULK AT MOST 1048576: true; the input reads as it did. -/
def fnFirstCrossingUptoRow : OpenClaim := { program := "ytichcamknpccpaa", sum := "6ea0719c1d741b9a4d98194d1e1a03f90c869783e1a5657233d94a1a851d1d2d", func := "loop.example/g00887/laws.FnFirstCrossing", spec := "fnFirstCrossing", unfollowed := true, recurses := true, named := ["math/bits.divideError", "math/bits.overflowError"], apart := false, narrowed := true }
def FnFirstCrossingUptoSaid : Prop := fnFirstCrossingUptoRow.holds Try.pinned (OpenSpec.upto fnFirstCrossingSpec)

/-- 'laws.FnCompareCrossings', WHERE WHAT IT READS IS OF BULK AT MOST 1048576: true; the input reads as it did. -/
def fnCompareCrossingsUptoRow : OpenClaim := { program := "ytichcamknpccpaa", sum := "6ea0719c1d741b9a4d98194d1e1a03f90c869783e1a5657233d94a1a851d1d2d", func := "loop.example/g00887/laws.FnCompareCrossings", spec := "fnCompareCrossings", named := ["math/bits.divideError", "math/bits.overflowError"], apart := false, narrowed := true }
def FnCompareCrossingsUptoSaid : Prop := fnCompareCrossingsUptoRow.holds Try.pinned (OpenSpec.upto fnCompareCrossingsSpec)

/-- 'laws.FnExactPointAt', WHERE WHAT IT READS IS OF BULK AT MOST 1048576: true; the input reads as it did. -/
def fnExactPointAtUptoRow : OpenClaim := { program := "ytichcamknpccpaa", sum := "6ea0719c1d741b9a4d98194d1e1a03f90c869783e1a5657233d94a1a851d1d2d", func := "loop.example/g00887/laws.FnExactPointAt", spec := "fnExactPointAt", named := ["math/bits.divideError", "math/bits.overflowError"], apart := false, narrowed := true }
def FnExactPointAtUptoSaid : Prop := fnExactPointAtUptoRow.holds Try.pinned (OpenSpec.upto fnExactPointAtSpec)

/-- 'laws.FnExactWayAcross', WHERE WHAT IT READS IS OF BULK AT MOST 1048576: true; the input reads as it did. -/
def fnExactWayAcrossUptoRow : OpenClaim := { program := "ytichcamknpccpaa", sum := "6ea0719c1d741b9a4d98194d1e1a03f90c869783e1a5657233d94a1a851d1d2d", func := "loop.example/g00887/laws.FnExactWayAcross", spec := "fnExactWayAcross", apart := false, narrowed := true }
def FnExactWayAcrossUptoSaid : Prop := fnExactWayAcrossUptoRow.holds Try.pinned (OpenSpec.upto fnExactWayAcrossSpec)

/-- 'laws.FnExactCrossingsOf', WHERE WHAT IT READS IS OF BULK AT MOST 1048576: true; the input reads as it did. -/
def fnExactCrossingsOfUptoRow : OpenClaim := { program := "ytichcamknpccpaa", sum := "6ea0719c1d741b9a4d98194d1e1a03f90c869783e1a5657233d94a1a851d1d2d", func := "loop.example/g00887/laws.FnExactCrossingsOf", spec := "fnExactCrossingsOf", unfollowed := true, recurses := true, named := ["math/bits.divideError", "math/bits.overflowError"], apart := false, narrowed := true }
def FnExactCrossingsOfUptoSaid : Prop := fnExactCrossingsOfUptoRow.holds Try.pinned (OpenSpec.upto fnExactCrossingsOfSpec)

/-- 'laws.FnExactFirstCrossing', WHERE WHAT IT READS IS OF BULK AT MOST 1048576: true; the input reads as it did. -/
def fnExactFirstCrossingUptoRow : OpenClaim := { program := "ytichcamknpccpaa", sum := "6ea0719c1d741b9a4d98194d1e1a03f90c869783e1a5657233d94a1a851d1d2d", func := "loop.example/g00887/laws.FnExactFirstCrossing", spec := "fnExactFirstCrossing", unfollowed := true, recurses := true, named := ["math/bits.divideError", "math/bits.overflowError"], apart := false, narrowed := true }
def FnExactFirstCrossingUptoSaid : Prop := fnExactFirstCrossingUptoRow.holds Try.pinned (OpenSpec.upto fnExactFirstCrossingSpec)

/-- 'laws.FnExactCountCrossings', WHERE WHAT IT READS IS OF BULK AT MOST 1048576: true; the input reads as it did. -/
def fnExactCountCrossingsUptoRow : OpenClaim := { program := "ytichcamknpccpaa", sum := "6ea0719c1d741b9a4d98194d1e1a03f90c869783e1a5657233d94a1a851d1d2d", func := "loop.example/g00887/laws.FnExactCountCrossings", spec := "fnExactCountCrossings", unfollowed := true, recurses := true, named := ["math/bits.divideError", "math/bits.overflowError"], apart := false, narrowed := true }
def FnExactCountCrossingsUptoSaid : Prop := fnExactCountCrossingsUptoRow.holds Try.pinned (OpenSpec.upto fnExactCountCrossingsSpec)

/-- 'laws.FnExactCrossingPoint', WHERE WHAT IT READS IS OF BULK AT MOST 1048576: true; the input reads as it did. -/
def fnExactCrossingPointUptoRow : OpenClaim := { program := "ytichcamknpccpaa", sum := "6ea0719c1d741b9a4d98194d1e1a03f90c869783e1a5657233d94a1a851d1d2d", func := "loop.example/g00887/laws.FnExactCrossingPoint", spec := "fnExactCrossingPoint", unfollowed := true, recurses := true, named := ["math/bits.divideError", "math/bits.overflowError"], apart := false, narrowed := true }
def FnExactCrossingPointUptoSaid : Prop := fnExactCrossingPointUptoRow.holds Try.pinned (OpenSpec.upto fnExactCrossingPointSpec)

/-- 'laws.FnExactSideAt', WHERE WHAT IT READS IS OF BULK AT MOST 1048576: true; the input reads as it did. -/
def fnExactSideAtUptoRow : OpenClaim := { program := "ytichcamknpccpaa", sum := "6ea0719c1d741b9a4d98194d1e1a03f90c869783e1a5657233d94a1a851d1d2d", func := "loop.example/g00887/laws.FnExactSideAt", spec := "fnExactSideAt", unfollowed := true, recurses := true, named := ["math/bits.divideError", "math/bits.overflowError"], apart := false, narrowed := true }
def FnExactSideAtUptoSaid : Prop := fnExactSideAtUptoRow.holds Try.pinned (OpenSpec.upto fnExactSideAtSpec)

/-- 'laws.FnExactCompareCrossings', WHERE WHAT IT READS IS OF BULK AT MOST 1048576: true; the input reads as it did. -/
def fnExactCompareCrossingsUptoRow : OpenClaim := { program := "ytichcamknpccpaa", sum := "6ea0719c1d741b9a4d98194d1e1a03f90c869783e1a5657233d94a1a851d1d2d", func := "loop.example/g00887/laws.FnExactCompareCrossings", spec := "fnExactCompareCrossings", named := ["math/bits.divideError", "math/bits.overflowError"], apart := false, narrowed := true }
def FnExactCompareCrossingsUptoSaid : Prop := fnExactCompareCrossingsUptoRow.holds Try.pinned (OpenSpec.upto fnExactCompareCrossingsSpec)

end Rows
end Go.Proofs.Ytichcamknpccpaa

/-
  No cell of these rows narrows 'for every input' (looked for: loops, veiled, ifaces, maps, wideKeys, modest, calm, conditions, laid).
  DERIVED. THE GIVEN ROWS OF THIS SEAT. 12 by the template 'for every input the law returns true; each argument reads behind the call as it read before'; 0 by the template 'total and deterministic' (their statements: YtcdbnbfhohidnaaTotals.lean).
  GIVEN WITH THE SEED: the statements are not yours to turn. If you find one false, say at which input.
  Laid BY PROGRAM, IN A SANDBOX (cutbox-rows.mjs): the forced cells as the released guide's own fill.sh prints them over the translation 0b1a2ca532188097… (all of the seat's roots in one cut). By AI agents, Wed Nov 11 2026. No macro, syntax, notation, axiom, sorry.
-/
import Derived.Test.YtcdbnbfhohidnaaChecked
import GoSem.Claim
import GoSem.ClaimJoined
import GoSem.ClaimMapViews
import Derived.JoinedTies
import Derived.KernelRfl
namespace Go.Proofs.Ytcdbnbfhohidnaa
/- THE CELL 'sum', in the pinned program and in every row, IS THE sha256 OF THE DUMP (.gsa) THAT YtcdbnbfhohidnaaProg.lean LOADS. Nothing in Lean hashes anything: it is a label: what it is worth is what the hold of that sum in a sandbox is worth. -/
noncomputable def Try.pinned : Pinned := { name := "ytcdbnbfhohidnaa", sum := "0b1a2ca532188097225b625f4126f4f8e97a9972ae8d11888a34bb730fffe1bc", checked := Try.checked }
namespace Rows
def none {H : Type} : Left H := { results := [], args := [] }

/-- 'laws.FnCross': WHATEVER THE INPUT: true; the input reads as it did. -/
def fnCrossSpec : ChangeSpec := { name := "fnCross", fn := fun _ => fun
  | [d] => { results := [.lit (.bool true)], args := [d] }
  | _ => none }
def fnCrossRow : OpenClaim := { program := "ytcdbnbfhohidnaa", sum := "0b1a2ca532188097225b625f4126f4f8e97a9972ae8d11888a34bb730fffe1bc", func := "loop.example/g00887/laws.FnCross", spec := "fnCross", unfollowed := true, recurses := true, apart := false }
def FnCrossSaid : Prop := fnCrossRow.holds Try.pinned (OpenSpec.ofChange fnCrossSpec)

/-- ITS FALSE NEIGHBOUR: 'it returns false'. Refute it at one input. -/
def fnCrossWrong : ChangeSpec := { name := "fnCross", fn := fun _ => fun
  | [d] => { results := [.lit (.bool false)], args := [d] }
  | _ => none }
def FnCrossWrongFalsely : Prop := fnCrossRow.holds Try.pinned (OpenSpec.ofChange fnCrossWrong)

/-- 'laws.FnPlace': WHATEVER THE INPUT: true; the input reads as it did. -/
def fnPlaceSpec : ChangeSpec := { name := "fnPlace", fn := fun _ => fun
  | [d] => { results := [.lit (.bool true)], args := [d] }
  | _ => none }
def fnPlaceRow : OpenClaim := { program := "ytcdbnbfhohidnaa", sum := "0b1a2ca532188097225b625f4126f4f8e97a9972ae8d11888a34bb730fffe1bc", func := "loop.example/g00887/laws.FnPlace", spec := "fnPlace", named := ["math/bits.divideError", "math/bits.overflowError"], apart := false }
def FnPlaceSaid : Prop := fnPlaceRow.holds Try.pinned (OpenSpec.ofChange fnPlaceSpec)

/-- ITS FALSE NEIGHBOUR: 'it returns false'. Refute it at one input. -/
def fnPlaceWrong : ChangeSpec := { name := "fnPlace", fn := fun _ => fun
  | [d] => { results := [.lit (.bool false)], args := [d] }
  | _ => none }
def FnPlaceWrongFalsely : Prop := fnPlaceRow.holds Try.pinned (OpenSpec.ofChange fnPlaceWrong)

/-- 'laws.FnWithin': WHATEVER THE INPUT: true; the input reads as it did. -/
def fnWithinSpec : ChangeSpec := { name := "fnWithin", fn := fun _ => fun
  | [d] => { results := [.lit (.bool true)], args := [d] }
  | _ => none }
def fnWithinRow : OpenClaim := { program := "ytcdbnbfhohidnaa", sum := "0b1a2ca532188097225b625f4126f4f8e97a9972ae8d11888a34bb730fffe1bc", func := "loop.example/g00887/laws.FnWithin", spec := "fnWithin", apart := false }
def FnWithinSaid : Prop := fnWithinRow.holds Try.pinned (OpenSpec.ofChange fnWithinSpec)

/-- ITS FALSE NEIGHBOUR: 'it returns false'. Refute it at one input. -/
def fnWithinWrong : ChangeSpec := { name := "fnWithin", fn := fun _ => fun
  | [d] => { results := [.lit (.bool false)], args := [d] }
  | _ => none }
def FnWithinWrongFalsely : Prop := fnWithinRow.holds Try.pinned (OpenSpec.ofChange fnWithinWrong)

/-- 'laws.FnRatios': WHATEVER THE INPUT: true; the input reads as it did. -/
def fnRatiosSpec : ChangeSpec := { name := "fnRatios", fn := fun _ => fun
  | [d] => { results := [.lit (.bool true)], args := [d] }
  | _ => none }
def fnRatiosRow : OpenClaim := { program := "ytcdbnbfhohidnaa", sum := "0b1a2ca532188097225b625f4126f4f8e97a9972ae8d11888a34bb730fffe1bc", func := "loop.example/g00887/laws.FnRatios", spec := "fnRatios", apart := false }
def FnRatiosSaid : Prop := fnRatiosRow.holds Try.pinned (OpenSpec.ofChange fnRatiosSpec)

/-- ITS FALSE NEIGHBOUR: 'it returns false'. Refute it at one input. -/
def fnRatiosWrong : ChangeSpec := { name := "fnRatios", fn := fun _ => fun
  | [d] => { results := [.lit (.bool false)], args := [d] }
  | _ => none }
def FnRatiosWrongFalsely : Prop := fnRatiosRow.holds Try.pinned (OpenSpec.ofChange fnRatiosWrong)

/-- 'laws.FnExactIsSegment': WHATEVER THE INPUT: true; the input reads as it did. -/
def fnExactIsSegmentSpec : ChangeSpec := { name := "fnExactIsSegment", fn := fun _ => fun
  | [d] => { results := [.lit (.bool true)], args := [d] }
  | _ => none }
def fnExactIsSegmentRow : OpenClaim := { program := "ytcdbnbfhohidnaa", sum := "0b1a2ca532188097225b625f4126f4f8e97a9972ae8d11888a34bb730fffe1bc", func := "loop.example/g00887/laws.FnExactIsSegment", spec := "fnExactIsSegment", apart := false }
def FnExactIsSegmentSaid : Prop := fnExactIsSegmentRow.holds Try.pinned (OpenSpec.ofChange fnExactIsSegmentSpec)

/-- ITS FALSE NEIGHBOUR: 'it returns false'. Refute it at one input. -/
def fnExactIsSegmentWrong : ChangeSpec := { name := "fnExactIsSegment", fn := fun _ => fun
  | [d] => { results := [.lit (.bool false)], args := [d] }
  | _ => none }
def FnExactIsSegmentWrongFalsely : Prop := fnExactIsSegmentRow.holds Try.pinned (OpenSpec.ofChange fnExactIsSegmentWrong)

/-- 'laws.FnExactSegmentsCross': WHATEVER THE INPUT: true; the input reads as it did. -/
def fnExactSegmentsCrossSpec : ChangeSpec := { name := "fnExactSegmentsCross", fn := fun _ => fun
  | [d1, d2] => { results := [.lit (.bool true)], args := [d1, d2] }
  | _ => none }
def fnExactSegmentsCrossRow : OpenClaim := { program := "ytcdbnbfhohidnaa", sum := "0b1a2ca532188097225b625f4126f4f8e97a9972ae8d11888a34bb730fffe1bc", func := "loop.example/g00887/laws.FnExactSegmentsCross", spec := "fnExactSegmentsCross", unfollowed := true, recurses := true, apart := false }
def FnExactSegmentsCrossSaid : Prop := fnExactSegmentsCrossRow.holds Try.pinned (OpenSpec.ofChange fnExactSegmentsCrossSpec)

/-- ITS FALSE NEIGHBOUR: 'it returns false'. Refute it at one input. -/
def fnExactSegmentsCrossWrong : ChangeSpec := { name := "fnExactSegmentsCross", fn := fun _ => fun
  | [d1, d2] => { results := [.lit (.bool false)], args := [d1, d2] }
  | _ => none }
def FnExactSegmentsCrossWrongFalsely : Prop := fnExactSegmentsCrossRow.holds Try.pinned (OpenSpec.ofChange fnExactSegmentsCrossWrong)

/-- 'laws.FnExactSegmentsMeet': WHATEVER THE INPUT: true; the input reads as it did. -/
def fnExactSegmentsMeetSpec : ChangeSpec := { name := "fnExactSegmentsMeet", fn := fun _ => fun
  | [d1, d2] => { results := [.lit (.bool true)], args := [d1, d2] }
  | _ => none }
def fnExactSegmentsMeetRow : OpenClaim := { program := "ytcdbnbfhohidnaa", sum := "0b1a2ca532188097225b625f4126f4f8e97a9972ae8d11888a34bb730fffe1bc", func := "loop.example/g00887/laws.FnExactSegmentsMeet", spec := "fnExactSegmentsMeet", unfollowed := true, recurses := true, apart := false }
def FnExactSegmentsMeetSaid : Prop := fnExactSegmentsMeetRow.holds Try.pinned (OpenSpec.ofChange fnExactSegmentsMeetSpec)

/-- ITS FALSE NEIGHBOUR: 'it returns false'. Refute it at one input. -/
def fnExactSegmentsMeetWrong : ChangeSpec := { name := "fnExactSegmentsMeet", fn := fun _ => fun
  | [d1, d2] => { results := [.lit (.bool false)], args := [d1, d2] }
  | _ => none }
def FnExactSegmentsMeetWrongFalsely : Prop := fnExactSegmentsMeetRow.holds Try.pinned (OpenSpec.ofChange fnExactSegmentsMeetWrong)

/-- 'laws.FnExactCrossingPlace': WHATEVER THE INPUT: true; the input reads as it did. -/
def fnExactCrossingPlaceSpec : ChangeSpec := { name := "fnExactCrossingPlace", fn := fun _ => fun
  | [d1, d2] => { results := [.lit (.bool true)], args := [d1, d2] }
  | _ => none }
def fnExactCrossingPlaceRow : OpenClaim := { program := "ytcdbnbfhohidnaa", sum := "0b1a2ca532188097225b625f4126f4f8e97a9972ae8d11888a34bb730fffe1bc", func := "loop.example/g00887/laws.FnExactCrossingPlace", spec := "fnExactCrossingPlace", apart := false }
def FnExactCrossingPlaceSaid : Prop := fnExactCrossingPlaceRow.holds Try.pinned (OpenSpec.ofChange fnExactCrossingPlaceSpec)

/-- ITS FALSE NEIGHBOUR: 'it returns false'. Refute it at one input. -/
def fnExactCrossingPlaceWrong : ChangeSpec := { name := "fnExactCrossingPlace", fn := fun _ => fun
  | [d1, d2] => { results := [.lit (.bool false)], args := [d1, d2] }
  | _ => none }
def FnExactCrossingPlaceWrongFalsely : Prop := fnExactCrossingPlaceRow.holds Try.pinned (OpenSpec.ofChange fnExactCrossingPlaceWrong)

/-- 'laws.FnExactPointAt': WHATEVER THE INPUT: true; the input reads as it did. -/
def fnExactPointAtSpec : ChangeSpec := { name := "fnExactPointAt", fn := fun _ => fun
  | [d1, d2] => { results := [.lit (.bool true)], args := [d1, d2] }
  | _ => none }
def fnExactPointAtRow : OpenClaim := { program := "ytcdbnbfhohidnaa", sum := "0b1a2ca532188097225b625f4126f4f8e97a9972ae8d11888a34bb730fffe1bc", func := "loop.example/g00887/laws.FnExactPointAt", spec := "fnExactPointAt", named := ["math/bits.divideError", "math/bits.overflowError"], apart := false }
def FnExactPointAtSaid : Prop := fnExactPointAtRow.holds Try.pinned (OpenSpec.ofChange fnExactPointAtSpec)

/-- ITS FALSE NEIGHBOUR: 'it returns false'. Refute it at one input. -/
def fnExactPointAtWrong : ChangeSpec := { name := "fnExactPointAt", fn := fun _ => fun
  | [d1, d2] => { results := [.lit (.bool false)], args := [d1, d2] }
  | _ => none }
def FnExactPointAtWrongFalsely : Prop := fnExactPointAtRow.holds Try.pinned (OpenSpec.ofChange fnExactPointAtWrong)

/-- 'laws.FnExactNearestPlace': WHATEVER THE INPUT: true; the input reads as it did. -/
def fnExactNearestPlaceSpec : ChangeSpec := { name := "fnExactNearestPlace", fn := fun _ => fun
  | [d1, d2] => { results := [.lit (.bool true)], args := [d1, d2] }
  | _ => none }
def fnExactNearestPlaceRow : OpenClaim := { program := "ytcdbnbfhohidnaa", sum := "0b1a2ca532188097225b625f4126f4f8e97a9972ae8d11888a34bb730fffe1bc", func := "loop.example/g00887/laws.FnExactNearestPlace", spec := "fnExactNearestPlace", apart := false }
def FnExactNearestPlaceSaid : Prop := fnExactNearestPlaceRow.holds Try.pinned (OpenSpec.ofChange fnExactNearestPlaceSpec)

/-- ITS FALSE NEIGHBOUR: 'it returns false'. Refute it at one input. -/
def fnExactNearestPlaceWrong : ChangeSpec := { name := "fnExactNearestPlace", fn := fun _ => fun
  | [d1, d2] => { results := [.lit (.bool false)], args := [d1, d2] }
  | _ => none }
def FnExactNearestPlaceWrongFalsely : Prop := fnExactNearestPlaceRow.holds Try.pinned (OpenSpec.ofChange fnExactNearestPlaceWrong)

/-- 'laws.FnExactWithinDistance': WHATEVER THE INPUT: true; the input reads as it did. -/
def fnExactWithinDistanceSpec : ChangeSpec := { name := "fnExactWithinDistance", fn := fun _ => fun
  | [d1, d2, d3] => { results := [.lit (.bool true)], args := [d1, d2, d3] }
  | _ => none }
def fnExactWithinDistanceRow : OpenClaim := { program := "ytcdbnbfhohidnaa", sum := "0b1a2ca532188097225b625f4126f4f8e97a9972ae8d11888a34bb730fffe1bc", func := "loop.example/g00887/laws.FnExactWithinDistance", spec := "fnExactWithinDistance", apart := false }
def FnExactWithinDistanceSaid : Prop := fnExactWithinDistanceRow.holds Try.pinned (OpenSpec.ofChange fnExactWithinDistanceSpec)

/-- ITS FALSE NEIGHBOUR: 'it returns false'. Refute it at one input. -/
def fnExactWithinDistanceWrong : ChangeSpec := { name := "fnExactWithinDistance", fn := fun _ => fun
  | [d1, d2, d3] => { results := [.lit (.bool false)], args := [d1, d2, d3] }
  | _ => none }
def FnExactWithinDistanceWrongFalsely : Prop := fnExactWithinDistanceRow.holds Try.pinned (OpenSpec.ofChange fnExactWithinDistanceWrong)

/-- 'laws.FnExactCompareRatios': WHATEVER THE INPUT: true; the input reads as it did. -/
def fnExactCompareRatiosSpec : ChangeSpec := { name := "fnExactCompareRatios", fn := fun _ => fun
  | [d1, d2] => { results := [.lit (.bool true)], args := [d1, d2] }
  | _ => none }
def fnExactCompareRatiosRow : OpenClaim := { program := "ytcdbnbfhohidnaa", sum := "0b1a2ca532188097225b625f4126f4f8e97a9972ae8d11888a34bb730fffe1bc", func := "loop.example/g00887/laws.FnExactCompareRatios", spec := "fnExactCompareRatios", apart := false }
def FnExactCompareRatiosSaid : Prop := fnExactCompareRatiosRow.holds Try.pinned (OpenSpec.ofChange fnExactCompareRatiosSpec)

/-- ITS FALSE NEIGHBOUR: 'it returns false'. Refute it at one input. -/
def fnExactCompareRatiosWrong : ChangeSpec := { name := "fnExactCompareRatios", fn := fun _ => fun
  | [d1, d2] => { results := [.lit (.bool false)], args := [d1, d2] }
  | _ => none }
def FnExactCompareRatiosWrongFalsely : Prop := fnExactCompareRatiosRow.holds Try.pinned (OpenSpec.ofChange fnExactCompareRatiosWrong)

/- THE SECOND FORM. 'bulk': how many values and letters a reading holds, each counted each time it is reached (what is shared counts as often as it is met; a slice's spare places count too). A statement '..UptoSaid' is the law's where the arguments, and the package variables that the reading takes, are together of bulk at most 1048576: NARROWER than '..Said'. Prove '..Said' where nothing that the law and all that it calls make is longer than what came in: it says more and counts as full. Else prove '..UptoSaid'. A law counts once. -/
mutual
def uptoBulk {H : Type} : DataW H → Nat
  | .lit (.string bytes) => bytes.length + 1
  | .lit _ => 1
  | .nil => 1
  | .ptr d => uptoBulk d + 1
  | .slice elems spare => uptoBulkAll elems + uptoBulkAll spare + 1
  | .agg parts => uptoBulkAll parts + 1
  | .iface _ d => uptoBulk d + 1
  | .map entries => uptoBulkEntries entries + 1
  | .held _ => 1
def uptoBulkAll {H : Type} : List (DataW H) → Nat
  | [] => 0
  | d :: r => uptoBulk d + uptoBulkAll r
def uptoBulkEntries {H : Type} : List (Lit × DataW H) → Nat
  | [] => 0
  | x :: r => uptoBulkEntry x + uptoBulkEntries r
def uptoBulkEntry {H : Type} : Lit × DataW H → Nat
  | (.string bytes, d) => bytes.length + uptoBulk d + 1
  | (_, d) => uptoBulk d + 1
 end
def uptoSmall : (H : Type) → List (DataW H) → Bool := fun _ ds => decide (uptoBulkAll ds ≤ 1048576)
def OpenSpec.upto (s : _root_.Go.ChangeSpec) : _root_.Go.OpenSpec := { _root_.Go.OpenSpec.ofChange s with cond := some uptoSmall }

/-- 'laws.FnCross', WHERE WHAT IT READS IS OF BULK AT MOST 1048576: true; the input reads as it did. -/
def fnCrossUptoRow : OpenClaim := { program := "ytcdbnbfhohidnaa", sum := "0b1a2ca532188097225b625f4126f4f8e97a9972ae8d11888a34bb730fffe1bc", func := "loop.example/g00887/laws.FnCross", spec := "fnCross", unfollowed := true, recurses := true, apart := false, narrowed := true }
def FnCrossUptoSaid : Prop := fnCrossUptoRow.holds Try.pinned (OpenSpec.upto fnCrossSpec)

/-- 'laws.FnPlace', WHERE WHAT IT READS IS OF BULK AT MOST 1048576: true; the input reads as it did. -/
def fnPlaceUptoRow : OpenClaim := { program := "ytcdbnbfhohidnaa", sum := "0b1a2ca532188097225b625f4126f4f8e97a9972ae8d11888a34bb730fffe1bc", func := "loop.example/g00887/laws.FnPlace", spec := "fnPlace", named := ["math/bits.divideError", "math/bits.overflowError"], apart := false, narrowed := true }
def FnPlaceUptoSaid : Prop := fnPlaceUptoRow.holds Try.pinned (OpenSpec.upto fnPlaceSpec)

/-- 'laws.FnWithin', WHERE WHAT IT READS IS OF BULK AT MOST 1048576: true; the input reads as it did. -/
def fnWithinUptoRow : OpenClaim := { program := "ytcdbnbfhohidnaa", sum := "0b1a2ca532188097225b625f4126f4f8e97a9972ae8d11888a34bb730fffe1bc", func := "loop.example/g00887/laws.FnWithin", spec := "fnWithin", apart := false, narrowed := true }
def FnWithinUptoSaid : Prop := fnWithinUptoRow.holds Try.pinned (OpenSpec.upto fnWithinSpec)

/-- 'laws.FnRatios', WHERE WHAT IT READS IS OF BULK AT MOST 1048576: true; the input reads as it did. -/
def fnRatiosUptoRow : OpenClaim := { program := "ytcdbnbfhohidnaa", sum := "0b1a2ca532188097225b625f4126f4f8e97a9972ae8d11888a34bb730fffe1bc", func := "loop.example/g00887/laws.FnRatios", spec := "fnRatios", apart := false, narrowed := true }
def FnRatiosUptoSaid : Prop := fnRatiosUptoRow.holds Try.pinned (OpenSpec.upto fnRatiosSpec)

/-- 'laws.FnExactIsSegment', WHERE WHAT IT READS IS OF BULK AT MOST 1048576: true; the input reads as it did. -/
def fnExactIsSegmentUptoRow : OpenClaim := { program := "ytcdbnbfhohidnaa", sum := "0b1a2ca532188097225b625f4126f4f8e97a9972ae8d11888a34bb730fffe1bc", func := "loop.example/g00887/laws.FnExactIsSegment", spec := "fnExactIsSegment", apart := false, narrowed := true }
def FnExactIsSegmentUptoSaid : Prop := fnExactIsSegmentUptoRow.holds Try.pinned (OpenSpec.upto fnExactIsSegmentSpec)

/-- 'laws.FnExactSegmentsCross', WHERE WHAT IT READS IS OF BULK AT MOST 1048576: true; the input reads as it did. -/
def fnExactSegmentsCrossUptoRow : OpenClaim := { program := "ytcdbnbfhohidnaa", sum := "0b1a2ca532188097225b625f4126f4f8e97a9972ae8d11888a34bb730fffe1bc", func := "loop.example/g00887/laws.FnExactSegmentsCross", spec := "fnExactSegmentsCross", unfollowed := true, recurses := true, apart := false, narrowed := true }
def FnExactSegmentsCrossUptoSaid : Prop := fnExactSegmentsCrossUptoRow.holds Try.pinned (OpenSpec.upto fnExactSegmentsCrossSpec)

/-- 'laws.FnExactSegmentsMeet', WHERE WHAT IT READS IS OF BULK AT MOST 1048576: true; the input reads as it did. -/
def fnExactSegmentsMeetUptoRow : OpenClaim := { program := "ytcdbnbfhohidnaa", sum := "0b1a2ca532188097225b625f4126f4f8e97a9972ae8d11888a34bb730fffe1bc", func := "loop.example/g00887/laws.FnExactSegmentsMeet", spec := "fnExactSegmentsMeet", unfollowed := true, recurses := true, apart := false, narrowed := true }
def FnExactSegmentsMeetUptoSaid : Prop := fnExactSegmentsMeetUptoRow.holds Try.pinned (OpenSpec.upto fnExactSegmentsMeetSpec)

/-- 'laws.FnExactCrossingPlace', WHERE WHAT IT READS IS OF BULK AT MOST 1048576: true; the input reads as it did. -/
def fnExactCrossingPlaceUptoRow : OpenClaim := { program := "ytcdbnbfhohidnaa", sum := "0b1a2ca532188097225b625f4126f4f8e97a9972ae8d11888a34bb730fffe1bc", func := "loop.example/g00887/laws.FnExactCrossingPlace", spec := "fnExactCrossingPlace", apart := false, narrowed := true }
def FnExactCrossingPlaceUptoSaid : Prop := fnExactCrossingPlaceUptoRow.holds Try.pinned (OpenSpec.upto fnExactCrossingPlaceSpec)

/-- 'laws.FnExactPointAt', WHERE WHAT IT READS IS OF BULK AT MOST 1048576: true; the input reads as it did. -/
def fnExactPointAtUptoRow : OpenClaim := { program := "ytcdbnbfhohidnaa", sum := "0b1a2ca532188097225b625f4126f4f8e97a9972ae8d11888a34bb730fffe1bc", func := "loop.example/g00887/laws.FnExactPointAt", spec := "fnExactPointAt", named := ["math/bits.divideError", "math/bits.overflowError"], apart := false, narrowed := true }
def FnExactPointAtUptoSaid : Prop := fnExactPointAtUptoRow.holds Try.pinned (OpenSpec.upto fnExactPointAtSpec)

/-- 'laws.FnExactNearestPlace', WHERE WHAT IT READS IS OF BULK AT MOST 1048576: true; the input reads as it did. -/
def fnExactNearestPlaceUptoRow : OpenClaim := { program := "ytcdbnbfhohidnaa", sum := "0b1a2ca532188097225b625f4126f4f8e97a9972ae8d11888a34bb730fffe1bc", func := "loop.example/g00887/laws.FnExactNearestPlace", spec := "fnExactNearestPlace", apart := false, narrowed := true }
def FnExactNearestPlaceUptoSaid : Prop := fnExactNearestPlaceUptoRow.holds Try.pinned (OpenSpec.upto fnExactNearestPlaceSpec)

/-- 'laws.FnExactWithinDistance', WHERE WHAT IT READS IS OF BULK AT MOST 1048576: true; the input reads as it did. -/
def fnExactWithinDistanceUptoRow : OpenClaim := { program := "ytcdbnbfhohidnaa", sum := "0b1a2ca532188097225b625f4126f4f8e97a9972ae8d11888a34bb730fffe1bc", func := "loop.example/g00887/laws.FnExactWithinDistance", spec := "fnExactWithinDistance", apart := false, narrowed := true }
def FnExactWithinDistanceUptoSaid : Prop := fnExactWithinDistanceUptoRow.holds Try.pinned (OpenSpec.upto fnExactWithinDistanceSpec)

/-- 'laws.FnExactCompareRatios', WHERE WHAT IT READS IS OF BULK AT MOST 1048576: true; the input reads as it did. -/
def fnExactCompareRatiosUptoRow : OpenClaim := { program := "ytcdbnbfhohidnaa", sum := "0b1a2ca532188097225b625f4126f4f8e97a9972ae8d11888a34bb730fffe1bc", func := "loop.example/g00887/laws.FnExactCompareRatios", spec := "fnExactCompareRatios", apart := false, narrowed := true }
def FnExactCompareRatiosUptoSaid : Prop := fnExactCompareRatiosUptoRow.holds Try.pinned (OpenSpec.upto fnExactCompareRatiosSpec)

end Rows
end Go.Proofs.Ytcdbnbfhohidnaa

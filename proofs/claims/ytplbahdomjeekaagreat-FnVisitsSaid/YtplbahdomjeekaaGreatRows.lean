/-
  No cell of these rows narrows 'for every input' (looked for: loops, veiled, ifaces, maps, wideKeys, modest, calm, conditions, laid).
  DERIVED. THE GIVEN ROWS OF THIS SEAT. 12 by the template 'for every input the law returns true; each argument reads behind the call as it read before'; 0 by the template 'total and deterministic' (their statements: YtplbahdomjeekaaGreatTotals.lean).
  GIVEN WITH THE SEED: the statements are not yours to turn. If you find one false, say at which input.
  Laid BY PROGRAM, IN A SANDBOX (cutbox-rows.mjs): the forced cells as the released guide's own fill.sh prints them over the translation f20dc4c695770724… (all of the seat's roots in one cut). By AI agents, Wed Nov 11 2026. No macro, syntax, notation, axiom, sorry.
-/
import Derived.Test.YtplbahdomjeekaaGreatChecked
import GoSem.Claim
import GoSem.ClaimJoined
import GoSem.ClaimMapViews
import Derived.JoinedTies
import Derived.KernelRfl
namespace Go.Proofs.YtplbahdomjeekaaGreat
/- THE CELL 'sum', in the pinned program and in every row, IS THE sha256 OF THE DUMP (.gsa) THAT YtplbahdomjeekaaGreatProg.lean LOADS. Nothing in Lean hashes anything: it is a label: what it is worth is what the hold of that sum in a sandbox is worth. -/
noncomputable def Tryz.pinned : Pinned := { name := "ytplbahdomjeekaagreat", sum := "f20dc4c6957707244782ca48c74f43c70186a4bf8baf8ec86832d39527ddaa23", checked := Tryz.checked }
namespace Rows
def none {H : Type} : Left H := { results := [], args := [] }

/-- 'laws.FnZone': WHATEVER THE INPUT: true; the input reads as it did. -/
def fnZoneSpec : ChangeSpec := { name := "fnZone", fn := fun _ => fun
  | [d] => { results := [.lit (.bool true)], args := [d] }
  | _ => none }
def fnZoneRow : OpenClaim := { program := "ytplbahdomjeekaagreat", sum := "f20dc4c6957707244782ca48c74f43c70186a4bf8baf8ec86832d39527ddaa23", func := "loop.example/g00887/laws.FnZone", spec := "fnZone", unfollowed := true, recurses := true, named := ["math/bits.divideError", "math/bits.overflowError"], apart := false }
def FnZoneSaid : Prop := fnZoneRow.holds Tryz.pinned (OpenSpec.ofChange fnZoneSpec)

/-- ITS FALSE NEIGHBOUR: 'it returns false'. Refute it at one input. -/
def fnZoneWrong : ChangeSpec := { name := "fnZone", fn := fun _ => fun
  | [d] => { results := [.lit (.bool false)], args := [d] }
  | _ => none }
def FnZoneWrongFalsely : Prop := fnZoneRow.holds Tryz.pinned (OpenSpec.ofChange fnZoneWrong)

/-- 'laws.FnVisits': WHATEVER THE INPUT: true; the input reads as it did. -/
def fnVisitsSpec : ChangeSpec := { name := "fnVisits", fn := fun _ => fun
  | [d] => { results := [.lit (.bool true)], args := [d] }
  | _ => none }
def fnVisitsRow : OpenClaim := { program := "ytplbahdomjeekaagreat", sum := "f20dc4c6957707244782ca48c74f43c70186a4bf8baf8ec86832d39527ddaa23", func := "loop.example/g00887/laws.FnVisits", spec := "fnVisits", unfollowed := true, recurses := true, apart := false }
def FnVisitsSaid : Prop := fnVisitsRow.holds Tryz.pinned (OpenSpec.ofChange fnVisitsSpec)

/-- ITS FALSE NEIGHBOUR: 'it returns false'. Refute it at one input. -/
def fnVisitsWrong : ChangeSpec := { name := "fnVisits", fn := fun _ => fun
  | [d] => { results := [.lit (.bool false)], args := [d] }
  | _ => none }
def FnVisitsWrongFalsely : Prop := fnVisitsRow.holds Tryz.pinned (OpenSpec.ofChange fnVisitsWrong)

/-- 'laws.FnNearest': WHATEVER THE INPUT: true; the input reads as it did. -/
def fnNearestSpec : ChangeSpec := { name := "fnNearest", fn := fun _ => fun
  | [d] => { results := [.lit (.bool true)], args := [d] }
  | _ => none }
def fnNearestRow : OpenClaim := { program := "ytplbahdomjeekaagreat", sum := "f20dc4c6957707244782ca48c74f43c70186a4bf8baf8ec86832d39527ddaa23", func := "loop.example/g00887/laws.FnNearest", spec := "fnNearest", unfollowed := true, recurses := true, named := ["math/bits.divideError", "math/bits.overflowError"], apart := false }
def FnNearestSaid : Prop := fnNearestRow.holds Tryz.pinned (OpenSpec.ofChange fnNearestSpec)

/-- ITS FALSE NEIGHBOUR: 'it returns false'. Refute it at one input. -/
def fnNearestWrong : ChangeSpec := { name := "fnNearest", fn := fun _ => fun
  | [d] => { results := [.lit (.bool false)], args := [d] }
  | _ => none }
def FnNearestWrongFalsely : Prop := fnNearestRow.holds Tryz.pinned (OpenSpec.ofChange fnNearestWrong)

/-- 'laws.FnFirstToZone': WHATEVER THE INPUT: true; the input reads as it did. -/
def fnFirstToZoneSpec : ChangeSpec := { name := "fnFirstToZone", fn := fun _ => fun
  | [d] => { results := [.lit (.bool true)], args := [d] }
  | _ => none }
def fnFirstToZoneRow : OpenClaim := { program := "ytplbahdomjeekaagreat", sum := "f20dc4c6957707244782ca48c74f43c70186a4bf8baf8ec86832d39527ddaa23", func := "loop.example/g00887/laws.FnFirstToZone", spec := "fnFirstToZone", unfollowed := true, recurses := true, apart := false }
def FnFirstToZoneSaid : Prop := fnFirstToZoneRow.holds Tryz.pinned (OpenSpec.ofChange fnFirstToZoneSpec)

/-- ITS FALSE NEIGHBOUR: 'it returns false'. Refute it at one input. -/
def fnFirstToZoneWrong : ChangeSpec := { name := "fnFirstToZone", fn := fun _ => fun
  | [d] => { results := [.lit (.bool false)], args := [d] }
  | _ => none }
def FnFirstToZoneWrongFalsely : Prop := fnFirstToZoneRow.holds Tryz.pinned (OpenSpec.ofChange fnFirstToZoneWrong)

/-- 'laws.FnExactVisitsOf': WHATEVER THE INPUT: true; the input reads as it did. -/
def fnExactVisitsOfSpec : ChangeSpec := { name := "fnExactVisitsOf", fn := fun _ => fun
  | [d1, d2, d3] => { results := [.lit (.bool true)], args := [d1, d2, d3] }
  | _ => none }
def fnExactVisitsOfRow : OpenClaim := { program := "ytplbahdomjeekaagreat", sum := "f20dc4c6957707244782ca48c74f43c70186a4bf8baf8ec86832d39527ddaa23", func := "loop.example/g00887/laws.FnExactVisitsOf", spec := "fnExactVisitsOf", unfollowed := true, recurses := true, apart := false }
def FnExactVisitsOfSaid : Prop := fnExactVisitsOfRow.holds Tryz.pinned (OpenSpec.ofChange fnExactVisitsOfSpec)

/-- ITS FALSE NEIGHBOUR: 'it returns false'. Refute it at one input. -/
def fnExactVisitsOfWrong : ChangeSpec := { name := "fnExactVisitsOf", fn := fun _ => fun
  | [d1, d2, d3] => { results := [.lit (.bool false)], args := [d1, d2, d3] }
  | _ => none }
def FnExactVisitsOfWrongFalsely : Prop := fnExactVisitsOfRow.holds Tryz.pinned (OpenSpec.ofChange fnExactVisitsOfWrong)

/-- 'laws.FnExactFirstToZone': WHATEVER THE INPUT: true; the input reads as it did. -/
def fnExactFirstToZoneSpec : ChangeSpec := { name := "fnExactFirstToZone", fn := fun _ => fun
  | [d1, d2, d3] => { results := [.lit (.bool true)], args := [d1, d2, d3] }
  | _ => none }
def fnExactFirstToZoneRow : OpenClaim := { program := "ytplbahdomjeekaagreat", sum := "f20dc4c6957707244782ca48c74f43c70186a4bf8baf8ec86832d39527ddaa23", func := "loop.example/g00887/laws.FnExactFirstToZone", spec := "fnExactFirstToZone", unfollowed := true, recurses := true, apart := false }
def FnExactFirstToZoneSaid : Prop := fnExactFirstToZoneRow.holds Tryz.pinned (OpenSpec.ofChange fnExactFirstToZoneSpec)

/-- ITS FALSE NEIGHBOUR: 'it returns false'. Refute it at one input. -/
def fnExactFirstToZoneWrong : ChangeSpec := { name := "fnExactFirstToZone", fn := fun _ => fun
  | [d1, d2, d3] => { results := [.lit (.bool false)], args := [d1, d2, d3] }
  | _ => none }
def FnExactFirstToZoneWrongFalsely : Prop := fnExactFirstToZoneRow.holds Tryz.pinned (OpenSpec.ofChange fnExactFirstToZoneWrong)

/-- 'laws.FnSailed': WHATEVER THE INPUT: true; the input reads as it did. -/
def fnSailedSpec : ChangeSpec := { name := "fnSailed", fn := fun _ => fun
  | [d] => { results := [.lit (.bool true)], args := [d] }
  | _ => none }
def fnSailedRow : OpenClaim := { program := "ytplbahdomjeekaagreat", sum := "f20dc4c6957707244782ca48c74f43c70186a4bf8baf8ec86832d39527ddaa23", func := "loop.example/g00887/laws.FnSailed", spec := "fnSailed", unfollowed := true, recurses := true, named := ["math/bits.divideError", "math/bits.overflowError"], apart := false }
def FnSailedSaid : Prop := fnSailedRow.holds Tryz.pinned (OpenSpec.ofChange fnSailedSpec)

/-- ITS FALSE NEIGHBOUR: 'it returns false'. Refute it at one input. -/
def fnSailedWrong : ChangeSpec := { name := "fnSailed", fn := fun _ => fun
  | [d] => { results := [.lit (.bool false)], args := [d] }
  | _ => none }
def FnSailedWrongFalsely : Prop := fnSailedRow.holds Tryz.pinned (OpenSpec.ofChange fnSailedWrong)

/-- 'laws.FnExactTimesSailed': WHATEVER THE INPUT: true; the input reads as it did. -/
def fnExactTimesSailedSpec : ChangeSpec := { name := "fnExactTimesSailed", fn := fun _ => fun
  | [d1, d2] => { results := [.lit (.bool true)], args := [d1, d2] }
  | _ => none }
def fnExactTimesSailedRow : OpenClaim := { program := "ytplbahdomjeekaagreat", sum := "f20dc4c6957707244782ca48c74f43c70186a4bf8baf8ec86832d39527ddaa23", func := "loop.example/g00887/laws.FnExactTimesSailed", spec := "fnExactTimesSailed", unfollowed := true, recurses := true, named := ["math/bits.divideError", "math/bits.overflowError"], apart := false }
def FnExactTimesSailedSaid : Prop := fnExactTimesSailedRow.holds Tryz.pinned (OpenSpec.ofChange fnExactTimesSailedSpec)

/-- ITS FALSE NEIGHBOUR: 'it returns false'. Refute it at one input. -/
def fnExactTimesSailedWrong : ChangeSpec := { name := "fnExactTimesSailed", fn := fun _ => fun
  | [d1, d2] => { results := [.lit (.bool false)], args := [d1, d2] }
  | _ => none }
def FnExactTimesSailedWrongFalsely : Prop := fnExactTimesSailedRow.holds Tryz.pinned (OpenSpec.ofChange fnExactTimesSailedWrong)

/-- 'laws.FnExactFinishTime': WHATEVER THE INPUT: true; the input reads as it did. -/
def fnExactFinishTimeSpec : ChangeSpec := { name := "fnExactFinishTime", fn := fun _ => fun
  | [d1, d2] => { results := [.lit (.bool true)], args := [d1, d2] }
  | _ => none }
def fnExactFinishTimeRow : OpenClaim := { program := "ytplbahdomjeekaagreat", sum := "f20dc4c6957707244782ca48c74f43c70186a4bf8baf8ec86832d39527ddaa23", func := "loop.example/g00887/laws.FnExactFinishTime", spec := "fnExactFinishTime", unfollowed := true, recurses := true, named := ["math/bits.divideError", "math/bits.overflowError"], apart := false }
def FnExactFinishTimeSaid : Prop := fnExactFinishTimeRow.holds Tryz.pinned (OpenSpec.ofChange fnExactFinishTimeSpec)

/-- ITS FALSE NEIGHBOUR: 'it returns false'. Refute it at one input. -/
def fnExactFinishTimeWrong : ChangeSpec := { name := "fnExactFinishTime", fn := fun _ => fun
  | [d1, d2] => { results := [.lit (.bool false)], args := [d1, d2] }
  | _ => none }
def FnExactFinishTimeWrongFalsely : Prop := fnExactFinishTimeRow.holds Tryz.pinned (OpenSpec.ofChange fnExactFinishTimeWrong)

/-- 'laws.FnExactReachedAt': WHATEVER THE INPUT: true; the input reads as it did. -/
def fnExactReachedAtSpec : ChangeSpec := { name := "fnExactReachedAt", fn := fun _ => fun
  | [d1, d2, d3] => { results := [.lit (.bool true)], args := [d1, d2, d3] }
  | _ => none }
def fnExactReachedAtRow : OpenClaim := { program := "ytplbahdomjeekaagreat", sum := "f20dc4c6957707244782ca48c74f43c70186a4bf8baf8ec86832d39527ddaa23", func := "loop.example/g00887/laws.FnExactReachedAt", spec := "fnExactReachedAt", unfollowed := true, recurses := true, named := ["math/bits.divideError", "math/bits.overflowError"], apart := false }
def FnExactReachedAtSaid : Prop := fnExactReachedAtRow.holds Tryz.pinned (OpenSpec.ofChange fnExactReachedAtSpec)

/-- ITS FALSE NEIGHBOUR: 'it returns false'. Refute it at one input. -/
def fnExactReachedAtWrong : ChangeSpec := { name := "fnExactReachedAt", fn := fun _ => fun
  | [d1, d2, d3] => { results := [.lit (.bool false)], args := [d1, d2, d3] }
  | _ => none }
def FnExactReachedAtWrongFalsely : Prop := fnExactReachedAtRow.holds Tryz.pinned (OpenSpec.ofChange fnExactReachedAtWrong)

/-- 'laws.FnExactLegTimes': WHATEVER THE INPUT: true; the input reads as it did. -/
def fnExactLegTimesSpec : ChangeSpec := { name := "fnExactLegTimes", fn := fun _ => fun
  | [d1, d2] => { results := [.lit (.bool true)], args := [d1, d2] }
  | _ => none }
def fnExactLegTimesRow : OpenClaim := { program := "ytplbahdomjeekaagreat", sum := "f20dc4c6957707244782ca48c74f43c70186a4bf8baf8ec86832d39527ddaa23", func := "loop.example/g00887/laws.FnExactLegTimes", spec := "fnExactLegTimes", unfollowed := true, recurses := true, named := ["math/bits.divideError", "math/bits.overflowError"], apart := false }
def FnExactLegTimesSaid : Prop := fnExactLegTimesRow.holds Tryz.pinned (OpenSpec.ofChange fnExactLegTimesSpec)

/-- ITS FALSE NEIGHBOUR: 'it returns false'. Refute it at one input. -/
def fnExactLegTimesWrong : ChangeSpec := { name := "fnExactLegTimes", fn := fun _ => fun
  | [d1, d2] => { results := [.lit (.bool false)], args := [d1, d2] }
  | _ => none }
def FnExactLegTimesWrongFalsely : Prop := fnExactLegTimesRow.holds Tryz.pinned (OpenSpec.ofChange fnExactLegTimesWrong)

/-- 'laws.FnExactDistanceToNext': WHATEVER THE INPUT: true; the input reads as it did. -/
def fnExactDistanceToNextSpec : ChangeSpec := { name := "fnExactDistanceToNext", fn := fun _ => fun
  | [d1, d2, d3] => { results := [.lit (.bool true)], args := [d1, d2, d3] }
  | _ => none }
def fnExactDistanceToNextRow : OpenClaim := { program := "ytplbahdomjeekaagreat", sum := "f20dc4c6957707244782ca48c74f43c70186a4bf8baf8ec86832d39527ddaa23", func := "loop.example/g00887/laws.FnExactDistanceToNext", spec := "fnExactDistanceToNext", unfollowed := true, recurses := true, named := ["math/bits.divideError", "math/bits.overflowError"], apart := false }
def FnExactDistanceToNextSaid : Prop := fnExactDistanceToNextRow.holds Tryz.pinned (OpenSpec.ofChange fnExactDistanceToNextSpec)

/-- ITS FALSE NEIGHBOUR: 'it returns false'. Refute it at one input. -/
def fnExactDistanceToNextWrong : ChangeSpec := { name := "fnExactDistanceToNext", fn := fun _ => fun
  | [d1, d2, d3] => { results := [.lit (.bool false)], args := [d1, d2, d3] }
  | _ => none }
def FnExactDistanceToNextWrongFalsely : Prop := fnExactDistanceToNextRow.holds Tryz.pinned (OpenSpec.ofChange fnExactDistanceToNextWrong)

/- THE SECOND FORM. 'bulk': how many values and letters a reading holds, each counted each time it is reached (what is shared counts as often as it is met; a slice's spare places count too). A statement '..UptoSaid' is the law's where the arguments, and the package variables that the reading takes, are together of bulk at most 1048576: NARROWER than '..Said'. Prove '..Said' where nothing that the law and all that it calls make is longer than what came in: it says more and counts as full. Else prove '..UptoSaid'. A law counts once. -/
mutual
def uptoBulk {H : Type} : DataW H → Nat
  | .lit (.string bytes) => bytes.length + 1
  | .lit _ => 1
  | .nil => 1
  | .ptr d => uptoBulk d + 1
  | .slice elems spare => uptoBulkAll elems + uptoBulkAll spare + 1
  | .agg parts => uptoBulkAll parts + 1
  | .iface _ d => uptoBulk d + 1
  | .map entries => uptoBulkEntries entries + 1
  | .held _ => 1
def uptoBulkAll {H : Type} : List (DataW H) → Nat
  | [] => 0
  | d :: r => uptoBulk d + uptoBulkAll r
def uptoBulkEntries {H : Type} : List (Lit × DataW H) → Nat
  | [] => 0
  | x :: r => uptoBulkEntry x + uptoBulkEntries r
def uptoBulkEntry {H : Type} : Lit × DataW H → Nat
  | (.string bytes, d) => bytes.length + uptoBulk d + 1
  | (_, d) => uptoBulk d + 1
 end
def uptoSmall : (H : Type) → List (DataW H) → Bool := fun _ ds => decide (uptoBulkAll ds ≤ 1048576)
def OpenSpec.upto (s : _root_.Go.ChangeSpec) : _root_.Go.OpenSpec := { _root_.Go.OpenSpec.ofChange s with cond := some uptoSmall }

/-- 'laws.FnZone', WHERE WHAT IT READS IS OF BULK AT MOST 1048576: true; the input reads as it did. -/
def fnZoneUptoRow : OpenClaim := { program := "ytplbahdomjeekaagreat", sum := "f20dc4c6957707244782ca48c74f43c70186a4bf8baf8ec86832d39527ddaa23", func := "loop.example/g00887/laws.FnZone", spec := "fnZone", unfollowed := true, recurses := true, named := ["math/bits.divideError", "math/bits.overflowError"], apart := false, narrowed := true }
def FnZoneUptoSaid : Prop := fnZoneUptoRow.holds Tryz.pinned (OpenSpec.upto fnZoneSpec)

/-- 'laws.FnVisits', WHERE WHAT IT READS IS OF BULK AT MOST 1048576: true; the input reads as it did. -/
def fnVisitsUptoRow : OpenClaim := { program := "ytplbahdomjeekaagreat", sum := "f20dc4c6957707244782ca48c74f43c70186a4bf8baf8ec86832d39527ddaa23", func := "loop.example/g00887/laws.FnVisits", spec := "fnVisits", unfollowed := true, recurses := true, apart := false, narrowed := true }
def FnVisitsUptoSaid : Prop := fnVisitsUptoRow.holds Tryz.pinned (OpenSpec.upto fnVisitsSpec)

/-- 'laws.FnNearest', WHERE WHAT IT READS IS OF BULK AT MOST 1048576: true; the input reads as it did. -/
def fnNearestUptoRow : OpenClaim := { program := "ytplbahdomjeekaagreat", sum := "f20dc4c6957707244782ca48c74f43c70186a4bf8baf8ec86832d39527ddaa23", func := "loop.example/g00887/laws.FnNearest", spec := "fnNearest", unfollowed := true, recurses := true, named := ["math/bits.divideError", "math/bits.overflowError"], apart := false, narrowed := true }
def FnNearestUptoSaid : Prop := fnNearestUptoRow.holds Tryz.pinned (OpenSpec.upto fnNearestSpec)

/-- 'laws.FnFirstToZone', WHERE WHAT IT READS IS OF BULK AT MOST 1048576: true; the input reads as it did. -/
def fnFirstToZoneUptoRow : OpenClaim := { program := "ytplbahdomjeekaagreat", sum := "f20dc4c6957707244782ca48c74f43c70186a4bf8baf8ec86832d39527ddaa23", func := "loop.example/g00887/laws.FnFirstToZone", spec := "fnFirstToZone", unfollowed := true, recurses := true, apart := false, narrowed := true }
def FnFirstToZoneUptoSaid : Prop := fnFirstToZoneUptoRow.holds Tryz.pinned (OpenSpec.upto fnFirstToZoneSpec)

/-- 'laws.FnExactVisitsOf', WHERE WHAT IT READS IS OF BULK AT MOST 1048576: true; the input reads as it did. -/
def fnExactVisitsOfUptoRow : OpenClaim := { program := "ytplbahdomjeekaagreat", sum := "f20dc4c6957707244782ca48c74f43c70186a4bf8baf8ec86832d39527ddaa23", func := "loop.example/g00887/laws.FnExactVisitsOf", spec := "fnExactVisitsOf", unfollowed := true, recurses := true, apart := false, narrowed := true }
def FnExactVisitsOfUptoSaid : Prop := fnExactVisitsOfUptoRow.holds Tryz.pinned (OpenSpec.upto fnExactVisitsOfSpec)

/-- 'laws.FnExactFirstToZone', WHERE WHAT IT READS IS OF BULK AT MOST 1048576: true; the input reads as it did. -/
def fnExactFirstToZoneUptoRow : OpenClaim := { program := "ytplbahdomjeekaagreat", sum := "f20dc4c6957707244782ca48c74f43c70186a4bf8baf8ec86832d39527ddaa23", func := "loop.example/g00887/laws.FnExactFirstToZone", spec := "fnExactFirstToZone", unfollowed := true, recurses := true, apart := false, narrowed := true }
def FnExactFirstToZoneUptoSaid : Prop := fnExactFirstToZoneUptoRow.holds Tryz.pinned (OpenSpec.upto fnExactFirstToZoneSpec)

/-- 'laws.FnSailed', WHERE WHAT IT READS IS OF BULK AT MOST 1048576: true; the input reads as it did. -/
def fnSailedUptoRow : OpenClaim := { program := "ytplbahdomjeekaagreat", sum := "f20dc4c6957707244782ca48c74f43c70186a4bf8baf8ec86832d39527ddaa23", func := "loop.example/g00887/laws.FnSailed", spec := "fnSailed", unfollowed := true, recurses := true, named := ["math/bits.divideError", "math/bits.overflowError"], apart := false, narrowed := true }
def FnSailedUptoSaid : Prop := fnSailedUptoRow.holds Tryz.pinned (OpenSpec.upto fnSailedSpec)

/-- 'laws.FnExactTimesSailed', WHERE WHAT IT READS IS OF BULK AT MOST 1048576: true; the input reads as it did. -/
def fnExactTimesSailedUptoRow : OpenClaim := { program := "ytplbahdomjeekaagreat", sum := "f20dc4c6957707244782ca48c74f43c70186a4bf8baf8ec86832d39527ddaa23", func := "loop.example/g00887/laws.FnExactTimesSailed", spec := "fnExactTimesSailed", unfollowed := true, recurses := true, named := ["math/bits.divideError", "math/bits.overflowError"], apart := false, narrowed := true }
def FnExactTimesSailedUptoSaid : Prop := fnExactTimesSailedUptoRow.holds Tryz.pinned (OpenSpec.upto fnExactTimesSailedSpec)

/-- 'laws.FnExactFinishTime', WHERE WHAT IT READS IS OF BULK AT MOST 1048576: true; the input reads as it did. -/
def fnExactFinishTimeUptoRow : OpenClaim := { program := "ytplbahdomjeekaagreat", sum := "f20dc4c6957707244782ca48c74f43c70186a4bf8baf8ec86832d39527ddaa23", func := "loop.example/g00887/laws.FnExactFinishTime", spec := "fnExactFinishTime", unfollowed := true, recurses := true, named := ["math/bits.divideError", "math/bits.overflowError"], apart := false, narrowed := true }
def FnExactFinishTimeUptoSaid : Prop := fnExactFinishTimeUptoRow.holds Tryz.pinned (OpenSpec.upto fnExactFinishTimeSpec)

/-- 'laws.FnExactReachedAt', WHERE WHAT IT READS IS OF BULK AT MOST 1048576: true; the input reads as it did. -/
def fnExactReachedAtUptoRow : OpenClaim := { program := "ytplbahdomjeekaagreat", sum := "f20dc4c6957707244782ca48c74f43c70186a4bf8baf8ec86832d39527ddaa23", func := "loop.example/g00887/laws.FnExactReachedAt", spec := "fnExactReachedAt", unfollowed := true, recurses := true, named := ["math/bits.divideError", "math/bits.overflowError"], apart := false, narrowed := true }
def FnExactReachedAtUptoSaid : Prop := fnExactReachedAtUptoRow.holds Tryz.pinned (OpenSpec.upto fnExactReachedAtSpec)

/-- 'laws.FnExactLegTimes', WHERE WHAT IT READS IS OF BULK AT MOST 1048576: true; the input reads as it did. -/
def fnExactLegTimesUptoRow : OpenClaim := { program := "ytplbahdomjeekaagreat", sum := "f20dc4c6957707244782ca48c74f43c70186a4bf8baf8ec86832d39527ddaa23", func := "loop.example/g00887/laws.FnExactLegTimes", spec := "fnExactLegTimes", unfollowed := true, recurses := true, named := ["math/bits.divideError", "math/bits.overflowError"], apart := false, narrowed := true }
def FnExactLegTimesUptoSaid : Prop := fnExactLegTimesUptoRow.holds Tryz.pinned (OpenSpec.upto fnExactLegTimesSpec)

/-- 'laws.FnExactDistanceToNext', WHERE WHAT IT READS IS OF BULK AT MOST 1048576: true; the input reads as it did. -/
def fnExactDistanceToNextUptoRow : OpenClaim := { program := "ytplbahdomjeekaagreat", sum := "f20dc4c6957707244782ca48c74f43c70186a4bf8baf8ec86832d39527ddaa23", func := "loop.example/g00887/laws.FnExactDistanceToNext", spec := "fnExactDistanceToNext", unfollowed := true, recurses := true, named := ["math/bits.divideError", "math/bits.overflowError"], apart := false, narrowed := true }
def FnExactDistanceToNextUptoSaid : Prop := fnExactDistanceToNextUptoRow.holds Tryz.pinned (OpenSpec.upto fnExactDistanceToNextSpec)

end Rows
end Go.Proofs.YtplbahdomjeekaaGreat

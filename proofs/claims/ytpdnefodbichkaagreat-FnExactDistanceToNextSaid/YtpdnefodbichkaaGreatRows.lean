/-
  No cell of these rows narrows 'for every input' (looked for: loops, veiled, ifaces, maps, wideKeys, modest, calm, conditions, laid).
  DERIVED. THE GIVEN ROWS OF THIS SEAT. 9 by the template 'for every input the law returns true; each argument reads behind the call as it read before'; 0 by the template 'total and deterministic' (their statements: YtpdnefodbichkaaGreatTotals.lean).
  GIVEN WITH THE SEED: the statements are not yours to turn. If you find one false, say at which input.
  Laid BY PROGRAM, IN A SANDBOX (cutbox-rows.mjs): the forced cells as the released guide's own fill.sh prints them over the translation 42ae11496507d1cb… (all of the seat's roots in one cut). By AI agents, Wed Nov 11 2026. No macro, syntax, notation, axiom, sorry.
-/
import Derived.Test.YtpdnefodbichkaaGreatChecked
import GoSem.Claim
import GoSem.ClaimJoined
import GoSem.ClaimMapViews
import Derived.JoinedTies
import Derived.KernelRfl
namespace Go.Proofs.YtpdnefodbichkaaGreat
/- THE CELL 'sum', in the pinned program and in every row, IS THE sha256 OF THE DUMP (.gsa) THAT YtpdnefodbichkaaGreatProg.lean LOADS. Nothing in Lean hashes anything: it is a label: what it is worth is what the hold of that sum in a sandbox is worth. -/
noncomputable def Tryz.pinned : Pinned := { name := "ytpdnefodbichkaagreat", sum := "42ae11496507d1cb7a23f6c3389e246659ae7a570c5a3d28bec3ede24a80ec97", checked := Tryz.checked }
namespace Rows
def none {H : Type} : Left H := { results := [], args := [] }

/-- 'laws.FnSailed': WHATEVER THE INPUT: true; the input reads as it did. -/
def fnSailedSpec : ChangeSpec := { name := "fnSailed", fn := fun _ => fun
  | [d] => { results := [.lit (.bool true)], args := [d] }
  | _ => none }
def fnSailedRow : OpenClaim := { program := "ytpdnefodbichkaagreat", sum := "42ae11496507d1cb7a23f6c3389e246659ae7a570c5a3d28bec3ede24a80ec97", func := "loop.example/g00887/laws.FnSailed", spec := "fnSailed", unfollowed := true, recurses := true, named := ["math/bits.divideError", "math/bits.overflowError"], plainKeys := false, apart := false }
def FnSailedSaid : Prop := fnSailedRow.holds Tryz.pinned (OpenSpec.ofChange fnSailedSpec)

/-- ITS FALSE NEIGHBOUR: 'it returns false'. Refute it at one input. -/
def fnSailedWrong : ChangeSpec := { name := "fnSailed", fn := fun _ => fun
  | [d] => { results := [.lit (.bool false)], args := [d] }
  | _ => none }
def FnSailedWrongFalsely : Prop := fnSailedRow.holds Tryz.pinned (OpenSpec.ofChange fnSailedWrong)

/-- 'laws.FnOrder': WHATEVER THE INPUT: true; the input reads as it did. -/
def fnOrderSpec : ChangeSpec := { name := "fnOrder", fn := fun _ => fun
  | [d] => { results := [.lit (.bool true)], args := [d] }
  | _ => none }
def fnOrderRow : OpenClaim := { program := "ytpdnefodbichkaagreat", sum := "42ae11496507d1cb7a23f6c3389e246659ae7a570c5a3d28bec3ede24a80ec97", func := "loop.example/g00887/laws.FnOrder", spec := "fnOrder", unfollowed := true, recurses := true, named := ["math/bits.divideError", "math/bits.overflowError"], plainKeys := false, apart := false }
def FnOrderSaid : Prop := fnOrderRow.holds Tryz.pinned (OpenSpec.ofChange fnOrderSpec)

/-- ITS FALSE NEIGHBOUR: 'it returns false'. Refute it at one input. -/
def fnOrderWrong : ChangeSpec := { name := "fnOrder", fn := fun _ => fun
  | [d] => { results := [.lit (.bool false)], args := [d] }
  | _ => none }
def FnOrderWrongFalsely : Prop := fnOrderRow.holds Tryz.pinned (OpenSpec.ofChange fnOrderWrong)

/-- 'laws.FnExactTimesSailed': WHATEVER THE INPUT: true; the input reads as it did. -/
def fnExactTimesSailedSpec : ChangeSpec := { name := "fnExactTimesSailed", fn := fun _ => fun
  | [d1, d2] => { results := [.lit (.bool true)], args := [d1, d2] }
  | _ => none }
def fnExactTimesSailedRow : OpenClaim := { program := "ytpdnefodbichkaagreat", sum := "42ae11496507d1cb7a23f6c3389e246659ae7a570c5a3d28bec3ede24a80ec97", func := "loop.example/g00887/laws.FnExactTimesSailed", spec := "fnExactTimesSailed", unfollowed := true, recurses := true, named := ["math/bits.divideError", "math/bits.overflowError"], plainKeys := false, apart := false }
def FnExactTimesSailedSaid : Prop := fnExactTimesSailedRow.holds Tryz.pinned (OpenSpec.ofChange fnExactTimesSailedSpec)

/-- ITS FALSE NEIGHBOUR: 'it returns false'. Refute it at one input. -/
def fnExactTimesSailedWrong : ChangeSpec := { name := "fnExactTimesSailed", fn := fun _ => fun
  | [d1, d2] => { results := [.lit (.bool false)], args := [d1, d2] }
  | _ => none }
def FnExactTimesSailedWrongFalsely : Prop := fnExactTimesSailedRow.holds Tryz.pinned (OpenSpec.ofChange fnExactTimesSailedWrong)

/-- 'laws.FnExactFinishTime': WHATEVER THE INPUT: true; the input reads as it did. -/
def fnExactFinishTimeSpec : ChangeSpec := { name := "fnExactFinishTime", fn := fun _ => fun
  | [d1, d2] => { results := [.lit (.bool true)], args := [d1, d2] }
  | _ => none }
def fnExactFinishTimeRow : OpenClaim := { program := "ytpdnefodbichkaagreat", sum := "42ae11496507d1cb7a23f6c3389e246659ae7a570c5a3d28bec3ede24a80ec97", func := "loop.example/g00887/laws.FnExactFinishTime", spec := "fnExactFinishTime", unfollowed := true, recurses := true, named := ["math/bits.divideError", "math/bits.overflowError"], plainKeys := false, apart := false }
def FnExactFinishTimeSaid : Prop := fnExactFinishTimeRow.holds Tryz.pinned (OpenSpec.ofChange fnExactFinishTimeSpec)

/-- ITS FALSE NEIGHBOUR: 'it returns false'. Refute it at one input. -/
def fnExactFinishTimeWrong : ChangeSpec := { name := "fnExactFinishTime", fn := fun _ => fun
  | [d1, d2] => { results := [.lit (.bool false)], args := [d1, d2] }
  | _ => none }
def FnExactFinishTimeWrongFalsely : Prop := fnExactFinishTimeRow.holds Tryz.pinned (OpenSpec.ofChange fnExactFinishTimeWrong)

/-- 'laws.FnExactReachedAt': WHATEVER THE INPUT: true; the input reads as it did. -/
def fnExactReachedAtSpec : ChangeSpec := { name := "fnExactReachedAt", fn := fun _ => fun
  | [d1, d2, d3] => { results := [.lit (.bool true)], args := [d1, d2, d3] }
  | _ => none }
def fnExactReachedAtRow : OpenClaim := { program := "ytpdnefodbichkaagreat", sum := "42ae11496507d1cb7a23f6c3389e246659ae7a570c5a3d28bec3ede24a80ec97", func := "loop.example/g00887/laws.FnExactReachedAt", spec := "fnExactReachedAt", unfollowed := true, recurses := true, named := ["math/bits.divideError", "math/bits.overflowError"], plainKeys := false, apart := false }
def FnExactReachedAtSaid : Prop := fnExactReachedAtRow.holds Tryz.pinned (OpenSpec.ofChange fnExactReachedAtSpec)

/-- ITS FALSE NEIGHBOUR: 'it returns false'. Refute it at one input. -/
def fnExactReachedAtWrong : ChangeSpec := { name := "fnExactReachedAt", fn := fun _ => fun
  | [d1, d2, d3] => { results := [.lit (.bool false)], args := [d1, d2, d3] }
  | _ => none }
def FnExactReachedAtWrongFalsely : Prop := fnExactReachedAtRow.holds Tryz.pinned (OpenSpec.ofChange fnExactReachedAtWrong)

/-- 'laws.FnExactLegTimes': WHATEVER THE INPUT: true; the input reads as it did. -/
def fnExactLegTimesSpec : ChangeSpec := { name := "fnExactLegTimes", fn := fun _ => fun
  | [d1, d2] => { results := [.lit (.bool true)], args := [d1, d2] }
  | _ => none }
def fnExactLegTimesRow : OpenClaim := { program := "ytpdnefodbichkaagreat", sum := "42ae11496507d1cb7a23f6c3389e246659ae7a570c5a3d28bec3ede24a80ec97", func := "loop.example/g00887/laws.FnExactLegTimes", spec := "fnExactLegTimes", unfollowed := true, recurses := true, named := ["math/bits.divideError", "math/bits.overflowError"], plainKeys := false, apart := false }
def FnExactLegTimesSaid : Prop := fnExactLegTimesRow.holds Tryz.pinned (OpenSpec.ofChange fnExactLegTimesSpec)

/-- ITS FALSE NEIGHBOUR: 'it returns false'. Refute it at one input. -/
def fnExactLegTimesWrong : ChangeSpec := { name := "fnExactLegTimes", fn := fun _ => fun
  | [d1, d2] => { results := [.lit (.bool false)], args := [d1, d2] }
  | _ => none }
def FnExactLegTimesWrongFalsely : Prop := fnExactLegTimesRow.holds Tryz.pinned (OpenSpec.ofChange fnExactLegTimesWrong)

/-- 'laws.FnExactDistanceToNext': WHATEVER THE INPUT: true; the input reads as it did. -/
def fnExactDistanceToNextSpec : ChangeSpec := { name := "fnExactDistanceToNext", fn := fun _ => fun
  | [d1, d2, d3] => { results := [.lit (.bool true)], args := [d1, d2, d3] }
  | _ => none }
def fnExactDistanceToNextRow : OpenClaim := { program := "ytpdnefodbichkaagreat", sum := "42ae11496507d1cb7a23f6c3389e246659ae7a570c5a3d28bec3ede24a80ec97", func := "loop.example/g00887/laws.FnExactDistanceToNext", spec := "fnExactDistanceToNext", unfollowed := true, recurses := true, named := ["math/bits.divideError", "math/bits.overflowError"], plainKeys := false, apart := false }
def FnExactDistanceToNextSaid : Prop := fnExactDistanceToNextRow.holds Tryz.pinned (OpenSpec.ofChange fnExactDistanceToNextSpec)

/-- ITS FALSE NEIGHBOUR: 'it returns false'. Refute it at one input. -/
def fnExactDistanceToNextWrong : ChangeSpec := { name := "fnExactDistanceToNext", fn := fun _ => fun
  | [d1, d2, d3] => { results := [.lit (.bool false)], args := [d1, d2, d3] }
  | _ => none }
def FnExactDistanceToNextWrongFalsely : Prop := fnExactDistanceToNextRow.holds Tryz.pinned (OpenSpec.ofChange fnExactDistanceToNextWrong)

/-- 'laws.FnExactOrderAt': WHATEVER THE INPUT: true; the input reads as it did. -/
def fnExactOrderAtSpec : ChangeSpec := { name := "fnExactOrderAt", fn := fun _ => fun
  | [d1, d2, d3] => { results := [.lit (.bool true)], args := [d1, d2, d3] }
  | _ => none }
def fnExactOrderAtRow : OpenClaim := { program := "ytpdnefodbichkaagreat", sum := "42ae11496507d1cb7a23f6c3389e246659ae7a570c5a3d28bec3ede24a80ec97", func := "loop.example/g00887/laws.FnExactOrderAt", spec := "fnExactOrderAt", unfollowed := true, recurses := true, named := ["math/bits.divideError", "math/bits.overflowError"], plainKeys := false, apart := false }
def FnExactOrderAtSaid : Prop := fnExactOrderAtRow.holds Tryz.pinned (OpenSpec.ofChange fnExactOrderAtSpec)

/-- ITS FALSE NEIGHBOUR: 'it returns false'. Refute it at one input. -/
def fnExactOrderAtWrong : ChangeSpec := { name := "fnExactOrderAt", fn := fun _ => fun
  | [d1, d2, d3] => { results := [.lit (.bool false)], args := [d1, d2, d3] }
  | _ => none }
def FnExactOrderAtWrongFalsely : Prop := fnExactOrderAtRow.holds Tryz.pinned (OpenSpec.ofChange fnExactOrderAtWrong)

/-- 'laws.FnExactLengthsToMark': WHATEVER THE INPUT: true; the input reads as it did. -/
def fnExactLengthsToMarkSpec : ChangeSpec := { name := "fnExactLengthsToMark", fn := fun _ => fun
  | [d1, d2, d3, d4, d5] => { results := [.lit (.bool true)], args := [d1, d2, d3, d4, d5] }
  | _ => none }
def fnExactLengthsToMarkRow : OpenClaim := { program := "ytpdnefodbichkaagreat", sum := "42ae11496507d1cb7a23f6c3389e246659ae7a570c5a3d28bec3ede24a80ec97", func := "loop.example/g00887/laws.FnExactLengthsToMark", spec := "fnExactLengthsToMark", unfollowed := true, recurses := true, named := ["math/bits.divideError", "math/bits.overflowError"], plainKeys := false, apart := false }
def FnExactLengthsToMarkSaid : Prop := fnExactLengthsToMarkRow.holds Tryz.pinned (OpenSpec.ofChange fnExactLengthsToMarkSpec)

/-- ITS FALSE NEIGHBOUR: 'it returns false'. Refute it at one input. -/
def fnExactLengthsToMarkWrong : ChangeSpec := { name := "fnExactLengthsToMark", fn := fun _ => fun
  | [d1, d2, d3, d4, d5] => { results := [.lit (.bool false)], args := [d1, d2, d3, d4, d5] }
  | _ => none }
def FnExactLengthsToMarkWrongFalsely : Prop := fnExactLengthsToMarkRow.holds Tryz.pinned (OpenSpec.ofChange fnExactLengthsToMarkWrong)

/- THE SECOND FORM. 'bulk': how many values and letters a reading holds, each counted each time it is reached (what is shared counts as often as it is met; a slice's spare places count too). A statement '..UptoSaid' is the law's where the arguments, and the package variables that the reading takes, are together of bulk at most 1048576: NARROWER than '..Said'. Prove '..Said' where nothing that the law and all that it calls make is longer than what came in: it says more and counts as full. Else prove '..UptoSaid'. A law counts once. -/
mutual
def uptoBulk {H : Type} : DataW H → Nat
  | .lit (.string bytes) => bytes.length + 1
  | .lit _ => 1
  | .nil => 1
  | .ptr d => uptoBulk d + 1
  | .slice elems spare => uptoBulkAll elems + uptoBulkAll spare + 1
  | .agg parts => uptoBulkAll parts + 1
  | .iface _ d => uptoBulk d + 1
  | .map entries => uptoBulkEntries entries + 1
  | .held _ => 1
def uptoBulkAll {H : Type} : List (DataW H) → Nat
  | [] => 0
  | d :: r => uptoBulk d + uptoBulkAll r
def uptoBulkEntries {H : Type} : List (Lit × DataW H) → Nat
  | [] => 0
  | x :: r => uptoBulkEntry x + uptoBulkEntries r
def uptoBulkEntry {H : Type} : Lit × DataW H → Nat
  | (.string bytes, d) => bytes.length + uptoBulk d + 1
  | (_, d) => uptoBulk d + 1
 end
def uptoSmall : (H : Type) → List (DataW H) → Bool := fun _ ds => decide (uptoBulkAll ds ≤ 1048576)
def OpenSpec.upto (s : _root_.Go.ChangeSpec) : _root_.Go.OpenSpec := { _root_.Go.OpenSpec.ofChange s with cond := some uptoSmall }

/-- 'laws.FnSailed', WHERE WHAT IT READS IS OF BULK AT MOST 1048576: true; the input reads as it did. -/
def fnSailedUptoRow : OpenClaim := { program := "ytpdnefodbichkaagreat", sum := "42ae11496507d1cb7a23f6c3389e246659ae7a570c5a3d28bec3ede24a80ec97", func := "loop.example/g00887/laws.FnSailed", spec := "fnSailed", unfollowed := true, recurses := true, named := ["math/bits.divideError", "math/bits.overflowError"], plainKeys := false, apart := false, narrowed := true }
def FnSailedUptoSaid : Prop := fnSailedUptoRow.holds Tryz.pinned (OpenSpec.upto fnSailedSpec)

/-- 'laws.FnOrder', WHERE WHAT IT READS IS OF BULK AT MOST 1048576: true; the input reads as it did. -/
def fnOrderUptoRow : OpenClaim := { program := "ytpdnefodbichkaagreat", sum := "42ae11496507d1cb7a23f6c3389e246659ae7a570c5a3d28bec3ede24a80ec97", func := "loop.example/g00887/laws.FnOrder", spec := "fnOrder", unfollowed := true, recurses := true, named := ["math/bits.divideError", "math/bits.overflowError"], plainKeys := false, apart := false, narrowed := true }
def FnOrderUptoSaid : Prop := fnOrderUptoRow.holds Tryz.pinned (OpenSpec.upto fnOrderSpec)

/-- 'laws.FnExactTimesSailed', WHERE WHAT IT READS IS OF BULK AT MOST 1048576: true; the input reads as it did. -/
def fnExactTimesSailedUptoRow : OpenClaim := { program := "ytpdnefodbichkaagreat", sum := "42ae11496507d1cb7a23f6c3389e246659ae7a570c5a3d28bec3ede24a80ec97", func := "loop.example/g00887/laws.FnExactTimesSailed", spec := "fnExactTimesSailed", unfollowed := true, recurses := true, named := ["math/bits.divideError", "math/bits.overflowError"], plainKeys := false, apart := false, narrowed := true }
def FnExactTimesSailedUptoSaid : Prop := fnExactTimesSailedUptoRow.holds Tryz.pinned (OpenSpec.upto fnExactTimesSailedSpec)

/-- 'laws.FnExactFinishTime', WHERE WHAT IT READS IS OF BULK AT MOST 1048576: true; the input reads as it did. -/
def fnExactFinishTimeUptoRow : OpenClaim := { program := "ytpdnefodbichkaagreat", sum := "42ae11496507d1cb7a23f6c3389e246659ae7a570c5a3d28bec3ede24a80ec97", func := "loop.example/g00887/laws.FnExactFinishTime", spec := "fnExactFinishTime", unfollowed := true, recurses := true, named := ["math/bits.divideError", "math/bits.overflowError"], plainKeys := false, apart := false, narrowed := true }
def FnExactFinishTimeUptoSaid : Prop := fnExactFinishTimeUptoRow.holds Tryz.pinned (OpenSpec.upto fnExactFinishTimeSpec)

/-- 'laws.FnExactReachedAt', WHERE WHAT IT READS IS OF BULK AT MOST 1048576: true; the input reads as it did. -/
def fnExactReachedAtUptoRow : OpenClaim := { program := "ytpdnefodbichkaagreat", sum := "42ae11496507d1cb7a23f6c3389e246659ae7a570c5a3d28bec3ede24a80ec97", func := "loop.example/g00887/laws.FnExactReachedAt", spec := "fnExactReachedAt", unfollowed := true, recurses := true, named := ["math/bits.divideError", "math/bits.overflowError"], plainKeys := false, apart := false, narrowed := true }
def FnExactReachedAtUptoSaid : Prop := fnExactReachedAtUptoRow.holds Tryz.pinned (OpenSpec.upto fnExactReachedAtSpec)

/-- 'laws.FnExactLegTimes', WHERE WHAT IT READS IS OF BULK AT MOST 1048576: true; the input reads as it did. -/
def fnExactLegTimesUptoRow : OpenClaim := { program := "ytpdnefodbichkaagreat", sum := "42ae11496507d1cb7a23f6c3389e246659ae7a570c5a3d28bec3ede24a80ec97", func := "loop.example/g00887/laws.FnExactLegTimes", spec := "fnExactLegTimes", unfollowed := true, recurses := true, named := ["math/bits.divideError", "math/bits.overflowError"], plainKeys := false, apart := false, narrowed := true }
def FnExactLegTimesUptoSaid : Prop := fnExactLegTimesUptoRow.holds Tryz.pinned (OpenSpec.upto fnExactLegTimesSpec)

/-- 'laws.FnExactDistanceToNext', WHERE WHAT IT READS IS OF BULK AT MOST 1048576: true; the input reads as it did. -/
def fnExactDistanceToNextUptoRow : OpenClaim := { program := "ytpdnefodbichkaagreat", sum := "42ae11496507d1cb7a23f6c3389e246659ae7a570c5a3d28bec3ede24a80ec97", func := "loop.example/g00887/laws.FnExactDistanceToNext", spec := "fnExactDistanceToNext", unfollowed := true, recurses := true, named := ["math/bits.divideError", "math/bits.overflowError"], plainKeys := false, apart := false, narrowed := true }
def FnExactDistanceToNextUptoSaid : Prop := fnExactDistanceToNextUptoRow.holds Tryz.pinned (OpenSpec.upto fnExactDistanceToNextSpec)

/-- 'laws.FnExactOrderAt', WHERE WHAT IT READS IS OF BULK AT MOST 1048576: true; the input reads as it did. -/
def fnExactOrderAtUptoRow : OpenClaim := { program := "ytpdnefodbichkaagreat", sum := "42ae11496507d1cb7a23f6c3389e246659ae7a570c5a3d28bec3ede24a80ec97", func := "loop.example/g00887/laws.FnExactOrderAt", spec := "fnExactOrderAt", unfollowed := true, recurses := true, named := ["math/bits.divideError", "math/bits.overflowError"], plainKeys := false, apart := false, narrowed := true }
def FnExactOrderAtUptoSaid : Prop := fnExactOrderAtUptoRow.holds Tryz.pinned (OpenSpec.upto fnExactOrderAtSpec)

/-- 'laws.FnExactLengthsToMark', WHERE WHAT IT READS IS OF BULK AT MOST 1048576: true; the input reads as it did. -/
def fnExactLengthsToMarkUptoRow : OpenClaim := { program := "ytpdnefodbichkaagreat", sum := "42ae11496507d1cb7a23f6c3389e246659ae7a570c5a3d28bec3ede24a80ec97", func := "loop.example/g00887/laws.FnExactLengthsToMark", spec := "fnExactLengthsToMark", unfollowed := true, recurses := true, named := ["math/bits.divideError", "math/bits.overflowError"], plainKeys := false, apart := false, narrowed := true }
def FnExactLengthsToMarkUptoSaid : Prop := fnExactLengthsToMarkUptoRow.holds Tryz.pinned (OpenSpec.upto fnExactLengthsToMarkSpec)

end Rows
end Go.Proofs.YtpdnefodbichkaaGreat

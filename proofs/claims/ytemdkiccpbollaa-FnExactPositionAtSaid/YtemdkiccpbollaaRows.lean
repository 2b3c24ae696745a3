/-
  No cell of these rows narrows 'for every input' (looked for: loops, veiled, ifaces, maps, wideKeys, modest, calm, conditions, laid).
  DERIVED. THE GIVEN ROWS OF THIS SEAT. 12 by the template 'for every input the law returns true; each argument reads behind the call as it read before'; 0 by the template 'total and deterministic' (their statements: YtemdkiccpbollaaTotals.lean).
  GIVEN WITH THE SEED: the statements are not yours to turn. If you find one false, say at which input.
  Laid BY PROGRAM, IN A SANDBOX (cutbox-rows.mjs): the forced cells as the released guide's own fill.sh prints them over the translation a8b0610a0b84a97e… (all of the seat's roots in one cut). By AI agents, Wed Nov 11 2026. No macro, syntax, notation, axiom, sorry.
-/
import Derived.Test.YtemdkiccpbollaaChecked
import GoSem.Claim
import GoSem.ClaimJoined
import GoSem.ClaimMapViews
import Derived.JoinedTies
import Derived.KernelRfl
namespace Go.Proofs.Ytemdkiccpbollaa
/- THE CELL 'sum', in the pinned program and in every row, IS THE sha256 OF THE DUMP (.gsa) THAT YtemdkiccpbollaaProg.lean LOADS. Nothing in Lean hashes anything: it is a label: what it is worth is what the hold of that sum in a sandbox is worth. -/
noncomputable def Try.pinned : Pinned := { name := "ytemdkiccpbollaa", sum := "a8b0610a0b84a97e78b251d4f793b1a912cd0783e262632ef61896756f29bf60", checked := Try.checked }
namespace Rows
def none {H : Type} : Left H := { results := [], args := [] }

/-- 'laws.FnPlace': WHATEVER THE INPUT: true; the input reads as it did. -/
def fnPlaceSpec : ChangeSpec := { name := "fnPlace", fn := fun _ => fun
  | [d] => { results := [.lit (.bool true)], args := [d] }
  | _ => none }
def fnPlaceRow : OpenClaim := { program := "ytemdkiccpbollaa", sum := "a8b0610a0b84a97e78b251d4f793b1a912cd0783e262632ef61896756f29bf60", func := "loop.example/g00887/laws.FnPlace", spec := "fnPlace", named := ["math/bits.divideError", "math/bits.overflowError"], apart := false }
def FnPlaceSaid : Prop := fnPlaceRow.holds Try.pinned (OpenSpec.ofChange fnPlaceSpec)

/-- ITS FALSE NEIGHBOUR: 'it returns false'. Refute it at one input. -/
def fnPlaceWrong : ChangeSpec := { name := "fnPlace", fn := fun _ => fun
  | [d] => { results := [.lit (.bool false)], args := [d] }
  | _ => none }
def FnPlaceWrongFalsely : Prop := fnPlaceRow.holds Try.pinned (OpenSpec.ofChange fnPlaceWrong)

/-- 'laws.FnPosition': WHATEVER THE INPUT: true; the input reads as it did. -/
def fnPositionSpec : ChangeSpec := { name := "fnPosition", fn := fun _ => fun
  | [d] => { results := [.lit (.bool true)], args := [d] }
  | _ => none }
def fnPositionRow : OpenClaim := { program := "ytemdkiccpbollaa", sum := "a8b0610a0b84a97e78b251d4f793b1a912cd0783e262632ef61896756f29bf60", func := "loop.example/g00887/laws.FnPosition", spec := "fnPosition", unfollowed := true, recurses := true, named := ["math/bits.divideError", "math/bits.overflowError"], apart := false }
def FnPositionSaid : Prop := fnPositionRow.holds Try.pinned (OpenSpec.ofChange fnPositionSpec)

/-- ITS FALSE NEIGHBOUR: 'it returns false'. Refute it at one input. -/
def fnPositionWrong : ChangeSpec := { name := "fnPosition", fn := fun _ => fun
  | [d] => { results := [.lit (.bool false)], args := [d] }
  | _ => none }
def FnPositionWrongFalsely : Prop := fnPositionRow.holds Try.pinned (OpenSpec.ofChange fnPositionWrong)

/-- 'laws.FnSpeed': WHATEVER THE INPUT: true; the input reads as it did. -/
def fnSpeedSpec : ChangeSpec := { name := "fnSpeed", fn := fun _ => fun
  | [d] => { results := [.lit (.bool true)], args := [d] }
  | _ => none }
def fnSpeedRow : OpenClaim := { program := "ytemdkiccpbollaa", sum := "a8b0610a0b84a97e78b251d4f793b1a912cd0783e262632ef61896756f29bf60", func := "loop.example/g00887/laws.FnSpeed", spec := "fnSpeed", apart := false }
def FnSpeedSaid : Prop := fnSpeedRow.holds Try.pinned (OpenSpec.ofChange fnSpeedSpec)

/-- ITS FALSE NEIGHBOUR: 'it returns false'. Refute it at one input. -/
def fnSpeedWrong : ChangeSpec := { name := "fnSpeed", fn := fun _ => fun
  | [d] => { results := [.lit (.bool false)], args := [d] }
  | _ => none }
def FnSpeedWrongFalsely : Prop := fnSpeedRow.holds Try.pinned (OpenSpec.ofChange fnSpeedWrong)

/-- 'laws.FnCutJoin': WHATEVER THE INPUT: true; the input reads as it did. -/
def fnCutJoinSpec : ChangeSpec := { name := "fnCutJoin", fn := fun _ => fun
  | [d] => { results := [.lit (.bool true)], args := [d] }
  | _ => none }
def fnCutJoinRow : OpenClaim := { program := "ytemdkiccpbollaa", sum := "a8b0610a0b84a97e78b251d4f793b1a912cd0783e262632ef61896756f29bf60", func := "loop.example/g00887/laws.FnCutJoin", spec := "fnCutJoin", unfollowed := true, recurses := true, named := ["math/bits.divideError", "math/bits.overflowError"], apart := false }
def FnCutJoinSaid : Prop := fnCutJoinRow.holds Try.pinned (OpenSpec.ofChange fnCutJoinSpec)

/-- ITS FALSE NEIGHBOUR: 'it returns false'. Refute it at one input. -/
def fnCutJoinWrong : ChangeSpec := { name := "fnCutJoin", fn := fun _ => fun
  | [d] => { results := [.lit (.bool false)], args := [d] }
  | _ => none }
def FnCutJoinWrongFalsely : Prop := fnCutJoinRow.holds Try.pinned (OpenSpec.ofChange fnCutJoinWrong)

/-- 'laws.FnExactPositionAt': WHATEVER THE INPUT: true; the input reads as it did. -/
def fnExactPositionAtSpec : ChangeSpec := { name := "fnExactPositionAt", fn := fun _ => fun
  | [d1, d2] => { results := [.lit (.bool true)], args := [d1, d2] }
  | _ => none }
def fnExactPositionAtRow : OpenClaim := { program := "ytemdkiccpbollaa", sum := "a8b0610a0b84a97e78b251d4f793b1a912cd0783e262632ef61896756f29bf60", func := "loop.example/g00887/laws.FnExactPositionAt", spec := "fnExactPositionAt", unfollowed := true, recurses := true, named := ["math/bits.divideError", "math/bits.overflowError"], apart := false }
def FnExactPositionAtSaid : Prop := fnExactPositionAtRow.holds Try.pinned (OpenSpec.ofChange fnExactPositionAtSpec)

/-- ITS FALSE NEIGHBOUR: 'it returns false'. Refute it at one input. -/
def fnExactPositionAtWrong : ChangeSpec := { name := "fnExactPositionAt", fn := fun _ => fun
  | [d1, d2] => { results := [.lit (.bool false)], args := [d1, d2] }
  | _ => none }
def FnExactPositionAtWrongFalsely : Prop := fnExactPositionAtRow.holds Try.pinned (OpenSpec.ofChange fnExactPositionAtWrong)

/-- 'laws.FnExactSpeedOf': WHATEVER THE INPUT: true; the input reads as it did. -/
def fnExactSpeedOfSpec : ChangeSpec := { name := "fnExactSpeedOf", fn := fun _ => fun
  | [d1, d2] => { results := [.lit (.bool true)], args := [d1, d2] }
  | _ => none }
def fnExactSpeedOfRow : OpenClaim := { program := "ytemdkiccpbollaa", sum := "a8b0610a0b84a97e78b251d4f793b1a912cd0783e262632ef61896756f29bf60", func := "loop.example/g00887/laws.FnExactSpeedOf", spec := "fnExactSpeedOf", apart := false }
def FnExactSpeedOfSaid : Prop := fnExactSpeedOfRow.holds Try.pinned (OpenSpec.ofChange fnExactSpeedOfSpec)

/-- ITS FALSE NEIGHBOUR: 'it returns false'. Refute it at one input. -/
def fnExactSpeedOfWrong : ChangeSpec := { name := "fnExactSpeedOf", fn := fun _ => fun
  | [d1, d2] => { results := [.lit (.bool false)], args := [d1, d2] }
  | _ => none }
def FnExactSpeedOfWrongFalsely : Prop := fnExactSpeedOfRow.holds Try.pinned (OpenSpec.ofChange fnExactSpeedOfWrong)

/-- 'laws.FnExactCutTrack': WHATEVER THE INPUT: true; the input reads as it did. -/
def fnExactCutTrackSpec : ChangeSpec := { name := "fnExactCutTrack", fn := fun _ => fun
  | [d1, d2, d3] => { results := [.lit (.bool true)], args := [d1, d2, d3] }
  | _ => none }
def fnExactCutTrackRow : OpenClaim := { program := "ytemdkiccpbollaa", sum := "a8b0610a0b84a97e78b251d4f793b1a912cd0783e262632ef61896756f29bf60", func := "loop.example/g00887/laws.FnExactCutTrack", spec := "fnExactCutTrack", unfollowed := true, recurses := true, named := ["math/bits.divideError", "math/bits.overflowError"], apart := false }
def FnExactCutTrackSaid : Prop := fnExactCutTrackRow.holds Try.pinned (OpenSpec.ofChange fnExactCutTrackSpec)

/-- ITS FALSE NEIGHBOUR: 'it returns false'. Refute it at one input. -/
def fnExactCutTrackWrong : ChangeSpec := { name := "fnExactCutTrack", fn := fun _ => fun
  | [d1, d2, d3] => { results := [.lit (.bool false)], args := [d1, d2, d3] }
  | _ => none }
def FnExactCutTrackWrongFalsely : Prop := fnExactCutTrackRow.holds Try.pinned (OpenSpec.ofChange fnExactCutTrackWrong)

/-- 'laws.FnExactIsCourse': WHATEVER THE INPUT: true; the input reads as it did. -/
def fnExactIsCourseSpec : ChangeSpec := { name := "fnExactIsCourse", fn := fun _ => fun
  | [d] => { results := [.lit (.bool true)], args := [d] }
  | _ => none }
def fnExactIsCourseRow : OpenClaim := { program := "ytemdkiccpbollaa", sum := "a8b0610a0b84a97e78b251d4f793b1a912cd0783e262632ef61896756f29bf60", func := "loop.example/g00887/laws.FnExactIsCourse", spec := "fnExactIsCourse", unfollowed := true, recurses := true, apart := false }
def FnExactIsCourseSaid : Prop := fnExactIsCourseRow.holds Try.pinned (OpenSpec.ofChange fnExactIsCourseSpec)

/-- ITS FALSE NEIGHBOUR: 'it returns false'. Refute it at one input. -/
def fnExactIsCourseWrong : ChangeSpec := { name := "fnExactIsCourse", fn := fun _ => fun
  | [d] => { results := [.lit (.bool false)], args := [d] }
  | _ => none }
def FnExactIsCourseWrongFalsely : Prop := fnExactIsCourseRow.holds Try.pinned (OpenSpec.ofChange fnExactIsCourseWrong)

/-- 'laws.FnExactStationsOf': WHATEVER THE INPUT: true; the input reads as it did. -/
def fnExactStationsOfSpec : ChangeSpec := { name := "fnExactStationsOf", fn := fun _ => fun
  | [d] => { results := [.lit (.bool true)], args := [d] }
  | _ => none }
def fnExactStationsOfRow : OpenClaim := { program := "ytemdkiccpbollaa", sum := "a8b0610a0b84a97e78b251d4f793b1a912cd0783e262632ef61896756f29bf60", func := "loop.example/g00887/laws.FnExactStationsOf", spec := "fnExactStationsOf", unfollowed := true, recurses := true, apart := false }
def FnExactStationsOfSaid : Prop := fnExactStationsOfRow.holds Try.pinned (OpenSpec.ofChange fnExactStationsOfSpec)

/-- ITS FALSE NEIGHBOUR: 'it returns false'. Refute it at one input. -/
def fnExactStationsOfWrong : ChangeSpec := { name := "fnExactStationsOf", fn := fun _ => fun
  | [d] => { results := [.lit (.bool false)], args := [d] }
  | _ => none }
def FnExactStationsOfWrongFalsely : Prop := fnExactStationsOfRow.holds Try.pinned (OpenSpec.ofChange fnExactStationsOfWrong)

/-- 'laws.FnExactLegLengths': WHATEVER THE INPUT: true; the input reads as it did. -/
def fnExactLegLengthsSpec : ChangeSpec := { name := "fnExactLegLengths", fn := fun _ => fun
  | [d] => { results := [.lit (.bool true)], args := [d] }
  | _ => none }
def fnExactLegLengthsRow : OpenClaim := { program := "ytemdkiccpbollaa", sum := "a8b0610a0b84a97e78b251d4f793b1a912cd0783e262632ef61896756f29bf60", func := "loop.example/g00887/laws.FnExactLegLengths", spec := "fnExactLegLengths", unfollowed := true, recurses := true, apart := false }
def FnExactLegLengthsSaid : Prop := fnExactLegLengthsRow.holds Try.pinned (OpenSpec.ofChange fnExactLegLengthsSpec)

/-- ITS FALSE NEIGHBOUR: 'it returns false'. Refute it at one input. -/
def fnExactLegLengthsWrong : ChangeSpec := { name := "fnExactLegLengths", fn := fun _ => fun
  | [d] => { results := [.lit (.bool false)], args := [d] }
  | _ => none }
def FnExactLegLengthsWrongFalsely : Prop := fnExactLegLengthsRow.holds Try.pinned (OpenSpec.ofChange fnExactLegLengthsWrong)

/-- 'laws.FnExactMarkNamed': WHATEVER THE INPUT: true; the input reads as it did. -/
def fnExactMarkNamedSpec : ChangeSpec := { name := "fnExactMarkNamed", fn := fun _ => fun
  | [d1, d2] => { results := [.lit (.bool true)], args := [d1, d2] }
  | _ => none }
def fnExactMarkNamedRow : OpenClaim := { program := "ytemdkiccpbollaa", sum := "a8b0610a0b84a97e78b251d4f793b1a912cd0783e262632ef61896756f29bf60", func := "loop.example/g00887/laws.FnExactMarkNamed", spec := "fnExactMarkNamed", unfollowed := true, recurses := true, apart := false }
def FnExactMarkNamedSaid : Prop := fnExactMarkNamedRow.holds Try.pinned (OpenSpec.ofChange fnExactMarkNamedSpec)

/-- ITS FALSE NEIGHBOUR: 'it returns false'. Refute it at one input. -/
def fnExactMarkNamedWrong : ChangeSpec := { name := "fnExactMarkNamed", fn := fun _ => fun
  | [d1, d2] => { results := [.lit (.bool false)], args := [d1, d2] }
  | _ => none }
def FnExactMarkNamedWrongFalsely : Prop := fnExactMarkNamedRow.holds Try.pinned (OpenSpec.ofChange fnExactMarkNamedWrong)

/-- 'laws.FnExactShortenCourse': WHATEVER THE INPUT: true; the input reads as it did. -/
def fnExactShortenCourseSpec : ChangeSpec := { name := "fnExactShortenCourse", fn := fun _ => fun
  | [d1, d2, d3] => { results := [.lit (.bool true)], args := [d1, d2, d3] }
  | _ => none }
def fnExactShortenCourseRow : OpenClaim := { program := "ytemdkiccpbollaa", sum := "a8b0610a0b84a97e78b251d4f793b1a912cd0783e262632ef61896756f29bf60", func := "loop.example/g00887/laws.FnExactShortenCourse", spec := "fnExactShortenCourse", unfollowed := true, recurses := true, apart := false }
def FnExactShortenCourseSaid : Prop := fnExactShortenCourseRow.holds Try.pinned (OpenSpec.ofChange fnExactShortenCourseSpec)

/-- ITS FALSE NEIGHBOUR: 'it returns false'. Refute it at one input. -/
def fnExactShortenCourseWrong : ChangeSpec := { name := "fnExactShortenCourse", fn := fun _ => fun
  | [d1, d2, d3] => { results := [.lit (.bool false)], args := [d1, d2, d3] }
  | _ => none }
def FnExactShortenCourseWrongFalsely : Prop := fnExactShortenCourseRow.holds Try.pinned (OpenSpec.ofChange fnExactShortenCourseWrong)

/- THE SECOND FORM. 'bulk': how many values and letters a reading holds, each counted each time it is reached (what is shared counts as often as it is met; a slice's spare places count too). A statement '..UptoSaid' is the law's where the arguments, and the package variables that the reading takes, are together of bulk at most 1048576: NARROWER than '..Said'. Prove '..Said' where nothing that the law and all that it calls make is longer than what came in: it says more and counts as full. Else prove '..UptoSaid'. A law counts once. -/
mutual
def uptoBulk {H : Type} : DataW H → Nat
  | .lit (.string bytes) => bytes.length + 1
  | .lit _ => 1
  | .nil => 1
  | .ptr d => uptoBulk d + 1
  | .slice elems spare => uptoBulkAll elems + uptoBulkAll spare + 1
  | .agg parts => uptoBulkAll parts + 1
  | .iface _ d => uptoBulk d + 1
  | .map entries => uptoBulkEntries entries + 1
  | .held _ => 1
def uptoBulkAll {H : Type} : List (DataW H) → Nat
  | [] => 0
  | d :: r => uptoBulk d + uptoBulkAll r
def uptoBulkEntries {H : Type} : List (Lit × DataW H) → Nat
  | [] => 0
  | x :: r => uptoBulkEntry x + uptoBulkEntries r
def uptoBulkEntry {H : Type} : Lit × DataW H → Nat
  | (.string bytes, d) => bytes.length + uptoBulk d + 1
  | (_, d) => uptoBulk d + 1
 end
def uptoSmall : (H : Type) → List (DataW H) → Bool := fun _ ds => decide (uptoBulkAll ds ≤ 1048576)
def OpenSpec.upto (s : _root_.Go.ChangeSpec) : _root_.Go.OpenSpec := { _root_.Go.OpenSpec.ofChange s with cond := some uptoSmall }

/-- 'laws.FnPlace', WHERE WHAT IT READS IS OF BULK AT MOST 1048576: true; the input reads as it did. -/
def fnPlaceUptoRow : OpenClaim := { program := "ytemdkiccpbollaa", sum := "a8b0610a0b84a97e78b251d4f793b1a912cd0783e262632ef61896756f29bf60", func := "loop.example/g00887/laws.FnPlace", spec := "fnPlace", named := ["math/bits.divideError", "math/bits.overflowError"], apart := false, narrowed := true }
def FnPlaceUptoSaid : Prop := fnPlaceUptoRow.holds Try.pinned (OpenSpec.upto fnPlaceSpec)

/-- 'laws.FnPosition', WHERE WHAT IT READS IS OF BULK AT MOST 1048576: true; the input reads as it did. -/
def fnPositionUptoRow : OpenClaim := { program := "ytemdkiccpbollaa", sum := "a8b0610a0b84a97e78b251d4f793b1a912cd0783e262632ef61896756f29bf60", func := "loop.example/g00887/laws.FnPosition", spec := "fnPosition", unfollowed := true, recurses := true, named := ["math/bits.divideError", "math/bits.overflowError"], apart := false, narrowed := true }
def FnPositionUptoSaid : Prop := fnPositionUptoRow.holds Try.pinned (OpenSpec.upto fnPositionSpec)

/-- 'laws.FnSpeed', WHERE WHAT IT READS IS OF BULK AT MOST 1048576: true; the input reads as it did. -/
def fnSpeedUptoRow : OpenClaim := { program := "ytemdkiccpbollaa", sum := "a8b0610a0b84a97e78b251d4f793b1a912cd0783e262632ef61896756f29bf60", func := "loop.example/g00887/laws.FnSpeed", spec := "fnSpeed", apart := false, narrowed := true }
def FnSpeedUptoSaid : Prop := fnSpeedUptoRow.holds Try.pinned (OpenSpec.upto fnSpeedSpec)

/-- 'laws.FnCutJoin', WHERE WHAT IT READS IS OF BULK AT MOST 1048576: true; the input reads as it did. -/
def fnCutJoinUptoRow : OpenClaim := { program := "ytemdkiccpbollaa", sum := "a8b0610a0b84a97e78b251d4f793b1a912cd0783e262632ef61896756f29bf60", func := "loop.example/g00887/laws.FnCutJoin", spec := "fnCutJoin", unfollowed := true, recurses := true, named := ["math/bits.divideError", "math/bits.overflowError"], apart := false, narrowed := true }
def FnCutJoinUptoSaid : Prop := fnCutJoinUptoRow.holds Try.pinned (OpenSpec.upto fnCutJoinSpec)

/-- 'laws.FnExactPositionAt', WHERE WHAT IT READS IS OF BULK AT MOST 1048576: true; the input reads as it did. -/
def fnExactPositionAtUptoRow : OpenClaim := { program := "ytemdkiccpbollaa", sum := "a8b0610a0b84a97e78b251d4f793b1a912cd0783e262632ef61896756f29bf60", func := "loop.example/g00887/laws.FnExactPositionAt", spec := "fnExactPositionAt", unfollowed := true, recurses := true, named := ["math/bits.divideError", "math/bits.overflowError"], apart := false, narrowed := true }
def FnExactPositionAtUptoSaid : Prop := fnExactPositionAtUptoRow.holds Try.pinned (OpenSpec.upto fnExactPositionAtSpec)

/-- 'laws.FnExactSpeedOf', WHERE WHAT IT READS IS OF BULK AT MOST 1048576: true; the input reads as it did. -/
def fnExactSpeedOfUptoRow : OpenClaim := { program := "ytemdkiccpbollaa", sum := "a8b0610a0b84a97e78b251d4f793b1a912cd0783e262632ef61896756f29bf60", func := "loop.example/g00887/laws.FnExactSpeedOf", spec := "fnExactSpeedOf", apart := false, narrowed := true }
def FnExactSpeedOfUptoSaid : Prop := fnExactSpeedOfUptoRow.holds Try.pinned (OpenSpec.upto fnExactSpeedOfSpec)

/-- 'laws.FnExactCutTrack', WHERE WHAT IT READS IS OF BULK AT MOST 1048576: true; the input reads as it did. -/
def fnExactCutTrackUptoRow : OpenClaim := { program := "ytemdkiccpbollaa", sum := "a8b0610a0b84a97e78b251d4f793b1a912cd0783e262632ef61896756f29bf60", func := "loop.example/g00887/laws.FnExactCutTrack", spec := "fnExactCutTrack", unfollowed := true, recurses := true, named := ["math/bits.divideError", "math/bits.overflowError"], apart := false, narrowed := true }
def FnExactCutTrackUptoSaid : Prop := fnExactCutTrackUptoRow.holds Try.pinned (OpenSpec.upto fnExactCutTrackSpec)

/-- 'laws.FnExactIsCourse', WHERE WHAT IT READS IS OF BULK AT MOST 1048576: true; the input reads as it did. -/
def fnExactIsCourseUptoRow : OpenClaim := { program := "ytemdkiccpbollaa", sum := "a8b0610a0b84a97e78b251d4f793b1a912cd0783e262632ef61896756f29bf60", func := "loop.example/g00887/laws.FnExactIsCourse", spec := "fnExactIsCourse", unfollowed := true, recurses := true, apart := false, narrowed := true }
def FnExactIsCourseUptoSaid : Prop := fnExactIsCourseUptoRow.holds Try.pinned (OpenSpec.upto fnExactIsCourseSpec)

/-- 'laws.FnExactStationsOf', WHERE WHAT IT READS IS OF BULK AT MOST 1048576: true; the input reads as it did. -/
def fnExactStationsOfUptoRow : OpenClaim := { program := "ytemdkiccpbollaa", sum := "a8b0610a0b84a97e78b251d4f793b1a912cd0783e262632ef61896756f29bf60", func := "loop.example/g00887/laws.FnExactStationsOf", spec := "fnExactStationsOf", unfollowed := true, recurses := true, apart := false, narrowed := true }
def FnExactStationsOfUptoSaid : Prop := fnExactStationsOfUptoRow.holds Try.pinned (OpenSpec.upto fnExactStationsOfSpec)

/-- 'laws.FnExactLegLengths', WHERE WHAT IT READS IS OF BULK AT MOST 1048576: true; the input reads as it did. -/
def fnExactLegLengthsUptoRow : OpenClaim := { program := "ytemdkiccpbollaa", sum := "a8b0610a0b84a97e78b251d4f793b1a912cd0783e262632ef61896756f29bf60", func := "loop.example/g00887/laws.FnExactLegLengths", spec := "fnExactLegLengths", unfollowed := true, recurses := true, apart := false, narrowed := true }
def FnExactLegLengthsUptoSaid : Prop := fnExactLegLengthsUptoRow.holds Try.pinned (OpenSpec.upto fnExactLegLengthsSpec)

/-- 'laws.FnExactMarkNamed', WHERE WHAT IT READS IS OF BULK AT MOST 1048576: true; the input reads as it did. -/
def fnExactMarkNamedUptoRow : OpenClaim := { program := "ytemdkiccpbollaa", sum := "a8b0610a0b84a97e78b251d4f793b1a912cd0783e262632ef61896756f29bf60", func := "loop.example/g00887/laws.FnExactMarkNamed", spec := "fnExactMarkNamed", unfollowed := true, recurses := true, apart := false, narrowed := true }
def FnExactMarkNamedUptoSaid : Prop := fnExactMarkNamedUptoRow.holds Try.pinned (OpenSpec.upto fnExactMarkNamedSpec)

/-- 'laws.FnExactShortenCourse', WHERE WHAT IT READS IS OF BULK AT MOST 1048576: true; the input reads as it did. -/
def fnExactShortenCourseUptoRow : OpenClaim := { program := "ytemdkiccpbollaa", sum := "a8b0610a0b84a97e78b251d4f793b1a912cd0783e262632ef61896756f29bf60", func := "loop.example/g00887/laws.FnExactShortenCourse", spec := "fnExactShortenCourse", unfollowed := true, recurses := true, apart := false, narrowed := true }
def FnExactShortenCourseUptoSaid : Prop := fnExactShortenCourseUptoRow.holds Try.pinned (OpenSpec.upto fnExactShortenCourseSpec)

end Rows
end Go.Proofs.Ytemdkiccpbollaa

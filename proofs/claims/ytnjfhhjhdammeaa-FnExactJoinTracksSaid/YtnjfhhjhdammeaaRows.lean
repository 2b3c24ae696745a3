/-
  No cell of these rows narrows 'for every input' (looked for: loops, veiled, ifaces, maps, wideKeys, modest, calm, conditions, laid).
  DERIVED. THE GIVEN ROWS OF THIS SEAT. 5 by the template 'for every input the law returns true; each argument reads behind the call as it read before'; 0 by the template 'total and deterministic' (their statements: YtnjfhhjhdammeaaTotals.lean).
  GIVEN WITH THE SEED: the statements are not yours to turn. If you find one false, say at which input.
  Laid BY PROGRAM, IN A SANDBOX (cutbox-rows.mjs): the forced cells as the released guide's own fill.sh prints them over the translation a7b0c0cad253420f… (all of the seat's roots in one cut). By AI agents, Wed Nov 11 2026. No macro, syntax, notation, axiom, sorry.
-/
import Derived.Test.YtnjfhhjhdammeaaChecked
import GoSem.Claim
import GoSem.ClaimJoined
import GoSem.ClaimMapViews
import Derived.JoinedTies
import Derived.KernelRfl
namespace Go.Proofs.Ytnjfhhjhdammeaa
/- THE CELL 'sum', in the pinned program and in every row, IS THE sha256 OF THE DUMP (.gsa) THAT YtnjfhhjhdammeaaProg.lean LOADS. Nothing in Lean hashes anything: it is a label: what it is worth is what the hold of that sum in a sandbox is worth. -/
noncomputable def Try.pinned : Pinned := { name := "ytnjfhhjhdammeaa", sum := "a7b0c0cad253420fb6bef939780db218bd8433f231877fb825d00fd6da5150c9", checked := Try.checked }
namespace Rows
def none {H : Type} : Left H := { results := [], args := [] }

/-- 'laws.FnPlace': WHATEVER THE INPUT: true; the input reads as it did. -/
def fnPlaceSpec : ChangeSpec := { name := "fnPlace", fn := fun _ => fun
  | [d] => { results := [.lit (.bool true)], args := [d] }
  | _ => none }
def fnPlaceRow : OpenClaim := { program := "ytnjfhhjhdammeaa", sum := "a7b0c0cad253420fb6bef939780db218bd8433f231877fb825d00fd6da5150c9", func := "loop.example/g00887/laws.FnPlace", spec := "fnPlace", named := ["math/bits.divideError", "math/bits.overflowError"], apart := false }
def FnPlaceSaid : Prop := fnPlaceRow.holds Try.pinned (OpenSpec.ofChange fnPlaceSpec)

/-- ITS FALSE NEIGHBOUR: 'it returns false'. Refute it at one input. -/
def fnPlaceWrong : ChangeSpec := { name := "fnPlace", fn := fun _ => fun
  | [d] => { results := [.lit (.bool false)], args := [d] }
  | _ => none }
def FnPlaceWrongFalsely : Prop := fnPlaceRow.holds Try.pinned (OpenSpec.ofChange fnPlaceWrong)

/-- 'laws.FnCutJoin': WHATEVER THE INPUT: true; the input reads as it did. -/
def fnCutJoinSpec : ChangeSpec := { name := "fnCutJoin", fn := fun _ => fun
  | [d] => { results := [.lit (.bool true)], args := [d] }
  | _ => none }
def fnCutJoinRow : OpenClaim := { program := "ytnjfhhjhdammeaa", sum := "a7b0c0cad253420fb6bef939780db218bd8433f231877fb825d00fd6da5150c9", func := "loop.example/g00887/laws.FnCutJoin", spec := "fnCutJoin", unfollowed := true, recurses := true, named := ["math/bits.divideError", "math/bits.overflowError"], apart := false }
def FnCutJoinSaid : Prop := fnCutJoinRow.holds Try.pinned (OpenSpec.ofChange fnCutJoinSpec)

/-- ITS FALSE NEIGHBOUR: 'it returns false'. Refute it at one input. -/
def fnCutJoinWrong : ChangeSpec := { name := "fnCutJoin", fn := fun _ => fun
  | [d] => { results := [.lit (.bool false)], args := [d] }
  | _ => none }
def FnCutJoinWrongFalsely : Prop := fnCutJoinRow.holds Try.pinned (OpenSpec.ofChange fnCutJoinWrong)

/-- 'laws.FnExactPointAt': WHATEVER THE INPUT: true; the input reads as it did. -/
def fnExactPointAtSpec : ChangeSpec := { name := "fnExactPointAt", fn := fun _ => fun
  | [d1, d2] => { results := [.lit (.bool true)], args := [d1, d2] }
  | _ => none }
def fnExactPointAtRow : OpenClaim := { program := "ytnjfhhjhdammeaa", sum := "a7b0c0cad253420fb6bef939780db218bd8433f231877fb825d00fd6da5150c9", func := "loop.example/g00887/laws.FnExactPointAt", spec := "fnExactPointAt", named := ["math/bits.divideError", "math/bits.overflowError"], apart := false }
def FnExactPointAtSaid : Prop := fnExactPointAtRow.holds Try.pinned (OpenSpec.ofChange fnExactPointAtSpec)

/-- ITS FALSE NEIGHBOUR: 'it returns false'. Refute it at one input. -/
def fnExactPointAtWrong : ChangeSpec := { name := "fnExactPointAt", fn := fun _ => fun
  | [d1, d2] => { results := [.lit (.bool false)], args := [d1, d2] }
  | _ => none }
def FnExactPointAtWrongFalsely : Prop := fnExactPointAtRow.holds Try.pinned (OpenSpec.ofChange fnExactPointAtWrong)

/-- 'laws.FnExactCutTrack': WHATEVER THE INPUT: true; the input reads as it did. -/
def fnExactCutTrackSpec : ChangeSpec := { name := "fnExactCutTrack", fn := fun _ => fun
  | [d1, d2, d3] => { results := [.lit (.bool true)], args := [d1, d2, d3] }
  | _ => none }
def fnExactCutTrackRow : OpenClaim := { program := "ytnjfhhjhdammeaa", sum := "a7b0c0cad253420fb6bef939780db218bd8433f231877fb825d00fd6da5150c9", func := "loop.example/g00887/laws.FnExactCutTrack", spec := "fnExactCutTrack", unfollowed := true, recurses := true, named := ["math/bits.divideError", "math/bits.overflowError"], apart := false }
def FnExactCutTrackSaid : Prop := fnExactCutTrackRow.holds Try.pinned (OpenSpec.ofChange fnExactCutTrackSpec)

/-- ITS FALSE NEIGHBOUR: 'it returns false'. Refute it at one input. -/
def fnExactCutTrackWrong : ChangeSpec := { name := "fnExactCutTrack", fn := fun _ => fun
  | [d1, d2, d3] => { results := [.lit (.bool false)], args := [d1, d2, d3] }
  | _ => none }
def FnExactCutTrackWrongFalsely : Prop := fnExactCutTrackRow.holds Try.pinned (OpenSpec.ofChange fnExactCutTrackWrong)

/-- 'laws.FnExactJoinTracks': WHATEVER THE INPUT: true; the input reads as it did. -/
def fnExactJoinTracksSpec : ChangeSpec := { name := "fnExactJoinTracks", fn := fun _ => fun
  | [d1, d2] => { results := [.lit (.bool true)], args := [d1, d2] }
  | _ => none }
def fnExactJoinTracksRow : OpenClaim := { program := "ytnjfhhjhdammeaa", sum := "a7b0c0cad253420fb6bef939780db218bd8433f231877fb825d00fd6da5150c9", func := "loop.example/g00887/laws.FnExactJoinTracks", spec := "fnExactJoinTracks", apart := false }
def FnExactJoinTracksSaid : Prop := fnExactJoinTracksRow.holds Try.pinned (OpenSpec.ofChange fnExactJoinTracksSpec)

/-- ITS FALSE NEIGHBOUR: 'it returns false'. Refute it at one input. -/
def fnExactJoinTracksWrong : ChangeSpec := { name := "fnExactJoinTracks", fn := fun _ => fun
  | [d1, d2] => { results := [.lit (.bool false)], args := [d1, d2] }
  | _ => none }
def FnExactJoinTracksWrongFalsely : Prop := fnExactJoinTracksRow.holds Try.pinned (OpenSpec.ofChange fnExactJoinTracksWrong)

/- THE SECOND FORM. 'bulk': how many values and letters a reading holds, each counted each time it is reached (what is shared counts as often as it is met; a slice's spare places count too). A statement '..UptoSaid' is the law's where the arguments, and the package variables that the reading takes, are together of bulk at most 1048576: NARROWER than '..Said'. Prove '..Said' where nothing that the law and all that it calls make is longer than what came in: it says more and counts as full. Else prove '..UptoSaid'. A law counts once. -/
mutual
def uptoBulk {H : Type} : DataW H → Nat
  | .lit (.string bytes) => bytes.length + 1
  | .lit _ => 1
  | .nil => 1
  | .ptr d => uptoBulk d + 1
  | .slice elems spare => uptoBulkAll elems + uptoBulkAll spare + 1
  | .agg parts => uptoBulkAll parts + 1
  | .iface _ d => uptoBulk d + 1
  | .map entries => uptoBulkEntries entries + 1
  | .held _ => 1
def uptoBulkAll {H : Type} : List (DataW H) → Nat
  | [] => 0
  | d :: r => uptoBulk d + uptoBulkAll r
def uptoBulkEntries {H : Type} : List (Lit × DataW H) → Nat
  | [] => 0
  | x :: r => uptoBulkEntry x + uptoBulkEntries r
def uptoBulkEntry {H : Type} : Lit × DataW H → Nat
  | (.string bytes, d) => bytes.length + uptoBulk d + 1
  | (_, d) => uptoBulk d + 1
 end
def uptoSmall : (H : Type) → List (DataW H) → Bool := fun _ ds => decide (uptoBulkAll ds ≤ 1048576)
def OpenSpec.upto (s : _root_.Go.ChangeSpec) : _root_.Go.OpenSpec := { _root_.Go.OpenSpec.ofChange s with cond := some uptoSmall }

/-- 'laws.FnPlace', WHERE WHAT IT READS IS OF BULK AT MOST 1048576: true; the input reads as it did. -/
def fnPlaceUptoRow : OpenClaim := { program := "ytnjfhhjhdammeaa", sum := "a7b0c0cad253420fb6bef939780db218bd8433f231877fb825d00fd6da5150c9", func := "loop.example/g00887/laws.FnPlace", spec := "fnPlace", named := ["math/bits.divideError", "math/bits.overflowError"], apart := false, narrowed := true }
def FnPlaceUptoSaid : Prop := fnPlaceUptoRow.holds Try.pinned (OpenSpec.upto fnPlaceSpec)

/-- 'laws.FnCutJoin', WHERE WHAT IT READS IS OF BULK AT MOST 1048576: true; the input reads as it did. -/
def fnCutJoinUptoRow : OpenClaim := { program := "ytnjfhhjhdammeaa", sum := "a7b0c0cad253420fb6bef939780db218bd8433f231877fb825d00fd6da5150c9", func := "loop.example/g00887/laws.FnCutJoin", spec := "fnCutJoin", unfollowed := true, recurses := true, named := ["math/bits.divideError", "math/bits.overflowError"], apart := false, narrowed := true }
def FnCutJoinUptoSaid : Prop := fnCutJoinUptoRow.holds Try.pinned (OpenSpec.upto fnCutJoinSpec)

/-- 'laws.FnExactPointAt', WHERE WHAT IT READS IS OF BULK AT MOST 1048576: true; the input reads as it did. -/
def fnExactPointAtUptoRow : OpenClaim := { program := "ytnjfhhjhdammeaa", sum := "a7b0c0cad253420fb6bef939780db218bd8433f231877fb825d00fd6da5150c9", func := "loop.example/g00887/laws.FnExactPointAt", spec := "fnExactPointAt", named := ["math/bits.divideError", "math/bits.overflowError"], apart := false, narrowed := true }
def FnExactPointAtUptoSaid : Prop := fnExactPointAtUptoRow.holds Try.pinned (OpenSpec.upto fnExactPointAtSpec)

/-- 'laws.FnExactCutTrack', WHERE WHAT IT READS IS OF BULK AT MOST 1048576: true; the input reads as it did. -/
def fnExactCutTrackUptoRow : OpenClaim := { program := "ytnjfhhjhdammeaa", sum := "a7b0c0cad253420fb6bef939780db218bd8433f231877fb825d00fd6da5150c9", func := "loop.example/g00887/laws.FnExactCutTrack", spec := "fnExactCutTrack", unfollowed := true, recurses := true, named := ["math/bits.divideError", "math/bits.overflowError"], apart := false, narrowed := true }
def FnExactCutTrackUptoSaid : Prop := fnExactCutTrackUptoRow.holds Try.pinned (OpenSpec.upto fnExactCutTrackSpec)

/-- 'laws.FnExactJoinTracks', WHERE WHAT IT READS IS OF BULK AT MOST 1048576: true; the input reads as it did. -/
def fnExactJoinTracksUptoRow : OpenClaim := { program := "ytnjfhhjhdammeaa", sum := "a7b0c0cad253420fb6bef939780db218bd8433f231877fb825d00fd6da5150c9", func := "loop.example/g00887/laws.FnExactJoinTracks", spec := "fnExactJoinTracks", apart := false, narrowed := true }
def FnExactJoinTracksUptoSaid : Prop := fnExactJoinTracksUptoRow.holds Try.pinned (OpenSpec.upto fnExactJoinTracksSpec)

end Rows
end Go.Proofs.Ytnjfhhjhdammeaa

/-
  No cell of these rows narrows 'for every input' (looked for: loops, veiled, ifaces, maps, wideKeys, modest, calm, conditions, laid).
  DERIVED. THE GIVEN ROWS OF THIS SEAT. 5 by the template 'for every input the law returns true; each argument reads behind the call as it read before'; 0 by the template 'total and deterministic' (their statements: YteljjmellbgnlaaTotals.lean).
  GIVEN WITH THE SEED: the statements are not yours to turn. If you find one false, say at which input.
  Laid BY PROGRAM, IN A SANDBOX (cutbox-rows.mjs): the forced cells as the released guide's own fill.sh prints them over the translation 934d9db12fca45fd… (all of the seat's roots in one cut). By AI agents, Wed Nov 11 2026. No macro, syntax, notation, axiom, sorry.
-/
import Derived.Test.YteljjmellbgnlaaChecked
import GoSem.Claim
import GoSem.ClaimJoined
import GoSem.ClaimMapViews
import Derived.JoinedTies
import Derived.KernelRfl
namespace Go.Proofs.Yteljjmellbgnlaa
/- THE CELL 'sum', in the pinned program and in every row, IS THE sha256 OF THE DUMP (.gsa) THAT YteljjmellbgnlaaProg.lean LOADS. Nothing in Lean hashes anything: it is a label: what it is worth is what the hold of that sum in a sandbox is worth. -/
noncomputable def Try.pinned : Pinned := { name := "yteljjmellbgnlaa", sum := "934d9db12fca45fdb54844694cdfcd6abb8ba5331d2cd8645ddee0a237276c81", checked := Try.checked }
namespace Rows
def none {H : Type} : Left H := { results := [], args := [] }

/-- 'laws.FnRounding': WHATEVER THE INPUT: true; the input reads as it did. -/
def fnRoundingSpec : ChangeSpec := { name := "fnRounding", fn := fun _ => fun
  | [d] => { results := [.lit (.bool true)], args := [d] }
  | _ => none }
def fnRoundingRow : OpenClaim := { program := "yteljjmellbgnlaa", sum := "934d9db12fca45fdb54844694cdfcd6abb8ba5331d2cd8645ddee0a237276c81", func := "loop.example/g00887/laws.FnRounding", spec := "fnRounding", unfollowed := true, recurses := true, apart := false }
def FnRoundingSaid : Prop := fnRoundingRow.holds Try.pinned (OpenSpec.ofChange fnRoundingSpec)

/-- ITS FALSE NEIGHBOUR: 'it returns false'. Refute it at one input. -/
def fnRoundingWrong : ChangeSpec := { name := "fnRounding", fn := fun _ => fun
  | [d] => { results := [.lit (.bool false)], args := [d] }
  | _ => none }
def FnRoundingWrongFalsely : Prop := fnRoundingRow.holds Try.pinned (OpenSpec.ofChange fnRoundingWrong)

/-- 'laws.FnExactRoundingLine': WHATEVER THE INPUT: true; the input reads as it did. -/
def fnExactRoundingLineSpec : ChangeSpec := { name := "fnExactRoundingLine", fn := fun _ => fun
  | [d1, d2] => { results := [.lit (.bool true)], args := [d1, d2] }
  | _ => none }
def fnExactRoundingLineRow : OpenClaim := { program := "yteljjmellbgnlaa", sum := "934d9db12fca45fdb54844694cdfcd6abb8ba5331d2cd8645ddee0a237276c81", func := "loop.example/g00887/laws.FnExactRoundingLine", spec := "fnExactRoundingLine", unfollowed := true, recurses := true, apart := false }
def FnExactRoundingLineSaid : Prop := fnExactRoundingLineRow.holds Try.pinned (OpenSpec.ofChange fnExactRoundingLineSpec)

/-- ITS FALSE NEIGHBOUR: 'it returns false'. Refute it at one input. -/
def fnExactRoundingLineWrong : ChangeSpec := { name := "fnExactRoundingLine", fn := fun _ => fun
  | [d1, d2] => { results := [.lit (.bool false)], args := [d1, d2] }
  | _ => none }
def FnExactRoundingLineWrongFalsely : Prop := fnExactRoundingLineRow.holds Try.pinned (OpenSpec.ofChange fnExactRoundingLineWrong)

/-- 'laws.FnExactInZoneAt': WHATEVER THE INPUT: true; the input reads as it did. -/
def fnExactInZoneAtSpec : ChangeSpec := { name := "fnExactInZoneAt", fn := fun _ => fun
  | [d1, d2, d3, d4] => { results := [.lit (.bool true)], args := [d1, d2, d3, d4] }
  | _ => none }
def fnExactInZoneAtRow : OpenClaim := { program := "yteljjmellbgnlaa", sum := "934d9db12fca45fdb54844694cdfcd6abb8ba5331d2cd8645ddee0a237276c81", func := "loop.example/g00887/laws.FnExactInZoneAt", spec := "fnExactInZoneAt", unfollowed := true, recurses := true, named := ["math/bits.divideError", "math/bits.overflowError"], apart := false }
def FnExactInZoneAtSaid : Prop := fnExactInZoneAtRow.holds Try.pinned (OpenSpec.ofChange fnExactInZoneAtSpec)

/-- ITS FALSE NEIGHBOUR: 'it returns false'. Refute it at one input. -/
def fnExactInZoneAtWrong : ChangeSpec := { name := "fnExactInZoneAt", fn := fun _ => fun
  | [d1, d2, d3, d4] => { results := [.lit (.bool false)], args := [d1, d2, d3, d4] }
  | _ => none }
def FnExactInZoneAtWrongFalsely : Prop := fnExactInZoneAtRow.holds Try.pinned (OpenSpec.ofChange fnExactInZoneAtWrong)

/-- 'laws.FnExactDistanceToMark': WHATEVER THE INPUT: true; the input reads as it did. -/
def fnExactDistanceToMarkSpec : ChangeSpec := { name := "fnExactDistanceToMark", fn := fun _ => fun
  | [d1, d2, d3, d4] => { results := [.lit (.bool true)], args := [d1, d2, d3, d4] }
  | _ => none }
def fnExactDistanceToMarkRow : OpenClaim := { program := "yteljjmellbgnlaa", sum := "934d9db12fca45fdb54844694cdfcd6abb8ba5331d2cd8645ddee0a237276c81", func := "loop.example/g00887/laws.FnExactDistanceToMark", spec := "fnExactDistanceToMark", unfollowed := true, recurses := true, named := ["math/bits.divideError", "math/bits.overflowError"], apart := false }
def FnExactDistanceToMarkSaid : Prop := fnExactDistanceToMarkRow.holds Try.pinned (OpenSpec.ofChange fnExactDistanceToMarkSpec)

/-- ITS FALSE NEIGHBOUR: 'it returns false'. Refute it at one input. -/
def fnExactDistanceToMarkWrong : ChangeSpec := { name := "fnExactDistanceToMark", fn := fun _ => fun
  | [d1, d2, d3, d4] => { results := [.lit (.bool false)], args := [d1, d2, d3, d4] }
  | _ => none }
def FnExactDistanceToMarkWrongFalsely : Prop := fnExactDistanceToMarkRow.holds Try.pinned (OpenSpec.ofChange fnExactDistanceToMarkWrong)

/-- 'laws.FnExactNearestOnTrack': WHATEVER THE INPUT: true; the input reads as it did. -/
def fnExactNearestOnTrackSpec : ChangeSpec := { name := "fnExactNearestOnTrack", fn := fun _ => fun
  | [d1, d2, d3] => { results := [.lit (.bool true)], args := [d1, d2, d3] }
  | _ => none }
def fnExactNearestOnTrackRow : OpenClaim := { program := "yteljjmellbgnlaa", sum := "934d9db12fca45fdb54844694cdfcd6abb8ba5331d2cd8645ddee0a237276c81", func := "loop.example/g00887/laws.FnExactNearestOnTrack", spec := "fnExactNearestOnTrack", unfollowed := true, recurses := true, named := ["math/bits.divideError", "math/bits.overflowError"], apart := false }
def FnExactNearestOnTrackSaid : Prop := fnExactNearestOnTrackRow.holds Try.pinned (OpenSpec.ofChange fnExactNearestOnTrackSpec)

/-- ITS FALSE NEIGHBOUR: 'it returns false'. Refute it at one input. -/
def fnExactNearestOnTrackWrong : ChangeSpec := { name := "fnExactNearestOnTrack", fn := fun _ => fun
  | [d1, d2, d3] => { results := [.lit (.bool false)], args := [d1, d2, d3] }
  | _ => none }
def FnExactNearestOnTrackWrongFalsely : Prop := fnExactNearestOnTrackRow.holds Try.pinned (OpenSpec.ofChange fnExactNearestOnTrackWrong)

/- THE SECOND FORM. 'bulk': how many values and letters a reading holds, each counted each time it is reached (what is shared counts as often as it is met; a slice's spare places count too). A statement '..UptoSaid' is the law's where the arguments, and the package variables that the reading takes, are together of bulk at most 1048576: NARROWER than '..Said'. Prove '..Said' where nothing that the law and all that it calls make is longer than what came in: it says more and counts as full. Else prove '..UptoSaid'. A law counts once. -/
mutual
def uptoBulk {H : Type} : DataW H → Nat
  | .lit (.string bytes) => bytes.length + 1
  | .lit _ => 1
  | .nil => 1
  | .ptr d => uptoBulk d + 1
  | .slice elems spare => uptoBulkAll elems + uptoBulkAll spare + 1
  | .agg parts => uptoBulkAll parts + 1
  | .iface _ d => uptoBulk d + 1
  | .map entries => uptoBulkEntries entries + 1
  | .held _ => 1
def uptoBulkAll {H : Type} : List (DataW H) → Nat
  | [] => 0
  | d :: r => uptoBulk d + uptoBulkAll r
def uptoBulkEntries {H : Type} : List (Lit × DataW H) → Nat
  | [] => 0
  | x :: r => uptoBulkEntry x + uptoBulkEntries r
def uptoBulkEntry {H : Type} : Lit × DataW H → Nat
  | (.string bytes, d) => bytes.length + uptoBulk d + 1
  | (_, d) => uptoBulk d + 1
 end
def uptoSmall : (H : Type) → List (DataW H) → Bool := fun _ ds => decide (uptoBulkAll ds ≤ 1048576)
def OpenSpec.upto (s : _root_.Go.ChangeSpec) : _root_.Go.OpenSpec := { _root_.Go.OpenSpec.ofChange s with cond := some uptoSmall }

/-- 'laws.FnRounding', WHERE WHAT IT READS IS OF BULK AT MOST 1048576: true; the input reads as it did. -/
def fnRoundingUptoRow : OpenClaim := { program := "yteljjmellbgnlaa", sum := "934d9db12fca45fdb54844694cdfcd6abb8ba5331d2cd8645ddee0a237276c81", func := "loop.example/g00887/laws.FnRounding", spec := "fnRounding", unfollowed := true, recurses := true, apart := false, narrowed := true }
def FnRoundingUptoSaid : Prop := fnRoundingUptoRow.holds Try.pinned (OpenSpec.upto fnRoundingSpec)

/-- 'laws.FnExactRoundingLine', WHERE WHAT IT READS IS OF BULK AT MOST 1048576: true; the input reads as it did. -/
def fnExactRoundingLineUptoRow : OpenClaim := { program := "yteljjmellbgnlaa", sum := "934d9db12fca45fdb54844694cdfcd6abb8ba5331d2cd8645ddee0a237276c81", func := "loop.example/g00887/laws.FnExactRoundingLine", spec := "fnExactRoundingLine", unfollowed := true, recurses := true, apart := false, narrowed := true }
def FnExactRoundingLineUptoSaid : Prop := fnExactRoundingLineUptoRow.holds Try.pinned (OpenSpec.upto fnExactRoundingLineSpec)

/-- 'laws.FnExactInZoneAt', WHERE WHAT IT READS IS OF BULK AT MOST 1048576: true; the input reads as it did. -/
def fnExactInZoneAtUptoRow : OpenClaim := { program := "yteljjmellbgnlaa", sum := "934d9db12fca45fdb54844694cdfcd6abb8ba5331d2cd8645ddee0a237276c81", func := "loop.example/g00887/laws.FnExactInZoneAt", spec := "fnExactInZoneAt", unfollowed := true, recurses := true, named := ["math/bits.divideError", "math/bits.overflowError"], apart := false, narrowed := true }
def FnExactInZoneAtUptoSaid : Prop := fnExactInZoneAtUptoRow.holds Try.pinned (OpenSpec.upto fnExactInZoneAtSpec)

/-- 'laws.FnExactDistanceToMark', WHERE WHAT IT READS IS OF BULK AT MOST 1048576: true; the input reads as it did. -/
def fnExactDistanceToMarkUptoRow : OpenClaim := { program := "yteljjmellbgnlaa", sum := "934d9db12fca45fdb54844694cdfcd6abb8ba5331d2cd8645ddee0a237276c81", func := "loop.example/g00887/laws.FnExactDistanceToMark", spec := "fnExactDistanceToMark", unfollowed := true, recurses := true, named := ["math/bits.divideError", "math/bits.overflowError"], apart := false, narrowed := true }
def FnExactDistanceToMarkUptoSaid : Prop := fnExactDistanceToMarkUptoRow.holds Try.pinned (OpenSpec.upto fnExactDistanceToMarkSpec)

/-- 'laws.FnExactNearestOnTrack', WHERE WHAT IT READS IS OF BULK AT MOST 1048576: true; the input reads as it did. -/
def fnExactNearestOnTrackUptoRow : OpenClaim := { program := "yteljjmellbgnlaa", sum := "934d9db12fca45fdb54844694cdfcd6abb8ba5331d2cd8645ddee0a237276c81", func := "loop.example/g00887/laws.FnExactNearestOnTrack", spec := "fnExactNearestOnTrack", unfollowed := true, recurses := true, named := ["math/bits.divideError", "math/bits.overflowError"], apart := false, narrowed := true }
def FnExactNearestOnTrackUptoSaid : Prop := fnExactNearestOnTrackUptoRow.holds Try.pinned (OpenSpec.upto fnExactNearestOnTrackSpec)

end Rows
end Go.Proofs.Yteljjmellbgnlaa

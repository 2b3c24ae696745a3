/-
  No cell of these rows narrows 'for every input' (looked for: loops, veiled, ifaces, maps, wideKeys, modest, calm, conditions, laid).
  DERIVED. THE GIVEN ROWS OF THIS SEAT. 11 by the template 'for every input the law returns true; each argument reads behind the call as it read before'; 0 by the template 'total and deterministic' (their statements: YtdcnfeimfpafiaaTotals.lean).
  GIVEN WITH THE SEED: the statements are not yours to turn. If you find one false, say at which input.
  Laid BY PROGRAM, IN A SANDBOX (cutbox-rows.mjs): the forced cells as the released guide's own fill.sh prints them over the translation 5ba024a6bb036f23… (all of the seat's roots in one cut). By AI agents, Wed Nov 11 2026. No macro, syntax, notation, axiom, sorry.
-/
import Derived.Test.YtdcnfeimfpafiaaChecked
import GoSem.Claim
import GoSem.ClaimJoined
import GoSem.ClaimMapViews
import Derived.JoinedTies
import Derived.KernelRfl
namespace Go.Proofs.Ytdcnfeimfpafiaa
/- THE CELL 'sum', in the pinned program and in every row, IS THE sha256 OF THE DUMP (.gsa) THAT YtdcnfeimfpafiaaProg.lean LOADS. Nothing in Lean hashes anything: it is a label: what it is worth is what the hold of that sum in a sandbox is worth. -/
noncomputable def Try.pinned : Pinned := { name := "ytdcnfeimfpafiaa", sum := "5ba024a6bb036f231bacf64935821b95b0626f80c1683a73538766ca97aaa9b9", checked := Try.checked }
namespace Rows
def none {H : Type} : Left H := { results := [], args := [] }

/-- 'laws.FnOverlap': WHATEVER THE INPUT: true; the input reads as it did. -/
def fnOverlapSpec : ChangeSpec := { name := "fnOverlap", fn := fun _ => fun
  | [d] => { results := [.lit (.bool true)], args := [d] }
  | _ => none }
def fnOverlapRow : OpenClaim := { program := "ytdcnfeimfpafiaa", sum := "5ba024a6bb036f231bacf64935821b95b0626f80c1683a73538766ca97aaa9b9", func := "loop.example/g00887/laws.FnOverlap", spec := "fnOverlap", apart := false }
def FnOverlapSaid : Prop := fnOverlapRow.holds Try.pinned (OpenSpec.ofChange fnOverlapSpec)

/-- ITS FALSE NEIGHBOUR: 'it returns false'. Refute it at one input. -/
def fnOverlapWrong : ChangeSpec := { name := "fnOverlap", fn := fun _ => fun
  | [d] => { results := [.lit (.bool false)], args := [d] }
  | _ => none }
def FnOverlapWrongFalsely : Prop := fnOverlapRow.holds Try.pinned (OpenSpec.ofChange fnOverlapWrong)

/-- 'laws.FnGap': WHATEVER THE INPUT: true; the input reads as it did. -/
def fnGapSpec : ChangeSpec := { name := "fnGap", fn := fun _ => fun
  | [d] => { results := [.lit (.bool true)], args := [d] }
  | _ => none }
def fnGapRow : OpenClaim := { program := "ytdcnfeimfpafiaa", sum := "5ba024a6bb036f231bacf64935821b95b0626f80c1683a73538766ca97aaa9b9", func := "loop.example/g00887/laws.FnGap", spec := "fnGap", apart := false }
def FnGapSaid : Prop := fnGapRow.holds Try.pinned (OpenSpec.ofChange fnGapSpec)

/-- ITS FALSE NEIGHBOUR: 'it returns false'. Refute it at one input. -/
def fnGapWrong : ChangeSpec := { name := "fnGap", fn := fun _ => fun
  | [d] => { results := [.lit (.bool false)], args := [d] }
  | _ => none }
def FnGapWrongFalsely : Prop := fnGapRow.holds Try.pinned (OpenSpec.ofChange fnGapWrong)

/-- 'laws.FnNear': WHATEVER THE INPUT: true; the input reads as it did. -/
def fnNearSpec : ChangeSpec := { name := "fnNear", fn := fun _ => fun
  | [d] => { results := [.lit (.bool true)], args := [d] }
  | _ => none }
def fnNearRow : OpenClaim := { program := "ytdcnfeimfpafiaa", sum := "5ba024a6bb036f231bacf64935821b95b0626f80c1683a73538766ca97aaa9b9", func := "loop.example/g00887/laws.FnNear", spec := "fnNear", unfollowed := true, recurses := true, apart := false }
def FnNearSaid : Prop := fnNearRow.holds Try.pinned (OpenSpec.ofChange fnNearSpec)

/-- ITS FALSE NEIGHBOUR: 'it returns false'. Refute it at one input. -/
def fnNearWrong : ChangeSpec := { name := "fnNear", fn := fun _ => fun
  | [d] => { results := [.lit (.bool false)], args := [d] }
  | _ => none }
def FnNearWrongFalsely : Prop := fnNearRow.holds Try.pinned (OpenSpec.ofChange fnNearWrong)

/-- 'laws.FnExactIsHull': WHATEVER THE INPUT: true; the input reads as it did. -/
def fnExactIsHullSpec : ChangeSpec := { name := "fnExactIsHull", fn := fun _ => fun
  | [d] => { results := [.lit (.bool true)], args := [d] }
  | _ => none }
def fnExactIsHullRow : OpenClaim := { program := "ytdcnfeimfpafiaa", sum := "5ba024a6bb036f231bacf64935821b95b0626f80c1683a73538766ca97aaa9b9", func := "loop.example/g00887/laws.FnExactIsHull", spec := "fnExactIsHull", apart := false }
def FnExactIsHullSaid : Prop := fnExactIsHullRow.holds Try.pinned (OpenSpec.ofChange fnExactIsHullSpec)

/-- ITS FALSE NEIGHBOUR: 'it returns false'. Refute it at one input. -/
def fnExactIsHullWrong : ChangeSpec := { name := "fnExactIsHull", fn := fun _ => fun
  | [d] => { results := [.lit (.bool false)], args := [d] }
  | _ => none }
def FnExactIsHullWrongFalsely : Prop := fnExactIsHullRow.holds Try.pinned (OpenSpec.ofChange fnExactIsHullWrong)

/-- 'laws.FnExactSternOf': WHATEVER THE INPUT: true; the input reads as it did. -/
def fnExactSternOfSpec : ChangeSpec := { name := "fnExactSternOf", fn := fun _ => fun
  | [d] => { results := [.lit (.bool true)], args := [d] }
  | _ => none }
def fnExactSternOfRow : OpenClaim := { program := "ytdcnfeimfpafiaa", sum := "5ba024a6bb036f231bacf64935821b95b0626f80c1683a73538766ca97aaa9b9", func := "loop.example/g00887/laws.FnExactSternOf", spec := "fnExactSternOf", apart := false }
def FnExactSternOfSaid : Prop := fnExactSternOfRow.holds Try.pinned (OpenSpec.ofChange fnExactSternOfSpec)

/-- ITS FALSE NEIGHBOUR: 'it returns false'. Refute it at one input. -/
def fnExactSternOfWrong : ChangeSpec := { name := "fnExactSternOf", fn := fun _ => fun
  | [d] => { results := [.lit (.bool false)], args := [d] }
  | _ => none }
def FnExactSternOfWrongFalsely : Prop := fnExactSternOfRow.holds Try.pinned (OpenSpec.ofChange fnExactSternOfWrong)

/-- 'laws.FnExactClearAstern': WHATEVER THE INPUT: true; the input reads as it did. -/
def fnExactClearAsternSpec : ChangeSpec := { name := "fnExactClearAstern", fn := fun _ => fun
  | [d1, d2] => { results := [.lit (.bool true)], args := [d1, d2] }
  | _ => none }
def fnExactClearAsternRow : OpenClaim := { program := "ytdcnfeimfpafiaa", sum := "5ba024a6bb036f231bacf64935821b95b0626f80c1683a73538766ca97aaa9b9", func := "loop.example/g00887/laws.FnExactClearAstern", spec := "fnExactClearAstern", apart := false }
def FnExactClearAsternSaid : Prop := fnExactClearAsternRow.holds Try.pinned (OpenSpec.ofChange fnExactClearAsternSpec)

/-- ITS FALSE NEIGHBOUR: 'it returns false'. Refute it at one input. -/
def fnExactClearAsternWrong : ChangeSpec := { name := "fnExactClearAstern", fn := fun _ => fun
  | [d1, d2] => { results := [.lit (.bool false)], args := [d1, d2] }
  | _ => none }
def FnExactClearAsternWrongFalsely : Prop := fnExactClearAsternRow.holds Try.pinned (OpenSpec.ofChange fnExactClearAsternWrong)

/-- 'laws.FnExactOverlapOf': WHATEVER THE INPUT: true; the input reads as it did. -/
def fnExactOverlapOfSpec : ChangeSpec := { name := "fnExactOverlapOf", fn := fun _ => fun
  | [d1, d2] => { results := [.lit (.bool true)], args := [d1, d2] }
  | _ => none }
def fnExactOverlapOfRow : OpenClaim := { program := "ytdcnfeimfpafiaa", sum := "5ba024a6bb036f231bacf64935821b95b0626f80c1683a73538766ca97aaa9b9", func := "loop.example/g00887/laws.FnExactOverlapOf", spec := "fnExactOverlapOf", apart := false }
def FnExactOverlapOfSaid : Prop := fnExactOverlapOfRow.holds Try.pinned (OpenSpec.ofChange fnExactOverlapOfSpec)

/-- ITS FALSE NEIGHBOUR: 'it returns false'. Refute it at one input. -/
def fnExactOverlapOfWrong : ChangeSpec := { name := "fnExactOverlapOf", fn := fun _ => fun
  | [d1, d2] => { results := [.lit (.bool false)], args := [d1, d2] }
  | _ => none }
def FnExactOverlapOfWrongFalsely : Prop := fnExactOverlapOfRow.holds Try.pinned (OpenSpec.ofChange fnExactOverlapOfWrong)

/-- 'laws.FnExactGapBehind': WHATEVER THE INPUT: true; the input reads as it did. -/
def fnExactGapBehindSpec : ChangeSpec := { name := "fnExactGapBehind", fn := fun _ => fun
  | [d1, d2] => { results := [.lit (.bool true)], args := [d1, d2] }
  | _ => none }
def fnExactGapBehindRow : OpenClaim := { program := "ytdcnfeimfpafiaa", sum := "5ba024a6bb036f231bacf64935821b95b0626f80c1683a73538766ca97aaa9b9", func := "loop.example/g00887/laws.FnExactGapBehind", spec := "fnExactGapBehind", apart := false }
def FnExactGapBehindSaid : Prop := fnExactGapBehindRow.holds Try.pinned (OpenSpec.ofChange fnExactGapBehindSpec)

/-- ITS FALSE NEIGHBOUR: 'it returns false'. Refute it at one input. -/
def fnExactGapBehindWrong : ChangeSpec := { name := "fnExactGapBehind", fn := fun _ => fun
  | [d1, d2] => { results := [.lit (.bool false)], args := [d1, d2] }
  | _ => none }
def FnExactGapBehindWrongFalsely : Prop := fnExactGapBehindRow.holds Try.pinned (OpenSpec.ofChange fnExactGapBehindWrong)

/-- 'laws.FnExactWindwardOf': WHATEVER THE INPUT: true; the input reads as it did. -/
def fnExactWindwardOfSpec : ChangeSpec := { name := "fnExactWindwardOf", fn := fun _ => fun
  | [d1, d2, d3] => { results := [.lit (.bool true)], args := [d1, d2, d3] }
  | _ => none }
def fnExactWindwardOfRow : OpenClaim := { program := "ytdcnfeimfpafiaa", sum := "5ba024a6bb036f231bacf64935821b95b0626f80c1683a73538766ca97aaa9b9", func := "loop.example/g00887/laws.FnExactWindwardOf", spec := "fnExactWindwardOf", apart := false }
def FnExactWindwardOfSaid : Prop := fnExactWindwardOfRow.holds Try.pinned (OpenSpec.ofChange fnExactWindwardOfSpec)

/-- ITS FALSE NEIGHBOUR: 'it returns false'. Refute it at one input. -/
def fnExactWindwardOfWrong : ChangeSpec := { name := "fnExactWindwardOf", fn := fun _ => fun
  | [d1, d2, d3] => { results := [.lit (.bool false)], args := [d1, d2, d3] }
  | _ => none }
def FnExactWindwardOfWrongFalsely : Prop := fnExactWindwardOfRow.holds Try.pinned (OpenSpec.ofChange fnExactWindwardOfWrong)

/-- 'laws.FnExactHullAt': WHATEVER THE INPUT: true; the input reads as it did. -/
def fnExactHullAtSpec : ChangeSpec := { name := "fnExactHullAt", fn := fun _ => fun
  | [d1, d2, d3] => { results := [.lit (.bool true)], args := [d1, d2, d3] }
  | _ => none }
def fnExactHullAtRow : OpenClaim := { program := "ytdcnfeimfpafiaa", sum := "5ba024a6bb036f231bacf64935821b95b0626f80c1683a73538766ca97aaa9b9", func := "loop.example/g00887/laws.FnExactHullAt", spec := "fnExactHullAt", unfollowed := true, recurses := true, named := ["math/bits.divideError", "math/bits.overflowError"], apart := false }
def FnExactHullAtSaid : Prop := fnExactHullAtRow.holds Try.pinned (OpenSpec.ofChange fnExactHullAtSpec)

/-- ITS FALSE NEIGHBOUR: 'it returns false'. Refute it at one input. -/
def fnExactHullAtWrong : ChangeSpec := { name := "fnExactHullAt", fn := fun _ => fun
  | [d1, d2, d3] => { results := [.lit (.bool false)], args := [d1, d2, d3] }
  | _ => none }
def FnExactHullAtWrongFalsely : Prop := fnExactHullAtRow.holds Try.pinned (OpenSpec.ofChange fnExactHullAtWrong)

/-- 'laws.FnExactHullsNear': WHATEVER THE INPUT: true; the input reads as it did. -/
def fnExactHullsNearSpec : ChangeSpec := { name := "fnExactHullsNear", fn := fun _ => fun
  | [d1, d2, d3] => { results := [.lit (.bool true)], args := [d1, d2, d3] }
  | _ => none }
def fnExactHullsNearRow : OpenClaim := { program := "ytdcnfeimfpafiaa", sum := "5ba024a6bb036f231bacf64935821b95b0626f80c1683a73538766ca97aaa9b9", func := "loop.example/g00887/laws.FnExactHullsNear", spec := "fnExactHullsNear", unfollowed := true, recurses := true, apart := false }
def FnExactHullsNearSaid : Prop := fnExactHullsNearRow.holds Try.pinned (OpenSpec.ofChange fnExactHullsNearSpec)

/-- ITS FALSE NEIGHBOUR: 'it returns false'. Refute it at one input. -/
def fnExactHullsNearWrong : ChangeSpec := { name := "fnExactHullsNear", fn := fun _ => fun
  | [d1, d2, d3] => { results := [.lit (.bool false)], args := [d1, d2, d3] }
  | _ => none }
def FnExactHullsNearWrongFalsely : Prop := fnExactHullsNearRow.holds Try.pinned (OpenSpec.ofChange fnExactHullsNearWrong)

/- THE SECOND FORM. 'bulk': how many values and letters a reading holds, each counted each time it is reached (what is shared counts as often as it is met; a slice's spare places count too). A statement '..UptoSaid' is the law's where the arguments, and the package variables that the reading takes, are together of bulk at most 1048576: NARROWER than '..Said'. Prove '..Said' where nothing that the law and all that it calls make is longer than what came in: it says more and counts as full. Else prove '..UptoSaid'. A law counts once. -/
mutual
def uptoBulk {H : Type} : DataW H → Nat
  | .lit (.string bytes) => bytes.length + 1
  | .lit _ => 1
  | .nil => 1
  | .ptr d => uptoBulk d + 1
  | .slice elems spare => uptoBulkAll elems + uptoBulkAll spare + 1
  | .agg parts => uptoBulkAll parts + 1
  | .iface _ d => uptoBulk d + 1
  | .map entries => uptoBulkEntries entries + 1
  | .held _ => 1
def uptoBulkAll {H : Type} : List (DataW H) → Nat
  | [] => 0
  | d :: r => uptoBulk d + uptoBulkAll r
def uptoBulkEntries {H : Type} : List (Lit × DataW H) → Nat
  | [] => 0
  | x :: r => uptoBulkEntry x + uptoBulkEntries r
def uptoBulkEntry {H : Type} : Lit × DataW H → Nat
  | (.string bytes, d) => bytes.length + uptoBulk d + 1
  | (_, d) => uptoBulk d + 1
 end
def uptoSmall : (H : Type) → List (DataW H) → Bool := fun _ ds => decide (uptoBulkAll ds ≤ 1048576)
def OpenSpec.upto (s : _root_.Go.ChangeSpec) : _root_.Go.OpenSpec := { _root_.Go.OpenSpec.ofChange s with cond := some uptoSmall }

/-- 'laws.FnOverlap', WHERE WHAT IT READS IS OF BULK AT MOST 1048576: true; the input reads as it did. -/
def fnOverlapUptoRow : OpenClaim := { program := "ytdcnfeimfpafiaa", sum := "5ba024a6bb036f231bacf64935821b95b0626f80c1683a73538766ca97aaa9b9", func := "loop.example/g00887/laws.FnOverlap", spec := "fnOverlap", apart := false, narrowed := true }
def FnOverlapUptoSaid : Prop := fnOverlapUptoRow.holds Try.pinned (OpenSpec.upto fnOverlapSpec)

/-- 'laws.FnGap', WHERE WHAT IT READS IS OF BULK AT MOST 1048576: true; the input reads as it did. -/
def fnGapUptoRow : OpenClaim := { program := "ytdcnfeimfpafiaa", sum := "5ba024a6bb036f231bacf64935821b95b0626f80c1683a73538766ca97aaa9b9", func := "loop.example/g00887/laws.FnGap", spec := "fnGap", apart := false, narrowed := true }
def FnGapUptoSaid : Prop := fnGapUptoRow.holds Try.pinned (OpenSpec.upto fnGapSpec)

/-- 'laws.FnNear', WHERE WHAT IT READS IS OF BULK AT MOST 1048576: true; the input reads as it did. -/
def fnNearUptoRow : OpenClaim := { program := "ytdcnfeimfpafiaa", sum := "5ba024a6bb036f231bacf64935821b95b0626f80c1683a73538766ca97aaa9b9", func := "loop.example/g00887/laws.FnNear", spec := "fnNear", unfollowed := true, recurses := true, apart := false, narrowed := true }
def FnNearUptoSaid : Prop := fnNearUptoRow.holds Try.pinned (OpenSpec.upto fnNearSpec)

/-- 'laws.FnExactIsHull', WHERE WHAT IT READS IS OF BULK AT MOST 1048576: true; the input reads as it did. -/
def fnExactIsHullUptoRow : OpenClaim := { program := "ytdcnfeimfpafiaa", sum := "5ba024a6bb036f231bacf64935821b95b0626f80c1683a73538766ca97aaa9b9", func := "loop.example/g00887/laws.FnExactIsHull", spec := "fnExactIsHull", apart := false, narrowed := true }
def FnExactIsHullUptoSaid : Prop := fnExactIsHullUptoRow.holds Try.pinned (OpenSpec.upto fnExactIsHullSpec)

/-- 'laws.FnExactSternOf', WHERE WHAT IT READS IS OF BULK AT MOST 1048576: true; the input reads as it did. -/
def fnExactSternOfUptoRow : OpenClaim := { program := "ytdcnfeimfpafiaa", sum := "5ba024a6bb036f231bacf64935821b95b0626f80c1683a73538766ca97aaa9b9", func := "loop.example/g00887/laws.FnExactSternOf", spec := "fnExactSternOf", apart := false, narrowed := true }
def FnExactSternOfUptoSaid : Prop := fnExactSternOfUptoRow.holds Try.pinned (OpenSpec.upto fnExactSternOfSpec)

/-- 'laws.FnExactClearAstern', WHERE WHAT IT READS IS OF BULK AT MOST 1048576: true; the input reads as it did. -/
def fnExactClearAsternUptoRow : OpenClaim := { program := "ytdcnfeimfpafiaa", sum := "5ba024a6bb036f231bacf64935821b95b0626f80c1683a73538766ca97aaa9b9", func := "loop.example/g00887/laws.FnExactClearAstern", spec := "fnExactClearAstern", apart := false, narrowed := true }
def FnExactClearAsternUptoSaid : Prop := fnExactClearAsternUptoRow.holds Try.pinned (OpenSpec.upto fnExactClearAsternSpec)

/-- 'laws.FnExactOverlapOf', WHERE WHAT IT READS IS OF BULK AT MOST 1048576: true; the input reads as it did. -/
def fnExactOverlapOfUptoRow : OpenClaim := { program := "ytdcnfeimfpafiaa", sum := "5ba024a6bb036f231bacf64935821b95b0626f80c1683a73538766ca97aaa9b9", func := "loop.example/g00887/laws.FnExactOverlapOf", spec := "fnExactOverlapOf", apart := false, narrowed := true }
def FnExactOverlapOfUptoSaid : Prop := fnExactOverlapOfUptoRow.holds Try.pinned (OpenSpec.upto fnExactOverlapOfSpec)

/-- 'laws.FnExactGapBehind', WHERE WHAT IT READS IS OF BULK AT MOST 1048576: true; the input reads as it did. -/
def fnExactGapBehindUptoRow : OpenClaim := { program := "ytdcnfeimfpafiaa", sum := "5ba024a6bb036f231bacf64935821b95b0626f80c1683a73538766ca97aaa9b9", func := "loop.example/g00887/laws.FnExactGapBehind", spec := "fnExactGapBehind", apart := false, narrowed := true }
def FnExactGapBehindUptoSaid : Prop := fnExactGapBehindUptoRow.holds Try.pinned (OpenSpec.upto fnExactGapBehindSpec)

/-- 'laws.FnExactWindwardOf', WHERE WHAT IT READS IS OF BULK AT MOST 1048576: true; the input reads as it did. -/
def fnExactWindwardOfUptoRow : OpenClaim := { program := "ytdcnfeimfpafiaa", sum := "5ba024a6bb036f231bacf64935821b95b0626f80c1683a73538766ca97aaa9b9", func := "loop.example/g00887/laws.FnExactWindwardOf", spec := "fnExactWindwardOf", apart := false, narrowed := true }
def FnExactWindwardOfUptoSaid : Prop := fnExactWindwardOfUptoRow.holds Try.pinned (OpenSpec.upto fnExactWindwardOfSpec)

/-- 'laws.FnExactHullAt', WHERE WHAT IT READS IS OF BULK AT MOST 1048576: true; the input reads as it did. -/
def fnExactHullAtUptoRow : OpenClaim := { program := "ytdcnfeimfpafiaa", sum := "5ba024a6bb036f231bacf64935821b95b0626f80c1683a73538766ca97aaa9b9", func := "loop.example/g00887/laws.FnExactHullAt", spec := "fnExactHullAt", unfollowed := true, recurses := true, named := ["math/bits.divideError", "math/bits.overflowError"], apart := false, narrowed := true }
def FnExactHullAtUptoSaid : Prop := fnExactHullAtUptoRow.holds Try.pinned (OpenSpec.upto fnExactHullAtSpec)

/-- 'laws.FnExactHullsNear', WHERE WHAT IT READS IS OF BULK AT MOST 1048576: true; the input reads as it did. -/
def fnExactHullsNearUptoRow : OpenClaim := { program := "ytdcnfeimfpafiaa", sum := "5ba024a6bb036f231bacf64935821b95b0626f80c1683a73538766ca97aaa9b9", func := "loop.example/g00887/laws.FnExactHullsNear", spec := "fnExactHullsNear", unfollowed := true, recurses := true, apart := false, narrowed := true }
def FnExactHullsNearUptoSaid : Prop := fnExactHullsNearUptoRow.holds Try.pinned (OpenSpec.upto fnExactHullsNearSpec)

end Rows
end Go.Proofs.Ytdcnfeimfpafiaa

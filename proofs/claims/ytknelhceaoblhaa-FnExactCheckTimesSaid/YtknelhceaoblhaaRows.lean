/-
  No cell of these rows narrows 'for every input' (looked for: loops, veiled, ifaces, maps, wideKeys, modest, calm, conditions, laid).
  DERIVED. THE GIVEN ROWS OF THIS SEAT. 3 by the template 'for every input the law returns true; each argument reads behind the call as it read before'; 0 by the template 'total and deterministic' (their statements: YtknelhceaoblhaaTotals.lean).
  GIVEN WITH THE SEED: the statements are not yours to turn. If you find one false, say at which input.
  Laid BY PROGRAM, IN A SANDBOX (cutbox-rows.mjs): the forced cells as the released guide's own fill.sh prints them over the translation 7133e1deda3030e9… (all of the seat's roots in one cut). By AI agents, Wed Nov 11 2026. No macro, syntax, notation, axiom, sorry.
-/
import Derived.Test.YtknelhceaoblhaaChecked
import GoSem.Claim
import GoSem.ClaimJoined
import GoSem.ClaimMapViews
import Derived.JoinedTies
import Derived.KernelRfl
namespace Go.Proofs.Ytknelhceaoblhaa
/- THE CELL 'sum', in the pinned program and in every row, IS THE sha256 OF THE DUMP (.gsa) THAT YtknelhceaoblhaaProg.lean LOADS. Nothing in Lean hashes anything: it is a label: what it is worth is what the hold of that sum in a sandbox is worth. -/
noncomputable def Try.pinned : Pinned := { name := "ytknelhceaoblhaa", sum := "7133e1deda3030e9790ba0fac4793f5fdeaf6c349ec576c4a54376d2fbbfe771", checked := Try.checked }
namespace Rows
def none {H : Type} : Left H := { results := [], args := [] }

/-- 'laws.FnExactIsWatch': WHATEVER THE INPUT: true; the input reads as it did. -/
def fnExactIsWatchSpec : ChangeSpec := { name := "fnExactIsWatch", fn := fun _ => fun
  | [d] => { results := [.lit (.bool true)], args := [d] }
  | _ => none }
def fnExactIsWatchRow : OpenClaim := { program := "ytknelhceaoblhaa", sum := "7133e1deda3030e9790ba0fac4793f5fdeaf6c349ec576c4a54376d2fbbfe771", func := "loop.example/g00887/laws.FnExactIsWatch", spec := "fnExactIsWatch", apart := false }
def FnExactIsWatchSaid : Prop := fnExactIsWatchRow.holds Try.pinned (OpenSpec.ofChange fnExactIsWatchSpec)

/-- ITS FALSE NEIGHBOUR: 'it returns false'. Refute it at one input. -/
def fnExactIsWatchWrong : ChangeSpec := { name := "fnExactIsWatch", fn := fun _ => fun
  | [d] => { results := [.lit (.bool false)], args := [d] }
  | _ => none }
def FnExactIsWatchWrongFalsely : Prop := fnExactIsWatchRow.holds Try.pinned (OpenSpec.ofChange fnExactIsWatchWrong)

/-- 'laws.FnExactCheckTimes': WHATEVER THE INPUT: true; the input reads as it did. -/
def fnExactCheckTimesSpec : ChangeSpec := { name := "fnExactCheckTimes", fn := fun _ => fun
  | [d1, d2, d3] => { results := [.lit (.bool true)], args := [d1, d2, d3] }
  | _ => none }
def fnExactCheckTimesRow : OpenClaim := { program := "ytknelhceaoblhaa", sum := "7133e1deda3030e9790ba0fac4793f5fdeaf6c349ec576c4a54376d2fbbfe771", func := "loop.example/g00887/laws.FnExactCheckTimes", spec := "fnExactCheckTimes", apart := false }
def FnExactCheckTimesSaid : Prop := fnExactCheckTimesRow.holds Try.pinned (OpenSpec.ofChange fnExactCheckTimesSpec)

/-- ITS FALSE NEIGHBOUR: 'it returns false'. Refute it at one input. -/
def fnExactCheckTimesWrong : ChangeSpec := { name := "fnExactCheckTimes", fn := fun _ => fun
  | [d1, d2, d3] => { results := [.lit (.bool false)], args := [d1, d2, d3] }
  | _ => none }
def FnExactCheckTimesWrongFalsely : Prop := fnExactCheckTimesRow.holds Try.pinned (OpenSpec.ofChange fnExactCheckTimesWrong)

/-- 'laws.FnExactKeeperCounts': WHATEVER THE INPUT: true; the input reads as it did. -/
def fnExactKeeperCountsSpec : ChangeSpec := { name := "fnExactKeeperCounts", fn := fun _ => fun
  | [d1, d2] => { results := [.lit (.bool true)], args := [d1, d2] }
  | _ => none }
def fnExactKeeperCountsRow : OpenClaim := { program := "ytknelhceaoblhaa", sum := "7133e1deda3030e9790ba0fac4793f5fdeaf6c349ec576c4a54376d2fbbfe771", func := "loop.example/g00887/laws.FnExactKeeperCounts", spec := "fnExactKeeperCounts", apart := false }
def FnExactKeeperCountsSaid : Prop := fnExactKeeperCountsRow.holds Try.pinned (OpenSpec.ofChange fnExactKeeperCountsSpec)

/-- ITS FALSE NEIGHBOUR: 'it returns false'. Refute it at one input. -/
def fnExactKeeperCountsWrong : ChangeSpec := { name := "fnExactKeeperCounts", fn := fun _ => fun
  | [d1, d2] => { results := [.lit (.bool false)], args := [d1, d2] }
  | _ => none }
def FnExactKeeperCountsWrongFalsely : Prop := fnExactKeeperCountsRow.holds Try.pinned (OpenSpec.ofChange fnExactKeeperCountsWrong)

/- THE SECOND FORM. 'bulk': how many values and letters a reading holds, each counted each time it is reached (what is shared counts as often as it is met; a slice's spare places count too). A statement '..UptoSaid' is the law's where the arguments, and the package variables that the reading takes, are together of bulk at most 1048576: NARROWER than '..Said'. Prove '..Said' where nothing that the law and all that it calls make is longer than what came in: it says more and counts as full. Else prove '..UptoSaid'. A law counts once. -/
mutual
def uptoBulk {H : Type} : DataW H → Nat
  | .lit (.string bytes) => bytes.length + 1
  | .lit _ => 1
  | .nil => 1
  | .ptr d => uptoBulk d + 1
  | .slice elems spare => uptoBulkAll elems + uptoBulkAll spare + 1
  | .agg parts => uptoBulkAll parts + 1
  | .iface _ d => uptoBulk d + 1
  | .map entries => uptoBulkEntries entries + 1
  | .held _ => 1
def uptoBulkAll {H : Type} : List (DataW H) → Nat
  | [] => 0
  | d :: r => uptoBulk d + uptoBulkAll r
def uptoBulkEntries {H : Type} : List (Lit × DataW H) → Nat
  | [] => 0
  | x :: r => uptoBulkEntry x + uptoBulkEntries r
def uptoBulkEntry {H : Type} : Lit × DataW H → Nat
  | (.string bytes, d) => bytes.length + uptoBulk d + 1
  | (_, d) => uptoBulk d + 1
 end
def uptoSmall : (H : Type) → List (DataW H) → Bool := fun _ ds => decide (uptoBulkAll ds ≤ 1048576)
def OpenSpec.upto (s : _root_.Go.ChangeSpec) : _root_.Go.OpenSpec := { _root_.Go.OpenSpec.ofChange s with cond := some uptoSmall }

/-- 'laws.FnExactIsWatch', WHERE WHAT IT READS IS OF BULK AT MOST 1048576: true; the input reads as it did. -/
def fnExactIsWatchUptoRow : OpenClaim := { program := "ytknelhceaoblhaa", sum := "7133e1deda3030e9790ba0fac4793f5fdeaf6c349ec576c4a54376d2fbbfe771", func := "loop.example/g00887/laws.FnExactIsWatch", spec := "fnExactIsWatch", apart := false, narrowed := true }
def FnExactIsWatchUptoSaid : Prop := fnExactIsWatchUptoRow.holds Try.pinned (OpenSpec.upto fnExactIsWatchSpec)

/-- 'laws.FnExactCheckTimes', WHERE WHAT IT READS IS OF BULK AT MOST 1048576: true; the input reads as it did. -/
def fnExactCheckTimesUptoRow : OpenClaim := { program := "ytknelhceaoblhaa", sum := "7133e1deda3030e9790ba0fac4793f5fdeaf6c349ec576c4a54376d2fbbfe771", func := "loop.example/g00887/laws.FnExactCheckTimes", spec := "fnExactCheckTimes", apart := false, narrowed := true }
def FnExactCheckTimesUptoSaid : Prop := fnExactCheckTimesUptoRow.holds Try.pinned (OpenSpec.upto fnExactCheckTimesSpec)

/-- 'laws.FnExactKeeperCounts', WHERE WHAT IT READS IS OF BULK AT MOST 1048576: true; the input reads as it did. -/
def fnExactKeeperCountsUptoRow : OpenClaim := { program := "ytknelhceaoblhaa", sum := "7133e1deda3030e9790ba0fac4793f5fdeaf6c349ec576c4a54376d2fbbfe771", func := "loop.example/g00887/laws.FnExactKeeperCounts", spec := "fnExactKeeperCounts", apart := false, narrowed := true }
def FnExactKeeperCountsUptoSaid : Prop := fnExactKeeperCountsUptoRow.holds Try.pinned (OpenSpec.upto fnExactKeeperCountsSpec)

end Rows
end Go.Proofs.Ytknelhceaoblhaa

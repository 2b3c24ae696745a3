/-
  No cell of these rows narrows 'for every input' (looked for: loops, veiled, ifaces, maps, wideKeys, modest, calm, conditions, laid).
  DERIVED. THE GIVEN ROWS OF THIS SEAT. 4 by the template 'for every input the law returns true; each argument reads behind the call as it read before'; 0 by the template 'total and deterministic' (their statements: YtpdnefodbichkaaTotals.lean).
  GIVEN WITH THE SEED: the statements are not yours to turn. If you find one false, say at which input.
  Laid BY PROGRAM, IN A SANDBOX (cutbox-rows.mjs): the forced cells as the released guide's own fill.sh prints them over the translation 400c4a5aebd9580a… (all of the seat's roots in one cut). By AI agents, Wed Nov 11 2026. No macro, syntax, notation, axiom, sorry.
-/
import Derived.Test.YtpdnefodbichkaaChecked
import GoSem.Claim
import GoSem.ClaimJoined
import GoSem.ClaimMapViews
import Derived.JoinedTies
import Derived.KernelRfl
namespace Go.Proofs.Ytpdnefodbichkaa
/- THE CELL 'sum', in the pinned program and in every row, IS THE sha256 OF THE DUMP (.gsa) THAT YtpdnefodbichkaaProg.lean LOADS. Nothing in Lean hashes anything: it is a label: what it is worth is what the hold of that sum in a sandbox is worth. -/
noncomputable def Try.pinned : Pinned := { name := "ytpdnefodbichkaa", sum := "400c4a5aebd9580a1aab4079a20eafc4b9568e4c4c94ddd1da219f5bc5afa339", checked := Try.checked }
namespace Rows
def none {H : Type} : Left H := { results := [], args := [] }

/-- 'laws.FnWithin': WHATEVER THE INPUT: true; the input reads as it did. -/
def fnWithinSpec : ChangeSpec := { name := "fnWithin", fn := fun _ => fun
  | [d] => { results := [.lit (.bool true)], args := [d] }
  | _ => none }
def fnWithinRow : OpenClaim := { program := "ytpdnefodbichkaa", sum := "400c4a5aebd9580a1aab4079a20eafc4b9568e4c4c94ddd1da219f5bc5afa339", func := "loop.example/g00887/laws.FnWithin", spec := "fnWithin", apart := false }
def FnWithinSaid : Prop := fnWithinRow.holds Try.pinned (OpenSpec.ofChange fnWithinSpec)

/-- ITS FALSE NEIGHBOUR: 'it returns false'. Refute it at one input. -/
def fnWithinWrong : ChangeSpec := { name := "fnWithin", fn := fun _ => fun
  | [d] => { results := [.lit (.bool false)], args := [d] }
  | _ => none }
def FnWithinWrongFalsely : Prop := fnWithinRow.holds Try.pinned (OpenSpec.ofChange fnWithinWrong)

/-- 'laws.FnExactWithinDistance': WHATEVER THE INPUT: true; the input reads as it did. -/
def fnExactWithinDistanceSpec : ChangeSpec := { name := "fnExactWithinDistance", fn := fun _ => fun
  | [d1, d2, d3] => { results := [.lit (.bool true)], args := [d1, d2, d3] }
  | _ => none }
def fnExactWithinDistanceRow : OpenClaim := { program := "ytpdnefodbichkaa", sum := "400c4a5aebd9580a1aab4079a20eafc4b9568e4c4c94ddd1da219f5bc5afa339", func := "loop.example/g00887/laws.FnExactWithinDistance", spec := "fnExactWithinDistance", apart := false }
def FnExactWithinDistanceSaid : Prop := fnExactWithinDistanceRow.holds Try.pinned (OpenSpec.ofChange fnExactWithinDistanceSpec)

/-- ITS FALSE NEIGHBOUR: 'it returns false'. Refute it at one input. -/
def fnExactWithinDistanceWrong : ChangeSpec := { name := "fnExactWithinDistance", fn := fun _ => fun
  | [d1, d2, d3] => { results := [.lit (.bool false)], args := [d1, d2, d3] }
  | _ => none }
def FnExactWithinDistanceWrongFalsely : Prop := fnExactWithinDistanceRow.holds Try.pinned (OpenSpec.ofChange fnExactWithinDistanceWrong)

/-- 'laws.FnRounding': WHATEVER THE INPUT: true; the input reads as it did. -/
def fnRoundingSpec : ChangeSpec := { name := "fnRounding", fn := fun _ => fun
  | [d] => { results := [.lit (.bool true)], args := [d] }
  | _ => none }
def fnRoundingRow : OpenClaim := { program := "ytpdnefodbichkaa", sum := "400c4a5aebd9580a1aab4079a20eafc4b9568e4c4c94ddd1da219f5bc5afa339", func := "loop.example/g00887/laws.FnRounding", spec := "fnRounding", unfollowed := true, recurses := true, apart := false }
def FnRoundingSaid : Prop := fnRoundingRow.holds Try.pinned (OpenSpec.ofChange fnRoundingSpec)

/-- ITS FALSE NEIGHBOUR: 'it returns false'. Refute it at one input. -/
def fnRoundingWrong : ChangeSpec := { name := "fnRounding", fn := fun _ => fun
  | [d] => { results := [.lit (.bool false)], args := [d] }
  | _ => none }
def FnRoundingWrongFalsely : Prop := fnRoundingRow.holds Try.pinned (OpenSpec.ofChange fnRoundingWrong)

/-- 'laws.FnExactRoundingLine': WHATEVER THE INPUT: true; the input reads as it did. -/
def fnExactRoundingLineSpec : ChangeSpec := { name := "fnExactRoundingLine", fn := fun _ => fun
  | [d1, d2] => { results := [.lit (.bool true)], args := [d1, d2] }
  | _ => none }
def fnExactRoundingLineRow : OpenClaim := { program := "ytpdnefodbichkaa", sum := "400c4a5aebd9580a1aab4079a20eafc4b9568e4c4c94ddd1da219f5bc5afa339", func := "loop.example/g00887/laws.FnExactRoundingLine", spec := "fnExactRoundingLine", unfollowed := true, recurses := true, apart := false }
def FnExactRoundingLineSaid : Prop := fnExactRoundingLineRow.holds Try.pinned (OpenSpec.ofChange fnExactRoundingLineSpec)

/-- ITS FALSE NEIGHBOUR: 'it returns false'. Refute it at one input. -/
def fnExactRoundingLineWrong : ChangeSpec := { name := "fnExactRoundingLine", fn := fun _ => fun
  | [d1, d2] => { results := [.lit (.bool false)], args := [d1, d2] }
  | _ => none }
def FnExactRoundingLineWrongFalsely : Prop := fnExactRoundingLineRow.holds Try.pinned (OpenSpec.ofChange fnExactRoundingLineWrong)

/- THE SECOND FORM. 'bulk': how many values and letters a reading holds, each counted each time it is reached (what is shared counts as often as it is met; a slice's spare places count too). A statement '..UptoSaid' is the law's where the arguments, and the package variables that the reading takes, are together of bulk at most 1048576: NARROWER than '..Said'. Prove '..Said' where nothing that the law and all that it calls make is longer than what came in: it says more and counts as full. Else prove '..UptoSaid'. A law counts once. -/
mutual
def uptoBulk {H : Type} : DataW H → Nat
  | .lit (.string bytes) => bytes.length + 1
  | .lit _ => 1
  | .nil => 1
  | .ptr d => uptoBulk d + 1
  | .slice elems spare => uptoBulkAll elems + uptoBulkAll spare + 1
  | .agg parts => uptoBulkAll parts + 1
  | .iface _ d => uptoBulk d + 1
  | .map entries => uptoBulkEntries entries + 1
  | .held _ => 1
def uptoBulkAll {H : Type} : List (DataW H) → Nat
  | [] => 0
  | d :: r => uptoBulk d + uptoBulkAll r
def uptoBulkEntries {H : Type} : List (Lit × DataW H) → Nat
  | [] => 0
  | x :: r => uptoBulkEntry x + uptoBulkEntries r
def uptoBulkEntry {H : Type} : Lit × DataW H → Nat
  | (.string bytes, d) => bytes.length + uptoBulk d + 1
  | (_, d) => uptoBulk d + 1
 end
def uptoSmall : (H : Type) → List (DataW H) → Bool := fun _ ds => decide (uptoBulkAll ds ≤ 1048576)
def OpenSpec.upto (s : _root_.Go.ChangeSpec) : _root_.Go.OpenSpec := { _root_.Go.OpenSpec.ofChange s with cond := some uptoSmall }

/-- 'laws.FnWithin', WHERE WHAT IT READS IS OF BULK AT MOST 1048576: true; the input reads as it did. -/
def fnWithinUptoRow : OpenClaim := { program := "ytpdnefodbichkaa", sum := "400c4a5aebd9580a1aab4079a20eafc4b9568e4c4c94ddd1da219f5bc5afa339", func := "loop.example/g00887/laws.FnWithin", spec := "fnWithin", apart := false, narrowed := true }
def FnWithinUptoSaid : Prop := fnWithinUptoRow.holds Try.pinned (OpenSpec.upto fnWithinSpec)

/-- 'laws.FnExactWithinDistance', WHERE WHAT IT READS IS OF BULK AT MOST 1048576: true; the input reads as it did. -/
def fnExactWithinDistanceUptoRow : OpenClaim := { program := "ytpdnefodbichkaa", sum := "400c4a5aebd9580a1aab4079a20eafc4b9568e4c4c94ddd1da219f5bc5afa339", func := "loop.example/g00887/laws.FnExactWithinDistance", spec := "fnExactWithinDistance", apart := false, narrowed := true }
def FnExactWithinDistanceUptoSaid : Prop := fnExactWithinDistanceUptoRow.holds Try.pinned (OpenSpec.upto fnExactWithinDistanceSpec)

/-- 'laws.FnRounding', WHERE WHAT IT READS IS OF BULK AT MOST 1048576: true; the input reads as it did. -/
def fnRoundingUptoRow : OpenClaim := { program := "ytpdnefodbichkaa", sum := "400c4a5aebd9580a1aab4079a20eafc4b9568e4c4c94ddd1da219f5bc5afa339", func := "loop.example/g00887/laws.FnRounding", spec := "fnRounding", unfollowed := true, recurses := true, apart := false, narrowed := true }
def FnRoundingUptoSaid : Prop := fnRoundingUptoRow.holds Try.pinned (OpenSpec.upto fnRoundingSpec)

/-- 'laws.FnExactRoundingLine', WHERE WHAT IT READS IS OF BULK AT MOST 1048576: true; the input reads as it did. -/
def fnExactRoundingLineUptoRow : OpenClaim := { program := "ytpdnefodbichkaa", sum := "400c4a5aebd9580a1aab4079a20eafc4b9568e4c4c94ddd1da219f5bc5afa339", func := "loop.example/g00887/laws.FnExactRoundingLine", spec := "fnExactRoundingLine", unfollowed := true, recurses := true, apart := false, narrowed := true }
def FnExactRoundingLineUptoSaid : Prop := fnExactRoundingLineUptoRow.holds Try.pinned (OpenSpec.upto fnExactRoundingLineSpec)

end Rows
end Go.Proofs.Ytpdnefodbichkaa

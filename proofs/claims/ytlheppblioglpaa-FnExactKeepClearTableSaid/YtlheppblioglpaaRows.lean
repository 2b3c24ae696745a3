/-
  No cell of these rows narrows 'for every input' (looked for: loops, veiled, ifaces, maps, wideKeys, modest, calm, conditions, laid).
  DERIVED. THE GIVEN ROWS OF THIS SEAT. 6 by the template 'for every input the law returns true; each argument reads behind the call as it read before'; 0 by the template 'total and deterministic' (their statements: YtlheppblioglpaaTotals.lean).
  GIVEN WITH THE SEED: the statements are not yours to turn. If you find one false, say at which input.
  Laid BY PROGRAM, IN A SANDBOX (cutbox-rows.mjs): the forced cells as the released guide's own fill.sh prints them over the translation 0a1c0045403e5b7d… (all of the seat's roots in one cut). By AI agents, Wed Nov 11 2026. No macro, syntax, notation, axiom, sorry.
-/
import Derived.Test.YtlheppblioglpaaChecked
import GoSem.Claim
import GoSem.ClaimJoined
import GoSem.ClaimMapViews
import Derived.JoinedTies
import Derived.KernelRfl
namespace Go.Proofs.Ytlheppblioglpaa
/- THE CELL 'sum', in the pinned program and in every row, IS THE sha256 OF THE DUMP (.gsa) THAT YtlheppblioglpaaProg.lean LOADS. Nothing in Lean hashes anything: it is a label: what it is worth is what the hold of that sum in a sandbox is worth. -/
noncomputable def Try.pinned : Pinned := { name := "ytlheppblioglpaa", sum := "0a1c0045403e5b7d24cb3dba8fa0082e15dd828ab18cea8e6699faafc77ea0e8", checked := Try.checked }
namespace Rows
def none {H : Type} : Left H := { results := [], args := [] }

/-- 'laws.FnKeepClear': WHATEVER THE INPUT: true; the input reads as it did. -/
def fnKeepClearSpec : ChangeSpec := { name := "fnKeepClear", fn := fun _ => fun
  | [d] => { results := [.lit (.bool true)], args := [d] }
  | _ => none }
def fnKeepClearRow : OpenClaim := { program := "ytlheppblioglpaa", sum := "0a1c0045403e5b7d24cb3dba8fa0082e15dd828ab18cea8e6699faafc77ea0e8", func := "loop.example/g00887/laws.FnKeepClear", spec := "fnKeepClear", unfollowed := true, recurses := true, apart := false }
def FnKeepClearSaid : Prop := fnKeepClearRow.holds Try.pinned (OpenSpec.ofChange fnKeepClearSpec)

/-- ITS FALSE NEIGHBOUR: 'it returns false'. Refute it at one input. -/
def fnKeepClearWrong : ChangeSpec := { name := "fnKeepClear", fn := fun _ => fun
  | [d] => { results := [.lit (.bool false)], args := [d] }
  | _ => none }
def FnKeepClearWrongFalsely : Prop := fnKeepClearRow.holds Try.pinned (OpenSpec.ofChange fnKeepClearWrong)

/-- 'laws.FnTurning': WHATEVER THE INPUT: true; the input reads as it did. -/
def fnTurningSpec : ChangeSpec := { name := "fnTurning", fn := fun _ => fun
  | [d] => { results := [.lit (.bool true)], args := [d] }
  | _ => none }
def fnTurningRow : OpenClaim := { program := "ytlheppblioglpaa", sum := "0a1c0045403e5b7d24cb3dba8fa0082e15dd828ab18cea8e6699faafc77ea0e8", func := "loop.example/g00887/laws.FnTurning", spec := "fnTurning", unfollowed := true, recurses := true, apart := false }
def FnTurningSaid : Prop := fnTurningRow.holds Try.pinned (OpenSpec.ofChange fnTurningSpec)

/-- ITS FALSE NEIGHBOUR: 'it returns false'. Refute it at one input. -/
def fnTurningWrong : ChangeSpec := { name := "fnTurning", fn := fun _ => fun
  | [d] => { results := [.lit (.bool false)], args := [d] }
  | _ => none }
def FnTurningWrongFalsely : Prop := fnTurningRow.holds Try.pinned (OpenSpec.ofChange fnTurningWrong)

/-- 'laws.FnExactRuleOn': WHATEVER THE INPUT: true; the input reads as it did. -/
def fnExactRuleOnSpec : ChangeSpec := { name := "fnExactRuleOn", fn := fun _ => fun
  | [d1, d2, d3] => { results := [.lit (.bool true)], args := [d1, d2, d3] }
  | _ => none }
def fnExactRuleOnRow : OpenClaim := { program := "ytlheppblioglpaa", sum := "0a1c0045403e5b7d24cb3dba8fa0082e15dd828ab18cea8e6699faafc77ea0e8", func := "loop.example/g00887/laws.FnExactRuleOn", spec := "fnExactRuleOn", unfollowed := true, recurses := true, apart := false }
def FnExactRuleOnSaid : Prop := fnExactRuleOnRow.holds Try.pinned (OpenSpec.ofChange fnExactRuleOnSpec)

/-- ITS FALSE NEIGHBOUR: 'it returns false'. Refute it at one input. -/
def fnExactRuleOnWrong : ChangeSpec := { name := "fnExactRuleOn", fn := fun _ => fun
  | [d1, d2, d3] => { results := [.lit (.bool false)], args := [d1, d2, d3] }
  | _ => none }
def FnExactRuleOnWrongFalsely : Prop := fnExactRuleOnRow.holds Try.pinned (OpenSpec.ofChange fnExactRuleOnWrong)

/-- 'laws.FnExactTurningAt': WHATEVER THE INPUT: true; the input reads as it did. -/
def fnExactTurningAtSpec : ChangeSpec := { name := "fnExactTurningAt", fn := fun _ => fun
  | [d1, d2, d3, d4] => { results := [.lit (.bool true)], args := [d1, d2, d3, d4] }
  | _ => none }
def fnExactTurningAtRow : OpenClaim := { program := "ytlheppblioglpaa", sum := "0a1c0045403e5b7d24cb3dba8fa0082e15dd828ab18cea8e6699faafc77ea0e8", func := "loop.example/g00887/laws.FnExactTurningAt", spec := "fnExactTurningAt", unfollowed := true, recurses := true, apart := false }
def FnExactTurningAtSaid : Prop := fnExactTurningAtRow.holds Try.pinned (OpenSpec.ofChange fnExactTurningAtSpec)

/-- ITS FALSE NEIGHBOUR: 'it returns false'. Refute it at one input. -/
def fnExactTurningAtWrong : ChangeSpec := { name := "fnExactTurningAt", fn := fun _ => fun
  | [d1, d2, d3, d4] => { results := [.lit (.bool false)], args := [d1, d2, d3, d4] }
  | _ => none }
def FnExactTurningAtWrongFalsely : Prop := fnExactTurningAtRow.holds Try.pinned (OpenSpec.ofChange fnExactTurningAtWrong)

/-- 'laws.FnExactBoatAt': WHATEVER THE INPUT: true; the input reads as it did. -/
def fnExactBoatAtSpec : ChangeSpec := { name := "fnExactBoatAt", fn := fun _ => fun
  | [d1, d2, d3, d4, d5] => { results := [.lit (.bool true)], args := [d1, d2, d3, d4, d5] }
  | _ => none }
def fnExactBoatAtRow : OpenClaim := { program := "ytlheppblioglpaa", sum := "0a1c0045403e5b7d24cb3dba8fa0082e15dd828ab18cea8e6699faafc77ea0e8", func := "loop.example/g00887/laws.FnExactBoatAt", spec := "fnExactBoatAt", unfollowed := true, recurses := true, named := ["math/bits.divideError", "math/bits.overflowError"], apart := false }
def FnExactBoatAtSaid : Prop := fnExactBoatAtRow.holds Try.pinned (OpenSpec.ofChange fnExactBoatAtSpec)

/-- ITS FALSE NEIGHBOUR: 'it returns false'. Refute it at one input. -/
def fnExactBoatAtWrong : ChangeSpec := { name := "fnExactBoatAt", fn := fun _ => fun
  | [d1, d2, d3, d4, d5] => { results := [.lit (.bool false)], args := [d1, d2, d3, d4, d5] }
  | _ => none }
def FnExactBoatAtWrongFalsely : Prop := fnExactBoatAtRow.holds Try.pinned (OpenSpec.ofChange fnExactBoatAtWrong)

/-- 'laws.FnExactKeepClearTable': WHATEVER THE INPUT: true; the input reads as it did. -/
def fnExactKeepClearTableSpec : ChangeSpec := { name := "fnExactKeepClearTable", fn := fun _ => fun
  | [d1, d2] => { results := [.lit (.bool true)], args := [d1, d2] }
  | _ => none }
def fnExactKeepClearTableRow : OpenClaim := { program := "ytlheppblioglpaa", sum := "0a1c0045403e5b7d24cb3dba8fa0082e15dd828ab18cea8e6699faafc77ea0e8", func := "loop.example/g00887/laws.FnExactKeepClearTable", spec := "fnExactKeepClearTable", unfollowed := true, recurses := true, apart := false }
def FnExactKeepClearTableSaid : Prop := fnExactKeepClearTableRow.holds Try.pinned (OpenSpec.ofChange fnExactKeepClearTableSpec)

/-- ITS FALSE NEIGHBOUR: 'it returns false'. Refute it at one input. -/
def fnExactKeepClearTableWrong : ChangeSpec := { name := "fnExactKeepClearTable", fn := fun _ => fun
  | [d1, d2] => { results := [.lit (.bool false)], args := [d1, d2] }
  | _ => none }
def FnExactKeepClearTableWrongFalsely : Prop := fnExactKeepClearTableRow.holds Try.pinned (OpenSpec.ofChange fnExactKeepClearTableWrong)

/- THE SECOND FORM. 'bulk': how many values and letters a reading holds, each counted each time it is reached (what is shared counts as often as it is met; a slice's spare places count too). A statement '..UptoSaid' is the law's where the arguments, and the package variables that the reading takes, are together of bulk at most 1048576: NARROWER than '..Said'. Prove '..Said' where nothing that the law and all that it calls make is longer than what came in: it says more and counts as full. Else prove '..UptoSaid'. A law counts once. -/
mutual
def uptoBulk {H : Type} : DataW H → Nat
  | .lit (.string bytes) => bytes.length + 1
  | .lit _ => 1
  | .nil => 1
  | .ptr d => uptoBulk d + 1
  | .slice elems spare => uptoBulkAll elems + uptoBulkAll spare + 1
  | .agg parts => uptoBulkAll parts + 1
  | .iface _ d => uptoBulk d + 1
  | .map entries => uptoBulkEntries entries + 1
  | .held _ => 1
def uptoBulkAll {H : Type} : List (DataW H) → Nat
  | [] => 0
  | d :: r => uptoBulk d + uptoBulkAll r
def uptoBulkEntries {H : Type} : List (Lit × DataW H) → Nat
  | [] => 0
  | x :: r => uptoBulkEntry x + uptoBulkEntries r
def uptoBulkEntry {H : Type} : Lit × DataW H → Nat
  | (.string bytes, d) => bytes.length + uptoBulk d + 1
  | (_, d) => uptoBulk d + 1
 end
def uptoSmall : (H : Type) → List (DataW H) → Bool := fun _ ds => decide (uptoBulkAll ds ≤ 1048576)
def OpenSpec.upto (s : _root_.Go.ChangeSpec) : _root_.Go.OpenSpec := { _root_.Go.OpenSpec.ofChange s with cond := some uptoSmall }

/-- 'laws.FnKeepClear', WHERE WHAT IT READS IS OF BULK AT MOST 1048576: true; the input reads as it did. -/
def fnKeepClearUptoRow : OpenClaim := { program := "ytlheppblioglpaa", sum := "0a1c0045403e5b7d24cb3dba8fa0082e15dd828ab18cea8e6699faafc77ea0e8", func := "loop.example/g00887/laws.FnKeepClear", spec := "fnKeepClear", unfollowed := true, recurses := true, apart := false, narrowed := true }
def FnKeepClearUptoSaid : Prop := fnKeepClearUptoRow.holds Try.pinned (OpenSpec.upto fnKeepClearSpec)

/-- 'laws.FnTurning', WHERE WHAT IT READS IS OF BULK AT MOST 1048576: true; the input reads as it did. -/
def fnTurningUptoRow : OpenClaim := { program := "ytlheppblioglpaa", sum := "0a1c0045403e5b7d24cb3dba8fa0082e15dd828ab18cea8e6699faafc77ea0e8", func := "loop.example/g00887/laws.FnTurning", spec := "fnTurning", unfollowed := true, recurses := true, apart := false, narrowed := true }
def FnTurningUptoSaid : Prop := fnTurningUptoRow.holds Try.pinned (OpenSpec.upto fnTurningSpec)

/-- 'laws.FnExactRuleOn', WHERE WHAT IT READS IS OF BULK AT MOST 1048576: true; the input reads as it did. -/
def fnExactRuleOnUptoRow : OpenClaim := { program := "ytlheppblioglpaa", sum := "0a1c0045403e5b7d24cb3dba8fa0082e15dd828ab18cea8e6699faafc77ea0e8", func := "loop.example/g00887/laws.FnExactRuleOn", spec := "fnExactRuleOn", unfollowed := true, recurses := true, apart := false, narrowed := true }
def FnExactRuleOnUptoSaid : Prop := fnExactRuleOnUptoRow.holds Try.pinned (OpenSpec.upto fnExactRuleOnSpec)

/-- 'laws.FnExactTurningAt', WHERE WHAT IT READS IS OF BULK AT MOST 1048576: true; the input reads as it did. -/
def fnExactTurningAtUptoRow : OpenClaim := { program := "ytlheppblioglpaa", sum := "0a1c0045403e5b7d24cb3dba8fa0082e15dd828ab18cea8e6699faafc77ea0e8", func := "loop.example/g00887/laws.FnExactTurningAt", spec := "fnExactTurningAt", unfollowed := true, recurses := true, apart := false, narrowed := true }
def FnExactTurningAtUptoSaid : Prop := fnExactTurningAtUptoRow.holds Try.pinned (OpenSpec.upto fnExactTurningAtSpec)

/-- 'laws.FnExactBoatAt', WHERE WHAT IT READS IS OF BULK AT MOST 1048576: true; the input reads as it did. -/
def fnExactBoatAtUptoRow : OpenClaim := { program := "ytlheppblioglpaa", sum := "0a1c0045403e5b7d24cb3dba8fa0082e15dd828ab18cea8e6699faafc77ea0e8", func := "loop.example/g00887/laws.FnExactBoatAt", spec := "fnExactBoatAt", unfollowed := true, recurses := true, named := ["math/bits.divideError", "math/bits.overflowError"], apart := false, narrowed := true }
def FnExactBoatAtUptoSaid : Prop := fnExactBoatAtUptoRow.holds Try.pinned (OpenSpec.upto fnExactBoatAtSpec)

/-- 'laws.FnExactKeepClearTable', WHERE WHAT IT READS IS OF BULK AT MOST 1048576: true; the input reads as it did. -/
def fnExactKeepClearTableUptoRow : OpenClaim := { program := "ytlheppblioglpaa", sum := "0a1c0045403e5b7d24cb3dba8fa0082e15dd828ab18cea8e6699faafc77ea0e8", func := "loop.example/g00887/laws.FnExactKeepClearTable", spec := "fnExactKeepClearTable", unfollowed := true, recurses := true, apart := false, narrowed := true }
def FnExactKeepClearTableUptoSaid : Prop := fnExactKeepClearTableUptoRow.holds Try.pinned (OpenSpec.upto fnExactKeepClearTableSpec)

end Rows
end Go.Proofs.Ytlheppblioglpaa

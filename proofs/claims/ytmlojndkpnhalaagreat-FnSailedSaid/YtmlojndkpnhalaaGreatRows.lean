/-
  No cell of these rows narrows 'for every input' (looked for: loops, veiled, ifaces, maps, wideKeys, modest, calm, conditions, laid).
  DERIVED. THE GIVEN ROWS OF THIS SEAT. 8 by the template 'for every input the law returns true; each argument reads behind the call as it read before'; 0 by the template 'total and deterministic' (their statements: YtmlojndkpnhalaaGreatTotals.lean).
  GIVEN WITH THE SEED: the statements are not yours to turn. If you find one false, say at which input.
  Laid BY PROGRAM, IN A SANDBOX (cutbox-rows.mjs): the forced cells as the released guide's own fill.sh prints them over the translation e71cafe048cc21e9… (all of the seat's roots in one cut). By AI agents, Wed Nov 11 2026. No macro, syntax, notation, axiom, sorry.
-/
import Derived.Test.YtmlojndkpnhalaaGreatChecked
import GoSem.Claim
import GoSem.ClaimJoined
import GoSem.ClaimMapViews
import Derived.JoinedTies
import Derived.KernelRfl
namespace Go.Proofs.YtmlojndkpnhalaaGreat
/- THE CELL 'sum', in the pinned program and in every row, IS THE sha256 OF THE DUMP (.gsa) THAT YtmlojndkpnhalaaGreatProg.lean LOADS. Nothing in Lean hashes anything: it is a label: what it is worth is what the hold of that sum in a sandbox is worth. -/
noncomputable def Tryz.pinned : Pinned := { name := "ytmlojndkpnhalaagreat", sum := "e71cafe048cc21e97f9c60973fe2e007dafc90032e2df382c15fdfd4b9f95c0f", checked := Tryz.checked }
namespace Rows
def none {H : Type} : Left H := { results := [], args := [] }

/-- 'laws.FnSailed': WHATEVER THE INPUT: true; the input reads as it did. -/
def fnSailedSpec : ChangeSpec := { name := "fnSailed", fn := fun _ => fun
  | [d] => { results := [.lit (.bool true)], args := [d] }
  | _ => none }
def fnSailedRow : OpenClaim := { program := "ytmlojndkpnhalaagreat", sum := "e71cafe048cc21e97f9c60973fe2e007dafc90032e2df382c15fdfd4b9f95c0f", func := "loop.example/g00887/laws.FnSailed", spec := "fnSailed", unfollowed := true, recurses := true, named := ["math/bits.divideError", "math/bits.overflowError"], plainKeys := false, apart := false }
def FnSailedSaid : Prop := fnSailedRow.holds Tryz.pinned (OpenSpec.ofChange fnSailedSpec)

/-- ITS FALSE NEIGHBOUR: 'it returns false'. Refute it at one input. -/
def fnSailedWrong : ChangeSpec := { name := "fnSailed", fn := fun _ => fun
  | [d] => { results := [.lit (.bool false)], args := [d] }
  | _ => none }
def FnSailedWrongFalsely : Prop := fnSailedRow.holds Tryz.pinned (OpenSpec.ofChange fnSailedWrong)

/-- 'laws.FnOrder': WHATEVER THE INPUT: true; the input reads as it did. -/
def fnOrderSpec : ChangeSpec := { name := "fnOrder", fn := fun _ => fun
  | [d] => { results := [.lit (.bool true)], args := [d] }
  | _ => none }
def fnOrderRow : OpenClaim := { program := "ytmlojndkpnhalaagreat", sum := "e71cafe048cc21e97f9c60973fe2e007dafc90032e2df382c15fdfd4b9f95c0f", func := "loop.example/g00887/laws.FnOrder", spec := "fnOrder", unfollowed := true, recurses := true, named := ["math/bits.divideError", "math/bits.overflowError"], plainKeys := false, apart := false }
def FnOrderSaid : Prop := fnOrderRow.holds Tryz.pinned (OpenSpec.ofChange fnOrderSpec)

/-- ITS FALSE NEIGHBOUR: 'it returns false'. Refute it at one input. -/
def fnOrderWrong : ChangeSpec := { name := "fnOrder", fn := fun _ => fun
  | [d] => { results := [.lit (.bool false)], args := [d] }
  | _ => none }
def FnOrderWrongFalsely : Prop := fnOrderRow.holds Tryz.pinned (OpenSpec.ofChange fnOrderWrong)

/-- 'laws.FnFirstToZone': WHATEVER THE INPUT: true; the input reads as it did. -/
def fnFirstToZoneSpec : ChangeSpec := { name := "fnFirstToZone", fn := fun _ => fun
  | [d] => { results := [.lit (.bool true)], args := [d] }
  | _ => none }
def fnFirstToZoneRow : OpenClaim := { program := "ytmlojndkpnhalaagreat", sum := "e71cafe048cc21e97f9c60973fe2e007dafc90032e2df382c15fdfd4b9f95c0f", func := "loop.example/g00887/laws.FnFirstToZone", spec := "fnFirstToZone", unfollowed := true, recurses := true, plainKeys := false, apart := false }
def FnFirstToZoneSaid : Prop := fnFirstToZoneRow.holds Tryz.pinned (OpenSpec.ofChange fnFirstToZoneSpec)

/-- ITS FALSE NEIGHBOUR: 'it returns false'. Refute it at one input. -/
def fnFirstToZoneWrong : ChangeSpec := { name := "fnFirstToZone", fn := fun _ => fun
  | [d] => { results := [.lit (.bool false)], args := [d] }
  | _ => none }
def FnFirstToZoneWrongFalsely : Prop := fnFirstToZoneRow.holds Tryz.pinned (OpenSpec.ofChange fnFirstToZoneWrong)

/-- 'laws.FnRuleAt': WHATEVER THE INPUT: true; the input reads as it did. -/
def fnRuleAtSpec : ChangeSpec := { name := "fnRuleAt", fn := fun _ => fun
  | [d] => { results := [.lit (.bool true)], args := [d] }
  | _ => none }
def fnRuleAtRow : OpenClaim := { program := "ytmlojndkpnhalaagreat", sum := "e71cafe048cc21e97f9c60973fe2e007dafc90032e2df382c15fdfd4b9f95c0f", func := "loop.example/g00887/laws.FnRuleAt", spec := "fnRuleAt", unfollowed := true, recurses := true, named := ["math/bits.divideError", "math/bits.overflowError"], plainKeys := false, apart := false }
def FnRuleAtSaid : Prop := fnRuleAtRow.holds Tryz.pinned (OpenSpec.ofChange fnRuleAtSpec)

/-- ITS FALSE NEIGHBOUR: 'it returns false'. Refute it at one input. -/
def fnRuleAtWrong : ChangeSpec := { name := "fnRuleAt", fn := fun _ => fun
  | [d] => { results := [.lit (.bool false)], args := [d] }
  | _ => none }
def FnRuleAtWrongFalsely : Prop := fnRuleAtRow.holds Tryz.pinned (OpenSpec.ofChange fnRuleAtWrong)

/-- 'laws.FnRoomTime': WHATEVER THE INPUT: true; the input reads as it did. -/
def fnRoomTimeSpec : ChangeSpec := { name := "fnRoomTime", fn := fun _ => fun
  | [d] => { results := [.lit (.bool true)], args := [d] }
  | _ => none }
def fnRoomTimeRow : OpenClaim := { program := "ytmlojndkpnhalaagreat", sum := "e71cafe048cc21e97f9c60973fe2e007dafc90032e2df382c15fdfd4b9f95c0f", func := "loop.example/g00887/laws.FnRoomTime", spec := "fnRoomTime", unfollowed := true, recurses := true, plainKeys := false, apart := false }
def FnRoomTimeSaid : Prop := fnRoomTimeRow.holds Tryz.pinned (OpenSpec.ofChange fnRoomTimeSpec)

/-- ITS FALSE NEIGHBOUR: 'it returns false'. Refute it at one input. -/
def fnRoomTimeWrong : ChangeSpec := { name := "fnRoomTime", fn := fun _ => fun
  | [d] => { results := [.lit (.bool false)], args := [d] }
  | _ => none }
def FnRoomTimeWrongFalsely : Prop := fnRoomTimeRow.holds Tryz.pinned (OpenSpec.ofChange fnRoomTimeWrong)

/-- 'laws.FnExactOrderAt': WHATEVER THE INPUT: true; the input reads as it did. -/
def fnExactOrderAtSpec : ChangeSpec := { name := "fnExactOrderAt", fn := fun _ => fun
  | [d1, d2, d3] => { results := [.lit (.bool true)], args := [d1, d2, d3] }
  | _ => none }
def fnExactOrderAtRow : OpenClaim := { program := "ytmlojndkpnhalaagreat", sum := "e71cafe048cc21e97f9c60973fe2e007dafc90032e2df382c15fdfd4b9f95c0f", func := "loop.example/g00887/laws.FnExactOrderAt", spec := "fnExactOrderAt", unfollowed := true, recurses := true, named := ["math/bits.divideError", "math/bits.overflowError"], plainKeys := false, apart := false }
def FnExactOrderAtSaid : Prop := fnExactOrderAtRow.holds Tryz.pinned (OpenSpec.ofChange fnExactOrderAtSpec)

/-- ITS FALSE NEIGHBOUR: 'it returns false'. Refute it at one input. -/
def fnExactOrderAtWrong : ChangeSpec := { name := "fnExactOrderAt", fn := fun _ => fun
  | [d1, d2, d3] => { results := [.lit (.bool false)], args := [d1, d2, d3] }
  | _ => none }
def FnExactOrderAtWrongFalsely : Prop := fnExactOrderAtRow.holds Tryz.pinned (OpenSpec.ofChange fnExactOrderAtWrong)

/-- 'laws.FnExactRuleAt': WHATEVER THE INPUT: true; the input reads as it did. -/
def fnExactRuleAtSpec : ChangeSpec := { name := "fnExactRuleAt", fn := fun _ => fun
  | [d1, d2, d3, d4, d5, d6] => { results := [.lit (.bool true)], args := [d1, d2, d3, d4, d5, d6] }
  | _ => none }
def fnExactRuleAtRow : OpenClaim := { program := "ytmlojndkpnhalaagreat", sum := "e71cafe048cc21e97f9c60973fe2e007dafc90032e2df382c15fdfd4b9f95c0f", func := "loop.example/g00887/laws.FnExactRuleAt", spec := "fnExactRuleAt", unfollowed := true, recurses := true, named := ["math/bits.divideError", "math/bits.overflowError"], plainKeys := false, apart := false }
def FnExactRuleAtSaid : Prop := fnExactRuleAtRow.holds Tryz.pinned (OpenSpec.ofChange fnExactRuleAtSpec)

/-- ITS FALSE NEIGHBOUR: 'it returns false'. Refute it at one input. -/
def fnExactRuleAtWrong : ChangeSpec := { name := "fnExactRuleAt", fn := fun _ => fun
  | [d1, d2, d3, d4, d5, d6] => { results := [.lit (.bool false)], args := [d1, d2, d3, d4, d5, d6] }
  | _ => none }
def FnExactRuleAtWrongFalsely : Prop := fnExactRuleAtRow.holds Tryz.pinned (OpenSpec.ofChange fnExactRuleAtWrong)

/-- 'laws.FnExactRoomAt': WHATEVER THE INPUT: true; the input reads as it did. -/
def fnExactRoomAtSpec : ChangeSpec := { name := "fnExactRoomAt", fn := fun _ => fun
  | [d1, d2, d3, d4, d5, d6] => { results := [.lit (.bool true)], args := [d1, d2, d3, d4, d5, d6] }
  | _ => none }
def fnExactRoomAtRow : OpenClaim := { program := "ytmlojndkpnhalaagreat", sum := "e71cafe048cc21e97f9c60973fe2e007dafc90032e2df382c15fdfd4b9f95c0f", func := "loop.example/g00887/laws.FnExactRoomAt", spec := "fnExactRoomAt", unfollowed := true, recurses := true, named := ["math/bits.divideError", "math/bits.overflowError"], plainKeys := false, apart := false }
def FnExactRoomAtSaid : Prop := fnExactRoomAtRow.holds Tryz.pinned (OpenSpec.ofChange fnExactRoomAtSpec)

/-- ITS FALSE NEIGHBOUR: 'it returns false'. Refute it at one input. -/
def fnExactRoomAtWrong : ChangeSpec := { name := "fnExactRoomAt", fn := fun _ => fun
  | [d1, d2, d3, d4, d5, d6] => { results := [.lit (.bool false)], args := [d1, d2, d3, d4, d5, d6] }
  | _ => none }
def FnExactRoomAtWrongFalsely : Prop := fnExactRoomAtRow.holds Tryz.pinned (OpenSpec.ofChange fnExactRoomAtWrong)

/- THE SECOND FORM. 'bulk': how many values and letters a reading holds, each counted each time it is reached (what is shared counts as often as it is met; a slice's spare places count too). A statement '..UptoSaid' is the law's where the arguments, and the package variables that the reading takes, are together of bulk at most 1048576: NARROWER than '..Said'. Prove '..Said' where nothing that the law and all that it calls make is longer than what came in: it says more and counts as full. Else prove '..UptoSaid'. A law counts once. -/
mutual
def uptoBulk {H : Type} : DataW H → Nat
  | .lit (.string bytes) => bytes.length + 1
  | .lit _ => 1
  | .nil => 1
  | .ptr d => uptoBulk d + 1
  | .slice elems spare => uptoBulkAll elems + uptoBulkAll spare + 1
  | .agg parts => uptoBulkAll parts + 1
  | .iface _ d => uptoBulk d + 1
  | .map entries => uptoBulkEntries entries + 1
  | .held _ => 1
def uptoBulkAll {H : Type} : List (DataW H) → Nat
  | [] => 0
  | d :: r => uptoBulk d + uptoBulkAll r
def uptoBulkEntries {H : Type} : List (Lit × DataW H) → Nat
  | [] => 0
  | x :: r => uptoBulkEntry x + uptoBulkEntries r
def uptoBulkEntry {H : Type} : Lit × DataW H → Nat
  | (.string bytes, d) => bytes.length + uptoBulk d + 1
  | (_, d) => uptoBulk d + 1
 end
def uptoSmall : (H : Type) → List (DataW H) → Bool := fun _ ds => decide (uptoBulkAll ds ≤ 1048576)
def OpenSpec.upto (s : _root_.Go.ChangeSpec) : _root_.Go.OpenSpec := { _root_.Go.OpenSpec.ofChange s with cond := some uptoSmall }

/-- 'laws.FnSailed', WHERE WHAT IT READS IS OF BULK AT MOST 1048576: true; the input reads as it did. -/
def fnSailedUptoRow : OpenClaim := { program := "ytmlojndkpnhalaagreat", sum := "e71cafe048cc21e97f9c60973fe2e007dafc90032e2df382c15fdfd4b9f95c0f", func := "loop.example/g00887/laws.FnSailed", spec := "fnSailed", unfollowed := true, recurses := true, named := ["math/bits.divideError", "math/bits.overflowError"], plainKeys := false, apart := false, narrowed := true }
def FnSailedUptoSaid : Prop := fnSailedUptoRow.holds Tryz.pinned (OpenSpec.upto fnSailedSpec)

/-- 'laws.FnOrder', WHERE WHAT IT READS IS OF BULK AT MOST 1048576: true; the input reads as it did. -/
def fnOrderUptoRow : OpenClaim := { program := "ytmlojndkpnhalaagreat", sum := "e71cafe048cc21e97f9c60973fe2e007dafc90032e2df382c15fdfd4b9f95c0f", func := "loop.example/g00887/laws.FnOrder", spec := "fnOrder", unfollowed := true, recurses := true, named := ["math/bits.divideError", "math/bits.overflowError"], plainKeys := false, apart := false, narrowed := true }
def FnOrderUptoSaid : Prop := fnOrderUptoRow.holds Tryz.pinned (OpenSpec.upto fnOrderSpec)

/-- 'laws.FnFirstToZone', WHERE WHAT IT READS IS OF BULK AT MOST 1048576: true; the input reads as it did. -/
def fnFirstToZoneUptoRow : OpenClaim := { program := "ytmlojndkpnhalaagreat", sum := "e71cafe048cc21e97f9c60973fe2e007dafc90032e2df382c15fdfd4b9f95c0f", func := "loop.example/g00887/laws.FnFirstToZone", spec := "fnFirstToZone", unfollowed := true, recurses := true, plainKeys := false, apart := false, narrowed := true }
def FnFirstToZoneUptoSaid : Prop := fnFirstToZoneUptoRow.holds Tryz.pinned (OpenSpec.upto fnFirstToZoneSpec)

/-- 'laws.FnRuleAt', WHERE WHAT IT READS IS OF BULK AT MOST 1048576: true; the input reads as it did. -/
def fnRuleAtUptoRow : OpenClaim := { program := "ytmlojndkpnhalaagreat", sum := "e71cafe048cc21e97f9c60973fe2e007dafc90032e2df382c15fdfd4b9f95c0f", func := "loop.example/g00887/laws.FnRuleAt", spec := "fnRuleAt", unfollowed := true, recurses := true, named := ["math/bits.divideError", "math/bits.overflowError"], plainKeys := false, apart := false, narrowed := true }
def FnRuleAtUptoSaid : Prop := fnRuleAtUptoRow.holds Tryz.pinned (OpenSpec.upto fnRuleAtSpec)

/-- 'laws.FnRoomTime', WHERE WHAT IT READS IS OF BULK AT MOST 1048576: true; the input reads as it did. -/
def fnRoomTimeUptoRow : OpenClaim := { program := "ytmlojndkpnhalaagreat", sum := "e71cafe048cc21e97f9c60973fe2e007dafc90032e2df382c15fdfd4b9f95c0f", func := "loop.example/g00887/laws.FnRoomTime", spec := "fnRoomTime", unfollowed := true, recurses := true, plainKeys := false, apart := false, narrowed := true }
def FnRoomTimeUptoSaid : Prop := fnRoomTimeUptoRow.holds Tryz.pinned (OpenSpec.upto fnRoomTimeSpec)

/-- 'laws.FnExactOrderAt', WHERE WHAT IT READS IS OF BULK AT MOST 1048576: true; the input reads as it did. -/
def fnExactOrderAtUptoRow : OpenClaim := { program := "ytmlojndkpnhalaagreat", sum := "e71cafe048cc21e97f9c60973fe2e007dafc90032e2df382c15fdfd4b9f95c0f", func := "loop.example/g00887/laws.FnExactOrderAt", spec := "fnExactOrderAt", unfollowed := true, recurses := true, named := ["math/bits.divideError", "math/bits.overflowError"], plainKeys := false, apart := false, narrowed := true }
def FnExactOrderAtUptoSaid : Prop := fnExactOrderAtUptoRow.holds Tryz.pinned (OpenSpec.upto fnExactOrderAtSpec)

/-- 'laws.FnExactRuleAt', WHERE WHAT IT READS IS OF BULK AT MOST 1048576: true; the input reads as it did. -/
def fnExactRuleAtUptoRow : OpenClaim := { program := "ytmlojndkpnhalaagreat", sum := "e71cafe048cc21e97f9c60973fe2e007dafc90032e2df382c15fdfd4b9f95c0f", func := "loop.example/g00887/laws.FnExactRuleAt", spec := "fnExactRuleAt", unfollowed := true, recurses := true, named := ["math/bits.divideError", "math/bits.overflowError"], plainKeys := false, apart := false, narrowed := true }
def FnExactRuleAtUptoSaid : Prop := fnExactRuleAtUptoRow.holds Tryz.pinned (OpenSpec.upto fnExactRuleAtSpec)

/-- 'laws.FnExactRoomAt', WHERE WHAT IT READS IS OF BULK AT MOST 1048576: true; the input reads as it did. -/
def fnExactRoomAtUptoRow : OpenClaim := { program := "ytmlojndkpnhalaagreat", sum := "e71cafe048cc21e97f9c60973fe2e007dafc90032e2df382c15fdfd4b9f95c0f", func := "loop.example/g00887/laws.FnExactRoomAt", spec := "fnExactRoomAt", unfollowed := true, recurses := true, named := ["math/bits.divideError", "math/bits.overflowError"], plainKeys := false, apart := false, narrowed := true }
def FnExactRoomAtUptoSaid : Prop := fnExactRoomAtUptoRow.holds Tryz.pinned (OpenSpec.upto fnExactRoomAtSpec)

end Rows
end Go.Proofs.YtmlojndkpnhalaaGreat

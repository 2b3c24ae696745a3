/-
  No cell of these rows narrows 'for every input' (looked for: loops, veiled, ifaces, maps, wideKeys, modest, calm, conditions, laid).
  DERIVED. THE GIVEN ROWS OF THIS SEAT. 7 by the template 'for every input the law returns true; each argument reads behind the call as it read before'; 0 by the template 'total and deterministic' (their statements: YtcangdcakgcpaaaGreatTotals.lean).
  GIVEN WITH THE SEED: the statements are not yours to turn. If you find one false, say at which input.
  Laid BY PROGRAM, IN A SANDBOX (cutbox-rows.mjs): the forced cells as the released guide's own fill.sh prints them over the translation 704c5f27ff5afa60… (all of the seat's roots in one cut). By AI agents, Wed Nov 11 2026. No macro, syntax, notation, axiom, sorry.
-/
import Derived.Test.YtcangdcakgcpaaaGreatChecked
import GoSem.Claim
import GoSem.ClaimJoined
import GoSem.ClaimMapViews
import Derived.JoinedTies
import Derived.KernelRfl
namespace Go.Proofs.YtcangdcakgcpaaaGreat
/- THE CELL 'sum', in the pinned program and in every row, IS THE sha256 OF THE DUMP (.gsa) THAT YtcangdcakgcpaaaGreatProg.lean LOADS. Nothing in Lean hashes anything: it is a label: what it is worth is what the hold of that sum in a sandbox is worth. -/
noncomputable def Tryz.pinned : Pinned := { name := "ytcangdcakgcpaaagreat", sum := "704c5f27ff5afa60b7fb1068a6e974540610aa72da40c567196cc57478c6ed6a", checked := Tryz.checked }
namespace Rows
def none {H : Type} : Left H := { results := [], args := [] }

/-- 'laws.FnFirstToZone': WHATEVER THE INPUT: true; the input reads as it did. -/
def fnFirstToZoneSpec : ChangeSpec := { name := "fnFirstToZone", fn := fun _ => fun
  | [d] => { results := [.lit (.bool true)], args := [d] }
  | _ => none }
def fnFirstToZoneRow : OpenClaim := { program := "ytcangdcakgcpaaagreat", sum := "704c5f27ff5afa60b7fb1068a6e974540610aa72da40c567196cc57478c6ed6a", func := "loop.example/g00887/laws.FnFirstToZone", spec := "fnFirstToZone", unfollowed := true, recurses := true, apart := false }
def FnFirstToZoneSaid : Prop := fnFirstToZoneRow.holds Tryz.pinned (OpenSpec.ofChange fnFirstToZoneSpec)

/-- ITS FALSE NEIGHBOUR: 'it returns false'. Refute it at one input. -/
def fnFirstToZoneWrong : ChangeSpec := { name := "fnFirstToZone", fn := fun _ => fun
  | [d] => { results := [.lit (.bool false)], args := [d] }
  | _ => none }
def FnFirstToZoneWrongFalsely : Prop := fnFirstToZoneRow.holds Tryz.pinned (OpenSpec.ofChange fnFirstToZoneWrong)

/-- 'laws.FnRoomTime': WHATEVER THE INPUT: true; the input reads as it did. -/
def fnRoomTimeSpec : ChangeSpec := { name := "fnRoomTime", fn := fun _ => fun
  | [d] => { results := [.lit (.bool true)], args := [d] }
  | _ => none }
def fnRoomTimeRow : OpenClaim := { program := "ytcangdcakgcpaaagreat", sum := "704c5f27ff5afa60b7fb1068a6e974540610aa72da40c567196cc57478c6ed6a", func := "loop.example/g00887/laws.FnRoomTime", spec := "fnRoomTime", unfollowed := true, recurses := true, apart := false }
def FnRoomTimeSaid : Prop := fnRoomTimeRow.holds Tryz.pinned (OpenSpec.ofChange fnRoomTimeSpec)

/-- ITS FALSE NEIGHBOUR: 'it returns false'. Refute it at one input. -/
def fnRoomTimeWrong : ChangeSpec := { name := "fnRoomTime", fn := fun _ => fun
  | [d] => { results := [.lit (.bool false)], args := [d] }
  | _ => none }
def FnRoomTimeWrongFalsely : Prop := fnRoomTimeRow.holds Tryz.pinned (OpenSpec.ofChange fnRoomTimeWrong)

/-- 'laws.FnExactFirstToZone': WHATEVER THE INPUT: true; the input reads as it did. -/
def fnExactFirstToZoneSpec : ChangeSpec := { name := "fnExactFirstToZone", fn := fun _ => fun
  | [d1, d2, d3] => { results := [.lit (.bool true)], args := [d1, d2, d3] }
  | _ => none }
def fnExactFirstToZoneRow : OpenClaim := { program := "ytcangdcakgcpaaagreat", sum := "704c5f27ff5afa60b7fb1068a6e974540610aa72da40c567196cc57478c6ed6a", func := "loop.example/g00887/laws.FnExactFirstToZone", spec := "fnExactFirstToZone", unfollowed := true, recurses := true, apart := false }
def FnExactFirstToZoneSaid : Prop := fnExactFirstToZoneRow.holds Tryz.pinned (OpenSpec.ofChange fnExactFirstToZoneSpec)

/-- ITS FALSE NEIGHBOUR: 'it returns false'. Refute it at one input. -/
def fnExactFirstToZoneWrong : ChangeSpec := { name := "fnExactFirstToZone", fn := fun _ => fun
  | [d1, d2, d3] => { results := [.lit (.bool false)], args := [d1, d2, d3] }
  | _ => none }
def FnExactFirstToZoneWrongFalsely : Prop := fnExactFirstToZoneRow.holds Tryz.pinned (OpenSpec.ofChange fnExactFirstToZoneWrong)

/-- 'laws.FnExactRuleAt': WHATEVER THE INPUT: true; the input reads as it did. -/
def fnExactRuleAtSpec : ChangeSpec := { name := "fnExactRuleAt", fn := fun _ => fun
  | [d1, d2, d3, d4, d5, d6] => { results := [.lit (.bool true)], args := [d1, d2, d3, d4, d5, d6] }
  | _ => none }
def fnExactRuleAtRow : OpenClaim := { program := "ytcangdcakgcpaaagreat", sum := "704c5f27ff5afa60b7fb1068a6e974540610aa72da40c567196cc57478c6ed6a", func := "loop.example/g00887/laws.FnExactRuleAt", spec := "fnExactRuleAt", unfollowed := true, recurses := true, named := ["math/bits.divideError", "math/bits.overflowError"], apart := false }
def FnExactRuleAtSaid : Prop := fnExactRuleAtRow.holds Tryz.pinned (OpenSpec.ofChange fnExactRuleAtSpec)

/-- ITS FALSE NEIGHBOUR: 'it returns false'. Refute it at one input. -/
def fnExactRuleAtWrong : ChangeSpec := { name := "fnExactRuleAt", fn := fun _ => fun
  | [d1, d2, d3, d4, d5, d6] => { results := [.lit (.bool false)], args := [d1, d2, d3, d4, d5, d6] }
  | _ => none }
def FnExactRuleAtWrongFalsely : Prop := fnExactRuleAtRow.holds Tryz.pinned (OpenSpec.ofChange fnExactRuleAtWrong)

/-- 'laws.FnExactComesAt': WHATEVER THE INPUT: true; the input reads as it did. -/
def fnExactComesAtSpec : ChangeSpec := { name := "fnExactComesAt", fn := fun _ => fun
  | [d1, d2, d3] => { results := [.lit (.bool true)], args := [d1, d2, d3] }
  | _ => none }
def fnExactComesAtRow : OpenClaim := { program := "ytcangdcakgcpaaagreat", sum := "704c5f27ff5afa60b7fb1068a6e974540610aa72da40c567196cc57478c6ed6a", func := "loop.example/g00887/laws.FnExactComesAt", spec := "fnExactComesAt", unfollowed := true, recurses := true, apart := false }
def FnExactComesAtSaid : Prop := fnExactComesAtRow.holds Tryz.pinned (OpenSpec.ofChange fnExactComesAtSpec)

/-- ITS FALSE NEIGHBOUR: 'it returns false'. Refute it at one input. -/
def fnExactComesAtWrong : ChangeSpec := { name := "fnExactComesAt", fn := fun _ => fun
  | [d1, d2, d3] => { results := [.lit (.bool false)], args := [d1, d2, d3] }
  | _ => none }
def FnExactComesAtWrongFalsely : Prop := fnExactComesAtRow.holds Tryz.pinned (OpenSpec.ofChange fnExactComesAtWrong)

/-- 'laws.FnExactRoomTime': WHATEVER THE INPUT: true; the input reads as it did. -/
def fnExactRoomTimeSpec : ChangeSpec := { name := "fnExactRoomTime", fn := fun _ => fun
  | [d1, d2, d3, d4] => { results := [.lit (.bool true)], args := [d1, d2, d3, d4] }
  | _ => none }
def fnExactRoomTimeRow : OpenClaim := { program := "ytcangdcakgcpaaagreat", sum := "704c5f27ff5afa60b7fb1068a6e974540610aa72da40c567196cc57478c6ed6a", func := "loop.example/g00887/laws.FnExactRoomTime", spec := "fnExactRoomTime", unfollowed := true, recurses := true, apart := false }
def FnExactRoomTimeSaid : Prop := fnExactRoomTimeRow.holds Tryz.pinned (OpenSpec.ofChange fnExactRoomTimeSpec)

/-- ITS FALSE NEIGHBOUR: 'it returns false'. Refute it at one input. -/
def fnExactRoomTimeWrong : ChangeSpec := { name := "fnExactRoomTime", fn := fun _ => fun
  | [d1, d2, d3, d4] => { results := [.lit (.bool false)], args := [d1, d2, d3, d4] }
  | _ => none }
def FnExactRoomTimeWrongFalsely : Prop := fnExactRoomTimeRow.holds Tryz.pinned (OpenSpec.ofChange fnExactRoomTimeWrong)

/-- 'laws.FnExactRoomAt': WHATEVER THE INPUT: true; the input reads as it did. -/
def fnExactRoomAtSpec : ChangeSpec := { name := "fnExactRoomAt", fn := fun _ => fun
  | [d1, d2, d3, d4, d5, d6] => { results := [.lit (.bool true)], args := [d1, d2, d3, d4, d5, d6] }
  | _ => none }
def fnExactRoomAtRow : OpenClaim := { program := "ytcangdcakgcpaaagreat", sum := "704c5f27ff5afa60b7fb1068a6e974540610aa72da40c567196cc57478c6ed6a", func := "loop.example/g00887/laws.FnExactRoomAt", spec := "fnExactRoomAt", unfollowed := true, recurses := true, named := ["math/bits.divideError", "math/bits.overflowError"], apart := false }
def FnExactRoomAtSaid : Prop := fnExactRoomAtRow.holds Tryz.pinned (OpenSpec.ofChange fnExactRoomAtSpec)

/-- ITS FALSE NEIGHBOUR: 'it returns false'. Refute it at one input. -/
def fnExactRoomAtWrong : ChangeSpec := { name := "fnExactRoomAt", fn := fun _ => fun
  | [d1, d2, d3, d4, d5, d6] => { results := [.lit (.bool false)], args := [d1, d2, d3, d4, d5, d6] }
  | _ => none }
def FnExactRoomAtWrongFalsely : Prop := fnExactRoomAtRow.holds Tryz.pinned (OpenSpec.ofChange fnExactRoomAtWrong)

/- THE SECOND FORM. 'bulk': how many values and letters a reading holds, each counted each time it is reached (what is shared counts as often as it is met; a slice's spare places count too). A statement '..UptoSaid' is the law's where the arguments, and the package variables that the reading takes, are together of bulk at most 1048576: NARROWER than '..Said'. Prove '..Said' where nothing that the law and all that it calls make is longer than what came in: it says more and counts as full. Else prove '..UptoSaid'. A law counts once. -/
mutual
def uptoBulk {H : Type} : DataW H → Nat
  | .lit (.string bytes) => bytes.length + 1
  | .lit _ => 1
  | .nil => 1
  | .ptr d => uptoBulk d + 1
  | .slice elems spare => uptoBulkAll elems + uptoBulkAll spare + 1
  | .agg parts => uptoBulkAll parts + 1
  | .iface _ d => uptoBulk d + 1
  | .map entries => uptoBulkEntries entries + 1
  | .held _ => 1
def uptoBulkAll {H : Type} : List (DataW H) → Nat
  | [] => 0
  | d :: r => uptoBulk d + uptoBulkAll r
def uptoBulkEntries {H : Type} : List (Lit × DataW H) → Nat
  | [] => 0
  | x :: r => uptoBulkEntry x + uptoBulkEntries r
def uptoBulkEntry {H : Type} : Lit × DataW H → Nat
  | (.string bytes, d) => bytes.length + uptoBulk d + 1
  | (_, d) => uptoBulk d + 1
 end
def uptoSmall : (H : Type) → List (DataW H) → Bool := fun _ ds => decide (uptoBulkAll ds ≤ 1048576)
def OpenSpec.upto (s : _root_.Go.ChangeSpec) : _root_.Go.OpenSpec := { _root_.Go.OpenSpec.ofChange s with cond := some uptoSmall }

/-- 'laws.FnFirstToZone', WHERE WHAT IT READS IS OF BULK AT MOST 1048576: true; the input reads as it did. -/
def fnFirstToZoneUptoRow : OpenClaim := { program := "ytcangdcakgcpaaagreat", sum := "704c5f27ff5afa60b7fb1068a6e974540610aa72da40c567196cc57478c6ed6a", func := "loop.example/g00887/laws.FnFirstToZone", spec := "fnFirstToZone", unfollowed := true, recurses := true, apart := false, narrowed := true }
def FnFirstToZoneUptoSaid : Prop := fnFirstToZoneUptoRow.holds Tryz.pinned (OpenSpec.upto fnFirstToZoneSpec)

/-- 'laws.FnRoomTime', WHERE WHAT IT READS IS OF BULK AT MOST 1048576: true; the input reads as it did. -/
def fnRoomTimeUptoRow : OpenClaim := { program := "ytcangdcakgcpaaagreat", sum := "704c5f27ff5afa60b7fb1068a6e974540610aa72da40c567196cc57478c6ed6a", func := "loop.example/g00887/laws.FnRoomTime", spec := "fnRoomTime", unfollowed := true, recurses := true, apart := false, narrowed := true }
def FnRoomTimeUptoSaid : Prop := fnRoomTimeUptoRow.holds Tryz.pinned (OpenSpec.upto fnRoomTimeSpec)

/-- 'laws.FnExactFirstToZone', WHERE WHAT IT READS IS OF BULK AT MOST 1048576: true; the input reads as it did. -/
def fnExactFirstToZoneUptoRow : OpenClaim := { program := "ytcangdcakgcpaaagreat", sum := "704c5f27ff5afa60b7fb1068a6e974540610aa72da40c567196cc57478c6ed6a", func := "loop.example/g00887/laws.FnExactFirstToZone", spec := "fnExactFirstToZone", unfollowed := true, recurses := true, apart := false, narrowed := true }
def FnExactFirstToZoneUptoSaid : Prop := fnExactFirstToZoneUptoRow.holds Tryz.pinned (OpenSpec.upto fnExactFirstToZoneSpec)

/-- 'laws.FnExactRuleAt', WHERE WHAT IT READS IS OF BULK AT MOST 1048576: true; the input reads as it did. -/
def fnExactRuleAtUptoRow : OpenClaim := { program := "ytcangdcakgcpaaagreat", sum := "704c5f27ff5afa60b7fb1068a6e974540610aa72da40c567196cc57478c6ed6a", func := "loop.example/g00887/laws.FnExactRuleAt", spec := "fnExactRuleAt", unfollowed := true, recurses := true, named := ["math/bits.divideError", "math/bits.overflowError"], apart := false, narrowed := true }
def FnExactRuleAtUptoSaid : Prop := fnExactRuleAtUptoRow.holds Tryz.pinned (OpenSpec.upto fnExactRuleAtSpec)

/-- 'laws.FnExactComesAt', WHERE WHAT IT READS IS OF BULK AT MOST 1048576: true; the input reads as it did. -/
def fnExactComesAtUptoRow : OpenClaim := { program := "ytcangdcakgcpaaagreat", sum := "704c5f27ff5afa60b7fb1068a6e974540610aa72da40c567196cc57478c6ed6a", func := "loop.example/g00887/laws.FnExactComesAt", spec := "fnExactComesAt", unfollowed := true, recurses := true, apart := false, narrowed := true }
def FnExactComesAtUptoSaid : Prop := fnExactComesAtUptoRow.holds Tryz.pinned (OpenSpec.upto fnExactComesAtSpec)

/-- 'laws.FnExactRoomTime', WHERE WHAT IT READS IS OF BULK AT MOST 1048576: true; the input reads as it did. -/
def fnExactRoomTimeUptoRow : OpenClaim := { program := "ytcangdcakgcpaaagreat", sum := "704c5f27ff5afa60b7fb1068a6e974540610aa72da40c567196cc57478c6ed6a", func := "loop.example/g00887/laws.FnExactRoomTime", spec := "fnExactRoomTime", unfollowed := true, recurses := true, apart := false, narrowed := true }
def FnExactRoomTimeUptoSaid : Prop := fnExactRoomTimeUptoRow.holds Tryz.pinned (OpenSpec.upto fnExactRoomTimeSpec)

/-- 'laws.FnExactRoomAt', WHERE WHAT IT READS IS OF BULK AT MOST 1048576: true; the input reads as it did. -/
def fnExactRoomAtUptoRow : OpenClaim := { program := "ytcangdcakgcpaaagreat", sum := "704c5f27ff5afa60b7fb1068a6e974540610aa72da40c567196cc57478c6ed6a", func := "loop.example/g00887/laws.FnExactRoomAt", spec := "fnExactRoomAt", unfollowed := true, recurses := true, named := ["math/bits.divideError", "math/bits.overflowError"], apart := false, narrowed := true }
def FnExactRoomAtUptoSaid : Prop := fnExactRoomAtUptoRow.holds Tryz.pinned (OpenSpec.upto fnExactRoomAtSpec)

end Rows
end Go.Proofs.YtcangdcakgcpaaaGreat

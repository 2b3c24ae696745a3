/-
  No cell of these rows narrows 'for every input' (looked for: loops, veiled, ifaces, maps, wideKeys, modest, calm, conditions, laid).
  DERIVED. THE GIVEN ROWS OF THIS SEAT. 9 by the template 'for every input the law returns true; each argument reads behind the call as it read before'; 0 by the template 'total and deterministic' (their statements: YtcangdcakgcpaaaTotals.lean).
  GIVEN WITH THE SEED: the statements are not yours to turn. If you find one false, say at which input.
  Laid BY PROGRAM, IN A SANDBOX (cutbox-rows.mjs): the forced cells as the released guide's own fill.sh prints them over the translation 66693b44f3205fd2… (all of the seat's roots in one cut). By AI agents, Wed Nov 11 2026. No macro, syntax, notation, axiom, sorry.
-/
import Derived.Test.YtcangdcakgcpaaaChecked
import GoSem.Claim
import GoSem.ClaimJoined
import GoSem.ClaimMapViews
import Derived.JoinedTies
import Derived.KernelRfl
namespace Go.Proofs.Ytcangdcakgcpaaa
/- THE CELL 'sum', in the pinned program and in every row, IS THE sha256 OF THE DUMP (.gsa) THAT YtcangdcakgcpaaaProg.lean LOADS. Nothing in Lean hashes anything: it is a label: what it is worth is what the hold of that sum in a sandbox is worth. -/
noncomputable def Try.pinned : Pinned := { name := "ytcangdcakgcpaaa", sum := "66693b44f3205fd283927e92cf1fd3b0c9adee008a5359d2c48b1799294ebcdb", checked := Try.checked }
namespace Rows
def none {H : Type} : Left H := { results := [], args := [] }

/-- 'laws.FnKeepClear': WHATEVER THE INPUT: true; the input reads as it did. -/
def fnKeepClearSpec : ChangeSpec := { name := "fnKeepClear", fn := fun _ => fun
  | [d] => { results := [.lit (.bool true)], args := [d] }
  | _ => none }
def fnKeepClearRow : OpenClaim := { program := "ytcangdcakgcpaaa", sum := "66693b44f3205fd283927e92cf1fd3b0c9adee008a5359d2c48b1799294ebcdb", func := "loop.example/g00887/laws.FnKeepClear", spec := "fnKeepClear", unfollowed := true, recurses := true, apart := false }
def FnKeepClearSaid : Prop := fnKeepClearRow.holds Try.pinned (OpenSpec.ofChange fnKeepClearSpec)

/-- ITS FALSE NEIGHBOUR: 'it returns false'. Refute it at one input. -/
def fnKeepClearWrong : ChangeSpec := { name := "fnKeepClear", fn := fun _ => fun
  | [d] => { results := [.lit (.bool false)], args := [d] }
  | _ => none }
def FnKeepClearWrongFalsely : Prop := fnKeepClearRow.holds Try.pinned (OpenSpec.ofChange fnKeepClearWrong)

/-- 'laws.FnRoomOrder': WHATEVER THE INPUT: true; the input reads as it did. -/
def fnRoomOrderSpec : ChangeSpec := { name := "fnRoomOrder", fn := fun _ => fun
  | [d] => { results := [.lit (.bool true)], args := [d] }
  | _ => none }
def fnRoomOrderRow : OpenClaim := { program := "ytcangdcakgcpaaa", sum := "66693b44f3205fd283927e92cf1fd3b0c9adee008a5359d2c48b1799294ebcdb", func := "loop.example/g00887/laws.FnRoomOrder", spec := "fnRoomOrder", unfollowed := true, recurses := true, apart := false }
def FnRoomOrderSaid : Prop := fnRoomOrderRow.holds Try.pinned (OpenSpec.ofChange fnRoomOrderSpec)

/-- ITS FALSE NEIGHBOUR: 'it returns false'. Refute it at one input. -/
def fnRoomOrderWrong : ChangeSpec := { name := "fnRoomOrder", fn := fun _ => fun
  | [d] => { results := [.lit (.bool false)], args := [d] }
  | _ => none }
def FnRoomOrderWrongFalsely : Prop := fnRoomOrderRow.holds Try.pinned (OpenSpec.ofChange fnRoomOrderWrong)

/-- 'laws.FnInside': WHATEVER THE INPUT: true; the input reads as it did. -/
def fnInsideSpec : ChangeSpec := { name := "fnInside", fn := fun _ => fun
  | [d] => { results := [.lit (.bool true)], args := [d] }
  | _ => none }
def fnInsideRow : OpenClaim := { program := "ytcangdcakgcpaaa", sum := "66693b44f3205fd283927e92cf1fd3b0c9adee008a5359d2c48b1799294ebcdb", func := "loop.example/g00887/laws.FnInside", spec := "fnInside", unfollowed := true, recurses := true, apart := false }
def FnInsideSaid : Prop := fnInsideRow.holds Try.pinned (OpenSpec.ofChange fnInsideSpec)

/-- ITS FALSE NEIGHBOUR: 'it returns false'. Refute it at one input. -/
def fnInsideWrong : ChangeSpec := { name := "fnInside", fn := fun _ => fun
  | [d] => { results := [.lit (.bool false)], args := [d] }
  | _ => none }
def FnInsideWrongFalsely : Prop := fnInsideRow.holds Try.pinned (OpenSpec.ofChange fnInsideWrong)

/-- 'laws.FnExactWindwardOf': WHATEVER THE INPUT: true; the input reads as it did. -/
def fnExactWindwardOfSpec : ChangeSpec := { name := "fnExactWindwardOf", fn := fun _ => fun
  | [d1, d2, d3] => { results := [.lit (.bool true)], args := [d1, d2, d3] }
  | _ => none }
def fnExactWindwardOfRow : OpenClaim := { program := "ytcangdcakgcpaaa", sum := "66693b44f3205fd283927e92cf1fd3b0c9adee008a5359d2c48b1799294ebcdb", func := "loop.example/g00887/laws.FnExactWindwardOf", spec := "fnExactWindwardOf", apart := false }
def FnExactWindwardOfSaid : Prop := fnExactWindwardOfRow.holds Try.pinned (OpenSpec.ofChange fnExactWindwardOfSpec)

/-- ITS FALSE NEIGHBOUR: 'it returns false'. Refute it at one input. -/
def fnExactWindwardOfWrong : ChangeSpec := { name := "fnExactWindwardOf", fn := fun _ => fun
  | [d1, d2, d3] => { results := [.lit (.bool false)], args := [d1, d2, d3] }
  | _ => none }
def FnExactWindwardOfWrongFalsely : Prop := fnExactWindwardOfRow.holds Try.pinned (OpenSpec.ofChange fnExactWindwardOfWrong)

/-- 'laws.FnExactRuleOn': WHATEVER THE INPUT: true; the input reads as it did. -/
def fnExactRuleOnSpec : ChangeSpec := { name := "fnExactRuleOn", fn := fun _ => fun
  | [d1, d2, d3] => { results := [.lit (.bool true)], args := [d1, d2, d3] }
  | _ => none }
def fnExactRuleOnRow : OpenClaim := { program := "ytcangdcakgcpaaa", sum := "66693b44f3205fd283927e92cf1fd3b0c9adee008a5359d2c48b1799294ebcdb", func := "loop.example/g00887/laws.FnExactRuleOn", spec := "fnExactRuleOn", unfollowed := true, recurses := true, apart := false }
def FnExactRuleOnSaid : Prop := fnExactRuleOnRow.holds Try.pinned (OpenSpec.ofChange fnExactRuleOnSpec)

/-- ITS FALSE NEIGHBOUR: 'it returns false'. Refute it at one input. -/
def fnExactRuleOnWrong : ChangeSpec := { name := "fnExactRuleOn", fn := fun _ => fun
  | [d1, d2, d3] => { results := [.lit (.bool false)], args := [d1, d2, d3] }
  | _ => none }
def FnExactRuleOnWrongFalsely : Prop := fnExactRuleOnRow.holds Try.pinned (OpenSpec.ofChange fnExactRuleOnWrong)

/-- 'laws.FnExactKeepClearTable': WHATEVER THE INPUT: true; the input reads as it did. -/
def fnExactKeepClearTableSpec : ChangeSpec := { name := "fnExactKeepClearTable", fn := fun _ => fun
  | [d1, d2] => { results := [.lit (.bool true)], args := [d1, d2] }
  | _ => none }
def fnExactKeepClearTableRow : OpenClaim := { program := "ytcangdcakgcpaaa", sum := "66693b44f3205fd283927e92cf1fd3b0c9adee008a5359d2c48b1799294ebcdb", func := "loop.example/g00887/laws.FnExactKeepClearTable", spec := "fnExactKeepClearTable", unfollowed := true, recurses := true, apart := false }
def FnExactKeepClearTableSaid : Prop := fnExactKeepClearTableRow.holds Try.pinned (OpenSpec.ofChange fnExactKeepClearTableSpec)

/-- ITS FALSE NEIGHBOUR: 'it returns false'. Refute it at one input. -/
def fnExactKeepClearTableWrong : ChangeSpec := { name := "fnExactKeepClearTable", fn := fun _ => fun
  | [d1, d2] => { results := [.lit (.bool false)], args := [d1, d2] }
  | _ => none }
def FnExactKeepClearTableWrongFalsely : Prop := fnExactKeepClearTableRow.holds Try.pinned (OpenSpec.ofChange fnExactKeepClearTableWrong)

/-- 'laws.FnExactIsRoom': WHATEVER THE INPUT: true; the input reads as it did. -/
def fnExactIsRoomSpec : ChangeSpec := { name := "fnExactIsRoom", fn := fun _ => fun
  | [d] => { results := [.lit (.bool true)], args := [d] }
  | _ => none }
def fnExactIsRoomRow : OpenClaim := { program := "ytcangdcakgcpaaa", sum := "66693b44f3205fd283927e92cf1fd3b0c9adee008a5359d2c48b1799294ebcdb", func := "loop.example/g00887/laws.FnExactIsRoom", spec := "fnExactIsRoom", apart := false }
def FnExactIsRoomSaid : Prop := fnExactIsRoomRow.holds Try.pinned (OpenSpec.ofChange fnExactIsRoomSpec)

/-- ITS FALSE NEIGHBOUR: 'it returns false'. Refute it at one input. -/
def fnExactIsRoomWrong : ChangeSpec := { name := "fnExactIsRoom", fn := fun _ => fun
  | [d] => { results := [.lit (.bool false)], args := [d] }
  | _ => none }
def FnExactIsRoomWrongFalsely : Prop := fnExactIsRoomRow.holds Try.pinned (OpenSpec.ofChange fnExactIsRoomWrong)

/-- 'laws.FnExactInsideBoat': WHATEVER THE INPUT: true; the input reads as it did. -/
def fnExactInsideBoatSpec : ChangeSpec := { name := "fnExactInsideBoat", fn := fun _ => fun
  | [d1, d2, d3] => { results := [.lit (.bool true)], args := [d1, d2, d3] }
  | _ => none }
def fnExactInsideBoatRow : OpenClaim := { program := "ytcangdcakgcpaaa", sum := "66693b44f3205fd283927e92cf1fd3b0c9adee008a5359d2c48b1799294ebcdb", func := "loop.example/g00887/laws.FnExactInsideBoat", spec := "fnExactInsideBoat", apart := false }
def FnExactInsideBoatSaid : Prop := fnExactInsideBoatRow.holds Try.pinned (OpenSpec.ofChange fnExactInsideBoatSpec)

/-- ITS FALSE NEIGHBOUR: 'it returns false'. Refute it at one input. -/
def fnExactInsideBoatWrong : ChangeSpec := { name := "fnExactInsideBoat", fn := fun _ => fun
  | [d1, d2, d3] => { results := [.lit (.bool false)], args := [d1, d2, d3] }
  | _ => none }
def FnExactInsideBoatWrongFalsely : Prop := fnExactInsideBoatRow.holds Try.pinned (OpenSpec.ofChange fnExactInsideBoatWrong)

/-- 'laws.FnExactRoomBetween': WHATEVER THE INPUT: true; the input reads as it did. -/
def fnExactRoomBetweenSpec : ChangeSpec := { name := "fnExactRoomBetween", fn := fun _ => fun
  | [d1, d2, d3, d4] => { results := [.lit (.bool true)], args := [d1, d2, d3, d4] }
  | _ => none }
def fnExactRoomBetweenRow : OpenClaim := { program := "ytcangdcakgcpaaa", sum := "66693b44f3205fd283927e92cf1fd3b0c9adee008a5359d2c48b1799294ebcdb", func := "loop.example/g00887/laws.FnExactRoomBetween", spec := "fnExactRoomBetween", unfollowed := true, recurses := true, apart := false }
def FnExactRoomBetweenSaid : Prop := fnExactRoomBetweenRow.holds Try.pinned (OpenSpec.ofChange fnExactRoomBetweenSpec)

/-- ITS FALSE NEIGHBOUR: 'it returns false'. Refute it at one input. -/
def fnExactRoomBetweenWrong : ChangeSpec := { name := "fnExactRoomBetween", fn := fun _ => fun
  | [d1, d2, d3, d4] => { results := [.lit (.bool false)], args := [d1, d2, d3, d4] }
  | _ => none }
def FnExactRoomBetweenWrongFalsely : Prop := fnExactRoomBetweenRow.holds Try.pinned (OpenSpec.ofChange fnExactRoomBetweenWrong)

/- THE SECOND FORM. 'bulk': how many values and letters a reading holds, each counted each time it is reached (what is shared counts as often as it is met; a slice's spare places count too). A statement '..UptoSaid' is the law's where the arguments, and the package variables that the reading takes, are together of bulk at most 1048576: NARROWER than '..Said'. Prove '..Said' where nothing that the law and all that it calls make is longer than what came in: it says more and counts as full. Else prove '..UptoSaid'. A law counts once. -/
mutual
def uptoBulk {H : Type} : DataW H → Nat
  | .lit (.string bytes) => bytes.length + 1
  | .lit _ => 1
  | .nil => 1
  | .ptr d => uptoBulk d + 1
  | .slice elems spare => uptoBulkAll elems + uptoBulkAll spare + 1
  | .agg parts => uptoBulkAll parts + 1
  | .iface _ d => uptoBulk d + 1
  | .map entries => uptoBulkEntries entries + 1
  | .held _ => 1
def uptoBulkAll {H : Type} : List (DataW H) → Nat
  | [] => 0
  | d :: r => uptoBulk d + uptoBulkAll r
def uptoBulkEntries {H : Type} : List (Lit × DataW H) → Nat
  | [] => 0
  | x :: r => uptoBulkEntry x + uptoBulkEntries r
def uptoBulkEntry {H : Type} : Lit × DataW H → Nat
  | (.string bytes, d) => bytes.length + uptoBulk d + 1
  | (_, d) => uptoBulk d + 1
 end
def uptoSmall : (H : Type) → List (DataW H) → Bool := fun _ ds => decide (uptoBulkAll ds ≤ 1048576)
def OpenSpec.upto (s : _root_.Go.ChangeSpec) : _root_.Go.OpenSpec := { _root_.Go.OpenSpec.ofChange s with cond := some uptoSmall }

/-- 'laws.FnKeepClear', WHERE WHAT IT READS IS OF BULK AT MOST 1048576: true; the input reads as it did. -/
def fnKeepClearUptoRow : OpenClaim := { program := "ytcangdcakgcpaaa", sum := "66693b44f3205fd283927e92cf1fd3b0c9adee008a5359d2c48b1799294ebcdb", func := "loop.example/g00887/laws.FnKeepClear", spec := "fnKeepClear", unfollowed := true, recurses := true, apart := false, narrowed := true }
def FnKeepClearUptoSaid : Prop := fnKeepClearUptoRow.holds Try.pinned (OpenSpec.upto fnKeepClearSpec)

/-- 'laws.FnRoomOrder', WHERE WHAT IT READS IS OF BULK AT MOST 1048576: true; the input reads as it did. -/
def fnRoomOrderUptoRow : OpenClaim := { program := "ytcangdcakgcpaaa", sum := "66693b44f3205fd283927e92cf1fd3b0c9adee008a5359d2c48b1799294ebcdb", func := "loop.example/g00887/laws.FnRoomOrder", spec := "fnRoomOrder", unfollowed := true, recurses := true, apart := false, narrowed := true }
def FnRoomOrderUptoSaid : Prop := fnRoomOrderUptoRow.holds Try.pinned (OpenSpec.upto fnRoomOrderSpec)

/-- 'laws.FnInside', WHERE WHAT IT READS IS OF BULK AT MOST 1048576: true; the input reads as it did. -/
def fnInsideUptoRow : OpenClaim := { program := "ytcangdcakgcpaaa", sum := "66693b44f3205fd283927e92cf1fd3b0c9adee008a5359d2c48b1799294ebcdb", func := "loop.example/g00887/laws.FnInside", spec := "fnInside", unfollowed := true, recurses := true, apart := false, narrowed := true }
def FnInsideUptoSaid : Prop := fnInsideUptoRow.holds Try.pinned (OpenSpec.upto fnInsideSpec)

/-- 'laws.FnExactWindwardOf', WHERE WHAT IT READS IS OF BULK AT MOST 1048576: true; the input reads as it did. -/
def fnExactWindwardOfUptoRow : OpenClaim := { program := "ytcangdcakgcpaaa", sum := "66693b44f3205fd283927e92cf1fd3b0c9adee008a5359d2c48b1799294ebcdb", func := "loop.example/g00887/laws.FnExactWindwardOf", spec := "fnExactWindwardOf", apart := false, narrowed := true }
def FnExactWindwardOfUptoSaid : Prop := fnExactWindwardOfUptoRow.holds Try.pinned (OpenSpec.upto fnExactWindwardOfSpec)

/-- 'laws.FnExactRuleOn', WHERE WHAT IT READS IS OF BULK AT MOST 1048576: true; the input reads as it did. -/
def fnExactRuleOnUptoRow : OpenClaim := { program := "ytcangdcakgcpaaa", sum := "66693b44f3205fd283927e92cf1fd3b0c9adee008a5359d2c48b1799294ebcdb", func := "loop.example/g00887/laws.FnExactRuleOn", spec := "fnExactRuleOn", unfollowed := true, recurses := true, apart := false, narrowed := true }
def FnExactRuleOnUptoSaid : Prop := fnExactRuleOnUptoRow.holds Try.pinned (OpenSpec.upto fnExactRuleOnSpec)

/-- 'laws.FnExactKeepClearTable', WHERE WHAT IT READS IS OF BULK AT MOST 1048576: true; the input reads as it did. -/
def fnExactKeepClearTableUptoRow : OpenClaim := { program := "ytcangdcakgcpaaa", sum := "66693b44f3205fd283927e92cf1fd3b0c9adee008a5359d2c48b1799294ebcdb", func := "loop.example/g00887/laws.FnExactKeepClearTable", spec := "fnExactKeepClearTable", unfollowed := true, recurses := true, apart := false, narrowed := true }
def FnExactKeepClearTableUptoSaid : Prop := fnExactKeepClearTableUptoRow.holds Try.pinned (OpenSpec.upto fnExactKeepClearTableSpec)

/-- 'laws.FnExactIsRoom', WHERE WHAT IT READS IS OF BULK AT MOST 1048576: true; the input reads as it did. -/
def fnExactIsRoomUptoRow : OpenClaim := { program := "ytcangdcakgcpaaa", sum := "66693b44f3205fd283927e92cf1fd3b0c9adee008a5359d2c48b1799294ebcdb", func := "loop.example/g00887/laws.FnExactIsRoom", spec := "fnExactIsRoom", apart := false, narrowed := true }
def FnExactIsRoomUptoSaid : Prop := fnExactIsRoomUptoRow.holds Try.pinned (OpenSpec.upto fnExactIsRoomSpec)

/-- 'laws.FnExactInsideBoat', WHERE WHAT IT READS IS OF BULK AT MOST 1048576: true; the input reads as it did. -/
def fnExactInsideBoatUptoRow : OpenClaim := { program := "ytcangdcakgcpaaa", sum := "66693b44f3205fd283927e92cf1fd3b0c9adee008a5359d2c48b1799294ebcdb", func := "loop.example/g00887/laws.FnExactInsideBoat", spec := "fnExactInsideBoat", apart := false, narrowed := true }
def FnExactInsideBoatUptoSaid : Prop := fnExactInsideBoatUptoRow.holds Try.pinned (OpenSpec.upto fnExactInsideBoatSpec)

/-- 'laws.FnExactRoomBetween', WHERE WHAT IT READS IS OF BULK AT MOST 1048576: true; the input reads as it did. -/
def fnExactRoomBetweenUptoRow : OpenClaim := { program := "ytcangdcakgcpaaa", sum := "66693b44f3205fd283927e92cf1fd3b0c9adee008a5359d2c48b1799294ebcdb", func := "loop.example/g00887/laws.FnExactRoomBetween", spec := "fnExactRoomBetween", unfollowed := true, recurses := true, apart := false, narrowed := true }
def FnExactRoomBetweenUptoSaid : Prop := fnExactRoomBetweenUptoRow.holds Try.pinned (OpenSpec.upto fnExactRoomBetweenSpec)

end Rows
end Go.Proofs.Ytcangdcakgcpaaa

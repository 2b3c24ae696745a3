/-
  No cell of these rows narrows 'for every input' (looked for: loops, veiled, ifaces, maps, wideKeys, modest, calm, conditions, laid).
  DERIVED. THE GIVEN ROWS OF THIS SEAT. 10 by the template 'for every input the law returns true; each argument reads behind the call as it read before'; 0 by the template 'total and deterministic' (their statements: YtkodmdfcppnfoaaTotals.lean).
  GIVEN WITH THE SEED: the statements are not yours to turn. If you find one false, say at which input.
  Laid BY PROGRAM, IN A SANDBOX (cutbox-rows.mjs): the forced cells as the released guide's own fill.sh prints them over the translation 2a00077a1052c25f… (all of the seat's roots in one cut). By AI agents, Wed Nov 11 2026. No macro, syntax, notation, axiom, sorry.
-/
import Derived.Test.YtkodmdfcppnfoaaChecked
import GoSem.Claim
import GoSem.ClaimJoined
import GoSem.ClaimMapViews
import Derived.JoinedTies
import Derived.KernelRfl
namespace Go.Proofs.Ytkodmdfcppnfoaa
/- THE CELL 'sum', in the pinned program and in every row, IS THE sha256 OF THE DUMP (.gsa) THAT YtkodmdfcppnfoaaProg.lean LOADS. Nothing in Lean hashes anything: it is a label: what it is worth is what the hold of that sum in a sandbox is worth. -/
noncomputable def Try.pinned : Pinned := { name := "ytkodmdfcppnfoaa", sum := "2a00077a1052c25fb595beb498e26c1e06598635b0840d2fb566e176bbeefc28", checked := Try.checked }
namespace Rows
def none {H : Type} : Left H := { results := [], args := [] }

/-- 'laws.FnTack': WHATEVER THE INPUT: true; the input reads as it did. -/
def fnTackSpec : ChangeSpec := { name := "fnTack", fn := fun _ => fun
  | [d] => { results := [.lit (.bool true)], args := [d] }
  | _ => none }
def fnTackRow : OpenClaim := { program := "ytkodmdfcppnfoaa", sum := "2a00077a1052c25fb595beb498e26c1e06598635b0840d2fb566e176bbeefc28", func := "loop.example/g00887/laws.FnTack", spec := "fnTack", unfollowed := true, recurses := true, apart := false }
def FnTackSaid : Prop := fnTackRow.holds Try.pinned (OpenSpec.ofChange fnTackSpec)

/-- ITS FALSE NEIGHBOUR: 'it returns false'. Refute it at one input. -/
def fnTackWrong : ChangeSpec := { name := "fnTack", fn := fun _ => fun
  | [d] => { results := [.lit (.bool false)], args := [d] }
  | _ => none }
def FnTackWrongFalsely : Prop := fnTackRow.holds Try.pinned (OpenSpec.ofChange fnTackWrong)

/-- 'laws.FnManoeuvres': WHATEVER THE INPUT: true; the input reads as it did. -/
def fnManoeuvresSpec : ChangeSpec := { name := "fnManoeuvres", fn := fun _ => fun
  | [d] => { results := [.lit (.bool true)], args := [d] }
  | _ => none }
def fnManoeuvresRow : OpenClaim := { program := "ytkodmdfcppnfoaa", sum := "2a00077a1052c25fb595beb498e26c1e06598635b0840d2fb566e176bbeefc28", func := "loop.example/g00887/laws.FnManoeuvres", spec := "fnManoeuvres", unfollowed := true, recurses := true, apart := false }
def FnManoeuvresSaid : Prop := fnManoeuvresRow.holds Try.pinned (OpenSpec.ofChange fnManoeuvresSpec)

/-- ITS FALSE NEIGHBOUR: 'it returns false'. Refute it at one input. -/
def fnManoeuvresWrong : ChangeSpec := { name := "fnManoeuvres", fn := fun _ => fun
  | [d] => { results := [.lit (.bool false)], args := [d] }
  | _ => none }
def FnManoeuvresWrongFalsely : Prop := fnManoeuvresRow.holds Try.pinned (OpenSpec.ofChange fnManoeuvresWrong)

/-- 'laws.FnWindward': WHATEVER THE INPUT: true; the input reads as it did. -/
def fnWindwardSpec : ChangeSpec := { name := "fnWindward", fn := fun _ => fun
  | [d] => { results := [.lit (.bool true)], args := [d] }
  | _ => none }
def fnWindwardRow : OpenClaim := { program := "ytkodmdfcppnfoaa", sum := "2a00077a1052c25fb595beb498e26c1e06598635b0840d2fb566e176bbeefc28", func := "loop.example/g00887/laws.FnWindward", spec := "fnWindward", unfollowed := true, recurses := true, apart := false }
def FnWindwardSaid : Prop := fnWindwardRow.holds Try.pinned (OpenSpec.ofChange fnWindwardSpec)

/-- ITS FALSE NEIGHBOUR: 'it returns false'. Refute it at one input. -/
def fnWindwardWrong : ChangeSpec := { name := "fnWindward", fn := fun _ => fun
  | [d] => { results := [.lit (.bool false)], args := [d] }
  | _ => none }
def FnWindwardWrongFalsely : Prop := fnWindwardRow.holds Try.pinned (OpenSpec.ofChange fnWindwardWrong)

/-- 'laws.FnExactIsWind': WHATEVER THE INPUT: true; the input reads as it did. -/
def fnExactIsWindSpec : ChangeSpec := { name := "fnExactIsWind", fn := fun _ => fun
  | [d] => { results := [.lit (.bool true)], args := [d] }
  | _ => none }
def fnExactIsWindRow : OpenClaim := { program := "ytkodmdfcppnfoaa", sum := "2a00077a1052c25fb595beb498e26c1e06598635b0840d2fb566e176bbeefc28", func := "loop.example/g00887/laws.FnExactIsWind", spec := "fnExactIsWind", apart := false }
def FnExactIsWindSaid : Prop := fnExactIsWindRow.holds Try.pinned (OpenSpec.ofChange fnExactIsWindSpec)

/-- ITS FALSE NEIGHBOUR: 'it returns false'. Refute it at one input. -/
def fnExactIsWindWrong : ChangeSpec := { name := "fnExactIsWind", fn := fun _ => fun
  | [d] => { results := [.lit (.bool false)], args := [d] }
  | _ => none }
def FnExactIsWindWrongFalsely : Prop := fnExactIsWindRow.holds Try.pinned (OpenSpec.ofChange fnExactIsWindWrong)

/-- 'laws.FnExactTackOf': WHATEVER THE INPUT: true; the input reads as it did. -/
def fnExactTackOfSpec : ChangeSpec := { name := "fnExactTackOf", fn := fun _ => fun
  | [d1, d2] => { results := [.lit (.bool true)], args := [d1, d2] }
  | _ => none }
def fnExactTackOfRow : OpenClaim := { program := "ytkodmdfcppnfoaa", sum := "2a00077a1052c25fb595beb498e26c1e06598635b0840d2fb566e176bbeefc28", func := "loop.example/g00887/laws.FnExactTackOf", spec := "fnExactTackOf", unfollowed := true, recurses := true, apart := false }
def FnExactTackOfSaid : Prop := fnExactTackOfRow.holds Try.pinned (OpenSpec.ofChange fnExactTackOfSpec)

/-- ITS FALSE NEIGHBOUR: 'it returns false'. Refute it at one input. -/
def fnExactTackOfWrong : ChangeSpec := { name := "fnExactTackOf", fn := fun _ => fun
  | [d1, d2] => { results := [.lit (.bool false)], args := [d1, d2] }
  | _ => none }
def FnExactTackOfWrongFalsely : Prop := fnExactTackOfRow.holds Try.pinned (OpenSpec.ofChange fnExactTackOfWrong)

/-- 'laws.FnExactSailOf': WHATEVER THE INPUT: true; the input reads as it did. -/
def fnExactSailOfSpec : ChangeSpec := { name := "fnExactSailOf", fn := fun _ => fun
  | [d1, d2] => { results := [.lit (.bool true)], args := [d1, d2] }
  | _ => none }
def fnExactSailOfRow : OpenClaim := { program := "ytkodmdfcppnfoaa", sum := "2a00077a1052c25fb595beb498e26c1e06598635b0840d2fb566e176bbeefc28", func := "loop.example/g00887/laws.FnExactSailOf", spec := "fnExactSailOf", apart := false }
def FnExactSailOfSaid : Prop := fnExactSailOfRow.holds Try.pinned (OpenSpec.ofChange fnExactSailOfSpec)

/-- ITS FALSE NEIGHBOUR: 'it returns false'. Refute it at one input. -/
def fnExactSailOfWrong : ChangeSpec := { name := "fnExactSailOf", fn := fun _ => fun
  | [d1, d2] => { results := [.lit (.bool false)], args := [d1, d2] }
  | _ => none }
def FnExactSailOfWrongFalsely : Prop := fnExactSailOfRow.holds Try.pinned (OpenSpec.ofChange fnExactSailOfWrong)

/-- 'laws.FnExactTackAt': WHATEVER THE INPUT: true; the input reads as it did. -/
def fnExactTackAtSpec : ChangeSpec := { name := "fnExactTackAt", fn := fun _ => fun
  | [d1, d2, d3] => { results := [.lit (.bool true)], args := [d1, d2, d3] }
  | _ => none }
def fnExactTackAtRow : OpenClaim := { program := "ytkodmdfcppnfoaa", sum := "2a00077a1052c25fb595beb498e26c1e06598635b0840d2fb566e176bbeefc28", func := "loop.example/g00887/laws.FnExactTackAt", spec := "fnExactTackAt", unfollowed := true, recurses := true, apart := false }
def FnExactTackAtSaid : Prop := fnExactTackAtRow.holds Try.pinned (OpenSpec.ofChange fnExactTackAtSpec)

/-- ITS FALSE NEIGHBOUR: 'it returns false'. Refute it at one input. -/
def fnExactTackAtWrong : ChangeSpec := { name := "fnExactTackAt", fn := fun _ => fun
  | [d1, d2, d3] => { results := [.lit (.bool false)], args := [d1, d2, d3] }
  | _ => none }
def FnExactTackAtWrongFalsely : Prop := fnExactTackAtRow.holds Try.pinned (OpenSpec.ofChange fnExactTackAtWrong)

/-- 'laws.FnExactManoeuvresOf': WHATEVER THE INPUT: true; the input reads as it did. -/
def fnExactManoeuvresOfSpec : ChangeSpec := { name := "fnExactManoeuvresOf", fn := fun _ => fun
  | [d1, d2] => { results := [.lit (.bool true)], args := [d1, d2] }
  | _ => none }
def fnExactManoeuvresOfRow : OpenClaim := { program := "ytkodmdfcppnfoaa", sum := "2a00077a1052c25fb595beb498e26c1e06598635b0840d2fb566e176bbeefc28", func := "loop.example/g00887/laws.FnExactManoeuvresOf", spec := "fnExactManoeuvresOf", unfollowed := true, recurses := true, apart := false }
def FnExactManoeuvresOfSaid : Prop := fnExactManoeuvresOfRow.holds Try.pinned (OpenSpec.ofChange fnExactManoeuvresOfSpec)

/-- ITS FALSE NEIGHBOUR: 'it returns false'. Refute it at one input. -/
def fnExactManoeuvresOfWrong : ChangeSpec := { name := "fnExactManoeuvresOf", fn := fun _ => fun
  | [d1, d2] => { results := [.lit (.bool false)], args := [d1, d2] }
  | _ => none }
def FnExactManoeuvresOfWrongFalsely : Prop := fnExactManoeuvresOfRow.holds Try.pinned (OpenSpec.ofChange fnExactManoeuvresOfWrong)

/-- 'laws.FnExactWindwardGain': WHATEVER THE INPUT: true; the input reads as it did. -/
def fnExactWindwardGainSpec : ChangeSpec := { name := "fnExactWindwardGain", fn := fun _ => fun
  | [d1, d2, d3] => { results := [.lit (.bool true)], args := [d1, d2, d3] }
  | _ => none }
def fnExactWindwardGainRow : OpenClaim := { program := "ytkodmdfcppnfoaa", sum := "2a00077a1052c25fb595beb498e26c1e06598635b0840d2fb566e176bbeefc28", func := "loop.example/g00887/laws.FnExactWindwardGain", spec := "fnExactWindwardGain", apart := false }
def FnExactWindwardGainSaid : Prop := fnExactWindwardGainRow.holds Try.pinned (OpenSpec.ofChange fnExactWindwardGainSpec)

/-- ITS FALSE NEIGHBOUR: 'it returns false'. Refute it at one input. -/
def fnExactWindwardGainWrong : ChangeSpec := { name := "fnExactWindwardGain", fn := fun _ => fun
  | [d1, d2, d3] => { results := [.lit (.bool false)], args := [d1, d2, d3] }
  | _ => none }
def FnExactWindwardGainWrongFalsely : Prop := fnExactWindwardGainRow.holds Try.pinned (OpenSpec.ofChange fnExactWindwardGainWrong)

/-- 'laws.FnExactWindwardBoat': WHATEVER THE INPUT: true; the input reads as it did. -/
def fnExactWindwardBoatSpec : ChangeSpec := { name := "fnExactWindwardBoat", fn := fun _ => fun
  | [d1, d2] => { results := [.lit (.bool true)], args := [d1, d2] }
  | _ => none }
def fnExactWindwardBoatRow : OpenClaim := { program := "ytkodmdfcppnfoaa", sum := "2a00077a1052c25fb595beb498e26c1e06598635b0840d2fb566e176bbeefc28", func := "loop.example/g00887/laws.FnExactWindwardBoat", spec := "fnExactWindwardBoat", unfollowed := true, recurses := true, apart := false }
def FnExactWindwardBoatSaid : Prop := fnExactWindwardBoatRow.holds Try.pinned (OpenSpec.ofChange fnExactWindwardBoatSpec)

/-- ITS FALSE NEIGHBOUR: 'it returns false'. Refute it at one input. -/
def fnExactWindwardBoatWrong : ChangeSpec := { name := "fnExactWindwardBoat", fn := fun _ => fun
  | [d1, d2] => { results := [.lit (.bool false)], args := [d1, d2] }
  | _ => none }
def FnExactWindwardBoatWrongFalsely : Prop := fnExactWindwardBoatRow.holds Try.pinned (OpenSpec.ofChange fnExactWindwardBoatWrong)

/- THE SECOND FORM. 'bulk': how many values and letters a reading holds, each counted each time it is reached (what is shared counts as often as it is met; a slice's spare places count too). A statement '..UptoSaid' is the law's where the arguments, and the package variables that the reading takes, are together of bulk at most 1048576: NARROWER than '..Said'. Prove '..Said' where nothing that the law and all that it calls make is longer than what came in: it says more and counts as full. Else prove '..UptoSaid'. A law counts once. -/
mutual
def uptoBulk {H : Type} : DataW H → Nat
  | .lit (.string bytes) => bytes.length + 1
  | .lit _ => 1
  | .nil => 1
  | .ptr d => uptoBulk d + 1
  | .slice elems spare => uptoBulkAll elems + uptoBulkAll spare + 1
  | .agg parts => uptoBulkAll parts + 1
  | .iface _ d => uptoBulk d + 1
  | .map entries => uptoBulkEntries entries + 1
  | .held _ => 1
def uptoBulkAll {H : Type} : List (DataW H) → Nat
  | [] => 0
  | d :: r => uptoBulk d + uptoBulkAll r
def uptoBulkEntries {H : Type} : List (Lit × DataW H) → Nat
  | [] => 0
  | x :: r => uptoBulkEntry x + uptoBulkEntries r
def uptoBulkEntry {H : Type} : Lit × DataW H → Nat
  | (.string bytes, d) => bytes.length + uptoBulk d + 1
  | (_, d) => uptoBulk d + 1
 end
def uptoSmall : (H : Type) → List (DataW H) → Bool := fun _ ds => decide (uptoBulkAll ds ≤ 1048576)
def OpenSpec.upto (s : _root_.Go.ChangeSpec) : _root_.Go.OpenSpec := { _root_.Go.OpenSpec.ofChange s with cond := some uptoSmall }

/-- 'laws.FnTack', WHERE WHAT IT READS IS OF BULK AT MOST 1048576: true; the input reads as it did. -/
def fnTackUptoRow : OpenClaim := { program := "ytkodmdfcppnfoaa", sum := "2a00077a1052c25fb595beb498e26c1e06598635b0840d2fb566e176bbeefc28", func := "loop.example/g00887/laws.FnTack", spec := "fnTack", unfollowed := true, recurses := true, apart := false, narrowed := true }
def FnTackUptoSaid : Prop := fnTackUptoRow.holds Try.pinned (OpenSpec.upto fnTackSpec)

/-- 'laws.FnManoeuvres', WHERE WHAT IT READS IS OF BULK AT MOST 1048576: true; the input reads as it did. -/
def fnManoeuvresUptoRow : OpenClaim := { program := "ytkodmdfcppnfoaa", sum := "2a00077a1052c25fb595beb498e26c1e06598635b0840d2fb566e176bbeefc28", func := "loop.example/g00887/laws.FnManoeuvres", spec := "fnManoeuvres", unfollowed := true, recurses := true, apart := false, narrowed := true }
def FnManoeuvresUptoSaid : Prop := fnManoeuvresUptoRow.holds Try.pinned (OpenSpec.upto fnManoeuvresSpec)

/-- 'laws.FnWindward', WHERE WHAT IT READS IS OF BULK AT MOST 1048576: true; the input reads as it did. -/
def fnWindwardUptoRow : OpenClaim := { program := "ytkodmdfcppnfoaa", sum := "2a00077a1052c25fb595beb498e26c1e06598635b0840d2fb566e176bbeefc28", func := "loop.example/g00887/laws.FnWindward", spec := "fnWindward", unfollowed := true, recurses := true, apart := false, narrowed := true }
def FnWindwardUptoSaid : Prop := fnWindwardUptoRow.holds Try.pinned (OpenSpec.upto fnWindwardSpec)

/-- 'laws.FnExactIsWind', WHERE WHAT IT READS IS OF BULK AT MOST 1048576: true; the input reads as it did. -/
def fnExactIsWindUptoRow : OpenClaim := { program := "ytkodmdfcppnfoaa", sum := "2a00077a1052c25fb595beb498e26c1e06598635b0840d2fb566e176bbeefc28", func := "loop.example/g00887/laws.FnExactIsWind", spec := "fnExactIsWind", apart := false, narrowed := true }
def FnExactIsWindUptoSaid : Prop := fnExactIsWindUptoRow.holds Try.pinned (OpenSpec.upto fnExactIsWindSpec)

/-- 'laws.FnExactTackOf', WHERE WHAT IT READS IS OF BULK AT MOST 1048576: true; the input reads as it did. -/
def fnExactTackOfUptoRow : OpenClaim := { program := "ytkodmdfcppnfoaa", sum := "2a00077a1052c25fb595beb498e26c1e06598635b0840d2fb566e176bbeefc28", func := "loop.example/g00887/laws.FnExactTackOf", spec := "fnExactTackOf", unfollowed := true, recurses := true, apart := false, narrowed := true }
def FnExactTackOfUptoSaid : Prop := fnExactTackOfUptoRow.holds Try.pinned (OpenSpec.upto fnExactTackOfSpec)

/-- 'laws.FnExactSailOf', WHERE WHAT IT READS IS OF BULK AT MOST 1048576: true; the input reads as it did. -/
def fnExactSailOfUptoRow : OpenClaim := { program := "ytkodmdfcppnfoaa", sum := "2a00077a1052c25fb595beb498e26c1e06598635b0840d2fb566e176bbeefc28", func := "loop.example/g00887/laws.FnExactSailOf", spec := "fnExactSailOf", apart := false, narrowed := true }
def FnExactSailOfUptoSaid : Prop := fnExactSailOfUptoRow.holds Try.pinned (OpenSpec.upto fnExactSailOfSpec)

/-- 'laws.FnExactTackAt', WHERE WHAT IT READS IS OF BULK AT MOST 1048576: true; the input reads as it did. -/
def fnExactTackAtUptoRow : OpenClaim := { program := "ytkodmdfcppnfoaa", sum := "2a00077a1052c25fb595beb498e26c1e06598635b0840d2fb566e176bbeefc28", func := "loop.example/g00887/laws.FnExactTackAt", spec := "fnExactTackAt", unfollowed := true, recurses := true, apart := false, narrowed := true }
def FnExactTackAtUptoSaid : Prop := fnExactTackAtUptoRow.holds Try.pinned (OpenSpec.upto fnExactTackAtSpec)

/-- 'laws.FnExactManoeuvresOf', WHERE WHAT IT READS IS OF BULK AT MOST 1048576: true; the input reads as it did. -/
def fnExactManoeuvresOfUptoRow : OpenClaim := { program := "ytkodmdfcppnfoaa", sum := "2a00077a1052c25fb595beb498e26c1e06598635b0840d2fb566e176bbeefc28", func := "loop.example/g00887/laws.FnExactManoeuvresOf", spec := "fnExactManoeuvresOf", unfollowed := true, recurses := true, apart := false, narrowed := true }
def FnExactManoeuvresOfUptoSaid : Prop := fnExactManoeuvresOfUptoRow.holds Try.pinned (OpenSpec.upto fnExactManoeuvresOfSpec)

/-- 'laws.FnExactWindwardGain', WHERE WHAT IT READS IS OF BULK AT MOST 1048576: true; the input reads as it did. -/
def fnExactWindwardGainUptoRow : OpenClaim := { program := "ytkodmdfcppnfoaa", sum := "2a00077a1052c25fb595beb498e26c1e06598635b0840d2fb566e176bbeefc28", func := "loop.example/g00887/laws.FnExactWindwardGain", spec := "fnExactWindwardGain", apart := false, narrowed := true }
def FnExactWindwardGainUptoSaid : Prop := fnExactWindwardGainUptoRow.holds Try.pinned (OpenSpec.upto fnExactWindwardGainSpec)

/-- 'laws.FnExactWindwardBoat', WHERE WHAT IT READS IS OF BULK AT MOST 1048576: true; the input reads as it did. -/
def fnExactWindwardBoatUptoRow : OpenClaim := { program := "ytkodmdfcppnfoaa", sum := "2a00077a1052c25fb595beb498e26c1e06598635b0840d2fb566e176bbeefc28", func := "loop.example/g00887/laws.FnExactWindwardBoat", spec := "fnExactWindwardBoat", unfollowed := true, recurses := true, apart := false, narrowed := true }
def FnExactWindwardBoatUptoSaid : Prop := fnExactWindwardBoatUptoRow.holds Try.pinned (OpenSpec.upto fnExactWindwardBoatSpec)

end Rows
end Go.Proofs.Ytkodmdfcppnfoaa

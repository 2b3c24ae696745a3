/-
  No cell of these rows narrows 'for every input' (looked for: loops, veiled, ifaces, maps, wideKeys, modest, calm, conditions, laid).
  DERIVED. THE GIVEN ROWS OF THIS SEAT. 4 by the template 'for every input the law returns true; each argument reads behind the call as it read before'; 0 by the template 'total and deterministic' (their statements: YtknelhceaoblhaaGreatTotals.lean).
  GIVEN WITH THE SEED: the statements are not yours to turn. If you find one false, say at which input.
  Laid BY PROGRAM, IN A SANDBOX (cutbox-rows.mjs): the forced cells as the released guide's own fill.sh prints them over the translation 30d32295911ff77c… (all of the seat's roots in one cut). By AI agents, Wed Nov 11 2026. No macro, syntax, notation, axiom, sorry.
-/
import Derived.Test.YtknelhceaoblhaaGreatChecked
import GoSem.Claim
import GoSem.ClaimJoined
import GoSem.ClaimMapViews
import Derived.JoinedTies
import Derived.KernelRfl
namespace Go.Proofs.YtknelhceaoblhaaGreat
/- THE CELL 'sum', in the pinned program and in every row, IS THE sha256 OF THE DUMP (.gsa) THAT YtknelhceaoblhaaGreatProg.lean LOADS. Nothing in Lean hashes anything: it is a label: what it is worth is what the hold of that sum in a sandbox is worth. -/
noncomputable def Tryz.pinned : Pinned := { name := "ytknelhceaoblhaagreat", sum := "30d32295911ff77c325d6c556d54777a4e1c312fde1cbc2166322401df25a6a4", checked := Tryz.checked }
namespace Rows
def none {H : Type} : Left H := { results := [], args := [] }

/-- 'laws.FnChecks': WHATEVER THE INPUT: true; the input reads as it did. -/
def fnChecksSpec : ChangeSpec := { name := "fnChecks", fn := fun _ => fun
  | [d] => { results := [.lit (.bool true)], args := [d] }
  | _ => none }
def fnChecksRow : OpenClaim := { program := "ytknelhceaoblhaagreat", sum := "30d32295911ff77c325d6c556d54777a4e1c312fde1cbc2166322401df25a6a4", func := "loop.example/g00887/laws.FnChecks", spec := "fnChecks", unfollowed := true, recurses := true, named := ["math/bits.divideError", "math/bits.overflowError"], apart := false }
def FnChecksSaid : Prop := fnChecksRow.holds Tryz.pinned (OpenSpec.ofChange fnChecksSpec)

/-- ITS FALSE NEIGHBOUR: 'it returns false'. Refute it at one input. -/
def fnChecksWrong : ChangeSpec := { name := "fnChecks", fn := fun _ => fun
  | [d] => { results := [.lit (.bool false)], args := [d] }
  | _ => none }
def FnChecksWrongFalsely : Prop := fnChecksRow.holds Tryz.pinned (OpenSpec.ofChange fnChecksWrong)

/-- 'laws.FnExactNearTimes': WHATEVER THE INPUT: true; the input reads as it did. -/
def fnExactNearTimesSpec : ChangeSpec := { name := "fnExactNearTimes", fn := fun _ => fun
  | [d1, d2, d3] => { results := [.lit (.bool true)], args := [d1, d2, d3] }
  | _ => none }
def fnExactNearTimesRow : OpenClaim := { program := "ytknelhceaoblhaagreat", sum := "30d32295911ff77c325d6c556d54777a4e1c312fde1cbc2166322401df25a6a4", func := "loop.example/g00887/laws.FnExactNearTimes", spec := "fnExactNearTimes", unfollowed := true, recurses := true, named := ["math/bits.divideError", "math/bits.overflowError"], apart := false }
def FnExactNearTimesSaid : Prop := fnExactNearTimesRow.holds Tryz.pinned (OpenSpec.ofChange fnExactNearTimesSpec)

/-- ITS FALSE NEIGHBOUR: 'it returns false'. Refute it at one input. -/
def fnExactNearTimesWrong : ChangeSpec := { name := "fnExactNearTimes", fn := fun _ => fun
  | [d1, d2, d3] => { results := [.lit (.bool false)], args := [d1, d2, d3] }
  | _ => none }
def FnExactNearTimesWrongFalsely : Prop := fnExactNearTimesRow.holds Tryz.pinned (OpenSpec.ofChange fnExactNearTimesWrong)

/-- 'laws.FnExactIncidentsOf': WHATEVER THE INPUT: true; the input reads as it did. -/
def fnExactIncidentsOfSpec : ChangeSpec := { name := "fnExactIncidentsOf", fn := fun _ => fun
  | [d1, d2, d3, d4] => { results := [.lit (.bool true)], args := [d1, d2, d3, d4] }
  | _ => none }
def fnExactIncidentsOfRow : OpenClaim := { program := "ytknelhceaoblhaagreat", sum := "30d32295911ff77c325d6c556d54777a4e1c312fde1cbc2166322401df25a6a4", func := "loop.example/g00887/laws.FnExactIncidentsOf", spec := "fnExactIncidentsOf", unfollowed := true, recurses := true, named := ["math/bits.divideError", "math/bits.overflowError"], apart := false }
def FnExactIncidentsOfSaid : Prop := fnExactIncidentsOfRow.holds Tryz.pinned (OpenSpec.ofChange fnExactIncidentsOfSpec)

/-- ITS FALSE NEIGHBOUR: 'it returns false'. Refute it at one input. -/
def fnExactIncidentsOfWrong : ChangeSpec := { name := "fnExactIncidentsOf", fn := fun _ => fun
  | [d1, d2, d3, d4] => { results := [.lit (.bool false)], args := [d1, d2, d3, d4] }
  | _ => none }
def FnExactIncidentsOfWrongFalsely : Prop := fnExactIncidentsOfRow.holds Tryz.pinned (OpenSpec.ofChange fnExactIncidentsOfWrong)

/-- 'laws.FnExactAllIncidents': WHATEVER THE INPUT: true; the input reads as it did. -/
def fnExactAllIncidentsSpec : ChangeSpec := { name := "fnExactAllIncidents", fn := fun _ => fun
  | [d1, d2, d3] => { results := [.lit (.bool true)], args := [d1, d2, d3] }
  | _ => none }
def fnExactAllIncidentsRow : OpenClaim := { program := "ytknelhceaoblhaagreat", sum := "30d32295911ff77c325d6c556d54777a4e1c312fde1cbc2166322401df25a6a4", func := "loop.example/g00887/laws.FnExactAllIncidents", spec := "fnExactAllIncidents", unfollowed := true, recurses := true, named := ["math/bits.divideError", "math/bits.overflowError"], apart := false }
def FnExactAllIncidentsSaid : Prop := fnExactAllIncidentsRow.holds Tryz.pinned (OpenSpec.ofChange fnExactAllIncidentsSpec)

/-- ITS FALSE NEIGHBOUR: 'it returns false'. Refute it at one input. -/
def fnExactAllIncidentsWrong : ChangeSpec := { name := "fnExactAllIncidents", fn := fun _ => fun
  | [d1, d2, d3] => { results := [.lit (.bool false)], args := [d1, d2, d3] }
  | _ => none }
def FnExactAllIncidentsWrongFalsely : Prop := fnExactAllIncidentsRow.holds Tryz.pinned (OpenSpec.ofChange fnExactAllIncidentsWrong)

/- THE SECOND FORM. 'bulk': how many values and letters a reading holds, each counted each time it is reached (what is shared counts as often as it is met; a slice's spare places count too). A statement '..UptoSaid' is the law's where the arguments, and the package variables that the reading takes, are together of bulk at most 1048576: NARROWER than '..Said'. Prove '..Said' where nothing that the law and all that it calls make is longer than what came in: it says more and counts as full. Else prove '..UptoSaid'. A law counts once. -/
mutual
def uptoBulk {H : Type} : DataW H → Nat
  | .lit (.string bytes) => bytes.length + 1
  | .lit _ => 1
  | .nil => 1
  | .ptr d => uptoBulk d + 1
  | .slice elems spare => uptoBulkAll elems + uptoBulkAll spare + 1
  | .agg parts => uptoBulkAll parts + 1
  | .iface _ d => uptoBulk d + 1
  | .map entries => uptoBulkEntries entries + 1
  | .held _ => 1
def uptoBulkAll {H : Type} : List (DataW H) → Nat
  | [] => 0
  | d :: r => uptoBulk d + uptoBulkAll r
def uptoBulkEntries {H : Type} : List (Lit × DataW H) → Nat
  | [] => 0
  | x :: r => uptoBulkEntry x + uptoBulkEntries r
def uptoBulkEntry {H : Type} : Lit × DataW H → Nat
  | (.string bytes, d) => bytes.length + uptoBulk d + 1
  | (_, d) => uptoBulk d + 1
 end
def uptoSmall : (H : Type) → List (DataW H) → Bool := fun _ ds => decide (uptoBulkAll ds ≤ 1048576)
def OpenSpec.upto (s : _root_.Go.ChangeSpec) : _root_.Go.OpenSpec := { _root_.Go.OpenSpec.ofChange s with cond := some uptoSmall }

/-- 'laws.FnChecks', WHERE WHAT IT READS IS OF BULK AT MOST 1048576: true; the input reads as it did. -/
def fnChecksUptoRow : OpenClaim := { program := "ytknelhceaoblhaagreat", sum := "30d32295911ff77c325d6c556d54777a4e1c312fde1cbc2166322401df25a6a4", func := "loop.example/g00887/laws.FnChecks", spec := "fnChecks", unfollowed := true, recurses := true, named := ["math/bits.divideError", "math/bits.overflowError"], apart := false, narrowed := true }
def FnChecksUptoSaid : Prop := fnChecksUptoRow.holds Tryz.pinned (OpenSpec.upto fnChecksSpec)

/-- 'laws.FnExactNearTimes', WHERE WHAT IT READS IS OF BULK AT MOST 1048576: true; the input reads as it did. -/
def fnExactNearTimesUptoRow : OpenClaim := { program := "ytknelhceaoblhaagreat", sum := "30d32295911ff77c325d6c556d54777a4e1c312fde1cbc2166322401df25a6a4", func := "loop.example/g00887/laws.FnExactNearTimes", spec := "fnExactNearTimes", unfollowed := true, recurses := true, named := ["math/bits.divideError", "math/bits.overflowError"], apart := false, narrowed := true }
def FnExactNearTimesUptoSaid : Prop := fnExactNearTimesUptoRow.holds Tryz.pinned (OpenSpec.upto fnExactNearTimesSpec)

/-- 'laws.FnExactIncidentsOf', WHERE WHAT IT READS IS OF BULK AT MOST 1048576: true; the input reads as it did. -/
def fnExactIncidentsOfUptoRow : OpenClaim := { program := "ytknelhceaoblhaagreat", sum := "30d32295911ff77c325d6c556d54777a4e1c312fde1cbc2166322401df25a6a4", func := "loop.example/g00887/laws.FnExactIncidentsOf", spec := "fnExactIncidentsOf", unfollowed := true, recurses := true, named := ["math/bits.divideError", "math/bits.overflowError"], apart := false, narrowed := true }
def FnExactIncidentsOfUptoSaid : Prop := fnExactIncidentsOfUptoRow.holds Tryz.pinned (OpenSpec.upto fnExactIncidentsOfSpec)

/-- 'laws.FnExactAllIncidents', WHERE WHAT IT READS IS OF BULK AT MOST 1048576: true; the input reads as it did. -/
def fnExactAllIncidentsUptoRow : OpenClaim := { program := "ytknelhceaoblhaagreat", sum := "30d32295911ff77c325d6c556d54777a4e1c312fde1cbc2166322401df25a6a4", func := "loop.example/g00887/laws.FnExactAllIncidents", spec := "fnExactAllIncidents", unfollowed := true, recurses := true, named := ["math/bits.divideError", "math/bits.overflowError"], apart := false, narrowed := true }
def FnExactAllIncidentsUptoSaid : Prop := fnExactAllIncidentsUptoRow.holds Tryz.pinned (OpenSpec.upto fnExactAllIncidentsSpec)

end Rows
end Go.Proofs.YtknelhceaoblhaaGreat

/-
  No cell of these rows narrows 'for every input' (looked for: loops, veiled, ifaces, maps, wideKeys, modest, calm, conditions, laid).
  DERIVED. THE GIVEN ROWS OF THIS SEAT. 9 by the template 'for every input the law returns true; each argument reads behind the call as it read before'; 0 by the template 'total and deterministic' (their statements: YtmebaihacddhfaaTotals.lean).
  GIVEN WITH THE SEED: the statements are not yours to turn. If you find one false, say at which input.
  Laid BY PROGRAM, IN A SANDBOX (cutbox-rows.mjs): the forced cells as the released guide's own fill.sh prints them over the translation 9351d415ca341ef6… (all of the seat's roots in one cut). By AI agents, Wed Nov 11 2026. No macro, syntax, notation, axiom, sorry.
-/
import Derived.Test.YtmebaihacddhfaaChecked
import GoSem.Claim
import GoSem.ClaimJoined
import GoSem.ClaimMapViews
import Derived.JoinedTies
import Derived.KernelRfl
namespace Go.Proofs.Ytmebaihacddhfaa
/- THE CELL 'sum', in the pinned program and in every row, IS THE sha256 OF THE DUMP (.gsa) THAT YtmebaihacddhfaaProg.lean LOADS. Nothing in Lean hashes anything: it is a label: what it is worth is what the hold of that sum in a sandbox is worth. -/
noncomputable def Try.pinned : Pinned := { name := "ytmebaihacddhfaa", sum := "9351d415ca341ef65ce705717d24a6080623c64fb744c6e2fe352cd439adbdb1", checked := Try.checked }
namespace Rows
def none {H : Type} : Left H := { results := [], args := [] }

/-- 'laws.FnLegs': WHATEVER THE INPUT: true; the input reads as it did. -/
def fnLegsSpec : ChangeSpec := { name := "fnLegs", fn := fun _ => fun
  | [d] => { results := [.lit (.bool true)], args := [d] }
  | _ => none }
def fnLegsRow : OpenClaim := { program := "ytmebaihacddhfaa", sum := "9351d415ca341ef65ce705717d24a6080623c64fb744c6e2fe352cd439adbdb1", func := "loop.example/g00887/laws.FnLegs", spec := "fnLegs", unfollowed := true, recurses := true, apart := false }
def FnLegsSaid : Prop := fnLegsRow.holds Try.pinned (OpenSpec.ofChange fnLegsSpec)

/-- ITS FALSE NEIGHBOUR: 'it returns false'. Refute it at one input. -/
def fnLegsWrong : ChangeSpec := { name := "fnLegs", fn := fun _ => fun
  | [d] => { results := [.lit (.bool false)], args := [d] }
  | _ => none }
def FnLegsWrongFalsely : Prop := fnLegsRow.holds Try.pinned (OpenSpec.ofChange fnLegsWrong)

/-- 'laws.FnShorten': WHATEVER THE INPUT: true; the input reads as it did. -/
def fnShortenSpec : ChangeSpec := { name := "fnShorten", fn := fun _ => fun
  | [d] => { results := [.lit (.bool true)], args := [d] }
  | _ => none }
def fnShortenRow : OpenClaim := { program := "ytmebaihacddhfaa", sum := "9351d415ca341ef65ce705717d24a6080623c64fb744c6e2fe352cd439adbdb1", func := "loop.example/g00887/laws.FnShorten", spec := "fnShorten", unfollowed := true, recurses := true, apart := false }
def FnShortenSaid : Prop := fnShortenRow.holds Try.pinned (OpenSpec.ofChange fnShortenSpec)

/-- ITS FALSE NEIGHBOUR: 'it returns false'. Refute it at one input. -/
def fnShortenWrong : ChangeSpec := { name := "fnShorten", fn := fun _ => fun
  | [d] => { results := [.lit (.bool false)], args := [d] }
  | _ => none }
def FnShortenWrongFalsely : Prop := fnShortenRow.holds Try.pinned (OpenSpec.ofChange fnShortenWrong)

/-- 'laws.FnExactIsLine': WHATEVER THE INPUT: true; the input reads as it did. -/
def fnExactIsLineSpec : ChangeSpec := { name := "fnExactIsLine", fn := fun _ => fun
  | [d] => { results := [.lit (.bool true)], args := [d] }
  | _ => none }
def fnExactIsLineRow : OpenClaim := { program := "ytmebaihacddhfaa", sum := "9351d415ca341ef65ce705717d24a6080623c64fb744c6e2fe352cd439adbdb1", func := "loop.example/g00887/laws.FnExactIsLine", spec := "fnExactIsLine", apart := false }
def FnExactIsLineSaid : Prop := fnExactIsLineRow.holds Try.pinned (OpenSpec.ofChange fnExactIsLineSpec)

/-- ITS FALSE NEIGHBOUR: 'it returns false'. Refute it at one input. -/
def fnExactIsLineWrong : ChangeSpec := { name := "fnExactIsLine", fn := fun _ => fun
  | [d] => { results := [.lit (.bool false)], args := [d] }
  | _ => none }
def FnExactIsLineWrongFalsely : Prop := fnExactIsLineRow.holds Try.pinned (OpenSpec.ofChange fnExactIsLineWrong)

/-- 'laws.FnExactIsCourse': WHATEVER THE INPUT: true; the input reads as it did. -/
def fnExactIsCourseSpec : ChangeSpec := { name := "fnExactIsCourse", fn := fun _ => fun
  | [d] => { results := [.lit (.bool true)], args := [d] }
  | _ => none }
def fnExactIsCourseRow : OpenClaim := { program := "ytmebaihacddhfaa", sum := "9351d415ca341ef65ce705717d24a6080623c64fb744c6e2fe352cd439adbdb1", func := "loop.example/g00887/laws.FnExactIsCourse", spec := "fnExactIsCourse", unfollowed := true, recurses := true, apart := false }
def FnExactIsCourseSaid : Prop := fnExactIsCourseRow.holds Try.pinned (OpenSpec.ofChange fnExactIsCourseSpec)

/-- ITS FALSE NEIGHBOUR: 'it returns false'. Refute it at one input. -/
def fnExactIsCourseWrong : ChangeSpec := { name := "fnExactIsCourse", fn := fun _ => fun
  | [d] => { results := [.lit (.bool false)], args := [d] }
  | _ => none }
def FnExactIsCourseWrongFalsely : Prop := fnExactIsCourseRow.holds Try.pinned (OpenSpec.ofChange fnExactIsCourseWrong)

/-- 'laws.FnExactStationsOf': WHATEVER THE INPUT: true; the input reads as it did. -/
def fnExactStationsOfSpec : ChangeSpec := { name := "fnExactStationsOf", fn := fun _ => fun
  | [d] => { results := [.lit (.bool true)], args := [d] }
  | _ => none }
def fnExactStationsOfRow : OpenClaim := { program := "ytmebaihacddhfaa", sum := "9351d415ca341ef65ce705717d24a6080623c64fb744c6e2fe352cd439adbdb1", func := "loop.example/g00887/laws.FnExactStationsOf", spec := "fnExactStationsOf", unfollowed := true, recurses := true, apart := false }
def FnExactStationsOfSaid : Prop := fnExactStationsOfRow.holds Try.pinned (OpenSpec.ofChange fnExactStationsOfSpec)

/-- ITS FALSE NEIGHBOUR: 'it returns false'. Refute it at one input. -/
def fnExactStationsOfWrong : ChangeSpec := { name := "fnExactStationsOf", fn := fun _ => fun
  | [d] => { results := [.lit (.bool false)], args := [d] }
  | _ => none }
def FnExactStationsOfWrongFalsely : Prop := fnExactStationsOfRow.holds Try.pinned (OpenSpec.ofChange fnExactStationsOfWrong)

/-- 'laws.FnExactLegLengths': WHATEVER THE INPUT: true; the input reads as it did. -/
def fnExactLegLengthsSpec : ChangeSpec := { name := "fnExactLegLengths", fn := fun _ => fun
  | [d] => { results := [.lit (.bool true)], args := [d] }
  | _ => none }
def fnExactLegLengthsRow : OpenClaim := { program := "ytmebaihacddhfaa", sum := "9351d415ca341ef65ce705717d24a6080623c64fb744c6e2fe352cd439adbdb1", func := "loop.example/g00887/laws.FnExactLegLengths", spec := "fnExactLegLengths", unfollowed := true, recurses := true, apart := false }
def FnExactLegLengthsSaid : Prop := fnExactLegLengthsRow.holds Try.pinned (OpenSpec.ofChange fnExactLegLengthsSpec)

/-- ITS FALSE NEIGHBOUR: 'it returns false'. Refute it at one input. -/
def fnExactLegLengthsWrong : ChangeSpec := { name := "fnExactLegLengths", fn := fun _ => fun
  | [d] => { results := [.lit (.bool false)], args := [d] }
  | _ => none }
def FnExactLegLengthsWrongFalsely : Prop := fnExactLegLengthsRow.holds Try.pinned (OpenSpec.ofChange fnExactLegLengthsWrong)

/-- 'laws.FnExactBeforeLine': WHATEVER THE INPUT: true; the input reads as it did. -/
def fnExactBeforeLineSpec : ChangeSpec := { name := "fnExactBeforeLine", fn := fun _ => fun
  | [d1, d2] => { results := [.lit (.bool true)], args := [d1, d2] }
  | _ => none }
def fnExactBeforeLineRow : OpenClaim := { program := "ytmebaihacddhfaa", sum := "9351d415ca341ef65ce705717d24a6080623c64fb744c6e2fe352cd439adbdb1", func := "loop.example/g00887/laws.FnExactBeforeLine", spec := "fnExactBeforeLine", apart := false }
def FnExactBeforeLineSaid : Prop := fnExactBeforeLineRow.holds Try.pinned (OpenSpec.ofChange fnExactBeforeLineSpec)

/-- ITS FALSE NEIGHBOUR: 'it returns false'. Refute it at one input. -/
def fnExactBeforeLineWrong : ChangeSpec := { name := "fnExactBeforeLine", fn := fun _ => fun
  | [d1, d2] => { results := [.lit (.bool false)], args := [d1, d2] }
  | _ => none }
def FnExactBeforeLineWrongFalsely : Prop := fnExactBeforeLineRow.holds Try.pinned (OpenSpec.ofChange fnExactBeforeLineWrong)

/-- 'laws.FnExactMarkNamed': WHATEVER THE INPUT: true; the input reads as it did. -/
def fnExactMarkNamedSpec : ChangeSpec := { name := "fnExactMarkNamed", fn := fun _ => fun
  | [d1, d2] => { results := [.lit (.bool true)], args := [d1, d2] }
  | _ => none }
def fnExactMarkNamedRow : OpenClaim := { program := "ytmebaihacddhfaa", sum := "9351d415ca341ef65ce705717d24a6080623c64fb744c6e2fe352cd439adbdb1", func := "loop.example/g00887/laws.FnExactMarkNamed", spec := "fnExactMarkNamed", unfollowed := true, recurses := true, apart := false }
def FnExactMarkNamedSaid : Prop := fnExactMarkNamedRow.holds Try.pinned (OpenSpec.ofChange fnExactMarkNamedSpec)

/-- ITS FALSE NEIGHBOUR: 'it returns false'. Refute it at one input. -/
def fnExactMarkNamedWrong : ChangeSpec := { name := "fnExactMarkNamed", fn := fun _ => fun
  | [d1, d2] => { results := [.lit (.bool false)], args := [d1, d2] }
  | _ => none }
def FnExactMarkNamedWrongFalsely : Prop := fnExactMarkNamedRow.holds Try.pinned (OpenSpec.ofChange fnExactMarkNamedWrong)

/-- 'laws.FnExactShortenCourse': WHATEVER THE INPUT: true; the input reads as it did. -/
def fnExactShortenCourseSpec : ChangeSpec := { name := "fnExactShortenCourse", fn := fun _ => fun
  | [d1, d2, d3] => { results := [.lit (.bool true)], args := [d1, d2, d3] }
  | _ => none }
def fnExactShortenCourseRow : OpenClaim := { program := "ytmebaihacddhfaa", sum := "9351d415ca341ef65ce705717d24a6080623c64fb744c6e2fe352cd439adbdb1", func := "loop.example/g00887/laws.FnExactShortenCourse", spec := "fnExactShortenCourse", unfollowed := true, recurses := true, apart := false }
def FnExactShortenCourseSaid : Prop := fnExactShortenCourseRow.holds Try.pinned (OpenSpec.ofChange fnExactShortenCourseSpec)

/-- ITS FALSE NEIGHBOUR: 'it returns false'. Refute it at one input. -/
def fnExactShortenCourseWrong : ChangeSpec := { name := "fnExactShortenCourse", fn := fun _ => fun
  | [d1, d2, d3] => { results := [.lit (.bool false)], args := [d1, d2, d3] }
  | _ => none }
def FnExactShortenCourseWrongFalsely : Prop := fnExactShortenCourseRow.holds Try.pinned (OpenSpec.ofChange fnExactShortenCourseWrong)

/- THE SECOND FORM. 'bulk': how many values and letters a reading holds, each counted each time it is reached (what is shared counts as often as it is met; a slice's spare places count too). A statement '..UptoSaid' is the law's where the arguments, and the package variables that the reading takes, are together of bulk at most 1048576: NARROWER than '..Said'. Prove '..Said' where nothing that the law and all that it calls make is longer than what came in: it says more and counts as full. Else prove '..UptoSaid'. A law counts once. -/
mutual
def uptoBulk {H : Type} : DataW H → Nat
  | .lit (.string bytes) => bytes.length + 1
  | .lit _ => 1
  | .nil => 1
  | .ptr d => uptoBulk d + 1
  | .slice elems spare => uptoBulkAll elems + uptoBulkAll spare + 1
  | .agg parts => uptoBulkAll parts + 1
  | .iface _ d => uptoBulk d + 1
  | .map entries => uptoBulkEntries entries + 1
  | .held _ => 1
def uptoBulkAll {H : Type} : List (DataW H) → Nat
  | [] => 0
  | d :: r => uptoBulk d + uptoBulkAll r
def uptoBulkEntries {H : Type} : List (Lit × DataW H) → Nat
  | [] => 0
  | x :: r => uptoBulkEntry x + uptoBulkEntries r
def uptoBulkEntry {H : Type} : Lit × DataW H → Nat
  | (.string bytes, d) => bytes.length + uptoBulk d + 1
  | (_, d) => uptoBulk d + 1
 end
def uptoSmall : (H : Type) → List (DataW H) → Bool := fun _ ds => decide (uptoBulkAll ds ≤ 1048576)
def OpenSpec.upto (s : _root_.Go.ChangeSpec) : _root_.Go.OpenSpec := { _root_.Go.OpenSpec.ofChange s with cond := some uptoSmall }

/-- 'laws.FnLegs', WHERE WHAT IT READS IS OF BULK AT MOST 1048576: true; the input reads as it did. -/
def fnLegsUptoRow : OpenClaim := { program := "ytmebaihacddhfaa", sum := "9351d415ca341ef65ce705717d24a6080623c64fb744c6e2fe352cd439adbdb1", func := "loop.example/g00887/laws.FnLegs", spec := "fnLegs", unfollowed := true, recurses := true, apart := false, narrowed := true }
def FnLegsUptoSaid : Prop := fnLegsUptoRow.holds Try.pinned (OpenSpec.upto fnLegsSpec)

/-- 'laws.FnShorten', WHERE WHAT IT READS IS OF BULK AT MOST 1048576: true; the input reads as it did. -/
def fnShortenUptoRow : OpenClaim := { program := "ytmebaihacddhfaa", sum := "9351d415ca341ef65ce705717d24a6080623c64fb744c6e2fe352cd439adbdb1", func := "loop.example/g00887/laws.FnShorten", spec := "fnShorten", unfollowed := true, recurses := true, apart := false, narrowed := true }
def FnShortenUptoSaid : Prop := fnShortenUptoRow.holds Try.pinned (OpenSpec.upto fnShortenSpec)

/-- 'laws.FnExactIsLine', WHERE WHAT IT READS IS OF BULK AT MOST 1048576: true; the input reads as it did. -/
def fnExactIsLineUptoRow : OpenClaim := { program := "ytmebaihacddhfaa", sum := "9351d415ca341ef65ce705717d24a6080623c64fb744c6e2fe352cd439adbdb1", func := "loop.example/g00887/laws.FnExactIsLine", spec := "fnExactIsLine", apart := false, narrowed := true }
def FnExactIsLineUptoSaid : Prop := fnExactIsLineUptoRow.holds Try.pinned (OpenSpec.upto fnExactIsLineSpec)

/-- 'laws.FnExactIsCourse', WHERE WHAT IT READS IS OF BULK AT MOST 1048576: true; the input reads as it did. -/
def fnExactIsCourseUptoRow : OpenClaim := { program := "ytmebaihacddhfaa", sum := "9351d415ca341ef65ce705717d24a6080623c64fb744c6e2fe352cd439adbdb1", func := "loop.example/g00887/laws.FnExactIsCourse", spec := "fnExactIsCourse", unfollowed := true, recurses := true, apart := false, narrowed := true }
def FnExactIsCourseUptoSaid : Prop := fnExactIsCourseUptoRow.holds Try.pinned (OpenSpec.upto fnExactIsCourseSpec)

/-- 'laws.FnExactStationsOf', WHERE WHAT IT READS IS OF BULK AT MOST 1048576: true; the input reads as it did. -/
def fnExactStationsOfUptoRow : OpenClaim := { program := "ytmebaihacddhfaa", sum := "9351d415ca341ef65ce705717d24a6080623c64fb744c6e2fe352cd439adbdb1", func := "loop.example/g00887/laws.FnExactStationsOf", spec := "fnExactStationsOf", unfollowed := true, recurses := true, apart := false, narrowed := true }
def FnExactStationsOfUptoSaid : Prop := fnExactStationsOfUptoRow.holds Try.pinned (OpenSpec.upto fnExactStationsOfSpec)

/-- 'laws.FnExactLegLengths', WHERE WHAT IT READS IS OF BULK AT MOST 1048576: true; the input reads as it did. -/
def fnExactLegLengthsUptoRow : OpenClaim := { program := "ytmebaihacddhfaa", sum := "9351d415ca341ef65ce705717d24a6080623c64fb744c6e2fe352cd439adbdb1", func := "loop.example/g00887/laws.FnExactLegLengths", spec := "fnExactLegLengths", unfollowed := true, recurses := true, apart := false, narrowed := true }
def FnExactLegLengthsUptoSaid : Prop := fnExactLegLengthsUptoRow.holds Try.pinned (OpenSpec.upto fnExactLegLengthsSpec)

/-- 'laws.FnExactBeforeLine', WHERE WHAT IT READS IS OF BULK AT MOST 1048576: true; the input reads as it did. -/
def fnExactBeforeLineUptoRow : OpenClaim := { program := "ytmebaihacddhfaa", sum := "9351d415ca341ef65ce705717d24a6080623c64fb744c6e2fe352cd439adbdb1", func := "loop.example/g00887/laws.FnExactBeforeLine", spec := "fnExactBeforeLine", apart := false, narrowed := true }
def FnExactBeforeLineUptoSaid : Prop := fnExactBeforeLineUptoRow.holds Try.pinned (OpenSpec.upto fnExactBeforeLineSpec)

/-- 'laws.FnExactMarkNamed', WHERE WHAT IT READS IS OF BULK AT MOST 1048576: true; the input reads as it did. -/
def fnExactMarkNamedUptoRow : OpenClaim := { program := "ytmebaihacddhfaa", sum := "9351d415ca341ef65ce705717d24a6080623c64fb744c6e2fe352cd439adbdb1", func := "loop.example/g00887/laws.FnExactMarkNamed", spec := "fnExactMarkNamed", unfollowed := true, recurses := true, apart := false, narrowed := true }
def FnExactMarkNamedUptoSaid : Prop := fnExactMarkNamedUptoRow.holds Try.pinned (OpenSpec.upto fnExactMarkNamedSpec)

/-- 'laws.FnExactShortenCourse', WHERE WHAT IT READS IS OF BULK AT MOST 1048576: true; the input reads as it did. -/
def fnExactShortenCourseUptoRow : OpenClaim := { program := "ytmebaihacddhfaa", sum := "9351d415ca341ef65ce705717d24a6080623c64fb744c6e2fe352cd439adbdb1", func := "loop.example/g00887/laws.FnExactShortenCourse", spec := "fnExactShortenCourse", unfollowed := true, recurses := true, apart := false, narrowed := true }
def FnExactShortenCourseUptoSaid : Prop := fnExactShortenCourseUptoRow.holds Try.pinned (OpenSpec.upto fnExactShortenCourseSpec)

end Rows
end Go.Proofs.Ytmebaihacddhfaa

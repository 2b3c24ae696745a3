/-
  DERIVED. GIVEN WITH THE SEED: THE CARDS: each row of YtkbcmkfgkomddaaDoorRows.lean that lists a variable, with what it lists TIED to the program's text (the seventh form; the later family's looks); each row that meets fmt, with fmt's text TOLD by the authors' own Lean function (tested against real Go, not proved from fmt's source: count such statements apart). THE CARD IS WHAT COUNTS. Prove the row's statement (the work); the ties are given (YtkbcmkfgkomddaaDoorTie.lean); close each card by the builder's one call (the guide's Derived/Test/ToyasCard.lean, 'card_holds'). Laid BY PROGRAM, IN A SANDBOX (cutbox-door.mjs). By AI agents, Wed Nov 11 2026. No macro, syntax, notation, axiom, sorry.
-/
import Derived.Test.YtkbcmkfgkomddaaDoorRows
import GoSem.ClaimSeven
namespace Go.Proofs.YtkbcmkfgkomddaaDoor
namespace Rows

/-- THE TIED CARD OF 'laws.FnExactCourseText'. -/
def fnExactCourseTextCard : Claim7 := { stood := { row := fnExactCourseTextRow, standIns := [], harness := (true, "8cb84d6466ecce8b1ae67f8910dfbb56c59d3d020f83568a329028d7888d0a66"), looks := true }, kinds := [], alts := [], laidByText := true, laidKinds := [.data, .data, .data], laidTests := true, laidLooks := .later }
def FnExactCourseTextCardSaid : Prop := Claim7.holds Tryd.pinned (.plain (OpenSpec.ofChange fnExactCourseTextSpec)) fnExactCourseTextCard

/-- THE SECOND FORM's CARD OF 'laws.FnExactCourseText'. -/
def fnExactCourseTextUptoCard : Claim7 := { stood := { row := fnExactCourseTextUptoRow, standIns := [], harness := (true, "8cb84d6466ecce8b1ae67f8910dfbb56c59d3d020f83568a329028d7888d0a66"), looks := true }, kinds := [], alts := [], laidByText := true, laidKinds := [.data, .data, .data], laidTests := true, laidLooks := .later }
def FnExactCourseTextUptoCardSaid : Prop := Claim7.holds Tryd.pinned (.plain (OpenSpec.upto fnExactCourseTextSpec)) fnExactCourseTextUptoCard
end Rows
end Go.Proofs.YtkbcmkfgkomddaaDoor

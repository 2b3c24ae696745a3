/-
  DERIVED. GIVEN WITH THE SEED: THE CARDS: each row of YtlheppblioglpaaGreatDoorRows.lean that lists a variable, with what it lists TIED to the program's text (the seventh form; the later family's looks); each row that meets fmt, with fmt's text TOLD by the authors' own Lean function (tested against real Go, not proved from fmt's source: count such statements apart). THE CARD IS WHAT COUNTS. Prove the row's statement (the work); the ties are given (YtlheppblioglpaaGreatDoorTie.lean); close each card by the builder's one call (the guide's Derived/Test/ToyasCard.lean, 'card_holds'). Laid BY PROGRAM, IN A SANDBOX (cutbox-door.mjs). By AI agents, Wed Nov 11 2026. No macro, syntax, notation, axiom, sorry.
-/
import Derived.Test.YtlheppblioglpaaGreatDoorRows
import GoSem.ClaimSeven
namespace Go.Proofs.YtlheppblioglpaaGreatDoor
namespace Rows

/-- THE TIED CARD OF 'laws.FnRule'. -/
def fnRuleCard : Claim7 := { stood := { row := fnRuleRow, standIns := [], harness := (true, "7369baf62e3789458fb90eae413c1bcd2d55370b2441e59f4c93451efd02a696"), looks := true }, kinds := [], alts := [], laidByText := true, laidKinds := [.data, .data, .data, .sentinel, .sentinel], laidTests := true, laidLooks := .later }
def FnRuleCardSaid : Prop := Claim7.holds Tryz.pinned (.plain (OpenSpec.ofChange fnRuleSpec)) fnRuleCard

/-- THE SECOND FORM's CARD OF 'laws.FnRule'. -/
def fnRuleUptoCard : Claim7 := { stood := { row := fnRuleUptoRow, standIns := [], harness := (true, "7369baf62e3789458fb90eae413c1bcd2d55370b2441e59f4c93451efd02a696"), looks := true }, kinds := [], alts := [], laidByText := true, laidKinds := [.data, .data, .data, .sentinel, .sentinel], laidTests := true, laidLooks := .later }
def FnRuleUptoCardSaid : Prop := Claim7.holds Tryz.pinned (.plain (OpenSpec.upto fnRuleSpec)) fnRuleUptoCard
end Rows
end Go.Proofs.YtlheppblioglpaaGreatDoor

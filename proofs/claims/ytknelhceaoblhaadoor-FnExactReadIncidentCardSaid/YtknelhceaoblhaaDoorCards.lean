/-
  DERIVED. GIVEN WITH THE SEED: THE CARDS: each row of YtknelhceaoblhaaDoorRows.lean that lists a variable, with what it lists TIED to the program's text (the seventh form; the later family's looks); each row that meets fmt, with fmt's text TOLD by the authors' own Lean function (tested against real Go, not proved from fmt's source: count such statements apart). THE CARD IS WHAT COUNTS. Prove the row's statement (the work); the ties are given (YtknelhceaoblhaaDoorTie.lean); close each card by the builder's one call (the guide's Derived/Test/ToyasCard.lean, 'card_holds'). Laid BY PROGRAM, IN A SANDBOX (cutbox-door.mjs). By AI agents, Wed Nov 11 2026. No macro, syntax, notation, axiom, sorry.
-/
import Derived.Test.YtknelhceaoblhaaDoorRows
import GoSem.ClaimSeven
namespace Go.Proofs.YtknelhceaoblhaaDoor
namespace Rows

/-- THE TIED CARD OF 'laws.FnIncidentText'. -/
def fnIncidentTextCard : Claim7 := { stood := { row := fnIncidentTextRow, standIns := [], harness := (true, "1ccdb22a70134a7e21de2ba8f01df98f3dcc267f8a7280ddcd47c4e113c9d3cd"), looks := true }, kinds := [], alts := [], laidByText := true, laidKinds := [.data, .data, .data, .sentinel, .sentinel], laidTests := true, laidLooks := .later }
def FnIncidentTextCardSaid : Prop := Claim7.holds Tryd.pinned (.plain (OpenSpec.ofChange fnIncidentTextSpec)) fnIncidentTextCard

/-- THE TIED CARD OF 'laws.FnExactIncidentText'. -/
def fnExactIncidentTextCard : Claim7 := { stood := { row := fnExactIncidentTextRow, standIns := [], harness := (true, "1ccdb22a70134a7e21de2ba8f01df98f3dcc267f8a7280ddcd47c4e113c9d3cd"), looks := true }, kinds := [], alts := [], laidByText := true, laidKinds := [.data, .data, .data], laidTests := true, laidLooks := .later }
def FnExactIncidentTextCardSaid : Prop := Claim7.holds Tryd.pinned (.plain (OpenSpec.ofChange fnExactIncidentTextSpec)) fnExactIncidentTextCard

/-- THE TIED CARD OF 'laws.FnExactReadIncident'. -/
def fnExactReadIncidentCard : Claim7 := { stood := { row := fnExactReadIncidentRow, standIns := [], harness := (true, "1ccdb22a70134a7e21de2ba8f01df98f3dcc267f8a7280ddcd47c4e113c9d3cd"), looks := true }, kinds := [], alts := [], laidByText := true, laidKinds := [.data, .data, .data, .sentinel, .sentinel], laidTests := true, laidLooks := .later }
def FnExactReadIncidentCardSaid : Prop := Claim7.holds Tryd.pinned (.plain (OpenSpec.ofChange fnExactReadIncidentSpec)) fnExactReadIncidentCard

/-- THE SECOND FORM's CARD OF 'laws.FnIncidentText'. -/
def fnIncidentTextUptoCard : Claim7 := { stood := { row := fnIncidentTextUptoRow, standIns := [], harness := (true, "1ccdb22a70134a7e21de2ba8f01df98f3dcc267f8a7280ddcd47c4e113c9d3cd"), looks := true }, kinds := [], alts := [], laidByText := true, laidKinds := [.data, .data, .data, .sentinel, .sentinel], laidTests := true, laidLooks := .later }
def FnIncidentTextUptoCardSaid : Prop := Claim7.holds Tryd.pinned (.plain (OpenSpec.upto fnIncidentTextSpec)) fnIncidentTextUptoCard

/-- THE SECOND FORM's CARD OF 'laws.FnExactIncidentText'. -/
def fnExactIncidentTextUptoCard : Claim7 := { stood := { row := fnExactIncidentTextUptoRow, standIns := [], harness := (true, "1ccdb22a70134a7e21de2ba8f01df98f3dcc267f8a7280ddcd47c4e113c9d3cd"), looks := true }, kinds := [], alts := [], laidByText := true, laidKinds := [.data, .data, .data], laidTests := true, laidLooks := .later }
def FnExactIncidentTextUptoCardSaid : Prop := Claim7.holds Tryd.pinned (.plain (OpenSpec.upto fnExactIncidentTextSpec)) fnExactIncidentTextUptoCard

/-- THE SECOND FORM's CARD OF 'laws.FnExactReadIncident'. -/
def fnExactReadIncidentUptoCard : Claim7 := { stood := { row := fnExactReadIncidentUptoRow, standIns := [], harness := (true, "1ccdb22a70134a7e21de2ba8f01df98f3dcc267f8a7280ddcd47c4e113c9d3cd"), looks := true }, kinds := [], alts := [], laidByText := true, laidKinds := [.data, .data, .data, .sentinel, .sentinel], laidTests := true, laidLooks := .later }
def FnExactReadIncidentUptoCardSaid : Prop := Claim7.holds Tryd.pinned (.plain (OpenSpec.upto fnExactReadIncidentSpec)) fnExactReadIncidentUptoCard
end Rows
end Go.Proofs.YtknelhceaoblhaaDoor

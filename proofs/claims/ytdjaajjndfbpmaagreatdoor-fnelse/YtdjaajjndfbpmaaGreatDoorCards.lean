/-
  DERIVED. GIVEN WITH THE SEED: THE CARDS: each row of YtdjaajjndfbpmaaGreatDoorRows.lean that lists a variable, with what it lists TIED to the program's text (the seventh form; the later family's looks); each row that meets fmt, with fmt's text TOLD by the authors' own Lean function (tested against real Go, not proved from fmt's source: count such statements apart). THE CARD IS WHAT COUNTS. Prove the row's statement (the work); the ties are given (YtdjaajjndfbpmaaGreatDoorTie.lean); close each card by the builder's one call (the guide's Derived/Test/ToyasCard.lean, 'card_holds'). Laid BY PROGRAM, IN A SANDBOX (cutbox-door.mjs). By AI agents, Wed Nov 11 2026. No macro, syntax, notation, axiom, sorry.
-/
import Derived.Test.YtdjaajjndfbpmaaGreatDoorRows
import GoSem.ClaimSeven
namespace Go.Proofs.YtdjaajjndfbpmaaGreatDoor
namespace Rows

/-- THE TIED CARD OF 'laws.FnElse'. -/
def fnElseCard : Claim7 := { stood := { row := fnElseRow, standIns := [], harness := (true, "50e2cbf495e81d7734852770a5ea90827616ec57cc31667c326e84301f603759"), looks := true }, kinds := [], alts := [], laidByText := true, laidKinds := [.data, .data, .data, .data, .handle, .data, .sentinel, .sentinel, .sentinel, .sentinel, .sentinel, .sentinel, .sentinel, .pinned], laidTests := true, laidLooks := .later }
def FnElseCardSaid : Prop := Claim7.holds Tryz.pinned (.plain (OpenSpec.ofChange fnElseSpec)) fnElseCard

/-- THE SECOND FORM's CARD OF 'laws.FnElse'. -/
def fnElseUptoCard : Claim7 := { stood := { row := fnElseUptoRow, standIns := [], harness := (true, "50e2cbf495e81d7734852770a5ea90827616ec57cc31667c326e84301f603759"), looks := true }, kinds := [], alts := [], laidByText := true, laidKinds := [.data, .data, .data, .data, .handle, .data, .sentinel, .sentinel, .sentinel, .sentinel, .sentinel, .sentinel, .sentinel, .pinned], laidTests := true, laidLooks := .later }
def FnElseUptoCardSaid : Prop := Claim7.holds Tryz.pinned (.plain (OpenSpec.upto fnElseSpec)) fnElseUptoCard
end Rows
end Go.Proofs.YtdjaajjndfbpmaaGreatDoor

/-
  DERIVED. GIVEN WITH THE SEED: THE CARDS: each row of YtmalddmgdjkgaaaGreatDoorRows.lean that lists a variable, with what it lists TIED to the program's text (the seventh form; the later family's looks); each row that meets fmt, with fmt's text TOLD by the authors' own Lean function (tested against real Go, not proved from fmt's source: count such statements apart). THE CARD IS WHAT COUNTS. Prove the row's statement (the work); the ties are given (YtmalddmgdjkgaaaGreatDoorTie.lean); close each card by the builder's one call (the guide's Derived/Test/ToyasCard.lean, 'card_holds'). Laid BY PROGRAM, IN A SANDBOX (cutbox-door.mjs). By AI agents, Wed Nov 11 2026. No macro, syntax, notation, axiom, sorry.
-/
import Derived.Test.YtmalddmgdjkgaaaGreatDoorRows
import GoSem.ClaimSeven
namespace Go.Proofs.YtmalddmgdjkgaaaGreatDoor
namespace Rows

/-- THE TIED CARD OF 'laws.FnExactLooks'. -/
def fnExactLooksCard : Claim7 := { stood := { row := fnExactLooksRow, standIns := [], harness := (true, "82de8d3bf650b3e7db204a9e21e4ec18da6bd624666763c9b51ba28328ebb114"), looks := true }, kinds := [], alts := [], laidByText := true, laidKinds := [.data, .data, .data, .data, .handle, .data, .sentinel, .sentinel, .sentinel, .sentinel, .sentinel, .sentinel, .sentinel, .pinned], laidTests := true, laidLooks := .later }
def FnExactLooksCardSaid : Prop := Claim7.holds Tryz.pinned (.plain (OpenSpec.ofChange fnExactLooksSpec)) fnExactLooksCard

/-- THE SECOND FORM's CARD OF 'laws.FnExactLooks'. -/
def fnExactLooksUptoCard : Claim7 := { stood := { row := fnExactLooksUptoRow, standIns := [], harness := (true, "82de8d3bf650b3e7db204a9e21e4ec18da6bd624666763c9b51ba28328ebb114"), looks := true }, kinds := [], alts := [], laidByText := true, laidKinds := [.data, .data, .data, .data, .handle, .data, .sentinel, .sentinel, .sentinel, .sentinel, .sentinel, .sentinel, .sentinel, .pinned], laidTests := true, laidLooks := .later }
def FnExactLooksUptoCardSaid : Prop := Claim7.holds Tryz.pinned (.plain (OpenSpec.upto fnExactLooksSpec)) fnExactLooksUptoCard
end Rows
end Go.Proofs.YtmalddmgdjkgaaaGreatDoor

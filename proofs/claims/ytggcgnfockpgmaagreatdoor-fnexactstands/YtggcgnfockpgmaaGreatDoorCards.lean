/-
  DERIVED. GIVEN WITH THE SEED: THE CARDS: each row of YtggcgnfockpgmaaGreatDoorRows.lean that lists a variable, with what it lists TIED to the program's text (the seventh form; the later family's looks); each row that meets fmt, with fmt's text TOLD by the authors' own Lean function (tested against real Go, not proved from fmt's source: count such statements apart). THE CARD IS WHAT COUNTS. Prove the row's statement (the work); the ties are given (YtggcgnfockpgmaaGreatDoorTie.lean); close each card by the builder's one call (the guide's Derived/Test/ToyasCard.lean, 'card_holds'). Laid BY PROGRAM, IN A SANDBOX (cutbox-door.mjs). By AI agents, Wed Nov 11 2026. No macro, syntax, notation, axiom, sorry.
-/
import Derived.Test.YtggcgnfockpgmaaGreatDoorRows
import GoSem.ClaimSeven
namespace Go.Proofs.YtggcgnfockpgmaaGreatDoor
namespace Rows

/-- THE TIED CARD OF 'laws.FnExactStands'. -/
def fnExactStandsCard : Claim7 := { stood := { row := fnExactStandsRow, standIns := [], harness := (true, "05af5c62875c0aad22f15d81ef2403dd0a475e629ac5b8937579772c67109ded"), looks := true }, kinds := [], alts := [], laidByText := true, laidKinds := [.data, .handle, .sentinel, .sentinel, .sentinel, .sentinel, .sentinel, .sentinel, .sentinel, .pinned], laidTests := true, laidLooks := .later }
def FnExactStandsCardSaid : Prop := Claim7.holds Tryz.pinned (.plain (OpenSpec.ofChange fnExactStandsSpec)) fnExactStandsCard

/-- THE SECOND FORM's CARD OF 'laws.FnExactStands'. -/
def fnExactStandsUptoCard : Claim7 := { stood := { row := fnExactStandsUptoRow, standIns := [], harness := (true, "05af5c62875c0aad22f15d81ef2403dd0a475e629ac5b8937579772c67109ded"), looks := true }, kinds := [], alts := [], laidByText := true, laidKinds := [.data, .handle, .sentinel, .sentinel, .sentinel, .sentinel, .sentinel, .sentinel, .sentinel, .pinned], laidTests := true, laidLooks := .later }
def FnExactStandsUptoCardSaid : Prop := Claim7.holds Tryz.pinned (.plain (OpenSpec.upto fnExactStandsSpec)) fnExactStandsUptoCard
end Rows
end Go.Proofs.YtggcgnfockpgmaaGreatDoor

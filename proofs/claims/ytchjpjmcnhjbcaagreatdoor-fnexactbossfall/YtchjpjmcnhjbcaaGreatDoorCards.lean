/-
  DERIVED. GIVEN WITH THE SEED: THE CARDS: each row of YtchjpjmcnhjbcaaGreatDoorRows.lean that lists a variable, with what it lists TIED to the program's text (the seventh form; the later family's looks); each row that meets fmt, with fmt's text TOLD by the authors' own Lean function (tested against real Go, not proved from fmt's source: count such statements apart). THE CARD IS WHAT COUNTS. Prove the row's statement (the work); the ties are given (YtchjpjmcnhjbcaaGreatDoorTie.lean); close each card by the builder's one call (the guide's Derived/Test/ToyasCard.lean, 'card_holds'). Laid BY PROGRAM, IN A SANDBOX (cutbox-door.mjs). By AI agents, Wed Nov 11 2026. No macro, syntax, notation, axiom, sorry.
-/
import Derived.Test.YtchjpjmcnhjbcaaGreatDoorRows
import GoSem.ClaimSeven
namespace Go.Proofs.YtchjpjmcnhjbcaaGreatDoor
namespace Rows

/-- THE TIED CARD OF 'laws.FnExactBossFall'. -/
def fnExactBossFallCard : Claim7 := { stood := { row := fnExactBossFallRow, standIns := [], harness := (true, "9a4ff9b19e24a0fa66c4c3f7f7f0db54f429d033263f80b4e460a829170baffe"), looks := true }, kinds := [], alts := [], laidByText := true, laidKinds := [.data, .data, .data, .data, .handle, .sentinel, .sentinel, .sentinel, .sentinel, .sentinel, .sentinel, .sentinel, .pinned], laidTests := true, laidLooks := .later }
def FnExactBossFallCardSaid : Prop := Claim7.holds Tryz.pinned (.plain (OpenSpec.ofChange fnExactBossFallSpec)) fnExactBossFallCard

/-- THE SECOND FORM's CARD OF 'laws.FnExactBossFall'. -/
def fnExactBossFallUptoCard : Claim7 := { stood := { row := fnExactBossFallUptoRow, standIns := [], harness := (true, "9a4ff9b19e24a0fa66c4c3f7f7f0db54f429d033263f80b4e460a829170baffe"), looks := true }, kinds := [], alts := [], laidByText := true, laidKinds := [.data, .data, .data, .data, .handle, .sentinel, .sentinel, .sentinel, .sentinel, .sentinel, .sentinel, .sentinel, .pinned], laidTests := true, laidLooks := .later }
def FnExactBossFallUptoCardSaid : Prop := Claim7.holds Tryz.pinned (.plain (OpenSpec.upto fnExactBossFallSpec)) fnExactBossFallUptoCard
end Rows
end Go.Proofs.YtchjpjmcnhjbcaaGreatDoor

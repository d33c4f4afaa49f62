/-
  DERIVED. GIVEN WITH THE SEED: THE CARDS: each row of YtkhlekmicpmpkaaGreatDoorRows.lean that lists a variable, with what it lists TIED to the program's text (the seventh form; the later family's looks); each row that meets fmt, with fmt's text TOLD by the authors' own Lean function (tested against real Go, not proved from fmt's source: count such statements apart). THE CARD IS WHAT COUNTS. Prove the row's statement (the work); the ties are given (YtkhlekmicpmpkaaGreatDoorTie.lean); close each card by the builder's one call (the guide's Derived/Test/ToyasCard.lean, 'card_holds'). Laid BY PROGRAM, IN A SANDBOX (cutbox-door.mjs). By AI agents, Wed Nov 11 2026. No macro, syntax, notation, axiom, sorry.
-/
import Derived.Test.YtkhlekmicpmpkaaGreatDoorRows
import GoSem.ClaimSeven
namespace Go.Proofs.YtkhlekmicpmpkaaGreatDoor
namespace Rows

/-- THE TIED CARD OF 'laws.FnExactKeep'. -/
def fnExactKeepCard : Claim7 := { stood := { row := fnExactKeepRow, standIns := [], harness := (true, "eedc21a462fe263bdd9738cfc6a5b6206c1ec9b3fca6044809fa33a0eff907eb"), looks := false }, kinds := [], alts := [], laidByText := true, laidKinds := [.data, .data, .data], laidTests := true, laidLooks := .later }
def FnExactKeepCardSaid : Prop := Claim7.holds Tryz.pinned (.plain (OpenSpec.ofChange fnExactKeepSpec)) fnExactKeepCard

/-- THE SECOND FORM's CARD OF 'laws.FnExactKeep'. -/
def fnExactKeepUptoCard : Claim7 := { stood := { row := fnExactKeepUptoRow, standIns := [], harness := (true, "eedc21a462fe263bdd9738cfc6a5b6206c1ec9b3fca6044809fa33a0eff907eb"), looks := false }, kinds := [], alts := [], laidByText := true, laidKinds := [.data, .data, .data], laidTests := true, laidLooks := .later }
def FnExactKeepUptoCardSaid : Prop := Claim7.holds Tryz.pinned (.plain (OpenSpec.upto fnExactKeepSpec)) fnExactKeepUptoCard
end Rows
end Go.Proofs.YtkhlekmicpmpkaaGreatDoor

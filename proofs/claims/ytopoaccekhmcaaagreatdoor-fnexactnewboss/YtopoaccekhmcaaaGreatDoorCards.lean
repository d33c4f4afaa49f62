/-
  DERIVED. GIVEN WITH THE SEED: THE CARDS: each row of YtopoaccekhmcaaaGreatDoorRows.lean that lists a variable, with what it lists TIED to the program's text (the seventh form; the later family's looks); each row that meets fmt, with fmt's text TOLD by the authors' own Lean function (tested against real Go, not proved from fmt's source: count such statements apart). THE CARD IS WHAT COUNTS. Prove the row's statement (the work); the ties are given (YtopoaccekhmcaaaGreatDoorTie.lean); close each card by the builder's one call (the guide's Derived/Test/ToyasCard.lean, 'card_holds'). Laid BY PROGRAM, IN A SANDBOX (cutbox-door.mjs). By AI agents, Wed Nov 11 2026. No macro, syntax, notation, axiom, sorry.
-/
import Derived.Test.YtopoaccekhmcaaaGreatDoorRows
import GoSem.ClaimSeven
namespace Go.Proofs.YtopoaccekhmcaaaGreatDoor
namespace Rows

/-- THE TIED CARD OF 'laws.FnExactNewBoss'. -/
def fnExactNewBossCard : Claim7 := { stood := { row := fnExactNewBossRow, standIns := [], harness := (true, "c68935b1ed28ceebd0f1376880718dfeb5208c45e793e94785e88a2985cf050c"), looks := true }, kinds := [], alts := [], laidByText := true, laidKinds := [.data, .data, .data, .data, .pinned], laidTests := true, laidLooks := .later }
def FnExactNewBossCardSaid : Prop := Claim7.holds Tryz.pinned (.plain (OpenSpec.ofChange fnExactNewBossSpec)) fnExactNewBossCard

/-- THE SECOND FORM's CARD OF 'laws.FnExactNewBoss'. -/
def fnExactNewBossUptoCard : Claim7 := { stood := { row := fnExactNewBossUptoRow, standIns := [], harness := (true, "c68935b1ed28ceebd0f1376880718dfeb5208c45e793e94785e88a2985cf050c"), looks := true }, kinds := [], alts := [], laidByText := true, laidKinds := [.data, .data, .data, .data, .pinned], laidTests := true, laidLooks := .later }
def FnExactNewBossUptoCardSaid : Prop := Claim7.holds Tryz.pinned (.plain (OpenSpec.upto fnExactNewBossSpec)) fnExactNewBossUptoCard
end Rows
end Go.Proofs.YtopoaccekhmcaaaGreatDoor

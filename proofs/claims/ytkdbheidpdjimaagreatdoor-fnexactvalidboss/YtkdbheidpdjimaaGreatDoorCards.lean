/-
  DERIVED. GIVEN WITH THE SEED: THE CARDS: each row of YtkdbheidpdjimaaGreatDoorRows.lean that lists a variable, with what it lists TIED to the program's text (the seventh form; the later family's looks); each row that meets fmt, with fmt's text TOLD by the authors' own Lean function (tested against real Go, not proved from fmt's source: count such statements apart). THE CARD IS WHAT COUNTS. Prove the row's statement (the work); the ties are given (YtkdbheidpdjimaaGreatDoorTie.lean); close each card by the builder's one call (the guide's Derived/Test/ToyasCard.lean, 'card_holds'). Laid BY PROGRAM, IN A SANDBOX (cutbox-door.mjs). By AI agents, Wed Nov 11 2026. No macro, syntax, notation, axiom, sorry.
-/
import Derived.Test.YtkdbheidpdjimaaGreatDoorRows
import GoSem.ClaimSeven
namespace Go.Proofs.YtkdbheidpdjimaaGreatDoor
namespace Rows

/-- THE TIED CARD OF 'laws.FnExactValidBoss'. -/
def fnExactValidBossCard : Claim7 := { stood := { row := fnExactValidBossRow, standIns := [], harness := (true, "e2479a3cce5de8b091edd5db1073736ee53ba1817d90d6d77b2e86e9c1f4cec7"), looks := true }, kinds := [], alts := [], laidByText := true, laidKinds := [.data, .data, .data, .data, .handle, .sentinel, .sentinel, .sentinel, .sentinel, .sentinel, .sentinel, .sentinel, .pinned], laidTests := true, laidLooks := .later }
def FnExactValidBossCardSaid : Prop := Claim7.holds Tryz.pinned (.plain (OpenSpec.ofChange fnExactValidBossSpec)) fnExactValidBossCard

/-- THE SECOND FORM's CARD OF 'laws.FnExactValidBoss'. -/
def fnExactValidBossUptoCard : Claim7 := { stood := { row := fnExactValidBossUptoRow, standIns := [], harness := (true, "e2479a3cce5de8b091edd5db1073736ee53ba1817d90d6d77b2e86e9c1f4cec7"), looks := true }, kinds := [], alts := [], laidByText := true, laidKinds := [.data, .data, .data, .data, .handle, .sentinel, .sentinel, .sentinel, .sentinel, .sentinel, .sentinel, .sentinel, .pinned], laidTests := true, laidLooks := .later }
def FnExactValidBossUptoCardSaid : Prop := Claim7.holds Tryz.pinned (.plain (OpenSpec.upto fnExactValidBossSpec)) fnExactValidBossUptoCard
end Rows
end Go.Proofs.YtkdbheidpdjimaaGreatDoor

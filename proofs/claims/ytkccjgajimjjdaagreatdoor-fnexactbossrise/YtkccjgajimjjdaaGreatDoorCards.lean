/-
  DERIVED. GIVEN WITH THE SEED: THE CARDS: each row of YtkccjgajimjjdaaGreatDoorRows.lean that lists a variable, with what it lists TIED to the program's text (the seventh form; the later family's looks); each row that meets fmt, with fmt's text TOLD by the authors' own Lean function (tested against real Go, not proved from fmt's source: count such statements apart). THE CARD IS WHAT COUNTS. Prove the row's statement (the work); the ties are given (YtkccjgajimjjdaaGreatDoorTie.lean); close each card by the builder's one call (the guide's Derived/Test/ToyasCard.lean, 'card_holds'). Laid BY PROGRAM, IN A SANDBOX (cutbox-door.mjs). By AI agents, Wed Nov 11 2026. No macro, syntax, notation, axiom, sorry.
-/
import Derived.Test.YtkccjgajimjjdaaGreatDoorRows
import GoSem.ClaimSeven
namespace Go.Proofs.YtkccjgajimjjdaaGreatDoor
namespace Rows

/-- THE TIED CARD OF 'laws.FnExactBossRise'. -/
def fnExactBossRiseCard : Claim7 := { stood := { row := fnExactBossRiseRow, standIns := [], harness := (true, "b863ee86d4361283499c2418e3b5ca078b8716f26e240ef3f9eecaf00a5e751a"), looks := true }, kinds := [], alts := [], laidByText := true, laidKinds := [.data, .data, .data, .data, .handle, .sentinel, .sentinel, .sentinel, .sentinel, .sentinel, .sentinel, .sentinel, .pinned], laidTests := true, laidLooks := .later }
def FnExactBossRiseCardSaid : Prop := Claim7.holds Tryz.pinned (.plain (OpenSpec.ofChange fnExactBossRiseSpec)) fnExactBossRiseCard

/-- THE SECOND FORM's CARD OF 'laws.FnExactBossRise'. -/
def fnExactBossRiseUptoCard : Claim7 := { stood := { row := fnExactBossRiseUptoRow, standIns := [], harness := (true, "b863ee86d4361283499c2418e3b5ca078b8716f26e240ef3f9eecaf00a5e751a"), looks := true }, kinds := [], alts := [], laidByText := true, laidKinds := [.data, .data, .data, .data, .handle, .sentinel, .sentinel, .sentinel, .sentinel, .sentinel, .sentinel, .sentinel, .pinned], laidTests := true, laidLooks := .later }
def FnExactBossRiseUptoCardSaid : Prop := Claim7.holds Tryz.pinned (.plain (OpenSpec.upto fnExactBossRiseSpec)) fnExactBossRiseUptoCard
end Rows
end Go.Proofs.YtkccjgajimjjdaaGreatDoor

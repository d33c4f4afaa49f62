/-
  DERIVED. GIVEN WITH THE SEED: THE CARDS: each row of YtehddlceipbpeaaGreatDoorRows.lean that lists a variable, with what it lists TIED to the program's text (the seventh form; the later family's looks); each row that meets fmt, with fmt's text TOLD by the authors' own Lean function (tested against real Go, not proved from fmt's source: count such statements apart). THE CARD IS WHAT COUNTS. Prove the row's statement (the work); the ties are given (YtehddlceipbpeaaGreatDoorTie.lean); close each card by the builder's one call (the guide's Derived/Test/ToyasCard.lean, 'card_holds'). Laid BY PROGRAM, IN A SANDBOX (cutbox-door.mjs). By AI agents, Wed Nov 11 2026. No macro, syntax, notation, axiom, sorry.
-/
import Derived.Test.YtehddlceipbpeaaGreatDoorRows
import GoSem.ClaimSeven
namespace Go.Proofs.YtehddlceipbpeaaGreatDoor
namespace Rows

/-- THE TIED CARD OF 'laws.FnExactWant'. -/
def fnExactWantCard : Claim7 := { stood := { row := fnExactWantRow, standIns := [], harness := (true, "7be1f640c14dcdd5e33279f359bd8fa8424bcde91e0b62ddddbdad0c8061919b"), looks := true }, kinds := [], alts := [], laidByText := true, laidKinds := [.data, .data, .data, .data, .handle, .data, .sentinel, .sentinel, .sentinel, .sentinel, .sentinel, .sentinel, .sentinel, .pinned], laidTests := true, laidLooks := .later }
def FnExactWantCardSaid : Prop := Claim7.holds Tryz.pinned (.plain (OpenSpec.ofChange fnExactWantSpec)) fnExactWantCard

/-- THE SECOND FORM's CARD OF 'laws.FnExactWant'. -/
def fnExactWantUptoCard : Claim7 := { stood := { row := fnExactWantUptoRow, standIns := [], harness := (true, "7be1f640c14dcdd5e33279f359bd8fa8424bcde91e0b62ddddbdad0c8061919b"), looks := true }, kinds := [], alts := [], laidByText := true, laidKinds := [.data, .data, .data, .data, .handle, .data, .sentinel, .sentinel, .sentinel, .sentinel, .sentinel, .sentinel, .sentinel, .pinned], laidTests := true, laidLooks := .later }
def FnExactWantUptoCardSaid : Prop := Claim7.holds Tryz.pinned (.plain (OpenSpec.upto fnExactWantSpec)) fnExactWantUptoCard
end Rows
end Go.Proofs.YtehddlceipbpeaaGreatDoor

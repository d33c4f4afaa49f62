/-
  DERIVED. GIVEN WITH THE SEED: THE CARDS: each row of YtbgdfcmeheaiiaaGreatDoorRows.lean that lists a variable, with what it lists TIED to the program's text (the seventh form; the later family's looks); each row that meets fmt, with fmt's text TOLD by the authors' own Lean function (tested against real Go, not proved from fmt's source: count such statements apart). THE CARD IS WHAT COUNTS. Prove the row's statement (the work); the ties are given (YtbgdfcmeheaiiaaGreatDoorTie.lean); close each card by the builder's one call (the guide's Derived/Test/ToyasCard.lean, 'card_holds'). Laid BY PROGRAM, IN A SANDBOX (cutbox-door.mjs). By AI agents, Wed Nov 11 2026. No macro, syntax, notation, axiom, sorry.
-/
import Derived.Test.YtbgdfcmeheaiiaaGreatDoorRows
import GoSem.ClaimSeven
namespace Go.Proofs.YtbgdfcmeheaiiaaGreatDoor
namespace Rows

/-- THE TIED CARD OF 'laws.FnExactValidWorld'. -/
def fnExactValidWorldCard : Claim7 := { stood := { row := fnExactValidWorldRow, standIns := [], harness := (true, "7441066426db6fb801df591e086c4d2dab849a59dfba2fa199b0870445f2592e"), looks := true }, kinds := [], alts := [], laidByText := true, laidKinds := [.data, .data, .data, .data, .handle, .sentinel, .sentinel, .sentinel, .sentinel, .sentinel, .sentinel, .sentinel, .pinned], laidTests := true, laidLooks := .later }
def FnExactValidWorldCardSaid : Prop := Claim7.holds Tryz.pinned (.plain (OpenSpec.ofChange fnExactValidWorldSpec)) fnExactValidWorldCard

/-- THE SECOND FORM's CARD OF 'laws.FnExactValidWorld'. -/
def fnExactValidWorldUptoCard : Claim7 := { stood := { row := fnExactValidWorldUptoRow, standIns := [], harness := (true, "7441066426db6fb801df591e086c4d2dab849a59dfba2fa199b0870445f2592e"), looks := true }, kinds := [], alts := [], laidByText := true, laidKinds := [.data, .data, .data, .data, .handle, .sentinel, .sentinel, .sentinel, .sentinel, .sentinel, .sentinel, .sentinel, .pinned], laidTests := true, laidLooks := .later }
def FnExactValidWorldUptoCardSaid : Prop := Claim7.holds Tryz.pinned (.plain (OpenSpec.upto fnExactValidWorldSpec)) fnExactValidWorldUptoCard
end Rows
end Go.Proofs.YtbgdfcmeheaiiaaGreatDoor

/-
  DERIVED. GIVEN WITH THE SEED: THE CARDS: each row of YthjhakdpikdoeaaGreatDoorRows.lean that lists a variable, with what it lists TIED to the program's text (the seventh form; the later family's looks); each row that meets fmt, with fmt's text TOLD by the authors' own Lean function (tested against real Go, not proved from fmt's source: count such statements apart). THE CARD IS WHAT COUNTS. Prove the row's statement (the work); the ties are given (YthjhakdpikdoeaaGreatDoorTie.lean); close each card by the builder's one call (the guide's Derived/Test/ToyasCard.lean, 'card_holds'). Laid BY PROGRAM, IN A SANDBOX (cutbox-door.mjs). By AI agents, Wed Nov 11 2026. No macro, syntax, notation, axiom, sorry.
-/
import Derived.Test.YthjhakdpikdoeaaGreatDoorRows
import GoSem.ClaimSeven
namespace Go.Proofs.YthjhakdpikdoeaaGreatDoor
namespace Rows

/-- THE TIED CARD OF 'laws.FnWorker'. -/
def fnWorkerCard : Claim7 := { stood := { row := fnWorkerRow, standIns := [], harness := (true, "d7e8e74ae37ea890af0ef054e20c656cc3ea6188864f0b6742d472373764b0a8"), looks := false }, kinds := [], alts := [], laidByText := true, laidKinds := [.data, .data, .data, .data, .data, .pinned], laidTests := true, laidLooks := .later }
def FnWorkerCardSaid : Prop := Claim7.holds Tryz.pinned (.plain (OpenSpec.ofChange fnWorkerSpec)) fnWorkerCard

/-- THE SECOND FORM's CARD OF 'laws.FnWorker'. -/
def fnWorkerUptoCard : Claim7 := { stood := { row := fnWorkerUptoRow, standIns := [], harness := (true, "d7e8e74ae37ea890af0ef054e20c656cc3ea6188864f0b6742d472373764b0a8"), looks := false }, kinds := [], alts := [], laidByText := true, laidKinds := [.data, .data, .data, .data, .data, .pinned], laidTests := true, laidLooks := .later }
def FnWorkerUptoCardSaid : Prop := Claim7.holds Tryz.pinned (.plain (OpenSpec.upto fnWorkerSpec)) fnWorkerUptoCard
end Rows
end Go.Proofs.YthjhakdpikdoeaaGreatDoor

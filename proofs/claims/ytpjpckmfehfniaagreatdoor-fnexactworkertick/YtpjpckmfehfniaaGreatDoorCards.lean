/-
  DERIVED. GIVEN WITH THE SEED: THE CARDS: each row of YtpjpckmfehfniaaGreatDoorRows.lean that lists a variable, with what it lists TIED to the program's text (the seventh form; the later family's looks); each row that meets fmt, with fmt's text TOLD by the authors' own Lean function (tested against real Go, not proved from fmt's source: count such statements apart). THE CARD IS WHAT COUNTS. Prove the row's statement (the work); the ties are given (YtpjpckmfehfniaaGreatDoorTie.lean); close each card by the builder's one call (the guide's Derived/Test/ToyasCard.lean, 'card_holds'). Laid BY PROGRAM, IN A SANDBOX (cutbox-door.mjs). By AI agents, Wed Nov 11 2026. No macro, syntax, notation, axiom, sorry.
-/
import Derived.Test.YtpjpckmfehfniaaGreatDoorRows
import GoSem.ClaimSeven
namespace Go.Proofs.YtpjpckmfehfniaaGreatDoor
namespace Rows

/-- THE TIED CARD OF 'laws.FnExactGo'. -/
def fnExactGoCard : Claim7 := { stood := { row := fnExactGoRow, standIns := [], harness := (true, "a39c41abea8aed7ec34959671b65998b367a2992b7b1214a6fa3337abc9acb4a"), looks := false }, kinds := [], alts := [], laidByText := true, laidKinds := [.data, .data, .data, .data, .data, .pinned], laidTests := true, laidLooks := .later }
def FnExactGoCardSaid : Prop := Claim7.holds Tryz.pinned (.plain (OpenSpec.ofChange fnExactGoSpec)) fnExactGoCard

/-- THE TIED CARD OF 'laws.FnExactWorkerTick'. -/
def fnExactWorkerTickCard : Claim7 := { stood := { row := fnExactWorkerTickRow, standIns := [], harness := (true, "a39c41abea8aed7ec34959671b65998b367a2992b7b1214a6fa3337abc9acb4a"), looks := false }, kinds := [], alts := [], laidByText := true, laidKinds := [.data, .data, .data, .data, .data, .pinned], laidTests := true, laidLooks := .later }
def FnExactWorkerTickCardSaid : Prop := Claim7.holds Tryz.pinned (.plain (OpenSpec.ofChange fnExactWorkerTickSpec)) fnExactWorkerTickCard

/-- THE TIED CARD OF 'laws.FnWorker'. -/
def fnWorkerCard : Claim7 := { stood := { row := fnWorkerRow, standIns := [], harness := (true, "a39c41abea8aed7ec34959671b65998b367a2992b7b1214a6fa3337abc9acb4a"), looks := false }, kinds := [], alts := [], laidByText := true, laidKinds := [.data, .data, .data, .data, .data, .pinned], laidTests := true, laidLooks := .later }
def FnWorkerCardSaid : Prop := Claim7.holds Tryz.pinned (.plain (OpenSpec.ofChange fnWorkerSpec)) fnWorkerCard

/-- THE SECOND FORM's CARD OF 'laws.FnExactGo'. -/
def fnExactGoUptoCard : Claim7 := { stood := { row := fnExactGoUptoRow, standIns := [], harness := (true, "a39c41abea8aed7ec34959671b65998b367a2992b7b1214a6fa3337abc9acb4a"), looks := false }, kinds := [], alts := [], laidByText := true, laidKinds := [.data, .data, .data, .data, .data, .pinned], laidTests := true, laidLooks := .later }
def FnExactGoUptoCardSaid : Prop := Claim7.holds Tryz.pinned (.plain (OpenSpec.upto fnExactGoSpec)) fnExactGoUptoCard

/-- THE SECOND FORM's CARD OF 'laws.FnExactWorkerTick'. -/
def fnExactWorkerTickUptoCard : Claim7 := { stood := { row := fnExactWorkerTickUptoRow, standIns := [], harness := (true, "a39c41abea8aed7ec34959671b65998b367a2992b7b1214a6fa3337abc9acb4a"), looks := false }, kinds := [], alts := [], laidByText := true, laidKinds := [.data, .data, .data, .data, .data, .pinned], laidTests := true, laidLooks := .later }
def FnExactWorkerTickUptoCardSaid : Prop := Claim7.holds Tryz.pinned (.plain (OpenSpec.upto fnExactWorkerTickSpec)) fnExactWorkerTickUptoCard

/-- THE SECOND FORM's CARD OF 'laws.FnWorker'. -/
def fnWorkerUptoCard : Claim7 := { stood := { row := fnWorkerUptoRow, standIns := [], harness := (true, "a39c41abea8aed7ec34959671b65998b367a2992b7b1214a6fa3337abc9acb4a"), looks := false }, kinds := [], alts := [], laidByText := true, laidKinds := [.data, .data, .data, .data, .data, .pinned], laidTests := true, laidLooks := .later }
def FnWorkerUptoCardSaid : Prop := Claim7.holds Tryz.pinned (.plain (OpenSpec.upto fnWorkerSpec)) fnWorkerUptoCard
end Rows
end Go.Proofs.YtpjpckmfehfniaaGreatDoor

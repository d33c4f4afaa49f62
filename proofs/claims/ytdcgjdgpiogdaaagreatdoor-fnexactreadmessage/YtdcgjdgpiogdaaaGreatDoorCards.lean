/-
  DERIVED. GIVEN WITH THE SEED: THE CARDS: each row of YtdcgjdgpiogdaaaGreatDoorRows.lean that lists a variable, with what it lists TIED to the program's text (the seventh form; the later family's looks); each row that meets fmt, with fmt's text TOLD by the authors' own Lean function (tested against real Go, not proved from fmt's source: count such statements apart). THE CARD IS WHAT COUNTS. Prove the row's statement (the work); the ties are given (YtdcgjdgpiogdaaaGreatDoorTie.lean); close each card by the builder's one call (the guide's Derived/Test/ToyasCard.lean, 'card_holds'). Laid BY PROGRAM, IN A SANDBOX (cutbox-door.mjs). By AI agents, Wed Nov 11 2026. No macro, syntax, notation, axiom, sorry.
-/
import Derived.Test.YtdcgjdgpiogdaaaGreatDoorRows
import GoSem.ClaimSeven
namespace Go.Proofs.YtdcgjdgpiogdaaaGreatDoor
namespace Rows

/-- THE TIED CARD OF 'laws.FnExactValidWorker'. -/
def fnExactValidWorkerCard : Claim7 := { stood := { row := fnExactValidWorkerRow, standIns := [], harness := (true, "116fd5b19a5dd1a5a91e018ac257f91b7a0a5f30ae0aeec8c8a99ba27be5c0df"), looks := false }, kinds := [], alts := [], laidByText := true, laidKinds := [.data, .data, .data, .data, .pinned], laidTests := true, laidLooks := .later }
def FnExactValidWorkerCardSaid : Prop := Claim7.holds Tryz.pinned (.plain (OpenSpec.ofChange fnExactValidWorkerSpec)) fnExactValidWorkerCard

/-- THE TIED CARD OF 'laws.FnExactFormMessage'. -/
def fnExactFormMessageCard : Claim7 := { stood := { row := fnExactFormMessageRow, standIns := [], harness := (true, "116fd5b19a5dd1a5a91e018ac257f91b7a0a5f30ae0aeec8c8a99ba27be5c0df"), looks := false }, kinds := [], alts := [], laidByText := true, laidKinds := [.data, .data, .data, .data, .pinned], laidTests := true, laidLooks := .later }
def FnExactFormMessageCardSaid : Prop := Claim7.holds Tryz.pinned (.plain (OpenSpec.ofChange fnExactFormMessageSpec)) fnExactFormMessageCard

/-- THE TIED CARD OF 'laws.FnExactReadMessage'. -/
def fnExactReadMessageCard : Claim7 := { stood := { row := fnExactReadMessageRow, standIns := [], harness := (true, "116fd5b19a5dd1a5a91e018ac257f91b7a0a5f30ae0aeec8c8a99ba27be5c0df"), looks := false }, kinds := [], alts := [], laidByText := true, laidKinds := [.data, .data, .data, .data, .pinned], laidTests := true, laidLooks := .later }
def FnExactReadMessageCardSaid : Prop := Claim7.holds Tryz.pinned (.plain (OpenSpec.ofChange fnExactReadMessageSpec)) fnExactReadMessageCard

/-- THE TIED CARD OF 'laws.FnExactWorkerTake'. -/
def fnExactWorkerTakeCard : Claim7 := { stood := { row := fnExactWorkerTakeRow, standIns := [], harness := (true, "116fd5b19a5dd1a5a91e018ac257f91b7a0a5f30ae0aeec8c8a99ba27be5c0df"), looks := false }, kinds := [], alts := [], laidByText := true, laidKinds := [.data, .data, .data, .data, .pinned], laidTests := true, laidLooks := .later }
def FnExactWorkerTakeCardSaid : Prop := Claim7.holds Tryz.pinned (.plain (OpenSpec.ofChange fnExactWorkerTakeSpec)) fnExactWorkerTakeCard

/-- THE SECOND FORM's CARD OF 'laws.FnExactValidWorker'. -/
def fnExactValidWorkerUptoCard : Claim7 := { stood := { row := fnExactValidWorkerUptoRow, standIns := [], harness := (true, "116fd5b19a5dd1a5a91e018ac257f91b7a0a5f30ae0aeec8c8a99ba27be5c0df"), looks := false }, kinds := [], alts := [], laidByText := true, laidKinds := [.data, .data, .data, .data, .pinned], laidTests := true, laidLooks := .later }
def FnExactValidWorkerUptoCardSaid : Prop := Claim7.holds Tryz.pinned (.plain (OpenSpec.upto fnExactValidWorkerSpec)) fnExactValidWorkerUptoCard

/-- THE SECOND FORM's CARD OF 'laws.FnExactFormMessage'. -/
def fnExactFormMessageUptoCard : Claim7 := { stood := { row := fnExactFormMessageUptoRow, standIns := [], harness := (true, "116fd5b19a5dd1a5a91e018ac257f91b7a0a5f30ae0aeec8c8a99ba27be5c0df"), looks := false }, kinds := [], alts := [], laidByText := true, laidKinds := [.data, .data, .data, .data, .pinned], laidTests := true, laidLooks := .later }
def FnExactFormMessageUptoCardSaid : Prop := Claim7.holds Tryz.pinned (.plain (OpenSpec.upto fnExactFormMessageSpec)) fnExactFormMessageUptoCard

/-- THE SECOND FORM's CARD OF 'laws.FnExactReadMessage'. -/
def fnExactReadMessageUptoCard : Claim7 := { stood := { row := fnExactReadMessageUptoRow, standIns := [], harness := (true, "116fd5b19a5dd1a5a91e018ac257f91b7a0a5f30ae0aeec8c8a99ba27be5c0df"), looks := false }, kinds := [], alts := [], laidByText := true, laidKinds := [.data, .data, .data, .data, .pinned], laidTests := true, laidLooks := .later }
def FnExactReadMessageUptoCardSaid : Prop := Claim7.holds Tryz.pinned (.plain (OpenSpec.upto fnExactReadMessageSpec)) fnExactReadMessageUptoCard

/-- THE SECOND FORM's CARD OF 'laws.FnExactWorkerTake'. -/
def fnExactWorkerTakeUptoCard : Claim7 := { stood := { row := fnExactWorkerTakeUptoRow, standIns := [], harness := (true, "116fd5b19a5dd1a5a91e018ac257f91b7a0a5f30ae0aeec8c8a99ba27be5c0df"), looks := false }, kinds := [], alts := [], laidByText := true, laidKinds := [.data, .data, .data, .data, .pinned], laidTests := true, laidLooks := .later }
def FnExactWorkerTakeUptoCardSaid : Prop := Claim7.holds Tryz.pinned (.plain (OpenSpec.upto fnExactWorkerTakeSpec)) fnExactWorkerTakeUptoCard
end Rows
end Go.Proofs.YtdcgjdgpiogdaaaGreatDoor

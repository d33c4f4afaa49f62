/-
  DERIVED. GIVEN WITH THE SEED: THE CARDS: each row of YthfmmimmfcnhmaaGreatDoorRows.lean that lists a variable, with what it lists TIED to the program's text (the seventh form; the later family's looks); each row that meets fmt, with fmt's text TOLD by the authors' own Lean function (tested against real Go, not proved from fmt's source: count such statements apart). THE CARD IS WHAT COUNTS. Prove the row's statement (the work); the ties are given (YthfmmimmfcnhmaaGreatDoorTie.lean); close each card by the builder's one call (the guide's Derived/Test/ToyasCard.lean, 'card_holds'). Laid BY PROGRAM, IN A SANDBOX (cutbox-door.mjs). By AI agents, Wed Nov 11 2026. No macro, syntax, notation, axiom, sorry.
-/
import Derived.Test.YthfmmimmfcnhmaaGreatDoorRows
import GoSem.ClaimSeven
namespace Go.Proofs.YthfmmimmfcnhmaaGreatDoor
namespace Rows

/-- THE TIED CARD OF 'laws.FnExactDeeds'. -/
def fnExactDeedsCard : Claim7 := { stood := { row := fnExactDeedsRow, standIns := [], harness := (true, "d2251323db06f89bf3221315b2cbc6c843de29081190b0521e2068984f548ef6"), looks := true }, kinds := [], alts := [], laidByText := true, laidKinds := [.data, .data, .data, .data, .handle, .data, .sentinel, .sentinel, .sentinel, .sentinel, .sentinel, .sentinel, .sentinel, .pinned], laidTests := true, laidLooks := .later }
def FnExactDeedsCardSaid : Prop := Claim7.holds Tryz.pinned (.plain (OpenSpec.ofChange fnExactDeedsSpec)) fnExactDeedsCard

/-- THE SECOND FORM's CARD OF 'laws.FnExactDeeds'. -/
def fnExactDeedsUptoCard : Claim7 := { stood := { row := fnExactDeedsUptoRow, standIns := [], harness := (true, "d2251323db06f89bf3221315b2cbc6c843de29081190b0521e2068984f548ef6"), looks := true }, kinds := [], alts := [], laidByText := true, laidKinds := [.data, .data, .data, .data, .handle, .data, .sentinel, .sentinel, .sentinel, .sentinel, .sentinel, .sentinel, .sentinel, .pinned], laidTests := true, laidLooks := .later }
def FnExactDeedsUptoCardSaid : Prop := Claim7.holds Tryz.pinned (.plain (OpenSpec.upto fnExactDeedsSpec)) fnExactDeedsUptoCard
end Rows
end Go.Proofs.YthfmmimmfcnhmaaGreatDoor

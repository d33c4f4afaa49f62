/-
  DERIVED. GIVEN WITH THE SEED: THE CARDS: each row of YtboojefodbjbcaaGreatDoorRows.lean that lists a variable, with what it lists TIED to the program's text (the seventh form; the later family's looks); each row that meets fmt, with fmt's text TOLD by the authors' own Lean function (tested against real Go, not proved from fmt's source: count such statements apart). THE CARD IS WHAT COUNTS. Prove the row's statement (the work); the ties are given (YtboojefodbjbcaaGreatDoorTie.lean); close each card by the builder's one call (the guide's Derived/Test/ToyasCard.lean, 'card_holds'). Laid BY PROGRAM, IN A SANDBOX (cutbox-door.mjs). By AI agents, Wed Nov 11 2026. No macro, syntax, notation, axiom, sorry.
-/
import Derived.Test.YtboojefodbjbcaaGreatDoorRows
import GoSem.ClaimSeven
namespace Go.Proofs.YtboojefodbjbcaaGreatDoor
namespace Rows

/-- THE TIED CARD OF 'laws.FnExactRecall'. -/
def fnExactRecallCard : Claim7 := { stood := { row := fnExactRecallRow, standIns := [], harness := (true, "b3cd097948b655b70201da8c1666338243ac0651676f0af73f0a0b99981a2bb4"), looks := true }, kinds := [], alts := [], laidByText := true, laidKinds := [.data, .data, .data, .data, .handle, .sentinel, .sentinel, .sentinel, .sentinel, .sentinel, .sentinel, .sentinel, .pinned], laidTests := true, laidLooks := .later }
def FnExactRecallCardSaid : Prop := Claim7.holds Tryz.pinned (.plain (OpenSpec.ofChange fnExactRecallSpec)) fnExactRecallCard

/-- THE SECOND FORM's CARD OF 'laws.FnExactRecall'. -/
def fnExactRecallUptoCard : Claim7 := { stood := { row := fnExactRecallUptoRow, standIns := [], harness := (true, "b3cd097948b655b70201da8c1666338243ac0651676f0af73f0a0b99981a2bb4"), looks := true }, kinds := [], alts := [], laidByText := true, laidKinds := [.data, .data, .data, .data, .handle, .sentinel, .sentinel, .sentinel, .sentinel, .sentinel, .sentinel, .sentinel, .pinned], laidTests := true, laidLooks := .later }
def FnExactRecallUptoCardSaid : Prop := Claim7.holds Tryz.pinned (.plain (OpenSpec.upto fnExactRecallSpec)) fnExactRecallUptoCard
end Rows
end Go.Proofs.YtboojefodbjbcaaGreatDoor

/-
  DERIVED. GIVEN WITH THE SEED: THE CARDS: each row of YtdgneicbmalnpaaGreatDoorRows.lean that lists a variable, with what it lists TIED to the program's text (the seventh form; the later family's looks); each row that meets fmt, with fmt's text TOLD by the authors' own Lean function (tested against real Go, not proved from fmt's source: count such statements apart). THE CARD IS WHAT COUNTS. Prove the row's statement (the work); the ties are given (YtdgneicbmalnpaaGreatDoorTie.lean); close each card by the builder's one call (the guide's Derived/Test/ToyasCard.lean, 'card_holds'). Laid BY PROGRAM, IN A SANDBOX (cutbox-door.mjs). By AI agents, Wed Nov 11 2026. No macro, syntax, notation, axiom, sorry.
-/
import Derived.Test.YtdgneicbmalnpaaGreatDoorRows
import GoSem.ClaimSeven
namespace Go.Proofs.YtdgneicbmalnpaaGreatDoor
namespace Rows

/-- THE TIED CARD OF 'laws.FnExactBossAsk'. -/
def fnExactBossAskCard : Claim7 := { stood := { row := fnExactBossAskRow, standIns := [], harness := (true, "483e50cf42ea1de8b52f9df723747f309d10596841e019a16fb1dabd33a727dc"), looks := true }, kinds := [], alts := [], laidByText := true, laidKinds := [.data, .data, .data, .data, .handle, .sentinel, .sentinel, .sentinel, .sentinel, .sentinel, .sentinel, .sentinel, .pinned], laidTests := true, laidLooks := .later }
def FnExactBossAskCardSaid : Prop := Claim7.holds Tryz.pinned (.plain (OpenSpec.ofChange fnExactBossAskSpec)) fnExactBossAskCard

/-- THE SECOND FORM's CARD OF 'laws.FnExactBossAsk'. -/
def fnExactBossAskUptoCard : Claim7 := { stood := { row := fnExactBossAskUptoRow, standIns := [], harness := (true, "483e50cf42ea1de8b52f9df723747f309d10596841e019a16fb1dabd33a727dc"), looks := true }, kinds := [], alts := [], laidByText := true, laidKinds := [.data, .data, .data, .data, .handle, .sentinel, .sentinel, .sentinel, .sentinel, .sentinel, .sentinel, .sentinel, .pinned], laidTests := true, laidLooks := .later }
def FnExactBossAskUptoCardSaid : Prop := Claim7.holds Tryz.pinned (.plain (OpenSpec.upto fnExactBossAskSpec)) fnExactBossAskUptoCard
end Rows
end Go.Proofs.YtdgneicbmalnpaaGreatDoor

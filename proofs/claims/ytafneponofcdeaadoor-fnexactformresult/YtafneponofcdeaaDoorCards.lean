/-
  DERIVED. GIVEN WITH THE SEED: THE CARDS: each row of YtafneponofcdeaaDoorRows.lean that lists a variable, with what it lists TIED to the program's text (the seventh form; the later family's looks); each row that meets fmt, with fmt's text TOLD by the authors' own Lean function (tested against real Go, not proved from fmt's source: count such statements apart). THE CARD IS WHAT COUNTS. Prove the row's statement (the work); the ties are given (YtafneponofcdeaaDoorTie.lean); close each card by the builder's one call (the guide's Derived/Test/ToyasCard.lean, 'card_holds'). Laid BY PROGRAM, IN A SANDBOX (cutbox-door.mjs). By AI agents, Wed Nov 11 2026. No macro, syntax, notation, axiom, sorry.
-/
import Derived.Test.YtafneponofcdeaaDoorRows
import GoSem.ClaimSeven
namespace Go.Proofs.YtafneponofcdeaaDoor
namespace Rows

/-- THE TIED CARD OF 'laws.FnExactFormResult'. -/
def fnExactFormResultCard : Claim7 := { stood := { row := fnExactFormResultRow, standIns := [], harness := (true, "ab9cd145c72f80af31fd17bdd076130165d876a0f7aa8a89c04f55ab5e7396c3"), looks := false }, kinds := [], alts := [], laidByText := true, laidKinds := [.data, .data, .data], laidTests := true, laidLooks := .later }
def FnExactFormResultCardSaid : Prop := Claim7.holds Tryd.pinned (.plain (OpenSpec.ofChange fnExactFormResultSpec)) fnExactFormResultCard

/-- THE SECOND FORM's CARD OF 'laws.FnExactFormResult'. -/
def fnExactFormResultUptoCard : Claim7 := { stood := { row := fnExactFormResultUptoRow, standIns := [], harness := (true, "ab9cd145c72f80af31fd17bdd076130165d876a0f7aa8a89c04f55ab5e7396c3"), looks := false }, kinds := [], alts := [], laidByText := true, laidKinds := [.data, .data, .data], laidTests := true, laidLooks := .later }
def FnExactFormResultUptoCardSaid : Prop := Claim7.holds Tryd.pinned (.plain (OpenSpec.upto fnExactFormResultSpec)) fnExactFormResultUptoCard
end Rows
end Go.Proofs.YtafneponofcdeaaDoor

/-
  DERIVED. GIVEN WITH THE SEED: THE CARDS: each row of YtignmnbgedmfbaaDoorRows.lean that lists a variable, with what it lists TIED to the program's text (the seventh form; the later family's looks); each row that meets fmt, with fmt's text TOLD by the authors' own Lean function (tested against real Go, not proved from fmt's source: count such statements apart). THE CARD IS WHAT COUNTS. Prove the row's statement (the work); the ties are given (YtignmnbgedmfbaaDoorTie.lean); close each card by the builder's one call (the guide's Derived/Test/ToyasCard.lean, 'card_holds'). Laid BY PROGRAM, IN A SANDBOX (cutbox-door.mjs). By AI agents, Wed Nov 11 2026. No macro, syntax, notation, axiom, sorry.
-/
import Derived.Test.YtignmnbgedmfbaaDoorRows
import GoSem.ClaimSeven
namespace Go.Proofs.YtignmnbgedmfbaaDoor
namespace Rows

/-- THE TIED CARD OF 'laws.FnExactFormTool'. -/
def fnExactFormToolCard : Claim7 := { stood := { row := fnExactFormToolRow, standIns := [], harness := (true, "24462039945359de3d3bb4ea2404a6b0fb337d48fc63801fdafba1ccbf482052"), looks := false }, kinds := [], alts := [], laidByText := true, laidKinds := [.data, .data, .data, .data], laidTests := true, laidLooks := .later }
def FnExactFormToolCardSaid : Prop := Claim7.holds Tryd.pinned (.plain (OpenSpec.ofChange fnExactFormToolSpec)) fnExactFormToolCard

/-- THE TIED CARD OF 'laws.FnExactReadTool'. -/
def fnExactReadToolCard : Claim7 := { stood := { row := fnExactReadToolRow, standIns := [], harness := (true, "24462039945359de3d3bb4ea2404a6b0fb337d48fc63801fdafba1ccbf482052"), looks := false }, kinds := [], alts := [], laidByText := true, laidKinds := [.data, .data, .pinned], laidTests := true, laidLooks := .later }
def FnExactReadToolCardSaid : Prop := Claim7.holds Tryd.pinned (.plain (OpenSpec.ofChange fnExactReadToolSpec)) fnExactReadToolCard

/-- THE TIED CARD OF 'laws.FnNext'. -/
def fnNextCard : Claim7 := { stood := { row := fnNextRow, standIns := [], harness := (true, "24462039945359de3d3bb4ea2404a6b0fb337d48fc63801fdafba1ccbf482052"), looks := false }, kinds := [], alts := [], laidByText := true, laidKinds := [.data, .data, .data, .data, .data, .pinned], laidTests := true, laidLooks := .later }
def FnNextCardSaid : Prop := Claim7.holds Tryd.pinned (.plain (OpenSpec.ofChange fnNextSpec)) fnNextCard

/-- THE TIED CARD OF 'laws.FnExactNext'. -/
def fnExactNextCard : Claim7 := { stood := { row := fnExactNextRow, standIns := [], harness := (true, "24462039945359de3d3bb4ea2404a6b0fb337d48fc63801fdafba1ccbf482052"), looks := false }, kinds := [], alts := [], laidByText := true, laidKinds := [.data, .data, .data, .data, .data, .pinned], laidTests := true, laidLooks := .later }
def FnExactNextCardSaid : Prop := Claim7.holds Tryd.pinned (.plain (OpenSpec.ofChange fnExactNextSpec)) fnExactNextCard

/-- THE SECOND FORM's CARD OF 'laws.FnExactFormTool'. -/
def fnExactFormToolUptoCard : Claim7 := { stood := { row := fnExactFormToolUptoRow, standIns := [], harness := (true, "24462039945359de3d3bb4ea2404a6b0fb337d48fc63801fdafba1ccbf482052"), looks := false }, kinds := [], alts := [], laidByText := true, laidKinds := [.data, .data, .data, .data], laidTests := true, laidLooks := .later }
def FnExactFormToolUptoCardSaid : Prop := Claim7.holds Tryd.pinned (.plain (OpenSpec.upto fnExactFormToolSpec)) fnExactFormToolUptoCard

/-- THE SECOND FORM's CARD OF 'laws.FnExactReadTool'. -/
def fnExactReadToolUptoCard : Claim7 := { stood := { row := fnExactReadToolUptoRow, standIns := [], harness := (true, "24462039945359de3d3bb4ea2404a6b0fb337d48fc63801fdafba1ccbf482052"), looks := false }, kinds := [], alts := [], laidByText := true, laidKinds := [.data, .data, .pinned], laidTests := true, laidLooks := .later }
def FnExactReadToolUptoCardSaid : Prop := Claim7.holds Tryd.pinned (.plain (OpenSpec.upto fnExactReadToolSpec)) fnExactReadToolUptoCard

/-- THE SECOND FORM's CARD OF 'laws.FnNext'. -/
def fnNextUptoCard : Claim7 := { stood := { row := fnNextUptoRow, standIns := [], harness := (true, "24462039945359de3d3bb4ea2404a6b0fb337d48fc63801fdafba1ccbf482052"), looks := false }, kinds := [], alts := [], laidByText := true, laidKinds := [.data, .data, .data, .data, .data, .pinned], laidTests := true, laidLooks := .later }
def FnNextUptoCardSaid : Prop := Claim7.holds Tryd.pinned (.plain (OpenSpec.upto fnNextSpec)) fnNextUptoCard

/-- THE SECOND FORM's CARD OF 'laws.FnExactNext'. -/
def fnExactNextUptoCard : Claim7 := { stood := { row := fnExactNextUptoRow, standIns := [], harness := (true, "24462039945359de3d3bb4ea2404a6b0fb337d48fc63801fdafba1ccbf482052"), looks := false }, kinds := [], alts := [], laidByText := true, laidKinds := [.data, .data, .data, .data, .data, .pinned], laidTests := true, laidLooks := .later }
def FnExactNextUptoCardSaid : Prop := Claim7.holds Tryd.pinned (.plain (OpenSpec.upto fnExactNextSpec)) fnExactNextUptoCard
end Rows
end Go.Proofs.YtignmnbgedmfbaaDoor

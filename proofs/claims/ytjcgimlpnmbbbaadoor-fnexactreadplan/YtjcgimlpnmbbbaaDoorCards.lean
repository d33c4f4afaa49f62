/-
  DERIVED. GIVEN WITH THE SEED: THE CARDS: each row of YtjcgimlpnmbbbaaDoorRows.lean that lists a variable, with what it lists TIED to the program's text (the seventh form; the later family's looks); each row that meets fmt, with fmt's text TOLD by the authors' own Lean function (tested against real Go, not proved from fmt's source: count such statements apart). THE CARD IS WHAT COUNTS. Prove the row's statement (the work); the ties are given (YtjcgimlpnmbbbaaDoorTie.lean); close each card by the builder's one call (the guide's Derived/Test/ToyasCard.lean, 'card_holds'). Laid BY PROGRAM, IN A SANDBOX (cutbox-door.mjs). By AI agents, Wed Nov 11 2026. No macro, syntax, notation, axiom, sorry.
-/
import Derived.Test.YtjcgimlpnmbbbaaDoorRows
import GoSem.ClaimSeven
namespace Go.Proofs.YtjcgimlpnmbbbaaDoor
namespace Rows

/-- THE TIED CARD OF 'laws.FnExactFormPlan'. -/
def fnExactFormPlanCard : Claim7 := { stood := { row := fnExactFormPlanRow, standIns := [], harness := (true, "28dab4cd56785d46bb8940b981e39ce41403d722ae1f84432d42cc6ef0347f9e"), looks := true }, kinds := [], alts := [], laidByText := true, laidKinds := [.handle, .sentinel, .sentinel, .sentinel], laidTests := true, laidLooks := .later }
def FnExactFormPlanCardSaid : Prop := Claim7.holds Tryd.pinned (.plain (OpenSpec.ofChange fnExactFormPlanSpec)) fnExactFormPlanCard

/-- THE TIED CARD OF 'laws.FnExactReadPlan'. -/
def fnExactReadPlanCard : Claim7 := { stood := { row := fnExactReadPlanRow, standIns := [], harness := (true, "28dab4cd56785d46bb8940b981e39ce41403d722ae1f84432d42cc6ef0347f9e"), looks := true }, kinds := [], alts := [], laidByText := true, laidKinds := [.data, .handle, .sentinel, .sentinel, .sentinel, .sentinel, .sentinel, .sentinel, .pinned], laidTests := true, laidLooks := .later }
def FnExactReadPlanCardSaid : Prop := Claim7.holds Tryd.pinned (.plain (OpenSpec.ofChange fnExactReadPlanSpec)) fnExactReadPlanCard

/-- THE SECOND FORM's CARD OF 'laws.FnExactFormPlan'. -/
def fnExactFormPlanUptoCard : Claim7 := { stood := { row := fnExactFormPlanUptoRow, standIns := [], harness := (true, "28dab4cd56785d46bb8940b981e39ce41403d722ae1f84432d42cc6ef0347f9e"), looks := true }, kinds := [], alts := [], laidByText := true, laidKinds := [.handle, .sentinel, .sentinel, .sentinel], laidTests := true, laidLooks := .later }
def FnExactFormPlanUptoCardSaid : Prop := Claim7.holds Tryd.pinned (.plain (OpenSpec.upto fnExactFormPlanSpec)) fnExactFormPlanUptoCard

/-- THE SECOND FORM's CARD OF 'laws.FnExactReadPlan'. -/
def fnExactReadPlanUptoCard : Claim7 := { stood := { row := fnExactReadPlanUptoRow, standIns := [], harness := (true, "28dab4cd56785d46bb8940b981e39ce41403d722ae1f84432d42cc6ef0347f9e"), looks := true }, kinds := [], alts := [], laidByText := true, laidKinds := [.data, .handle, .sentinel, .sentinel, .sentinel, .sentinel, .sentinel, .sentinel, .pinned], laidTests := true, laidLooks := .later }
def FnExactReadPlanUptoCardSaid : Prop := Claim7.holds Tryd.pinned (.plain (OpenSpec.upto fnExactReadPlanSpec)) fnExactReadPlanUptoCard
end Rows
end Go.Proofs.YtjcgimlpnmbbbaaDoor

import Derived.Test.YtbgdfcmeheaiiaaGreatDoorRows
import Derived.Test.YtbgdfcmeheaiiaaGreatDoorProg
import Derived.ProofKit
import Derived.Deep.DeepHandedRow
set_option linter.unusedVariables false
set_option maxHeartbeats 8000000
set_option maxRecDepth 100000
namespace Go.Proofs.YtbgdfcmeheaiiaaGreatDoor.fnExactValidWorld
open Proofs.Tryz
theorem jf:joinedFacts Tryz.pinned.checked.prog 3 Tryz.f3 (OpenSpec.ofChange Rows.fnExactValidWorldSpec).bare Rows.fnExactValidWorldRow=true:=by
 unfold joinedFacts
 iterate 31 refine(Bool.and_eq_true _ _).mpr ⟨?_,by as_aux_lemma=>kernel_rfl⟩
 as_aux_lemma=>kernel_rfl

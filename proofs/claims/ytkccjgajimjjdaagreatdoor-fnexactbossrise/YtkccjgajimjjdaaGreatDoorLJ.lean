import Derived.Test.YtkccjgajimjjdaaGreatDoorRows
import Derived.Test.YtkccjgajimjjdaaGreatDoorProg
import Derived.ProofKit
import Derived.Deep.DeepHandedRow
set_option linter.unusedVariables false
set_option maxHeartbeats 8000000
set_option maxRecDepth 100000
namespace Go.Proofs.YtkccjgajimjjdaaGreatDoor.fnExactBossRise
open Proofs.Tryz
theorem jf:joinedFacts Tryz.pinned.checked.prog 3 Tryz.f3 (OpenSpec.ofChange Rows.fnExactBossRiseSpec).bare Rows.fnExactBossRiseRow=true:=by
 unfold joinedFacts
 iterate 31 refine(Bool.and_eq_true _ _).mpr ⟨?_,by as_aux_lemma=>kernel_rfl⟩
 as_aux_lemma=>kernel_rfl

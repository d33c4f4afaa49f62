import Derived.Test.YtkdbheidpdjimaaGreatDoorRows
import Derived.Test.YtkdbheidpdjimaaGreatDoorProg
import Derived.ProofKit
import Derived.Deep.DeepHandedRow
set_option linter.unusedVariables false
set_option maxHeartbeats 8000000
set_option maxRecDepth 100000
namespace Go.Proofs.YtkdbheidpdjimaaGreatDoor.fnExactValidBoss
open Proofs.Tryz
theorem jf:joinedFacts Tryz.pinned.checked.prog 3 Tryz.f3 (OpenSpec.ofChange Rows.fnExactValidBossSpec).bare Rows.fnExactValidBossRow=true:=by
 unfold joinedFacts
 iterate 31 refine (Bool.and_eq_true _ _).mpr ⟨?_,by as_aux_lemma=>kernel_rfl⟩
 as_aux_lemma=>kernel_rfl

import Derived.Test.YtdgneicbmalnpaaGreatDoorRows
import Derived.Test.YtdgneicbmalnpaaGreatDoorProg
import Derived.ProofKit
import Derived.Deep.DeepHandedRow
set_option linter.all false
set_option maxHeartbeats 0
set_option maxRecDepth 99999
namespace Go.Proofs.YtdgneicbmalnpaaGreatDoor.fnExactBossAsk
open Proofs.Tryz
theorem jf:joinedFacts Tryz.pinned.checked.prog 3 Tryz.f3 (OpenSpec.ofChange Rows.fnExactBossAskSpec).bare Rows.fnExactBossAskRow=true:=by
 unfold joinedFacts
 iterate 31 refine(Bool.and_eq_true _ _).mpr ⟨?_,by as_aux_lemma=>kernel_rfl⟩
 as_aux_lemma=>kernel_rfl

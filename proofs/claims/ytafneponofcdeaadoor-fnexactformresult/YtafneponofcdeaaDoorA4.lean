import Derived.Test.YtafneponofcdeaaDoorRows
import Derived.Test.YtafneponofcdeaaDoorMathB
import Derived.Test.YtafneponofcdeaaDoorMath
import Derived.WalkKit
import Derived.WalkSpells
import Derived.WalkLawsBesides
import Derived.Deep.RegionWith
namespace Go.Proofs.YtafneponofcdeaaDoor
open Go.RowKit

theorem ret_int {k : IntKind} {a b : Int} (h : a = b) : Ending.returned (.int k a) = .returned (.int k b) := by rw [h]
theorem conv1 (u : World) (y : Int) : (convert 30 9 (.slice (some ⟨u.heap.size, 0, none⟩) 1 1)).run Tryd.prog (u.alloc (.cells #[.int .u8 y] 5)) = .ok (.string (strOfNums [y])) (u.alloc (.cells #[.int .u8 y] 5)) :=
  run_convert_bytes_arg _ 30 5 Tryd.underlying30 Tryd.underlying5 _ 0 1 1 [y] rfl (fun i hi => by
    obtain rfl : i = 0 := by omega
    simp) 9 Tryd.underlying9

set_option maxHeartbeats 400000 in
theorem c11 (n l h : Int) (w : World) :
    Calls Tryd.prog 11 #[.int .i64 n, .int .i64 l, .int .i64 h] w fun e w' => e = .returned (.bool (decide (l ≤ n ∧ n ≤ h))) ∧ w' = w := by
  by_cases h1 : l ≤ n <;> by_cases h2 : n ≤ h
  all_goals
    go_enter Tryd.func11, Tryd.ntmps11
    go_wp2
    all_goals go_ret
    all_goals exact ⟨by simp [*], rfl⟩

end Go.Proofs.YtafneponofcdeaaDoor

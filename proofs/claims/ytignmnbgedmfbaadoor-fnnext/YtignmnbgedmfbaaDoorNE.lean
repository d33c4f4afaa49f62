import Derived.Test.YtignmnbgedmfbaaDoorN8
namespace Go.Proofs.YtignmnbgedmfbaaDoor
open Go.RowKit

def met (b : Nat) (f : Nat) : Value := .func (.func f) #[.pointer (some ⟨b, 0, none⟩)] #[]
set_option maxHeartbeats 2000000 in
set_option maxRecDepth 100000 in
theorem c79 (b : Nat) (w : World) :
    Calls Tryd.prog 79 #[.pointer (some ⟨b, 0, none⟩)] w fun e w' => e = .returned (.agg #[.nilFunc, met b 90, met b 91, met b 92, met b 93, met b 94, met b 95, met b 96, met b 97, met b 98, met b 99, met b 100]) ∧ Below w.heap.size w w' := by
  have hsn : ∀ (w : World) (a : Addr) (m : Mode), (store a .nilFunc m).run Tryd.prog w = stored Tryd.prog w a .nilFunc m := fun w a m => run_store _ _ _ _ _ rfl
  have hsf : ∀ (w : World) (a : Addr) (f : Fn) (x y : Array Value) (m : Mode), (store a (.func f x y) m).run Tryd.prog w = stored Tryd.prog w a (.func f x y) m := fun w a f x y m => run_store _ _ _ _ _ rfl
  go_enter Tryd.func79, Tryd.ntmps79
  go_wp2
  refine bodyPost_ret (v := .agg #[.nilFunc, met b 90, met b 91, met b 92, met b 93, met b 94, met b 95, met b 96, met b 97, met b 98, met b 99, met b 100]) (by simp [results, Tryd.results79, go_sem, met]) rfl ⟨rfl, (Below.refl _ _).alloc (Nat.le_refl _) _⟩
end Go.Proofs.YtignmnbgedmfbaaDoor

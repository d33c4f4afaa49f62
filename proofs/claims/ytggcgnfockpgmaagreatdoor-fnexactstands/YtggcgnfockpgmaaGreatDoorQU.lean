import Derived.Test.YtggcgnfockpgmaaGreatDoorQT
namespace Go.Proofs.YtggcgnfockpgmaaGreatDoor
open Go.RowKit
theorem c53 (s : ByteArray) (w : World) (hs : s.size ≤ 1048576) (hv : VarsR w) :
    Calls Tryz.prog 53 #[.string s] w fun e w' => Is28 w s.data.toList e w' ∧ Below w.heap.size w w' := by
  by_cases h : 300 < s.size
  · exact c53_long s w hs h hv
  · have := c53_short s.data.toList w (by simp; omega) hv
    rw [ofL_self] at this
    exact this
def Is11 (w : World) (l : List UInt8) (e : Ending) (w' : World) : Prop := ∃ (ms : List M3) (ok : Bool) (v : Value), e = .returned (.tuple #[v, .bool ok]) ∧ w'.ownsRow w.heap.size 48 3 v ms.length (mkCells ms) ∧ IsPlan l ms ok
end Go.Proofs.YtggcgnfockpgmaaGreatDoor

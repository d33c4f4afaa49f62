import Derived.Test.YtdcgjdgpiogdaaaGreatDoorP4
import Derived.Test.YtdcgjdgpiogdaaaGreatDoorP5
import Derived.Deep.RegionHeld3
import Derived.Laws.Cover1
namespace Go.Proofs.YtdcgjdgpiogdaaaGreatDoor
set_option linter.unusedSimpArgs false
open Go.RowKit

/-- A make's names are names, its text isn't too long. -/
def okM (x : M3) : Bool := nameOk x.nm.data.toList && nameOk x.tl.data.toList && decide ((x.ar.size : Int) ≤ 300)

set_option maxHeartbeats 1000000 in
theorem c60 (x : M3) (w : World) (hs : x.le 1048700) :
    Calls Tryz.prog 60 #[.agg #[.string x.nm, .string x.tl, .string x.ar]] w fun e w' => e = .returned (.bool (okM x)) ∧ Below w.heap.size w w' := by
  have HF : Hid (okM x = (nameOk x.nm.data.toList && nameOk x.tl.data.toList && decide ((x.ar.size : Int) ≤ 300))) := rfl
  obtain ⟨h1, h2, h3⟩ := hs
  go_enter Tryz.func60, Tryz.ntmps60
  go_wp2_with fail
  refine (c66 _ _ h1).mono ?_
  rintro e w1 ⟨rfl, rfl⟩
  cases hn : nameOk x.nm.data.toList
  · rw [hn] at HF
    go_wp2
    all_goals go_ret
    all_goals exact ⟨ret_bool (by rw [HF.out]; simp), (Below.refl _ _).alloc (Nat.le_refl _) _⟩
  · rw [hn] at HF
    go_wp2_with fail
    refine (c66 _ _ h2).mono ?_
    rintro e w1 ⟨rfl, rfl⟩
    cases hm : nameOk x.tl.data.toList
    all_goals
      rw [hm] at HF
      go_wp2
      all_goals go_ret
      all_goals exact ⟨ret_bool (by rw [HF.out]; simp), (Below.refl _ _).alloc (Nat.le_refl _) _⟩
theorem c60v {x : M3} {v : Bool} (hv : okM x = v) (w : World) (hs : x.le 1048700) :
    Calls Tryz.prog 60 #[.agg #[.string x.nm, .string x.tl, .string x.ar]] w fun e w' => e = .returned (.bool v) ∧ Below w.heap.size w w' := hv ▸ c60 x w hs

set_option maxHeartbeats 1000000 in
theorem c97 (x : M3) (w : World) (hs : x.le 1048700) :
    Calls Tryz.prog 97 #[.agg #[.string x.nm, .string x.tl, .string x.ar]] w fun e w' => e = .returned (.bool (okM x)) ∧ Below w.heap.size w w' := by
  have HF : Hid (okM x = (nameOk x.nm.data.toList && nameOk x.tl.data.toList && decide ((x.ar.size : Int) ≤ 300))) := rfl
  obtain ⟨h1, h2, h3⟩ := hs
  go_enter Tryz.func97, Tryz.ntmps97
  go_wp2_with fail
  refine (c106 _ _ h1).mono ?_
  rintro e w1 ⟨rfl, rfl⟩
  cases hn : nameOk x.nm.data.toList
  · rw [hn] at HF
    go_wp2
    all_goals go_ret
    all_goals exact ⟨ret_bool (by rw [HF.out]; simp), (Below.refl _ _).alloc (Nat.le_refl _) _⟩
  · rw [hn] at HF
    go_wp2_with fail
    refine (c106 _ _ h2).mono ?_
    rintro e w1 ⟨rfl, rfl⟩
    cases hm : nameOk x.tl.data.toList
    all_goals
      rw [hm] at HF
      go_wp2
      all_goals go_ret
      all_goals exact ⟨ret_bool (by rw [HF.out]; simp), (Below.refl _ _).alloc (Nat.le_refl _) _⟩
theorem c97v {x : M3} {v : Bool} (hv : okM x = v) (w : World) (hs : x.le 1048700) :
    Calls Tryz.prog 97 #[.agg #[.string x.nm, .string x.tl, .string x.ar]] w fun e w' => e = .returned (.bool v) ∧ Below w.heap.size w w' := hv ▸ c97 x w hs

theorem c64' (s : ByteArray) (w : World) (hs : s.size ≤ 1048700) :
    Calls Tryz.prog 64 #[.string s] w fun e w' => e = .returned (.string (ofL (quoteL s.data.toList))) ∧ Below w.heap.size w w' := c64 s w hs
theorem ofL_data (s : ByteArray) : ofL s.data.toList = s := rfl
/-- A make's text. -/
def bodyL (x : M3) : List UInt8 := x.nm.data.toList ++ [32] ++ x.tl.data.toList ++ [32] ++ quoteL x.ar.data.toList
def makeL (x : M3) : List UInt8 := [109, 97, 107, 101, 32] ++ bodyL x ++ [10]

end Go.Proofs.YtdcgjdgpiogdaaaGreatDoor

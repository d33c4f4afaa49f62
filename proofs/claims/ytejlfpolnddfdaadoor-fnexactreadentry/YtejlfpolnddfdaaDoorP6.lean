import Derived.Test.YtejlfpolnddfdaaDoorP4
import Derived.Test.YtejlfpolnddfdaaDoorP5
import Derived.Deep.RegionHeld3
import Derived.Laws.Cover1
namespace Go.Proofs.YtejlfpolnddfdaaDoor
set_option linter.unusedSimpArgs false
open Go.RowKit

/-- A make's names are names, its text isn't too long. -/
def okM (x : M3) : Bool := nameOk x.nm.data.toList && nameOk x.tl.data.toList && decide ((x.ar.size : Int) ≤ 300)

set_option maxHeartbeats 1000000 in
theorem c38 (x : M3) (w : World) (hs : x.le 1048700) :
    Calls Tryd.prog 38 #[.agg #[.string x.nm, .string x.tl, .string x.ar]] w fun e w' => e = .returned (.bool (okM x)) ∧ Below w.heap.size w w' := by
  have HF : Hid (okM x = (nameOk x.nm.data.toList && nameOk x.tl.data.toList && decide ((x.ar.size : Int) ≤ 300))) := rfl
  obtain ⟨h1, h2, h3⟩ := hs
  go_enter Tryd.func38, Tryd.ntmps38
  go_wp2_with fail
  refine (c30 _ _ h1).mono ?_
  rintro e w1 ⟨rfl, rfl⟩
  cases hn : nameOk x.nm.data.toList
  · rw [hn] at HF
    go_wp2
    all_goals go_ret
    all_goals exact ⟨ret_bool (by rw [HF.out]; simp), (Below.refl _ _).alloc (Nat.le_refl _) _⟩
  · rw [hn] at HF
    go_wp2_with fail
    refine (c30 _ _ h2).mono ?_
    rintro e w1 ⟨rfl, rfl⟩
    cases hm : nameOk x.tl.data.toList
    all_goals
      rw [hm] at HF
      go_wp2
      all_goals go_ret
      all_goals exact ⟨ret_bool (by rw [HF.out]; simp), (Below.refl _ _).alloc (Nat.le_refl _) _⟩
theorem c38v {x : M3} {v : Bool} (hv : okM x = v) (w : World) (hs : x.le 1048700) :
    Calls Tryd.prog 38 #[.agg #[.string x.nm, .string x.tl, .string x.ar]] w fun e w' => e = .returned (.bool v) ∧ Below w.heap.size w w' := hv ▸ c38 x w hs

set_option maxHeartbeats 1000000 in
theorem c64 (x : M3) (w : World) (hs : x.le 1048700) :
    Calls Tryd.prog 64 #[.agg #[.string x.nm, .string x.tl, .string x.ar]] w fun e w' => e = .returned (.bool (okM x)) ∧ Below w.heap.size w w' := by
  have HF : Hid (okM x = (nameOk x.nm.data.toList && nameOk x.tl.data.toList && decide ((x.ar.size : Int) ≤ 300))) := rfl
  obtain ⟨h1, h2, h3⟩ := hs
  go_enter Tryd.func64, Tryd.ntmps64
  go_wp2_with fail
  refine (c75 _ _ h1).mono ?_
  rintro e w1 ⟨rfl, rfl⟩
  cases hn : nameOk x.nm.data.toList
  · rw [hn] at HF
    go_wp2
    all_goals go_ret
    all_goals exact ⟨ret_bool (by rw [HF.out]; simp), (Below.refl _ _).alloc (Nat.le_refl _) _⟩
  · rw [hn] at HF
    go_wp2_with fail
    refine (c75 _ _ h2).mono ?_
    rintro e w1 ⟨rfl, rfl⟩
    cases hm : nameOk x.tl.data.toList
    all_goals
      rw [hm] at HF
      go_wp2
      all_goals go_ret
      all_goals exact ⟨ret_bool (by rw [HF.out]; simp), (Below.refl _ _).alloc (Nat.le_refl _) _⟩
theorem c64v {x : M3} {v : Bool} (hv : okM x = v) (w : World) (hs : x.le 1048700) :
    Calls Tryd.prog 64 #[.agg #[.string x.nm, .string x.tl, .string x.ar]] w fun e w' => e = .returned (.bool v) ∧ Below w.heap.size w w' := hv ▸ c64 x w hs

theorem c29' (s : ByteArray) (w : World) (hs : s.size ≤ 1048700) :
    Calls Tryd.prog 29 #[.string s] w fun e w' => e = .returned (.string (ofL (quoteL s.data.toList))) ∧ Below w.heap.size w w' := c29 s w hs
theorem ofL_data (s : ByteArray) : ofL s.data.toList = s := rfl
/-- A make's text. -/
def bodyL (x : M3) : List UInt8 := x.nm.data.toList ++ [32] ++ x.tl.data.toList ++ [32] ++ quoteL x.ar.data.toList
def makeL (x : M3) : List UInt8 := [109, 97, 107, 101, 32] ++ bodyL x ++ [10]

end Go.Proofs.YtejlfpolnddfdaaDoor

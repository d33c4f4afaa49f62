import Derived.Test.YtdcgjdgpiogdaaaGreatDoorYG
import Derived.Test.YtdcgjdgpiogdaaaGreatDoorA4
namespace Go.Proofs.YtdcgjdgpiogdaaaGreatDoor
open Go.RowKit
/-- What a tag is. -/
def tagS (b k : ByteArray) : ByteArray := if 30 < k.size then ByteArray.empty else strOfNums (outs (hsum (k ++ ⟨#[0]⟩ ++ b).data.toList) 8)
theorem cat_size (b k : ByteArray) : (k ++ ⟨#[0]⟩ ++ b).size = k.size + 1 + b.size := by
  rw [ByteArray.size_append, ByteArray.size_append]; rfl
theorem c39 (k : ByteArray) (w : World) (hk : k.size ≤ 1048576) :
    Calls Tryz.prog 39 #[.string k] w fun e w' => e = .returned (.bool (decide (k.size ≤ 30))) ∧ w' = w := by
  by_cases h : k.size ≤ 30
  all_goals
    go_enter Tryz.func39, Tryz.ntmps39
    go_wp2
    go_ret
    exact ⟨by simp [h]; try omega, rfl⟩

set_option maxHeartbeats 400000 in
theorem c34 (b k : ByteArray) (w : World) (hb : b.size ≤ 1048576) (hk : k.size ≤ 1048576) :
    Calls Tryz.prog 34 #[.string b, .string k] w fun e w' => e = .returned (.string (tagS b k)) ∧ Below w.heap.size w w' := by
  by_cases h : 30 < k.size
  · go_enter Tryz.func34, Tryz.ntmps34
    go_wp2
    go_ret
    exact ⟨by unfold tagS; rw [if_pos h]; rfl, Below.refl _ _⟩
  · have hT : Hid (tagS b k = strOfNums (outs (hsum (k ++ ⟨#[0]⟩ ++ b).data.toList) 8)) := by unfold tagS; rw [if_neg h]; rfl
    go_enter Tryz.func34, Tryz.ntmps34
    go_wp2_with fail
    refine (c73 _ _ (by rw [cat_size]; omega)).mono ?_
    rintro e w' ⟨rfl, rfl⟩
    have hx := hsum_range (k ++ ⟨#[0]⟩ ++ b).data.toList
    generalize hsum (k ++ ⟨#[0]⟩ ++ b).data.toList = X at *
    go_wp2_with fail
    refine (c72 X 8 _ hx.1 hx.2 (by omega)).mono ?_
    rintro e w1 ⟨rfl, hb1⟩
    go_wp2
    go_ret
    exact ⟨by rw [hT.out]; rfl, hb1⟩

set_option maxHeartbeats 400000 in
theorem c41 (b k : ByteArray) (w : World) (hb : b.size ≤ 1048576) (hk : k.size ≤ 1048576) :
    Calls Tryz.prog 41 #[.string b, .string k] w fun e w' => e = .returned (.string (tagS b k)) ∧ Below w.heap.size w w' := by
  by_cases h : 30 < k.size
  · have hd : decide (k.size ≤ 30) = false := by simpa using h
    go_enter Tryz.func41, Tryz.ntmps41
    go_wp2_with fail
    refine (c39 _ _ hk).mono ?_
    rintro e w' ⟨rfl, rfl⟩
    rw [hd]
    go_wp2
    go_ret
    exact ⟨by unfold tagS; rw [if_pos h]; rfl, Below.refl _ _⟩
  · have hd : decide (k.size ≤ 30) = true := by simpa using h
    have hT : Hid (tagS b k = sumS (k ++ ⟨#[0]⟩ ++ b) 8) := by unfold tagS sumS; rw [if_neg h, if_pos (by omega)]; rfl
    go_enter Tryz.func41, Tryz.ntmps41
    go_wp2_with fail
    refine (c39 _ _ hk).mono ?_
    rintro e w' ⟨rfl, rfl⟩
    rw [hd]
    go_wp2_with fail
    refine (c85 _ _ _ (by rw [cat_size]; omega)).mono ?_
    rintro e w1 ⟨rfl, hb1⟩
    go_wp2
    go_ret
    exact ⟨by rw [hT.out]; rfl, hb1⟩


end Go.Proofs.YtdcgjdgpiogdaaaGreatDoor

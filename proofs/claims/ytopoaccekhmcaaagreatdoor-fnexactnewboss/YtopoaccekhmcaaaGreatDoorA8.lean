import Derived.Test.YtopoaccekhmcaaaGreatDoorA4
namespace Go.Proofs.YtopoaccekhmcaaaGreatDoor
open Go.RowKit
/-- What an epoch's entry is written as, the first. -/
def epL : ByteArray := ⟨#[101, 112, 111, 99, 104, 32, 49, 10]⟩
theorem epL_cat : (⟨#[101, 112, 111, 99, 104, 32]⟩ : ByteArray) ++ ⟨#[49]⟩ ++ ⟨#[10]⟩ = epL := by
  apply ByteArray.ext
  simp [epL]
theorem epL_cat' : (⟨#[101, 112, 111, 99, 104, 32]⟩ : ByteArray) ++ strOfNums [49] ++ ⟨#[10]⟩ = epL := by
  apply ByteArray.ext
  simp [epL, strOfNums]
theorem ret_s {a b : ByteArray} (h : a = b) : Ending.returned (.string a) = .returned (.string b) := by rw [h]
set_option maxRecDepth 100000 in
theorem c156 (w : World) : Calls Tryz.prog 156 #[.int .i64 1] w fun e w' => e = .returned (.string ⟨#[49]⟩) ∧ Below w.heap.size w w' := by
  go_enter Tryz.func156, Tryz.ntmps156
  go_wp2
  go_ret
  exact ⟨rfl, Below.refl _ _⟩
set_option maxRecDepth 100000 in
theorem c125 (w : World) : Calls Tryz.prog 125 #[.int .i64 1, .int .i64 10] w fun e w' => e = .returned (.string ⟨#[49]⟩) ∧ Below w.heap.size w w' := by
  go_enter Tryz.func125, Tryz.ntmps125
  go_wp2_with fail
  refine (c156 _).mono ?_
  rintro e w1 ⟨rfl, hb⟩
  go_wp2
  go_ret
  exact ⟨rfl, hb⟩
theorem c94 (w : World) : Calls Tryz.prog 94 #[.int .i64 1] w fun e w' => e = .returned (.string ⟨#[49]⟩) ∧ Below w.heap.size w w' := by
  go_enter Tryz.func94, Tryz.ntmps94
  go_wp2_with fail
  refine (c125 _).mono ?_
  rintro e w1 ⟨rfl, hb⟩
  go_wp2
  go_ret
  exact ⟨rfl, hb⟩
theorem c72 (w : World) : Calls Tryz.prog 72 #[.int .i64 1] w fun e w' => e = .returned (.string ⟨#[49]⟩) ∧ Below w.heap.size w w' := by
  go_enter Tryz.func72, Tryz.ntmps72
  go_wp2_with fail
  refine (c94 _).mono ?_
  rintro e w1 ⟨rfl, hb⟩
  go_wp2
  go_ret
  exact ⟨rfl, hb⟩
set_option maxRecDepth 100000 in
theorem c50 (w : World) : Calls Tryz.prog 50 #[.int .i64 1] w fun e w' => e = .returned (.string epL) ∧ Below w.heap.size w w' := by
  have z1 : (⟨#[101, 112, 111, 99, 104, 32]⟩ : ByteArray).size = 6 := rfl
  have z2 : (⟨#[49]⟩ : ByteArray).size = 1 := rfl
  have z3 : (⟨#[10]⟩ : ByteArray).size = 1 := rfl
  go_enter Tryz.func50, Tryz.ntmps50
  go_wp2_with fail
  refine (c72 _).mono ?_
  rintro e w1 ⟨rfl, hb⟩
  go_wp2
  go_ret
  exact ⟨ret_s epL_cat, hb⟩
theorem c71 (w : World) : Calls Tryz.prog 71 #[.int .i64 1] w fun e w' => e = .returned (.bool true) ∧ Below w.heap.size w w' := by
  go_enter Tryz.func71, Tryz.ntmps71
  go_wp2
  go_ret
  exact ⟨rfl, Below.refl _ _⟩
theorem c48 (w : World) : Calls Tryz.prog 48 #[.int .i64 1] w fun e w' => e = .returned (.bool true) ∧ Below w.heap.size w w' := by
  go_enter Tryz.func48, Tryz.ntmps48
  go_wp2_with fail
  refine (c71 _).mono ?_
  rintro e w1 ⟨rfl, hb⟩
  go_wp2
  go_ret
  exact ⟨rfl, hb⟩
theorem c49 (w : World) : Calls Tryz.prog 49 #[.agg #[.slice none 0 0, .slice none 0 0]] w fun e w' => e = .returned (.bool false) ∧ Below w.heap.size w w' := by
  go_enter Tryz.func49, Tryz.ntmps49
  go_wp2
  go_ret
  exact ⟨rfl, (Below.refl _ _).alloc (Nat.le_refl _) _⟩
set_option maxRecDepth 100000 in
theorem c39 (w : World) : Calls Tryz.prog 39 #[.int .i64 1] w fun e w' => e = .returned (.string (strOfNums [49])) ∧ Below w.heap.size w w' := by
  have hcv := conv1
  go_enter Tryz.func39, Tryz.ntmps39
  go_wp2
  go_ret
  exact ⟨rfl, (Below.refl _ _).alloc (Nat.le_refl _) _⟩
set_option maxHeartbeats 4000000 in
set_option maxRecDepth 100000 in
theorem c38 (k : Int) (w : World) : Calls Tryz.prog 38 #[.agg #[.int .i64 k, .int .i64 1, .string ⟨#[]⟩, .string ⟨#[]⟩, .string ⟨#[]⟩, .string ⟨#[]⟩, .string ⟨#[]⟩, .slice none 0 0, .int .i64 0, .string ⟨#[]⟩], .agg #[.int .i64 0, .int .i64 1, .string ⟨#[]⟩, .string ⟨#[]⟩, .string ⟨#[]⟩, .string ⟨#[]⟩, .string ⟨#[]⟩, .slice none 0 0, .int .i64 0, .string ⟨#[]⟩]] w fun e w' => e = .returned (.bool true) ∧ Below w.heap.size w w' := by
  go_enter Tryz.func38, Tryz.ntmps38
  go_wp2
  go_ret
  exact ⟨rfl, ((Below.refl _ _).alloc (Nat.le_refl _) _).alloc (by simp) _⟩
end Go.Proofs.YtopoaccekhmcaaaGreatDoor

import Derived.Test.YtlfokigiejcfoaaGreatDoorA4
namespace Go.Proofs.YtlfokigiejcfoaaGreatDoor
open Go.RowKit
/-- What an epoch's entry is written as, the first. -/
def epL : ByteArray := ⟨#[101, 112, 111, 99, 104, 32, 49, 10]⟩
theorem epL_cat : (⟨#[101, 112, 111, 99, 104, 32]⟩ : ByteArray) ++ ⟨#[49]⟩ ++ ⟨#[10]⟩ = epL := by
  apply ByteArray.ext
  simp [epL]
theorem epL_cat' : (⟨#[101, 112, 111, 99, 104, 32]⟩ : ByteArray) ++ strOfNums [49] ++ ⟨#[10]⟩ = epL := by
  apply ByteArray.ext
  simp [epL, strOfNums]
theorem ret_s {a b : ByteArray} (h : a = b) : Ending.returned (.string a) = .returned (.string b) := by rw [h]
set_option maxRecDepth 100000 in
theorem c181 (w : World) : Calls Tryz.prog 181 #[.int .i64 1] w fun e w' => e = .returned (.string ⟨#[49]⟩) ∧ Below w.heap.size w w' := by
  go_enter Tryz.func181, Tryz.ntmps181
  go_wp2
  go_ret
  exact ⟨rfl, Below.refl _ _⟩
set_option maxRecDepth 100000 in
theorem c150 (w : World) : Calls Tryz.prog 150 #[.int .i64 1, .int .i64 10] w fun e w' => e = .returned (.string ⟨#[49]⟩) ∧ Below w.heap.size w w' := by
  go_enter Tryz.func150, Tryz.ntmps150
  go_wp2_with fail
  refine (c181 _).mono ?_
  rintro e w1 ⟨rfl, hb⟩
  go_wp2
  go_ret
  exact ⟨rfl, hb⟩
theorem c119 (w : World) : Calls Tryz.prog 119 #[.int .i64 1] w fun e w' => e = .returned (.string ⟨#[49]⟩) ∧ Below w.heap.size w w' := by
  go_enter Tryz.func119, Tryz.ntmps119
  go_wp2_with fail
  refine (c150 _).mono ?_
  rintro e w1 ⟨rfl, hb⟩
  go_wp2
  go_ret
  exact ⟨rfl, hb⟩
theorem c95 (w : World) : Calls Tryz.prog 95 #[.int .i64 1] w fun e w' => e = .returned (.string ⟨#[49]⟩) ∧ Below w.heap.size w w' := by
  go_enter Tryz.func95, Tryz.ntmps95
  go_wp2_with fail
  refine (c119 _).mono ?_
  rintro e w1 ⟨rfl, hb⟩
  go_wp2
  go_ret
  exact ⟨rfl, hb⟩
set_option maxRecDepth 100000 in
theorem c75 (w : World) : Calls Tryz.prog 75 #[.int .i64 1] w fun e w' => e = .returned (.string epL) ∧ Below w.heap.size w w' := by
  have z1 : (⟨#[101, 112, 111, 99, 104, 32]⟩ : ByteArray).size = 6 := rfl
  have z2 : (⟨#[49]⟩ : ByteArray).size = 1 := rfl
  have z3 : (⟨#[10]⟩ : ByteArray).size = 1 := rfl
  go_enter Tryz.func75, Tryz.ntmps75
  go_wp2_with fail
  refine (c95 _).mono ?_
  rintro e w1 ⟨rfl, hb⟩
  go_wp2
  go_ret
  exact ⟨ret_s epL_cat, hb⟩
theorem c94 (w : World) : Calls Tryz.prog 94 #[.int .i64 1] w fun e w' => e = .returned (.bool true) ∧ Below w.heap.size w w' := by
  go_enter Tryz.func94, Tryz.ntmps94
  go_wp2
  go_ret
  exact ⟨rfl, Below.refl _ _⟩
theorem c73 (w : World) : Calls Tryz.prog 73 #[.int .i64 1] w fun e w' => e = .returned (.bool true) ∧ Below w.heap.size w w' := by
  go_enter Tryz.func73, Tryz.ntmps73
  go_wp2_with fail
  refine (c94 _).mono ?_
  rintro e w1 ⟨rfl, hb⟩
  go_wp2
  go_ret
  exact ⟨rfl, hb⟩
theorem c74 (w : World) : Calls Tryz.prog 74 #[.agg #[.slice none 0 0, .slice none 0 0]] w fun e w' => e = .returned (.bool false) ∧ Below w.heap.size w w' := by
  go_enter Tryz.func74, Tryz.ntmps74
  go_wp2
  go_ret
  exact ⟨rfl, (Below.refl _ _).alloc (Nat.le_refl _) _⟩
set_option maxRecDepth 100000 in
theorem c64 (w : World) : Calls Tryz.prog 64 #[.int .i64 1] w fun e w' => e = .returned (.string (strOfNums [49])) ∧ Below w.heap.size w w' := by
  have hcv := conv1
  go_enter Tryz.func64, Tryz.ntmps64
  go_wp2
  go_ret
  exact ⟨rfl, (Below.refl _ _).alloc (Nat.le_refl _) _⟩
set_option maxHeartbeats 4000000 in
set_option maxRecDepth 100000 in
theorem c63 (k : Int) (w : World) : Calls Tryz.prog 63 #[.agg #[.int .i64 k, .int .i64 1, .string ⟨#[]⟩, .string ⟨#[]⟩, .string ⟨#[]⟩, .string ⟨#[]⟩, .string ⟨#[]⟩, .slice none 0 0, .int .i64 0, .string ⟨#[]⟩], .agg #[.int .i64 0, .int .i64 1, .string ⟨#[]⟩, .string ⟨#[]⟩, .string ⟨#[]⟩, .string ⟨#[]⟩, .string ⟨#[]⟩, .slice none 0 0, .int .i64 0, .string ⟨#[]⟩]] w fun e w' => e = .returned (.bool true) ∧ Below w.heap.size w w' := by
  go_enter Tryz.func63, Tryz.ntmps63
  go_wp2
  go_ret
  exact ⟨rfl, ((Below.refl _ _).alloc (Nat.le_refl _) _).alloc (by simp) _⟩
end Go.Proofs.YtlfokigiejcfoaaGreatDoor

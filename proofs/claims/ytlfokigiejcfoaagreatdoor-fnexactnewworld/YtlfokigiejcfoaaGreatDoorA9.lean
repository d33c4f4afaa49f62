import Derived.Test.YtlfokigiejcfoaaGreatDoorA7
import Derived.Test.YtlfokigiejcfoaaGreatDoorA8
import Derived.Test.YtlfokigiejcfoaaGreatDoorAX
namespace Go.Proofs.YtlfokigiejcfoaaGreatDoor
open Go.RowKit
set_option maxHeartbeats 4000000 in
set_option maxRecDepth 100000 in
theorem c27 (w : World) : Calls Tryz.prog 27 #[.agg #[.int .i64 1, .int .i64 1, .string ⟨#[]⟩, .string ⟨#[]⟩, .string ⟨#[]⟩, .string ⟨#[]⟩, .string ⟨#[]⟩, .slice none 0 0, .int .i64 0, .string ⟨#[]⟩]] w fun e w' => e = .returned (.string epL) ∧ Below w.heap.size w w' := by
  have z1 : (⟨#[101, 112, 111, 99, 104, 32]⟩ : ByteArray).size = 6 := rfl
  have z2 := s1
  have z3 : (⟨#[10]⟩ : ByteArray).size = 1 := rfl
  have z4 : epL.size = 8 := rfl
  have hB0 : ∀ o, Below w.heap.size w (w.alloc o) := fun o => (Below.refl _ _).alloc (Nat.le_refl _) _
  go_enter Tryz.func27, Tryz.ntmps27
  go_wp2_with fail
  refine (c63 1 _).mono ?_
  rintro e w1 ⟨rfl, hb1⟩
  have hB1 : Below w.heap.size w w1 := (hB0 _).trans (hb1.mono (by simp <;> omega))
  have hz1 : w.heap.size < w1.heap.size := by have := hb1.size; simp at this; omega
  have a1 : w1.cell? ⟨w.heap.size, 1, none⟩ = some (.int .i64 1) := (hb1.cell (p := ⟨w.heap.size, 1, none⟩) (by simp <;> omega)).trans (by simp [go_sem])
  clear hb1
  go_wp2_with fail
  refine (c25 1 1 200 _).mono ?_
  rintro e w2 ⟨rfl, hb2⟩
  rw [show btw 1 1 200 = true from rfl]
  have hB2 := hB1.trans (hb2.mono hB1.size)
  have a2 := (hb2.cell (p := ⟨w.heap.size, 1, none⟩) hz1).trans a1
  clear hb2 a1
  go_wp2_with fail
  refine (c64 _).mono ?_
  rintro e w3 ⟨rfl, hb3⟩
  have hB3 := hB2.trans (hb3.mono hB2.size)
  clear hb3 a2
  have z5 : ((⟨#[101, 112, 111, 99, 104, 32]⟩ : ByteArray) ++ strOfNums [49] ++ ⟨#[10]⟩).size = 8 := by rw [epL_cat']; rfl
  go_wp2
  go_ret
  exact ⟨ret_s epL_cat', hB3⟩
end Go.Proofs.YtlfokigiejcfoaaGreatDoor

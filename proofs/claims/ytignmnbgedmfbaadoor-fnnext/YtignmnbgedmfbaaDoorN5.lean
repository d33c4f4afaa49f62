import Derived.Test.YtignmnbgedmfbaaDoorN4
namespace Go.Proofs.YtignmnbgedmfbaaDoor
open Go.RowKit
def z6 : Array Value := #[.bool false, .int .i64 0, .string ⟨#[]⟩, .bool false, .string ⟨#[]⟩, .int .i64 0]
def W0 (a : Option Addr) (n cap : Nat) (w : World) : World := (w.alloc (.cells #[.slice a n cap] 29)).alloc (.cells z6 44)
theorem W0_below (a : Option Addr) (n cap : Nat) (w : World) : Below w.heap.size w (W0 a n cap w) := ((Below.refl _ _).alloc (Nat.le_refl _) _).alloc (by simp) _
theorem W0_size (a : Option Addr) (n cap : Nat) (w : World) : (W0 a n cap w).heap.size = w.heap.size + 2 := by simp [W0]
/-- What lies in the two blocks of a call of Next, as long as it runs. -/
theorem W0_cells {a : Option Addr} {n cap : Nat} {w u : World} (h : Below (w.heap.size + 2) (W0 a n cap w) u) :
    (u.cell? ⟨w.heap.size, 0, none⟩ = some (.slice a n cap) ∧ u.cell? ⟨w.heap.size + 1, 0, none⟩ = some (.bool false) ∧ u.cell? ⟨w.heap.size + 1, 1, none⟩ = some (.int .i64 0) ∧ u.cell? ⟨w.heap.size + 1, 2, none⟩ = some (.string ⟨#[]⟩) ∧ u.cell? ⟨w.heap.size + 1, 3, none⟩ = some (.bool false) ∧ u.cell? ⟨w.heap.size + 1, 4, none⟩ = some (.string ⟨#[]⟩) ∧ u.cell? ⟨w.heap.size + 1, 5, none⟩ = some (.int .i64 0)) ∧ ∀ j, u.frozen? ⟨w.heap.size + 1, j, none⟩ = false := by
  have e : ∀ b j, b < w.heap.size + 2 → u.cell? ⟨b, j, none⟩ = (W0 a n cap w).cell? ⟨b, j, none⟩ := fun b j hb => h.cell (by simpa using hb)
  have f : ∀ j, u.frozen? ⟨w.heap.size + 1, j, none⟩ = (W0 a n cap w).frozen? ⟨w.heap.size + 1, j, none⟩ := fun j => h.frozen (by simp)
  refine ⟨?_, fun j => ?_⟩
  · rw [e _ _ (by omega), e _ _ (by omega), e _ _ (by omega), e _ _ (by omega), e _ _ (by omega), e _ _ (by omega), e _ _ (by omega)]
    simp [W0, z6]
  · rw [f]; simp [W0, z6]
theorem z6_heap {a : Option Addr} {n cap : Nat} {w u : World} (h : Below (w.heap.size + 2) (W0 a n cap w) u) : u.heap[w.heap.size + 1]? = some (.cells z6 44 (0, 0)) := by
  rw [h.block _ (by omega)]
  exact alloc_new (by simp) _
/-- Six stores, read back. -/
theorem set6 {u : World} {B : Nat} (h : u.heap[B]? = some (.cells z6 44 (0, 0))) (v0 v1 v2 v3 v4 v5 : Value) :
    (u.setCell ⟨B, 0, none⟩ v0).cell? ⟨B, 0, none⟩ = some v0 ∧ ((u.setCell ⟨B, 0, none⟩ v0).setCell ⟨B, 1, none⟩ v1).cell? ⟨B, 1, none⟩ = some v1 ∧ (((u.setCell ⟨B, 0, none⟩ v0).setCell ⟨B, 1, none⟩ v1).setCell ⟨B, 2, none⟩ v2).cell? ⟨B, 2, none⟩ = some v2 ∧ ((((u.setCell ⟨B, 0, none⟩ v0).setCell ⟨B, 1, none⟩ v1).setCell ⟨B, 2, none⟩ v2).setCell ⟨B, 3, none⟩ v3).cell? ⟨B, 3, none⟩ = some v3 ∧ (((((u.setCell ⟨B, 0, none⟩ v0).setCell ⟨B, 1, none⟩ v1).setCell ⟨B, 2, none⟩ v2).setCell ⟨B, 3, none⟩ v3).setCell ⟨B, 4, none⟩ v4).cell? ⟨B, 4, none⟩ = some v4 ∧ ((((((u.setCell ⟨B, 0, none⟩ v0).setCell ⟨B, 1, none⟩ v1).setCell ⟨B, 2, none⟩ v2).setCell ⟨B, 3, none⟩ v3).setCell ⟨B, 4, none⟩ v4).setCell ⟨B, 5, none⟩ v5).cell? ⟨B, 5, none⟩ = some v5 := by
  have h0 := heap_setCell_same u B 0 _ 44 v0 h
  have h1 := heap_setCell_same _ B 1 _ 44 v1 h0
  have h2 := heap_setCell_same _ B 2 _ 44 v2 h1
  have h3 := heap_setCell_same _ B 3 _ 44 v3 h2
  have h4 := heap_setCell_same _ B 4 _ 44 v4 h3
  have h5 := heap_setCell_same _ B 5 _ 44 v5 h4
  exact ⟨Lib.cell_of_heap h0 0, Lib.cell_of_heap h1 1, Lib.cell_of_heap h2 2, Lib.cell_of_heap h3 3, Lib.cell_of_heap h4 4, Lib.cell_of_heap h5 5⟩
theorem set6_below {u : World} {B m : Nat} (hm : m ≤ B) (v0 v1 v2 v3 v4 v5 : Value) : Below m u ((((((u.setCell ⟨B, 0, none⟩ v0).setCell ⟨B, 1, none⟩ v1).setCell ⟨B, 2, none⟩ v2).setCell ⟨B, 3, none⟩ v3).setCell ⟨B, 4, none⟩ v4).setCell ⟨B, 5, none⟩ v5) :=
  ((((((Below.refl m u).setCell (by exact hm) _).setCell (by exact hm) _).setCell (by exact hm) _).setCell (by exact hm) _).setCell (by exact hm) _).setCell (by exact hm) _
end Go.Proofs.YtignmnbgedmfbaaDoor

import Derived.Test.YtggcgnfockpgmaaGreatDoorP8
import Derived.Test.YtggcgnfockpgmaaGreatDoorPE
namespace Go.Proofs.YtggcgnfockpgmaaGreatDoor
open Go.RowKit

/-- What the package's variables hold. -/
structure VarsAt (w : World) : Prop where
  g0 : ∃ t v, w.cell? ⟨5, 0, none⟩ = some (.iface t v)
  g1 : ∃ t v, w.cell? ⟨6, 0, none⟩ = some (.iface t v)
  g2 : ∃ t v, w.cell? ⟨7, 0, none⟩ = some (.iface t v)
  g6 : w.cell? ⟨4, 0, none⟩ = some (.iface 148 (.agg #[.pointer (some ⟨11, 83, none⟩)]))
theorem VarsAt.pos {w : World} (h : VarsAt w) : 7 < w.heap.size := by
  obtain ⟨t, v, h6⟩ := h.g2
  rcases Nat.lt_or_ge 7 w.heap.size with h | h
  · exact h
  · simp [World.cell?, Array.getElem?_eq_none h] at h6
theorem VarsAt.below {w w' : World} (h : VarsAt w) (hb : Below w.heap.size w w') : VarsAt w' := by
  have hp := h.pos
  obtain ⟨t0, v0, h0⟩ := h.g0
  obtain ⟨t1, v1, h1⟩ := h.g1
  obtain ⟨t2, v2, h2⟩ := h.g2
  exact ⟨⟨t0, v0, (hb.cell (p := ⟨5, 0, none⟩) (by show 5 < w.heap.size; omega)).trans h0⟩, ⟨t1, v1, (hb.cell (p := ⟨6, 0, none⟩) (by show 6 < w.heap.size; omega)).trans h1⟩, ⟨t2, v2, (hb.cell (p := ⟨7, 0, none⟩) (by show 7 < w.heap.size; omega)).trans h2⟩, (hb.cell (p := ⟨4, 0, none⟩) (by show 4 < w.heap.size; omega)).trans h.g6⟩
end Go.Proofs.YtggcgnfockpgmaaGreatDoor

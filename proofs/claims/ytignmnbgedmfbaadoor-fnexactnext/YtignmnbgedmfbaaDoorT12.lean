import Derived.Test.YtignmnbgedmfbaaDoorT11
import Derived.Deep.Slices
import Derived.OpenVars
import Derived.ProofKit
namespace Go.Proofs.YtignmnbgedmfbaaDoor
open Go.ChangeShapes Go.WideShapes Go.ChangeAt Go.RowKit

theorem cells102 : Tryd.prog.cellsOf 102 = 3 := by kernel_rfl
theorem cells24 : Tryd.prog.cellsOf 24 = 1 := by kernel_rfl
theorem cells22 : Tryd.prog.cellsOf 22 = 1 := by kernel_rfl
theorem cells3 : Tryd.prog.cellsOf 3 = 1 := by kernel_rfl
theorem laidOut : laidOutB Tryd.prog = true := by kernel_rfl

/-- One instruction's cells. -/
theorem ins_cells {H : Type} {enc : TypeId × Value → H} {w : World} {base : Nat} {sp : Nat → Bool} {held : Bool} {fuel : Nat} {cs : List Value} {y : DataW H × List MemPlace}
    (h : DataW.trod enc Tryd.prog w base sp held fuel 102 cs = some y) : ∃ x : I3, cs = [.int .i64 x.op, .string x.tx, .int .i64 x.to] ∧ x.tx.size ≤ maxLen := by
  obtain ⟨y0, y1, y2, n, hx, hlen, h0, h1, h2⟩ := Go.Deep.trod_struct3 Tryd.underlying102 h
  rw [cells102] at hlen
  obtain ⟨c0, c1, c2, rfl⟩ := list3 hlen
  simp only [cells9, cells3] at h0 h1 h2
  obtain ⟨op, e0, _, _⟩ := DataW.trod_int Tryd.underlying3 h0
  obtain ⟨s, e1, _, hs⟩ := DataW.trod_string Tryd.underlying9 h1
  obtain ⟨to, e2, _, _⟩ := DataW.trod_int Tryd.underlying3 h2
  simp at e0 e1 e2
  exact ⟨⟨op, s, to⟩, by rw [e0, e1, e2], hs⟩
theorem add_none (b off i : Nat) : (⟨b, off, none⟩ : Addr).add i = ⟨b, off + i, none⟩ := by unfold Addr.add; split <;> simp_all

/-- A slice of instructions that came in. -/
theorem opened {H : Type} {enc : TypeId × Value → H} {W : World} {fuel : Nat} {cs : List Value} {y : DataW H × List MemPlace}
    (hf : DataW.trod enc Tryd.prog W 0 (fun _ => true) true fuel 22 cs = some y) :
    ∃ (a : Option Addr) (cap : Nat) (is : List I3), cs = [.slice a is.length cap] ∧ is.length ≤ maxLen ∧ (∀ i, (is.getD i i3z).tx.size ≤ maxLen) ∧ InsAt W a is := by
  rcases Go.Deep.open_slice Tryd.underlying22 hf with ⟨rfl, _⟩ | ⟨a, len, cap, m, n, D, Pl, rfl, _, hl, hm, hmm, _, hx⟩
  · exact ⟨none, 0, [], rfl, Nat.zero_le _, fun i => by simp [i3z, ByteArray.size], .inl rfl⟩
  · simp only [if_true] at hmm
    subst hmm
    have hex : ∀ i, i < m → ∃ x : I3, W.cells? 0 (a.add (i * 3)) 3 = some [.int .i64 x.op, .string x.tx, .int .i64 x.to] ∧ x.tx.size ≤ maxLen := fun i hi => by
      obtain ⟨cs', h1, h2⟩ := hx i hi
      obtain ⟨x, rfl, hs⟩ := ins_cells h2
      rw [cells102] at h1
      exact ⟨x, h1, hs⟩
    obtain ⟨V, hV⟩ := @Go.Deep.choose_lt I3 ⟨i3z⟩ m (fun i x => W.cells? 0 (a.add (i * 3)) 3 = some [.int .i64 x.op, .string x.tx, .int .i64 x.to] ∧ x.tx.size ≤ maxLen) hex
    have hlen : ((List.range len).map V).length = len := by simp
    have hget : ∀ i, i < len → ((List.range len).map V).getD i i3z = V i := fun i hi => by simp [List.getD, hi]
    refine ⟨some a, m, (List.range len).map V, by rw [hlen], by rw [hlen]; omega, getD_small3 (fun i hi => ?_), ?_⟩
    · rw [hlen] at hi
      rw [hget i hi]
      exact (hV i (by omega)).2
    · rcases Nat.eq_zero_or_pos len with h0 | h0
      · exact .inl (by rw [h0]; rfl)
      · obtain ⟨b, off, spot⟩ := a
        obtain ⟨_, _, hc⟩ := World.cells?_some (hV 0 (by omega)).1
        have hc0 := hc 0 (by omega)
        have hspot : spot = none := by simpa [Addr.add] using World.cell?_spot hc0
        subst hspot
        refine .inr ⟨b, off, rfl, ?_, fun i hi => ?_⟩
        · rw [add_none, add_none] at hc0
          rcases Nat.lt_or_ge b W.heap.size with h | h
          · exact h
          · simp [World.cell?, Array.getElem?_eq_none h] at hc0
        · rw [hlen] at hi
          rw [hget i hi]
          obtain ⟨_, _, hc⟩ := World.cells?_some (hV i (by omega)).1
          have e0 := hc 0 (by omega)
          have e1 := hc 1 (by omega)
          have e2 := hc 2 (by omega)
          rw [add_none, add_none] at e0 e1 e2
          exact ⟨e0, e1, e2⟩
end Go.Proofs.YtignmnbgedmfbaaDoor

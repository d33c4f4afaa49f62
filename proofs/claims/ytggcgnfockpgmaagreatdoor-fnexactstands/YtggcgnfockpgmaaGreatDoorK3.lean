import Derived.Test.YtggcgnfockpgmaaGreatDoorK2
import Derived.Test.YtggcgnfockpgmaaGreatDoorQU
namespace Go.Proofs.YtggcgnfockpgmaaGreatDoor
open Go.RowKit
open T (F2 f2z treeOk Asc FilesAt)

theorem place_free {fs : List F2} {nm : ByteArray} {p : Nat} {f : Bool} (hm : Asc fs) (h : T.Place fs nm p f) : (f = true → ∃ i, i = p ∧ i < fs.length ∧ (fs.getD i f2z).nm = nm) ∧ (f = false → Free fs nm) := by
  constructor
  · intro hf
    exact ⟨p, rfl, (h.here.1 hf).1, (h.here.1 hf).2⟩
  · intro hf j hj e
    rcases Nat.lt_trichotomy j p with h1 | h1 | h1
    · have := h.less j h1
      rw [e, T.lt_irrefl'] at this; cases this
    · subst h1
      have := h.here.2 ⟨hj, e⟩
      rw [hf] at this; cases this
    · have a1 := hm p j h1 hj
      rw [e] at a1
      have a2 := h.more p (Nat.le_refl _) (by omega)
      rw [a1] at a2; cases a2
theorem rzF {w u : World} {v : Value} (hb : Below (w.heap.size + 2) ((w.alloc (.cells #[v] 31)).alloc (.cells #[.string ⟨#[]⟩, .string ⟨#[]⟩] 75)) u) :
    u.cell? ⟨w.heap.size, 0, none⟩ = some v ∧ (u.cell? ⟨w.heap.size + 1, 0, none⟩ = some (.string ⟨#[]⟩) ∧ u.cell? ⟨w.heap.size + 1, 1, none⟩ = some (.string ⟨#[]⟩)) ∧ u.frozen? ⟨w.heap.size + 1, 0, none⟩ = false ∧ u.frozen? ⟨w.heap.size + 1, 1, none⟩ = false := by
  have c : ∀ b j, b < w.heap.size + 2 → u.cell? ⟨b, j, none⟩ = ((w.alloc (.cells #[v] 31)).alloc (.cells #[.string ⟨#[]⟩, .string ⟨#[]⟩] 75)).cell? ⟨b, j, none⟩ := fun b j h => hb.cell (by exact h)
  have f : ∀ b j, b < w.heap.size + 2 → u.frozen? ⟨b, j, none⟩ = ((w.alloc (.cells #[v] 31)).alloc (.cells #[.string ⟨#[]⟩, .string ⟨#[]⟩] 75)).frozen? ⟨b, j, none⟩ := fun b j h => hb.frozen (by exact h)
  rw [c _ _ (by omega), c _ _ (by omega), c _ _ (by omega), f _ _ (by omega), f _ _ (by omega)]
  simp [go_sem]
theorem set2_at' (u : World) (B : Nat) (v0 v1 x0 x1 : Value) (h0 : u.cell? ⟨B, 0, none⟩ = some x0) (h1 : u.cell? ⟨B, 1, none⟩ = some x1) :
    ((u.setCell ⟨B, 0, none⟩ v0).setCell ⟨B, 1, none⟩ v1).cell? ⟨B, 0, none⟩ = some v0 ∧ ((u.setCell ⟨B, 0, none⟩ v0).setCell ⟨B, 1, none⟩ v1).cell? ⟨B, 1, none⟩ = some v1 := by
  have a1 : (u.setCell ⟨B, 0, none⟩ v0).cell? ⟨B, 1, none⟩ = some x1 := by rw [World.cell?_setCell_other _ _ _ _ (adr_ne (by omega))]; exact h1
  refine ⟨?_, World.cell?_setCell_same _ _ _ a1⟩
  rw [World.cell?_setCell_other _ _ _ _ (adr_ne (by omega))]; exact World.cell?_setCell_same _ _ _ h0

def Is33 (fs : List F2) (nm : ByteArray) (e : Ending) : Prop := ∃ (x : F2) (there : Bool), e = .returned (.tuple #[.agg #[.string x.nm, .string x.tx], .bool there]) ∧ ((there = true ∧ ∃ i, i < fs.length ∧ fs.getD i f2z = x ∧ x.nm = nm) ∨ (there = false ∧ Free fs nm))
set_option maxHeartbeats 2000000 in
theorem c52 (a : Option Addr) (cap : Nat) (fs : List F2) (nm : ByteArray) (w : World) (hl : fs.length ≤ 40) (hat : FilesAt w a fs) (hm : Asc fs) :
    Calls Tryz.prog 52 #[.agg #[.slice a fs.length cap], .string nm] w fun e w' => Is33 fs nm e ∧ Below w.heap.size w w' := by
  have hB0 : Below w.heap.size w ((w.alloc (.cells #[.slice a fs.length cap] 31)).alloc (.cells #[.string ⟨#[]⟩, .string ⟨#[]⟩] 75)) := ((Below.refl _ _).alloc (Nat.le_refl _) _).alloc (by simp) _
  have h35 := T.c54 a cap fs nm _ hl (T.files_below hat hB0) hm
  go_enter Tryz.func52, Tryz.ntmps52
  go_wp2_with fail
  refine h35.mono ?_
  rintro e w1 ⟨⟨p, f, rfl, hp⟩, hb1⟩
  obtain ⟨P1, P2⟩ := place_free hm hp
  have hx1 : Below (w.heap.size + 2) ((w.alloc (.cells #[.slice a fs.length cap] 31)).alloc (.cells #[.string ⟨#[]⟩, .string ⟨#[]⟩] 75)) w1 := by have h := hb1; simp at h; exact h
  have hB1 : Below w.heap.size w w1 := hB0.trans (hx1.mono (by omega))
  obtain ⟨t0, ⟨z0, z1⟩, y0, y1⟩ := rzF hx1
  clear hb1 h35
  cases f
  · have HI : Hid (Is33 fs nm (.returned (.tuple #[.agg #[.string ⟨#[]⟩, .string ⟨#[]⟩], .bool false]))) := ⟨⟨⟨#[]⟩, ⟨#[]⟩⟩, false, rfl, .inr ⟨rfl, P2 rfl⟩⟩
    clear P1 P2 hp
    go_wp2
    have F := set2_at' w1 (w.heap.size + 1) (.string ⟨#[]⟩) (.string ⟨#[]⟩) _ _ z0 z1
    refine bodyPost_ret (v := .tuple #[.agg #[.string ⟨#[]⟩, .string ⟨#[]⟩], .bool false]) (by simp [results, Tryz.results52, go_sem, F.1, F.2]) rfl ⟨HI.out, ?_⟩
    exact (hB1.setCell (by simp) _).setCell (by simp) _
  · obtain ⟨i, rfl, hi, hn⟩ := P1 rfl
    obtain ⟨b, off, hc⟩ := T.files_some hat
    rcases hc with hss | ⟨ha, hbw, hcell⟩
    · rw [hss] at hi; exact absurd hi (Nat.not_lt_zero _)
    subst ha
    have g0 := (hB1.cell (p := ⟨b, off + i * 2, none⟩) hbw).trans (hcell i hi).1
    have g1 := (hB1.cell (p := ⟨b, off + i * 2 + 1, none⟩) hbw).trans (hcell i hi).2
    have HI : Hid (Is33 fs nm (.returned (.tuple #[.agg #[.string (fs.getD i f2z).nm, .string (fs.getD i f2z).tx], .bool true]))) := ⟨_, true, rfl, .inl ⟨rfl, i, hi, rfl, hn⟩⟩
    have HX : Hid (∃ x, x = fs.getD i f2z) := ⟨_, rfl⟩
    obtain ⟨x, hx⟩ := HX.out
    rw [← hx] at g0 g1 HI
    clear P1 P2 hp hcell HX hx hn
    go_wp2
    have F := set2_at' w1 (w.heap.size + 1) (.string x.nm) (.string x.tx) _ _ z0 z1
    refine bodyPost_ret (v := .tuple #[.agg #[.string x.nm, .string x.tx], .bool true]) (by simp [results, Tryz.results52, go_sem, F.1, F.2]) rfl ⟨HI.out, ?_⟩
    exact (hB1.setCell (by simp) _).setCell (by simp) _
end Go.Proofs.YtggcgnfockpgmaaGreatDoor

import Derived.Test.YtggcgnfockpgmaaGreatDoorJ1
namespace Go.Proofs.YtggcgnfockpgmaaGreatDoor
open Go.RowKit
open T (lt cmpB cmpB_neg cmpB_zero lt_trans' lt_irrefl' c58)
theorem placeM_free {ms : List M3} {nm : ByteArray} {p : Nat} {f : Bool} (hm : AscM ms) (h : PlaceM ms nm p f) : (f = true → ∃ i, i = p ∧ i < ms.length ∧ (ms.getD i m3z).nm = nm) ∧ (f = false → ∀ j, j < ms.length → (ms.getD j m3z).nm ≠ nm) := by
  refine ⟨fun e => ⟨p, rfl, h.here.1 e⟩, fun e j hj hn => ?_⟩
  subst e
  rcases Nat.lt_trichotomy j p with h1 | h1 | h1
  · have a1 := h.less j h1
    rw [hn, lt_irrefl'] at a1; cases a1
  · subst h1
    have := h.here.2 ⟨hj, hn⟩
    cases this
  · have a1 := hm p j h1 hj
    rw [hn] at a1
    have a2 := h.more p (Nat.le_refl _) (by omega)
    rw [a1] at a2; cases a2
theorem rzM {w u : World} (hb : Below (w.heap.size + 1) (w.alloc (.cells #[.string ⟨#[]⟩, .string ⟨#[]⟩, .string ⟨#[]⟩] 48)) u) :
    (u.cell? ⟨w.heap.size, 0, none⟩ = some (.string ⟨#[]⟩) ∧ u.cell? ⟨w.heap.size, 1, none⟩ = some (.string ⟨#[]⟩) ∧ u.cell? ⟨w.heap.size, 2, none⟩ = some (.string ⟨#[]⟩)) ∧ u.frozen? ⟨w.heap.size, 0, none⟩ = false ∧ u.frozen? ⟨w.heap.size, 1, none⟩ = false ∧ u.frozen? ⟨w.heap.size, 2, none⟩ = false := by
  have c : ∀ b j, b < w.heap.size + 1 → u.cell? ⟨b, j, none⟩ = (w.alloc (.cells #[.string ⟨#[]⟩, .string ⟨#[]⟩, .string ⟨#[]⟩] 48)).cell? ⟨b, j, none⟩ := fun b j h => hb.cell (by exact h)
  have f : ∀ b j, b < w.heap.size + 1 → u.frozen? ⟨b, j, none⟩ = (w.alloc (.cells #[.string ⟨#[]⟩, .string ⟨#[]⟩, .string ⟨#[]⟩] 48)).frozen? ⟨b, j, none⟩ := fun b j h => hb.frozen (by exact h)
  rw [c _ _ (by omega), c _ _ (by omega), c _ _ (by omega), f _ _ (by omega), f _ _ (by omega), f _ _ (by omega)]
  simp [go_sem]
/-- What makeNamed answers. -/
def Is42 (ms : List M3) (nm : ByteArray) (e : Ending) : Prop := ∃ (x : M3) (there : Bool), e = .returned (.tuple #[.agg #[.string x.nm, .string x.tl, .string x.ar], .bool there]) ∧ ((there = true ∧ ∃ i, i < ms.length ∧ ms.getD i m3z = x ∧ x.nm = nm) ∨ (there = false ∧ ∀ j, j < ms.length → (ms.getD j m3z).nm ≠ nm))
set_option maxHeartbeats 2000000 in
theorem c42 (a : Option Addr) (cap : Nat) (ms : List M3) (nm : ByteArray) (w : World) (hl : ms.length ≤ 300) (hat : MksAt w a ms) (hm : AscM ms) :
    Calls Tryz.prog 42 #[.slice a ms.length cap, .string nm] w fun e w' => Is42 ms nm e ∧ Below w.heap.size w w' := by
  have hB0 : Below w.heap.size w (w.alloc (.cells #[.string ⟨#[]⟩, .string ⟨#[]⟩, .string ⟨#[]⟩] 48)) := (Below.refl _ _).alloc (Nat.le_refl _) _
  have h35 := c56 a cap ms nm _ hl (mks_below hat hB0) hm
  go_enter Tryz.func42, Tryz.ntmps42
  go_wp2_with fail
  refine h35.mono ?_
  rintro e w1 ⟨⟨p, f, rfl, hp⟩, hb1⟩
  obtain ⟨P1, P2⟩ := placeM_free hm hp
  have hx1 : Below (w.heap.size + 1) (w.alloc (.cells #[.string ⟨#[]⟩, .string ⟨#[]⟩, .string ⟨#[]⟩] 48)) w1 := by have h := hb1; simp at h; exact h
  have hB1 : Below w.heap.size w w1 := hB0.trans (hx1.mono (by omega))
  obtain ⟨⟨z0, z1, z2⟩, y0, y1, y2⟩ := rzM hx1
  clear hb1 h35
  cases f
  · have HI : Hid (Is42 ms nm (.returned (.tuple #[.agg #[.string ⟨#[]⟩, .string ⟨#[]⟩, .string ⟨#[]⟩], .bool false]))) := ⟨⟨⟨#[]⟩, ⟨#[]⟩, ⟨#[]⟩⟩, false, rfl, .inr ⟨rfl, P2 rfl⟩⟩
    clear P1 P2 hp
    go_wp2
    have F := set3_at w1 w.heap.size 0 (.string ⟨#[]⟩) (.string ⟨#[]⟩) (.string ⟨#[]⟩) _ _ _ z0 z1 z2
    refine bodyPost_ret (v := .tuple #[.agg #[.string ⟨#[]⟩, .string ⟨#[]⟩, .string ⟨#[]⟩], .bool false]) (by simp [results, Tryz.results42, go_sem, F.1, F.2.1, F.2.2]) rfl ⟨HI.out, ?_⟩
    exact ((hB1.setCell (by simp) _).setCell (by simp) _).setCell (by simp) _
  · obtain ⟨i, rfl, hi, hn⟩ := P1 rfl
    obtain ⟨b, off, hc⟩ := mks_some hat
    rcases hc with hss | ⟨ha, hbw, hcell⟩
    · rw [hss] at hi; exact absurd hi (Nat.not_lt_zero _)
    subst ha
    have g0 := (hB1.cell (p := ⟨b, off + i * 3, none⟩) hbw).trans (hcell i hi).1
    have g1 := (hB1.cell (p := ⟨b, off + i * 3 + 1, none⟩) hbw).trans (hcell i hi).2.1
    have g2 := (hB1.cell (p := ⟨b, off + i * 3 + 2, none⟩) hbw).trans (hcell i hi).2.2
    have HI : Hid (Is42 ms nm (.returned (.tuple #[.agg #[.string (ms.getD i m3z).nm, .string (ms.getD i m3z).tl, .string (ms.getD i m3z).ar], .bool true]))) := ⟨_, true, rfl, .inl ⟨rfl, i, hi, rfl, hn⟩⟩
    have HX : Hid (∃ x, x = ms.getD i m3z) := ⟨_, rfl⟩
    obtain ⟨x, hx⟩ := HX.out
    rw [← hx] at g0 g1 g2 HI
    clear P1 P2 hp hcell HX hx hn
    go_wp2
    have F := set3_at w1 w.heap.size 0 (.string x.nm) (.string x.tl) (.string x.ar) _ _ _ z0 z1 z2
    refine bodyPost_ret (v := .tuple #[.agg #[.string x.nm, .string x.tl, .string x.ar], .bool true]) (by simp [results, Tryz.results42, go_sem, F.1, F.2.1, F.2.2]) rfl ⟨HI.out, ?_⟩
    exact ((hB1.setCell (by simp) _).setCell (by simp) _).setCell (by simp) _
end Go.Proofs.YtggcgnfockpgmaaGreatDoor

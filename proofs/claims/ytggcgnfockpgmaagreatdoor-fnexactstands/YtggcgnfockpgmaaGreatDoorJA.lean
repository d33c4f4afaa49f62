import Derived.Test.YtggcgnfockpgmaaGreatDoorJ8
namespace Go.Proofs.YtggcgnfockpgmaaGreatDoor
open Go.RowKit
theorem set8_at (u : World) (B : Nat) (v0 v1 v2 v3 v4 v5 v6 v7 x0 x1 x2 x3 x4 x5 x6 x7 : Value) (h0 : u.cell? ⟨B, 0, none⟩ = some x0) (h1 : u.cell? ⟨B, 1, none⟩ = some x1) (h2 : u.cell? ⟨B, 2, none⟩ = some x2) (h3 : u.cell? ⟨B, 3, none⟩ = some x3) (h4 : u.cell? ⟨B, 4, none⟩ = some x4) (h5 : u.cell? ⟨B, 5, none⟩ = some x5) (h6 : u.cell? ⟨B, 6, none⟩ = some x6) (h7 : u.cell? ⟨B, 7, none⟩ = some x7) :
    ((((((((u.setCell ⟨B, 0, none⟩ v0).setCell ⟨B, 1, none⟩ v1).setCell ⟨B, 2, none⟩ v2).setCell ⟨B, 3, none⟩ v3).setCell ⟨B, 4, none⟩ v4).setCell ⟨B, 5, none⟩ v5).setCell ⟨B, 6, none⟩ v6).setCell ⟨B, 7, none⟩ v7).cell? ⟨B, 0, none⟩ = some v0 ∧ ((((((((u.setCell ⟨B, 0, none⟩ v0).setCell ⟨B, 1, none⟩ v1).setCell ⟨B, 2, none⟩ v2).setCell ⟨B, 3, none⟩ v3).setCell ⟨B, 4, none⟩ v4).setCell ⟨B, 5, none⟩ v5).setCell ⟨B, 6, none⟩ v6).setCell ⟨B, 7, none⟩ v7).cell? ⟨B, 1, none⟩ = some v1 ∧ ((((((((u.setCell ⟨B, 0, none⟩ v0).setCell ⟨B, 1, none⟩ v1).setCell ⟨B, 2, none⟩ v2).setCell ⟨B, 3, none⟩ v3).setCell ⟨B, 4, none⟩ v4).setCell ⟨B, 5, none⟩ v5).setCell ⟨B, 6, none⟩ v6).setCell ⟨B, 7, none⟩ v7).cell? ⟨B, 2, none⟩ = some v2 ∧ ((((((((u.setCell ⟨B, 0, none⟩ v0).setCell ⟨B, 1, none⟩ v1).setCell ⟨B, 2, none⟩ v2).setCell ⟨B, 3, none⟩ v3).setCell ⟨B, 4, none⟩ v4).setCell ⟨B, 5, none⟩ v5).setCell ⟨B, 6, none⟩ v6).setCell ⟨B, 7, none⟩ v7).cell? ⟨B, 3, none⟩ = some v3 ∧ ((((((((u.setCell ⟨B, 0, none⟩ v0).setCell ⟨B, 1, none⟩ v1).setCell ⟨B, 2, none⟩ v2).setCell ⟨B, 3, none⟩ v3).setCell ⟨B, 4, none⟩ v4).setCell ⟨B, 5, none⟩ v5).setCell ⟨B, 6, none⟩ v6).setCell ⟨B, 7, none⟩ v7).cell? ⟨B, 4, none⟩ = some v4 ∧ ((((((((u.setCell ⟨B, 0, none⟩ v0).setCell ⟨B, 1, none⟩ v1).setCell ⟨B, 2, none⟩ v2).setCell ⟨B, 3, none⟩ v3).setCell ⟨B, 4, none⟩ v4).setCell ⟨B, 5, none⟩ v5).setCell ⟨B, 6, none⟩ v6).setCell ⟨B, 7, none⟩ v7).cell? ⟨B, 5, none⟩ = some v5 ∧ ((((((((u.setCell ⟨B, 0, none⟩ v0).setCell ⟨B, 1, none⟩ v1).setCell ⟨B, 2, none⟩ v2).setCell ⟨B, 3, none⟩ v3).setCell ⟨B, 4, none⟩ v4).setCell ⟨B, 5, none⟩ v5).setCell ⟨B, 6, none⟩ v6).setCell ⟨B, 7, none⟩ v7).cell? ⟨B, 6, none⟩ = some v6 ∧ ((((((((u.setCell ⟨B, 0, none⟩ v0).setCell ⟨B, 1, none⟩ v1).setCell ⟨B, 2, none⟩ v2).setCell ⟨B, 3, none⟩ v3).setCell ⟨B, 4, none⟩ v4).setCell ⟨B, 5, none⟩ v5).setCell ⟨B, 6, none⟩ v6).setCell ⟨B, 7, none⟩ v7).cell? ⟨B, 7, none⟩ = some v7 := by
  obtain ⟨a0, a1, a2, a3⟩ := set4_at u B 0 v0 v1 v2 v3 x0 x1 x2 x3 h0 h1 h2 h3
  have o : ∀ m, 4 ≤ m → ((((u.setCell ⟨B, 0, none⟩ v0).setCell ⟨B, 1, none⟩ v1).setCell ⟨B, 2, none⟩ v2).setCell ⟨B, 3, none⟩ v3).cell? ⟨B, m, none⟩ = u.cell? ⟨B, m, none⟩ := fun m h => set4_other u B 0 m v0 v1 v2 v3 (by omega) (by omega) (by omega) (by omega)
  obtain ⟨b0, b1, b2, b3⟩ := set4_at _ B 4 v4 v5 v6 v7 x4 x5 x6 x7 ((o 4 (by omega)).trans h4) ((o 5 (by omega)).trans h5) ((o 6 (by omega)).trans h6) ((o 7 (by omega)).trans h7)
  have p : ∀ m, m < 4 → (((((((( u.setCell ⟨B, 0, none⟩ v0).setCell ⟨B, 1, none⟩ v1).setCell ⟨B, 2, none⟩ v2).setCell ⟨B, 3, none⟩ v3).setCell ⟨B, 4, none⟩ v4).setCell ⟨B, 5, none⟩ v5).setCell ⟨B, 6, none⟩ v6).setCell ⟨B, 7, none⟩ v7).cell? ⟨B, m, none⟩ = ((((u.setCell ⟨B, 0, none⟩ v0).setCell ⟨B, 1, none⟩ v1).setCell ⟨B, 2, none⟩ v2).setCell ⟨B, 3, none⟩ v3).cell? ⟨B, m, none⟩ := fun m h => set4_other _ B 4 m v4 v5 v6 v7 (by omega) (by omega) (by omega) (by omega)
  exact ⟨(p 0 (by omega)).trans a0, (p 1 (by omega)).trans a1, (p 2 (by omega)).trans a2, (p 3 (by omega)).trans a3, b0, b1, b2, b3⟩
set_option maxHeartbeats 2000000 in
theorem c20 (x : D8) (ai : Option Addr) (ci : Nat) (w : World) (hl : x.ls.length ≤ 1048576) (hat : LksAt w ai x.ls) :
    Calls Tryz.prog 20 #[.agg #[.string x.nm, .bool x.made, .string x.km.nm, .string x.km.tl, .string x.km.ar, .slice ai x.ls.length ci, .int .i64 x.cd, .string x.tx]] w fun e w' => (∃ g, w.heap.size + 3 ≤ g ∧ e = .returned (.agg #[.string x.nm, .bool x.made, .string x.km.nm, .string x.km.tl, .string x.km.ar, .slice (some ⟨g, 0, none⟩) x.ls.length x.ls.length, .int .i64 x.cd, .string x.tx]) ∧ LksAt w' (some ⟨g, 0, none⟩) x.ls) ∧ Below w.heap.size w w' := by
  have hB0 : Below w.heap.size w (((w.alloc (.cells #[.string x.nm, .bool x.made, .string x.km.nm, .string x.km.tl, .string x.km.ar, .slice ai x.ls.length ci, .int .i64 x.cd, .string x.tx] 46)).alloc (.cells #[.string ⟨#[]⟩, .bool false, .string ⟨#[]⟩, .string ⟨#[]⟩, .string ⟨#[]⟩, .slice none 0 0, .int .i64 0, .string ⟨#[]⟩] 52)).alloc (.cells #[.string x.nm, .bool x.made, .string ⟨#[]⟩, .string ⟨#[]⟩, .string ⟨#[]⟩, .slice none 0 0, .int .i64 0, .string ⟨#[]⟩] 52)) := (((Below.refl _ _).alloc (Nat.le_refl _) _).alloc (by simp) _).alloc (by simp; omega) _
  have h36 := c36 x.km (((w.alloc (.cells #[.string x.nm, .bool x.made, .string x.km.nm, .string x.km.tl, .string x.km.ar, .slice ai x.ls.length ci, .int .i64 x.cd, .string x.tx] 46)).alloc (.cells #[.string ⟨#[]⟩, .bool false, .string ⟨#[]⟩, .string ⟨#[]⟩, .string ⟨#[]⟩, .slice none 0 0, .int .i64 0, .string ⟨#[]⟩] 52)).alloc (.cells #[.string x.nm, .bool x.made, .string ⟨#[]⟩, .string ⟨#[]⟩, .string ⟨#[]⟩, .slice none 0 0, .int .i64 0, .string ⟨#[]⟩] 52))
  have HA : Hid (LksAt w ai x.ls) := hat
  clear hat
  go_enter Tryz.func20, Tryz.ntmps20
  go_wp2_with fail
  refine h36.mono ?_
  rintro e w1 ⟨rfl, hb1⟩
  have hx1 : Below (w.heap.size + 3) (((w.alloc (.cells #[.string x.nm, .bool x.made, .string x.km.nm, .string x.km.tl, .string x.km.ar, .slice ai x.ls.length ci, .int .i64 x.cd, .string x.tx] 46)).alloc (.cells #[.string ⟨#[]⟩, .bool false, .string ⟨#[]⟩, .string ⟨#[]⟩, .string ⟨#[]⟩, .slice none 0 0, .int .i64 0, .string ⟨#[]⟩] 52)).alloc (.cells #[.string x.nm, .bool x.made, .string ⟨#[]⟩, .string ⟨#[]⟩, .string ⟨#[]⟩, .slice none 0 0, .int .i64 0, .string ⟨#[]⟩] 52)) w1 := by have h := hb1; simp at h; exact h
  have hB1 : Below w.heap.size w w1 := hB0.trans (hx1.mono (by omega))
  have c : ∀ b j, b < w.heap.size + 3 → w1.cell? ⟨b, j, none⟩ = (((w.alloc (.cells #[.string x.nm, .bool x.made, .string x.km.nm, .string x.km.tl, .string x.km.ar, .slice ai x.ls.length ci, .int .i64 x.cd, .string x.tx] 46)).alloc (.cells #[.string ⟨#[]⟩, .bool false, .string ⟨#[]⟩, .string ⟨#[]⟩, .string ⟨#[]⟩, .slice none 0 0, .int .i64 0, .string ⟨#[]⟩] 52)).alloc (.cells #[.string x.nm, .bool x.made, .string ⟨#[]⟩, .string ⟨#[]⟩, .string ⟨#[]⟩, .slice none 0 0, .int .i64 0, .string ⟨#[]⟩] 52)).cell? ⟨b, j, none⟩ := fun b j h => hx1.cell (by exact h)
  have f : ∀ b j, b < w.heap.size + 3 → w1.frozen? ⟨b, j, none⟩ = (((w.alloc (.cells #[.string x.nm, .bool x.made, .string x.km.nm, .string x.km.tl, .string x.km.ar, .slice ai x.ls.length ci, .int .i64 x.cd, .string x.tx] 46)).alloc (.cells #[.string ⟨#[]⟩, .bool false, .string ⟨#[]⟩, .string ⟨#[]⟩, .string ⟨#[]⟩, .slice none 0 0, .int .i64 0, .string ⟨#[]⟩] 52)).alloc (.cells #[.string x.nm, .bool x.made, .string ⟨#[]⟩, .string ⟨#[]⟩, .string ⟨#[]⟩, .slice none 0 0, .int .i64 0, .string ⟨#[]⟩] 52)).frozen? ⟨b, j, none⟩ := fun b j h => hx1.frozen (by exact h)
  have a5 : w1.cell? ⟨w.heap.size, 5, none⟩ = some (.slice ai x.ls.length ci) := by rw [c _ _ (by omega)]; simp [go_sem]
  have a6 : w1.cell? ⟨w.heap.size, 6, none⟩ = some (.int .i64 x.cd) := by rw [c _ _ (by omega)]; simp [go_sem]
  have a7 : w1.cell? ⟨w.heap.size, 7, none⟩ = some (.string x.tx) := by rw [c _ _ (by omega)]; simp [go_sem]
  have r0 : w1.cell? ⟨w.heap.size + 1, 0, none⟩ = some (.string ⟨#[]⟩) := by rw [c _ _ (by omega)]; simp [go_sem]
  have o0 : w1.cell? ⟨w.heap.size + 1 + 1, 0, none⟩ = some (.string x.nm) := by rw [c _ _ (by omega)]; simp [go_sem]
  have fr0 : w1.frozen? ⟨w.heap.size + 1, 0, none⟩ = false := by rw [f _ _ (by omega)]; simp [go_sem]
  have fo0 : w1.frozen? ⟨w.heap.size + 1 + 1, 0, none⟩ = false := by rw [f _ _ (by omega)]; simp [go_sem]
  have r1 : w1.cell? ⟨w.heap.size + 1, 1, none⟩ = some (.bool false) := by rw [c _ _ (by omega)]; simp [go_sem]
  have o1 : w1.cell? ⟨w.heap.size + 1 + 1, 1, none⟩ = some (.bool x.made) := by rw [c _ _ (by omega)]; simp [go_sem]
  have fr1 : w1.frozen? ⟨w.heap.size + 1, 1, none⟩ = false := by rw [f _ _ (by omega)]; simp [go_sem]
  have fo1 : w1.frozen? ⟨w.heap.size + 1 + 1, 1, none⟩ = false := by rw [f _ _ (by omega)]; simp [go_sem]
  have r2 : w1.cell? ⟨w.heap.size + 1, 2, none⟩ = some (.string ⟨#[]⟩) := by rw [c _ _ (by omega)]; simp [go_sem]
  have o2 : w1.cell? ⟨w.heap.size + 1 + 1, 2, none⟩ = some (.string ⟨#[]⟩) := by rw [c _ _ (by omega)]; simp [go_sem]
  have fr2 : w1.frozen? ⟨w.heap.size + 1, 2, none⟩ = false := by rw [f _ _ (by omega)]; simp [go_sem]
  have fo2 : w1.frozen? ⟨w.heap.size + 1 + 1, 2, none⟩ = false := by rw [f _ _ (by omega)]; simp [go_sem]
  have r3 : w1.cell? ⟨w.heap.size + 1, 3, none⟩ = some (.string ⟨#[]⟩) := by rw [c _ _ (by omega)]; simp [go_sem]
  have o3 : w1.cell? ⟨w.heap.size + 1 + 1, 3, none⟩ = some (.string ⟨#[]⟩) := by rw [c _ _ (by omega)]; simp [go_sem]
  have fr3 : w1.frozen? ⟨w.heap.size + 1, 3, none⟩ = false := by rw [f _ _ (by omega)]; simp [go_sem]
  have fo3 : w1.frozen? ⟨w.heap.size + 1 + 1, 3, none⟩ = false := by rw [f _ _ (by omega)]; simp [go_sem]
  have r4 : w1.cell? ⟨w.heap.size + 1, 4, none⟩ = some (.string ⟨#[]⟩) := by rw [c _ _ (by omega)]; simp [go_sem]
  have o4 : w1.cell? ⟨w.heap.size + 1 + 1, 4, none⟩ = some (.string ⟨#[]⟩) := by rw [c _ _ (by omega)]; simp [go_sem]
  have fr4 : w1.frozen? ⟨w.heap.size + 1, 4, none⟩ = false := by rw [f _ _ (by omega)]; simp [go_sem]
  have fo4 : w1.frozen? ⟨w.heap.size + 1 + 1, 4, none⟩ = false := by rw [f _ _ (by omega)]; simp [go_sem]
  have r5 : w1.cell? ⟨w.heap.size + 1, 5, none⟩ = some (.slice none 0 0) := by rw [c _ _ (by omega)]; simp [go_sem]
  have o5 : w1.cell? ⟨w.heap.size + 1 + 1, 5, none⟩ = some (.slice none 0 0) := by rw [c _ _ (by omega)]; simp [go_sem]
  have fr5 : w1.frozen? ⟨w.heap.size + 1, 5, none⟩ = false := by rw [f _ _ (by omega)]; simp [go_sem]
  have fo5 : w1.frozen? ⟨w.heap.size + 1 + 1, 5, none⟩ = false := by rw [f _ _ (by omega)]; simp [go_sem]
  have r6 : w1.cell? ⟨w.heap.size + 1, 6, none⟩ = some (.int .i64 0) := by rw [c _ _ (by omega)]; simp [go_sem]
  have o6 : w1.cell? ⟨w.heap.size + 1 + 1, 6, none⟩ = some (.int .i64 0) := by rw [c _ _ (by omega)]; simp [go_sem]
  have fr6 : w1.frozen? ⟨w.heap.size + 1, 6, none⟩ = false := by rw [f _ _ (by omega)]; simp [go_sem]
  have fo6 : w1.frozen? ⟨w.heap.size + 1 + 1, 6, none⟩ = false := by rw [f _ _ (by omega)]; simp [go_sem]
  have r7 : w1.cell? ⟨w.heap.size + 1, 7, none⟩ = some (.string ⟨#[]⟩) := by rw [c _ _ (by omega)]; simp [go_sem]
  have o7 : w1.cell? ⟨w.heap.size + 1 + 1, 7, none⟩ = some (.string ⟨#[]⟩) := by rw [c _ _ (by omega)]; simp [go_sem]
  have fr7 : w1.frozen? ⟨w.heap.size + 1, 7, none⟩ = false := by rw [f _ _ (by omega)]; simp [go_sem]
  have fo7 : w1.frozen? ⟨w.heap.size + 1 + 1, 7, none⟩ = false := by rw [f _ _ (by omega)]; simp [go_sem]
  have hz1 : w.heap.size + 3 ≤ w1.heap.size := by have := hx1.size; simp at this; omega
  clear c f hb1 h36 hx1 hB0
  go_wp2_with fail
  have otU : ∀ b j, (b ≠ w.heap.size + 1 + 1 ∨ (j ≠ 2 ∧ j ≠ 3 ∧ j ≠ 4)) → (((w1.setCell ⟨w.heap.size + 1 + 1, 2, none⟩ (.string x.km.nm)).setCell ⟨w.heap.size + 1 + 1, 3, none⟩ (.string x.km.tl)).setCell ⟨w.heap.size + 1 + 1, 4, none⟩ (.string x.km.ar)).cell? ⟨b, j, none⟩ = w1.cell? ⟨b, j, none⟩ := fun b j h => by
    rw [World.cell?_setCell_other _ _ _ _ (by intro e; injection e with e1 e2; omega), World.cell?_setCell_other _ _ _ _ (by intro e; injection e with e1 e2; omega), World.cell?_setCell_other _ _ _ _ (by intro e; injection e with e1 e2; omega)]
  have frU : ∀ b j, (((w1.setCell ⟨w.heap.size + 1 + 1, 2, none⟩ (.string x.km.nm)).setCell ⟨w.heap.size + 1 + 1, 3, none⟩ (.string x.km.tl)).setCell ⟨w.heap.size + 1 + 1, 4, none⟩ (.string x.km.ar)).frozen? ⟨b, j, none⟩ = w1.frozen? ⟨b, j, none⟩ := fun b j => by simp
  have S := set3_at w1 (w.heap.size + 1 + 1) 2 (.string x.km.nm) (.string x.km.tl) (.string x.km.ar) _ _ _ o2 o3 o4
  have hBU : Below w.heap.size w (((w1.setCell ⟨w.heap.size + 1 + 1, 2, none⟩ (.string x.km.nm)).setCell ⟨w.heap.size + 1 + 1, 3, none⟩ (.string x.km.tl)).setCell ⟨w.heap.size + 1 + 1, 4, none⟩ (.string x.km.ar)) := ((hB1.setCell (by simp; omega) _).setCell (by simp; omega) _).setCell (by simp; omega) _
  have hzU : w.heap.size + 3 ≤ (((w1.setCell ⟨w.heap.size + 1 + 1, 2, none⟩ (.string x.km.nm)).setCell ⟨w.heap.size + 1 + 1, 3, none⟩ (.string x.km.tl)).setCell ⟨w.heap.size + 1 + 1, 4, none⟩ (.string x.km.ar)).heap.size := by simpa using hz1
  generalize (((w1.setCell ⟨w.heap.size + 1 + 1, 2, none⟩ (.string x.km.nm)).setCell ⟨w.heap.size + 1 + 1, 3, none⟩ (.string x.km.tl)).setCell ⟨w.heap.size + 1 + 1, 4, none⟩ (.string x.km.ar)) = U at *
  obtain ⟨u2, u3, u4⟩ := S
  refine (c37 ai ci x.ls U hl (lks_below HA.out hBU)).mono ?_
  rintro e w2 ⟨⟨rfl, hL2⟩, hb2⟩
  have hB2 : Below w.heap.size w w2 := hBU.trans (hb2.mono hBU.size)
  have c2 : ∀ b j, b < w.heap.size + 3 → w2.cell? ⟨b, j, none⟩ = U.cell? ⟨b, j, none⟩ := fun b j h => hb2.cell (by show b < U.heap.size; omega)
  have f2 : ∀ b j, b < w.heap.size + 3 → w2.frozen? ⟨b, j, none⟩ = w1.frozen? ⟨b, j, none⟩ := fun b j h => (hb2.frozen (by show b < U.heap.size; omega)).trans (frU b j)
  have hz2 : U.heap.size < w2.heap.size ∨ x.ls = [] := by
    rcases hL2 with h | ⟨b, off, h1, h2, h3⟩
    · exact .inr h
    · injection h1 with h1; injection h1 with h1 _; exact .inl (by rw [h1]; exact h2)
  generalize hG : U.heap.size = G at *
  have p6 : w2.cell? ⟨w.heap.size, 6, none⟩ = some (.int .i64 x.cd) := ((c2 _ _ (by omega)).trans (otU _ _ (by omega))).trans a6
  have p7 : w2.cell? ⟨w.heap.size, 7, none⟩ = some (.string x.tx) := ((c2 _ _ (by omega)).trans (otU _ _ (by omega))).trans a7
  have s0 : w2.cell? ⟨w.heap.size + 1, 0, none⟩ = some (.string ⟨#[]⟩) := ((c2 _ _ (by omega)).trans (otU _ _ (by omega))).trans r0
  have q0 : w2.cell? ⟨w.heap.size + 1 + 1, 0, none⟩ = some (.string x.nm) := ((c2 _ _ (by omega)).trans (otU _ _ (by omega))).trans o0
  have fs0 : w2.frozen? ⟨w.heap.size + 1, 0, none⟩ = false := (f2 _ _ (by omega)).trans fr0
  have fq0 : w2.frozen? ⟨w.heap.size + 1 + 1, 0, none⟩ = false := (f2 _ _ (by omega)).trans fo0
  have s1 : w2.cell? ⟨w.heap.size + 1, 1, none⟩ = some (.bool false) := ((c2 _ _ (by omega)).trans (otU _ _ (by omega))).trans r1
  have q1 : w2.cell? ⟨w.heap.size + 1 + 1, 1, none⟩ = some (.bool x.made) := ((c2 _ _ (by omega)).trans (otU _ _ (by omega))).trans o1
  have fs1 : w2.frozen? ⟨w.heap.size + 1, 1, none⟩ = false := (f2 _ _ (by omega)).trans fr1
  have fq1 : w2.frozen? ⟨w.heap.size + 1 + 1, 1, none⟩ = false := (f2 _ _ (by omega)).trans fo1
  have s2 : w2.cell? ⟨w.heap.size + 1, 2, none⟩ = some (.string ⟨#[]⟩) := ((c2 _ _ (by omega)).trans (otU _ _ (by omega))).trans r2
  have q2 : w2.cell? ⟨w.heap.size + 1 + 1, 2, none⟩ = some (.string x.km.nm) := (c2 _ _ (by omega)).trans u2
  have fs2 : w2.frozen? ⟨w.heap.size + 1, 2, none⟩ = false := (f2 _ _ (by omega)).trans fr2
  have fq2 : w2.frozen? ⟨w.heap.size + 1 + 1, 2, none⟩ = false := (f2 _ _ (by omega)).trans fo2
  have s3 : w2.cell? ⟨w.heap.size + 1, 3, none⟩ = some (.string ⟨#[]⟩) := ((c2 _ _ (by omega)).trans (otU _ _ (by omega))).trans r3
  have q3 : w2.cell? ⟨w.heap.size + 1 + 1, 3, none⟩ = some (.string x.km.tl) := (c2 _ _ (by omega)).trans u3
  have fs3 : w2.frozen? ⟨w.heap.size + 1, 3, none⟩ = false := (f2 _ _ (by omega)).trans fr3
  have fq3 : w2.frozen? ⟨w.heap.size + 1 + 1, 3, none⟩ = false := (f2 _ _ (by omega)).trans fo3
  have s4 : w2.cell? ⟨w.heap.size + 1, 4, none⟩ = some (.string ⟨#[]⟩) := ((c2 _ _ (by omega)).trans (otU _ _ (by omega))).trans r4
  have q4 : w2.cell? ⟨w.heap.size + 1 + 1, 4, none⟩ = some (.string x.km.ar) := (c2 _ _ (by omega)).trans u4
  have fs4 : w2.frozen? ⟨w.heap.size + 1, 4, none⟩ = false := (f2 _ _ (by omega)).trans fr4
  have fq4 : w2.frozen? ⟨w.heap.size + 1 + 1, 4, none⟩ = false := (f2 _ _ (by omega)).trans fo4
  have s5 : w2.cell? ⟨w.heap.size + 1, 5, none⟩ = some (.slice none 0 0) := ((c2 _ _ (by omega)).trans (otU _ _ (by omega))).trans r5
  have q5 : w2.cell? ⟨w.heap.size + 1 + 1, 5, none⟩ = some (.slice none 0 0) := ((c2 _ _ (by omega)).trans (otU _ _ (by omega))).trans o5
  have fs5 : w2.frozen? ⟨w.heap.size + 1, 5, none⟩ = false := (f2 _ _ (by omega)).trans fr5
  have fq5 : w2.frozen? ⟨w.heap.size + 1 + 1, 5, none⟩ = false := (f2 _ _ (by omega)).trans fo5
  have s6 : w2.cell? ⟨w.heap.size + 1, 6, none⟩ = some (.int .i64 0) := ((c2 _ _ (by omega)).trans (otU _ _ (by omega))).trans r6
  have q6 : w2.cell? ⟨w.heap.size + 1 + 1, 6, none⟩ = some (.int .i64 0) := ((c2 _ _ (by omega)).trans (otU _ _ (by omega))).trans o6
  have fs6 : w2.frozen? ⟨w.heap.size + 1, 6, none⟩ = false := (f2 _ _ (by omega)).trans fr6
  have fq6 : w2.frozen? ⟨w.heap.size + 1 + 1, 6, none⟩ = false := (f2 _ _ (by omega)).trans fo6
  have s7 : w2.cell? ⟨w.heap.size + 1, 7, none⟩ = some (.string ⟨#[]⟩) := ((c2 _ _ (by omega)).trans (otU _ _ (by omega))).trans r7
  have q7 : w2.cell? ⟨w.heap.size + 1 + 1, 7, none⟩ = some (.string ⟨#[]⟩) := ((c2 _ _ (by omega)).trans (otU _ _ (by omega))).trans o7
  have fs7 : w2.frozen? ⟨w.heap.size + 1, 7, none⟩ = false := (f2 _ _ (by omega)).trans fr7
  have fq7 : w2.frozen? ⟨w.heap.size + 1 + 1, 7, none⟩ = false := (f2 _ _ (by omega)).trans fo7
  have HL : Hid (LksAt w2 (some ⟨G, 0, none⟩) x.ls) := hL2
  have hb2s : w.heap.size + 3 ≤ w2.heap.size := by have := hb2.size; omega
  have hGz : w.heap.size + 3 ≤ G := hzU
  clear hL2 hb2 c2 f2 otU frU u2 u3 u4 a5 a6 a7 r0 o0 fr0 fo0 r1 o1 fr1 fo1 r2 o2 fr2 fo2 r3 o3 fr3 fo3 r4 o4 fr4 fo4 r5 o5 fr5 fo5 r6 o6 fr6 fo6 r7 o7 fr7 fo7
  go_wp2_with fail
  have otV : ∀ b j, (b ≠ w.heap.size + 1 + 1 ∨ j ≠ 5) → (w2.setCell ⟨w.heap.size + 1 + 1, 5, none⟩ (.slice (some ⟨G, 0, none⟩) x.ls.length x.ls.length)).cell? ⟨b, j, none⟩ = w2.cell? ⟨b, j, none⟩ := fun b j h => by
    rw [World.cell?_setCell_other _ _ _ _ (by intro e; injection e with e1 e2; omega)]
  have frV : ∀ b j, (w2.setCell ⟨w.heap.size + 1 + 1, 5, none⟩ (.slice (some ⟨G, 0, none⟩) x.ls.length x.ls.length)).frozen? ⟨b, j, none⟩ = w2.frozen? ⟨b, j, none⟩ := fun b j => by simp
  have v5 := World.cell?_setCell_same w2 ⟨w.heap.size + 1 + 1, 5, none⟩ (.slice (some ⟨G, 0, none⟩) x.ls.length x.ls.length) q5
  have hBV : Below w.heap.size w (w2.setCell ⟨w.heap.size + 1 + 1, 5, none⟩ (.slice (some ⟨G, 0, none⟩) x.ls.length x.ls.length)) := hB2.setCell (by simp; omega) _
  have hzV : w.heap.size + 3 ≤ (w2.setCell ⟨w.heap.size + 1 + 1, 5, none⟩ (.slice (some ⟨G, 0, none⟩) x.ls.length x.ls.length)).heap.size := by simpa using hb2s
  have HLV : Hid (LksAt (w2.setCell ⟨w.heap.size + 1 + 1, 5, none⟩ (.slice (some ⟨G, 0, none⟩) x.ls.length x.ls.length)) (some ⟨G, 0, none⟩) x.ls) := lks_set HL.out (fun b off h _ => by injection h with h; injection h with h _; show w.heap.size + 1 + 1 ≠ b; omega)
  generalize w2.setCell ⟨w.heap.size + 1 + 1, 5, none⟩ (Value.slice (some ⟨G, 0, none⟩) x.ls.length x.ls.length) = V at *
  refine (c38 x.cd x.tx V).mono ?_
  rintro e w3 ⟨rfl, hb3⟩
  have hB3 : Below w.heap.size w w3 := hBV.trans (hb3.mono hBV.size)
  have c3 : ∀ b j, b < w.heap.size + 3 → w3.cell? ⟨b, j, none⟩ = V.cell? ⟨b, j, none⟩ := fun b j h => hb3.cell (by show b < V.heap.size; omega)
  have f3 : ∀ b j, b < w.heap.size + 3 → w3.frozen? ⟨b, j, none⟩ = w2.frozen? ⟨b, j, none⟩ := fun b j h => (hb3.frozen (by show b < V.heap.size; omega)).trans (frV b j)
  have HL3 : Hid (LksAt w3 (some ⟨G, 0, none⟩) x.ls) := lks_below HLV.out hb3
  have t0 : w3.cell? ⟨w.heap.size + 1, 0, none⟩ = some (.string ⟨#[]⟩) := ((c3 _ _ (by omega)).trans (otV _ _ (by omega))).trans s0
  have z0 : w3.cell? ⟨w.heap.size + 1 + 1, 0, none⟩ = some (.string x.nm) := ((c3 _ _ (by omega)).trans (otV _ _ (by omega))).trans q0
  have ft0 : w3.frozen? ⟨w.heap.size + 1, 0, none⟩ = false := (f3 _ _ (by omega)).trans fs0
  have fz0 : w3.frozen? ⟨w.heap.size + 1 + 1, 0, none⟩ = false := (f3 _ _ (by omega)).trans fq0
  have t1 : w3.cell? ⟨w.heap.size + 1, 1, none⟩ = some (.bool false) := ((c3 _ _ (by omega)).trans (otV _ _ (by omega))).trans s1
  have z1 : w3.cell? ⟨w.heap.size + 1 + 1, 1, none⟩ = some (.bool x.made) := ((c3 _ _ (by omega)).trans (otV _ _ (by omega))).trans q1
  have ft1 : w3.frozen? ⟨w.heap.size + 1, 1, none⟩ = false := (f3 _ _ (by omega)).trans fs1
  have fz1 : w3.frozen? ⟨w.heap.size + 1 + 1, 1, none⟩ = false := (f3 _ _ (by omega)).trans fq1
  have t2 : w3.cell? ⟨w.heap.size + 1, 2, none⟩ = some (.string ⟨#[]⟩) := ((c3 _ _ (by omega)).trans (otV _ _ (by omega))).trans s2
  have z2 : w3.cell? ⟨w.heap.size + 1 + 1, 2, none⟩ = some (.string x.km.nm) := ((c3 _ _ (by omega)).trans (otV _ _ (by omega))).trans q2
  have ft2 : w3.frozen? ⟨w.heap.size + 1, 2, none⟩ = false := (f3 _ _ (by omega)).trans fs2
  have fz2 : w3.frozen? ⟨w.heap.size + 1 + 1, 2, none⟩ = false := (f3 _ _ (by omega)).trans fq2
  have t3 : w3.cell? ⟨w.heap.size + 1, 3, none⟩ = some (.string ⟨#[]⟩) := ((c3 _ _ (by omega)).trans (otV _ _ (by omega))).trans s3
  have z3 : w3.cell? ⟨w.heap.size + 1 + 1, 3, none⟩ = some (.string x.km.tl) := ((c3 _ _ (by omega)).trans (otV _ _ (by omega))).trans q3
  have ft3 : w3.frozen? ⟨w.heap.size + 1, 3, none⟩ = false := (f3 _ _ (by omega)).trans fs3
  have fz3 : w3.frozen? ⟨w.heap.size + 1 + 1, 3, none⟩ = false := (f3 _ _ (by omega)).trans fq3
  have t4 : w3.cell? ⟨w.heap.size + 1, 4, none⟩ = some (.string ⟨#[]⟩) := ((c3 _ _ (by omega)).trans (otV _ _ (by omega))).trans s4
  have z4 : w3.cell? ⟨w.heap.size + 1 + 1, 4, none⟩ = some (.string x.km.ar) := ((c3 _ _ (by omega)).trans (otV _ _ (by omega))).trans q4
  have ft4 : w3.frozen? ⟨w.heap.size + 1, 4, none⟩ = false := (f3 _ _ (by omega)).trans fs4
  have fz4 : w3.frozen? ⟨w.heap.size + 1 + 1, 4, none⟩ = false := (f3 _ _ (by omega)).trans fq4
  have t5 : w3.cell? ⟨w.heap.size + 1, 5, none⟩ = some (.slice none 0 0) := ((c3 _ _ (by omega)).trans (otV _ _ (by omega))).trans s5
  have z5 : w3.cell? ⟨w.heap.size + 1 + 1, 5, none⟩ = some (Value.slice (some ⟨G, 0, none⟩) x.ls.length x.ls.length) := (c3 _ _ (by omega)).trans v5
  have ft5 : w3.frozen? ⟨w.heap.size + 1, 5, none⟩ = false := (f3 _ _ (by omega)).trans fs5
  have fz5 : w3.frozen? ⟨w.heap.size + 1 + 1, 5, none⟩ = false := (f3 _ _ (by omega)).trans fq5
  have t6 : w3.cell? ⟨w.heap.size + 1, 6, none⟩ = some (.int .i64 0) := ((c3 _ _ (by omega)).trans (otV _ _ (by omega))).trans s6
  have z6 : w3.cell? ⟨w.heap.size + 1 + 1, 6, none⟩ = some (.int .i64 0) := ((c3 _ _ (by omega)).trans (otV _ _ (by omega))).trans q6
  have ft6 : w3.frozen? ⟨w.heap.size + 1, 6, none⟩ = false := (f3 _ _ (by omega)).trans fs6
  have fz6 : w3.frozen? ⟨w.heap.size + 1 + 1, 6, none⟩ = false := (f3 _ _ (by omega)).trans fq6
  have t7 : w3.cell? ⟨w.heap.size + 1, 7, none⟩ = some (.string ⟨#[]⟩) := ((c3 _ _ (by omega)).trans (otV _ _ (by omega))).trans s7
  have z7 : w3.cell? ⟨w.heap.size + 1 + 1, 7, none⟩ = some (.string ⟨#[]⟩) := ((c3 _ _ (by omega)).trans (otV _ _ (by omega))).trans q7
  have ft7 : w3.frozen? ⟨w.heap.size + 1, 7, none⟩ = false := (f3 _ _ (by omega)).trans fs7
  have fz7 : w3.frozen? ⟨w.heap.size + 1 + 1, 7, none⟩ = false := (f3 _ _ (by omega)).trans fq7
  clear HL HLV hb3 c3 f3 otV frV v5 s0 q0 fs0 fq0 s1 q1 fs1 fq1 s2 q2 fs2 fq2 s3 q3 fs3 fq3 s4 q4 fs4 fq4 s5 q5 fs5 fq5 s6 q6 fs6 fq6 s7 q7 fs7 fq7 p6 p7
  go_wp2
  have ne : ∀ i j, (⟨w.heap.size + 1 + 1, i, none⟩ : Addr) ≠ ⟨w.heap.size + 1, j, none⟩ := fun i j e => by injection e with e _; omega
  have qq : ∀ j, ((w3.setCell ⟨w.heap.size + 1 + 1, 6, none⟩ (.int .i64 x.cd)).setCell ⟨w.heap.size + 1 + 1, 7, none⟩ (.string x.tx)).cell? ⟨w.heap.size + 1, j, none⟩ = w3.cell? ⟨w.heap.size + 1, j, none⟩ := fun j => by rw [World.cell?_setCell_other _ _ _ _ (ne _ _), World.cell?_setCell_other _ _ _ _ (ne _ _)]
  have hBW : Below w.heap.size w ((w3.setCell ⟨w.heap.size + 1 + 1, 6, none⟩ (.int .i64 x.cd)).setCell ⟨w.heap.size + 1 + 1, 7, none⟩ (.string x.tx)) := (hB3.setCell (by simp; omega) _).setCell (by simp; omega) _
  have HLW : Hid (LksAt ((w3.setCell ⟨w.heap.size + 1 + 1, 6, none⟩ (.int .i64 x.cd)).setCell ⟨w.heap.size + 1 + 1, 7, none⟩ (.string x.tx)) (some ⟨G, 0, none⟩) x.ls) := lks_set (lks_set HL3.out (fun b off h _ => by injection h with h; injection h with h _; show w.heap.size + 1 + 1 ≠ b; omega)) (fun b off h _ => by injection h with h; injection h with h _; show w.heap.size + 1 + 1 ≠ b; omega)
  generalize ((w3.setCell ⟨w.heap.size + 1 + 1, 6, none⟩ (.int .i64 x.cd)).setCell ⟨w.heap.size + 1 + 1, 7, none⟩ (.string x.tx)) = W at *
  generalize hS : Value.slice (some ⟨G, 0, none⟩) x.ls.length x.ls.length = SL at *
  obtain ⟨F0, F1, F2, F3, F4, F5, F6, F7⟩ := set8_at W (w.heap.size + 1) (.string x.nm) (.bool x.made) (.string x.km.nm) (.string x.km.tl) (.string x.km.ar) SL (.int .i64 x.cd) (.string x.tx) _ _ _ _ _ _ _ _ ((qq 0).trans t0) ((qq 1).trans t1) ((qq 2).trans t2) ((qq 3).trans t3) ((qq 4).trans t4) ((qq 5).trans t5) ((qq 6).trans t6) ((qq 7).trans t7)
  refine bodyPost_ret (v := .agg #[.string x.nm, .bool x.made, .string x.km.nm, .string x.km.tl, .string x.km.ar, SL, .int .i64 x.cd, .string x.tx]) (by simp [results, Tryz.results20, go_sem, F0, F1, F2, F3, F4, F5, F6, F7]) rfl ⟨⟨G, by omega, by rw [← hS], ?_⟩, ?_⟩
  · exact (lks_set (lks_set (lks_set (lks_set (lks_set (lks_set (lks_set (lks_set HLW.out (fun b off h _ => by injection h with h; injection h with h _; show w.heap.size + 1 ≠ b; omega)) (fun b off h _ => by injection h with h; injection h with h _; show w.heap.size + 1 ≠ b; omega)) (fun b off h _ => by injection h with h; injection h with h _; show w.heap.size + 1 ≠ b; omega)) (fun b off h _ => by injection h with h; injection h with h _; show w.heap.size + 1 ≠ b; omega)) (fun b off h _ => by injection h with h; injection h with h _; show w.heap.size + 1 ≠ b; omega)) (fun b off h _ => by injection h with h; injection h with h _; show w.heap.size + 1 ≠ b; omega)) (fun b off h _ => by injection h with h; injection h with h _; show w.heap.size + 1 ≠ b; omega)) (fun b off h _ => by injection h with h; injection h with h _; show w.heap.size + 1 ≠ b; omega))
  · exact (((((((hBW.setCell (by simp) _).setCell (by simp) _).setCell (by simp) _).setCell (by simp) _).setCell (by simp) _).setCell (by simp) _).setCell (by simp) _).setCell (by simp) _
end Go.Proofs.YtggcgnfockpgmaaGreatDoor

import Derived.Test.YtggcgnfockpgmaaGreatDoorJA
namespace Go.Proofs.YtggcgnfockpgmaaGreatDoor
open Go.RowKit
theorem set8j_other (u : World) (B j m : Nat) (v0 v1 v2 v3 v4 v5 v6 v7 : Value) (h : m < j ∨ j + 8 ≤ m) : ((((((((u.setCell ⟨B, j, none⟩ v0).setCell ⟨B, j + 1, none⟩ v1).setCell ⟨B, j + 2, none⟩ v2).setCell ⟨B, j + 3, none⟩ v3).setCell ⟨B, j + 4, none⟩ v4).setCell ⟨B, j + 5, none⟩ v5).setCell ⟨B, j + 6, none⟩ v6).setCell ⟨B, j + 7, none⟩ v7).cell? ⟨B, m, none⟩ = u.cell? ⟨B, m, none⟩ :=
  (set4_other ((((u.setCell ⟨B, j, none⟩ v0).setCell ⟨B, j + 1, none⟩ v1).setCell ⟨B, j + 2, none⟩ v2).setCell ⟨B, j + 3, none⟩ v3) B (j + 4) m v4 v5 v6 v7 (by omega) (by omega) (by omega) (by omega)).trans (set4_other u B j m v0 v1 v2 v3 (by omega) (by omega) (by omega) (by omega))
theorem set8j_at (u : World) (B j : Nat) (v0 v1 v2 v3 v4 v5 v6 v7 x0 x1 x2 x3 x4 x5 x6 x7 : Value) (h0 : u.cell? ⟨B, j, none⟩ = some x0) (h1 : u.cell? ⟨B, j + 1, none⟩ = some x1) (h2 : u.cell? ⟨B, j + 2, none⟩ = some x2) (h3 : u.cell? ⟨B, j + 3, none⟩ = some x3) (h4 : u.cell? ⟨B, j + 4, none⟩ = some x4) (h5 : u.cell? ⟨B, j + 5, none⟩ = some x5) (h6 : u.cell? ⟨B, j + 6, none⟩ = some x6) (h7 : u.cell? ⟨B, j + 7, none⟩ = some x7) :
    ((((((((u.setCell ⟨B, j, none⟩ v0).setCell ⟨B, j + 1, none⟩ v1).setCell ⟨B, j + 2, none⟩ v2).setCell ⟨B, j + 3, none⟩ v3).setCell ⟨B, j + 4, none⟩ v4).setCell ⟨B, j + 5, none⟩ v5).setCell ⟨B, j + 6, none⟩ v6).setCell ⟨B, j + 7, none⟩ v7).cell? ⟨B, j, none⟩ = some (v0) ∧ ((((((((u.setCell ⟨B, j, none⟩ v0).setCell ⟨B, j + 1, none⟩ v1).setCell ⟨B, j + 2, none⟩ v2).setCell ⟨B, j + 3, none⟩ v3).setCell ⟨B, j + 4, none⟩ v4).setCell ⟨B, j + 5, none⟩ v5).setCell ⟨B, j + 6, none⟩ v6).setCell ⟨B, j + 7, none⟩ v7).cell? ⟨B, j + 1, none⟩ = some (v1) ∧ ((((((((u.setCell ⟨B, j, none⟩ v0).setCell ⟨B, j + 1, none⟩ v1).setCell ⟨B, j + 2, none⟩ v2).setCell ⟨B, j + 3, none⟩ v3).setCell ⟨B, j + 4, none⟩ v4).setCell ⟨B, j + 5, none⟩ v5).setCell ⟨B, j + 6, none⟩ v6).setCell ⟨B, j + 7, none⟩ v7).cell? ⟨B, j + 2, none⟩ = some (v2) ∧ ((((((((u.setCell ⟨B, j, none⟩ v0).setCell ⟨B, j + 1, none⟩ v1).setCell ⟨B, j + 2, none⟩ v2).setCell ⟨B, j + 3, none⟩ v3).setCell ⟨B, j + 4, none⟩ v4).setCell ⟨B, j + 5, none⟩ v5).setCell ⟨B, j + 6, none⟩ v6).setCell ⟨B, j + 7, none⟩ v7).cell? ⟨B, j + 3, none⟩ = some (v3) ∧ ((((((((u.setCell ⟨B, j, none⟩ v0).setCell ⟨B, j + 1, none⟩ v1).setCell ⟨B, j + 2, none⟩ v2).setCell ⟨B, j + 3, none⟩ v3).setCell ⟨B, j + 4, none⟩ v4).setCell ⟨B, j + 5, none⟩ v5).setCell ⟨B, j + 6, none⟩ v6).setCell ⟨B, j + 7, none⟩ v7).cell? ⟨B, j + 4, none⟩ = some (v4) ∧ ((((((((u.setCell ⟨B, j, none⟩ v0).setCell ⟨B, j + 1, none⟩ v1).setCell ⟨B, j + 2, none⟩ v2).setCell ⟨B, j + 3, none⟩ v3).setCell ⟨B, j + 4, none⟩ v4).setCell ⟨B, j + 5, none⟩ v5).setCell ⟨B, j + 6, none⟩ v6).setCell ⟨B, j + 7, none⟩ v7).cell? ⟨B, j + 5, none⟩ = some (v5) ∧ ((((((((u.setCell ⟨B, j, none⟩ v0).setCell ⟨B, j + 1, none⟩ v1).setCell ⟨B, j + 2, none⟩ v2).setCell ⟨B, j + 3, none⟩ v3).setCell ⟨B, j + 4, none⟩ v4).setCell ⟨B, j + 5, none⟩ v5).setCell ⟨B, j + 6, none⟩ v6).setCell ⟨B, j + 7, none⟩ v7).cell? ⟨B, j + 6, none⟩ = some (v6) ∧ ((((((((u.setCell ⟨B, j, none⟩ v0).setCell ⟨B, j + 1, none⟩ v1).setCell ⟨B, j + 2, none⟩ v2).setCell ⟨B, j + 3, none⟩ v3).setCell ⟨B, j + 4, none⟩ v4).setCell ⟨B, j + 5, none⟩ v5).setCell ⟨B, j + 6, none⟩ v6).setCell ⟨B, j + 7, none⟩ v7).cell? ⟨B, j + 7, none⟩ = some (v7) := by
  obtain ⟨a0, a1, a2, a3⟩ := set4_at u B j v0 v1 v2 v3 x0 x1 x2 x3 h0 h1 h2 h3
  have o : ∀ m, j + 4 ≤ m → ((((u.setCell ⟨B, j, none⟩ v0).setCell ⟨B, j + 1, none⟩ v1).setCell ⟨B, j + 2, none⟩ v2).setCell ⟨B, j + 3, none⟩ v3).cell? ⟨B, m, none⟩ = u.cell? ⟨B, m, none⟩ := fun m h => set4_other u B j m v0 v1 v2 v3 (by omega) (by omega) (by omega) (by omega)
  obtain ⟨b0, b1, b2, b3⟩ := set4_at ((((u.setCell ⟨B, j, none⟩ v0).setCell ⟨B, j + 1, none⟩ v1).setCell ⟨B, j + 2, none⟩ v2).setCell ⟨B, j + 3, none⟩ v3) B (j + 4) v4 v5 v6 v7 x4 x5 x6 x7 ((o (j + 4) (by omega)).trans h4) ((o (j + 5) (by omega)).trans h5) ((o (j + 6) (by omega)).trans h6) ((o (j + 7) (by omega)).trans h7)
  have p : ∀ m, m < j + 4 → ((((((((u.setCell ⟨B, j, none⟩ v0).setCell ⟨B, j + 1, none⟩ v1).setCell ⟨B, j + 2, none⟩ v2).setCell ⟨B, j + 3, none⟩ v3).setCell ⟨B, j + 4, none⟩ v4).setCell ⟨B, j + 5, none⟩ v5).setCell ⟨B, j + 6, none⟩ v6).setCell ⟨B, j + 7, none⟩ v7).cell? ⟨B, m, none⟩ = ((((u.setCell ⟨B, j, none⟩ v0).setCell ⟨B, j + 1, none⟩ v1).setCell ⟨B, j + 2, none⟩ v2).setCell ⟨B, j + 3, none⟩ v3).cell? ⟨B, m, none⟩ := fun m h => set4_other ((((u.setCell ⟨B, j, none⟩ v0).setCell ⟨B, j + 1, none⟩ v1).setCell ⟨B, j + 2, none⟩ v2).setCell ⟨B, j + 3, none⟩ v3) B (j + 4) m v4 v5 v6 v7 (by omega) (by omega) (by omega) (by omega)
  exact ⟨(p j (by omega)).trans a0, (p (j + 1) (by omega)).trans a1, (p (j + 2) (by omega)).trans a2, (p (j + 3) (by omega)).trans a3, b0, b1, b2, b3⟩
theorem lks_set8 {w : World} {gi B j : Nat} {is : List L4} (v0 v1 v2 v3 v4 v5 v6 v7 : Value) (h : LksAt w (some ⟨gi, 0, none⟩) is) (hne : B ≠ gi) : LksAt ((((((((w.setCell ⟨B, j, none⟩ v0).setCell ⟨B, j + 1, none⟩ v1).setCell ⟨B, j + 2, none⟩ v2).setCell ⟨B, j + 3, none⟩ v3).setCell ⟨B, j + 4, none⟩ v4).setCell ⟨B, j + 5, none⟩ v5).setCell ⟨B, j + 6, none⟩ v6).setCell ⟨B, j + 7, none⟩ v7) (some ⟨gi, 0, none⟩) is := (lks_set (lks_set (lks_set (lks_set (lks_set (lks_set (lks_set (lks_set h (fun b off h _ => by injection h with h; injection h with h _; show B ≠ b; omega)) (fun b off h _ => by injection h with h; injection h with h _; show B ≠ b; omega)) (fun b off h _ => by injection h with h; injection h with h _; show B ≠ b; omega)) (fun b off h _ => by injection h with h; injection h with h _; show B ≠ b; omega)) (fun b off h _ => by injection h with h; injection h with h _; show B ≠ b; omega)) (fun b off h _ => by injection h with h; injection h with h _; show B ≠ b; omega)) (fun b off h _ => by injection h with h; injection h with h _; show B ≠ b; omega)) (fun b off h _ => by injection h with h; injection h with h _; show B ≠ b; omega))
/-- A deed of a slice that is new. -/
def NewDeed (L : Nat) (w : World) (b o : Nat) (x : D8) : Prop := ∃ gi, L ≤ gi ∧ (w.cell? ⟨b, o, none⟩ = some (.string x.nm) ∧ w.cell? ⟨b, o + 1, none⟩ = some (.bool x.made) ∧ w.cell? ⟨b, o + 2, none⟩ = some (.string x.km.nm) ∧ w.cell? ⟨b, o + 3, none⟩ = some (.string x.km.tl) ∧ w.cell? ⟨b, o + 4, none⟩ = some (.string x.km.ar) ∧ w.cell? ⟨b, o + 5, none⟩ = some (.slice (some ⟨gi, 0, none⟩) x.ls.length x.ls.length) ∧ w.cell? ⟨b, o + 6, none⟩ = some (.int .i64 x.cd) ∧ w.cell? ⟨b, o + 7, none⟩ = some (.string x.tx)) ∧ LksAt w (some ⟨gi, 0, none⟩) x.ls
theorem NewDeed.deed {L : Nat} {w : World} {b o : Nat} {x : D8} (h : NewDeed L w b o x) : DeedAt w b o x := by
  obtain ⟨gi, _, h0, h1⟩ := h
  exact ⟨_, _, h0, h1⟩
theorem NewDeed.below {L : Nat} {w w' : World} {b o : Nat} {x : D8} (h : NewDeed L w b o x) (hlt : b < w.heap.size) (hb : Below w.heap.size w w') : NewDeed L w' b o x := by
  obtain ⟨gi, hg, h0, h3⟩ := h
  refine ⟨gi, hg, ?_, lks_below h3 hb⟩
  rw [hb.cell (by exact hlt), hb.cell (by exact hlt), hb.cell (by exact hlt), hb.cell (by exact hlt), hb.cell (by exact hlt), hb.cell (by exact hlt), hb.cell (by exact hlt), hb.cell (by exact hlt)]
  exact h0
def DeedsNew (w : World) (g : Nat) (is : List D8) : Prop := g < w.heap.size ∧ ∀ i, i < is.length → NewDeed (g + 1) w g (i * 8) (is.getD i d8z)
theorem DeedsNew.deeds {w : World} {g : Nat} {is : List D8} (h : DeedsNew w g is) : DeedsAt w (some ⟨g, 0, none⟩) is := .inr ⟨g, 0, rfl, h.1, fun i hi => by rw [Nat.zero_add]; exact (h.2 i hi).deed⟩
theorem info52 : (Tryz.prog.info? 52).map (fun i => (i.zero, i.size, i.bytes)) = some (some (.agg #[Value.string ⟨#[]⟩, .bool false, .string ⟨#[]⟩, .string ⟨#[]⟩, .string ⟨#[]⟩, .slice none 0 0, .int .i64 0, .string ⟨#[]⟩]), 8, 120) := by kernel_rfl
theorem madeD (n j : Nat) (h : j < n * 8) : (madeCells #[Value.string ⟨#[]⟩, .bool false, .string ⟨#[]⟩, .string ⟨#[]⟩, .string ⟨#[]⟩, .slice none 0 0, .int .i64 0, .string ⟨#[]⟩] (n * 8))[j]? = (#[Value.string ⟨#[]⟩, .bool false, .string ⟨#[]⟩, .string ⟨#[]⟩, .string ⟨#[]⟩, .slice none 0 0, .int .i64 0, .string ⟨#[]⟩] : Array Value)[j % 8]? := by
  have h3 : j % 8 < 8 := Nat.mod_lt _ (by omega)
  rw [Array.getElem?_eq_getElem (by simpa [size_madeCells] using h), Array.getElem?_eq_getElem (by simpa using h3)]
  simp [madeCells, h3]
set_option maxHeartbeats 4000000 in
theorem c8 (a : Option Addr) (cap : Nat) (is : List D8) (w : World) (hl : is.length ≤ 1048576) (hs : ∀ i, (is.getD i d8z).le 1048576) (hat : DeedsAt w a is) :
    Calls Tryz.prog 8 #[.slice a is.length cap] w fun e w' => (e = .returned (.slice (some ⟨w.heap.size, 0, none⟩) is.length is.length) ∧ DeedsNew w' w.heap.size is) ∧ Below w.heap.size w w' := by
  obtain ⟨b, off, hc⟩ := deeds_some hat
  have HC : Hid (is = [] ∨ (a = some ⟨b, off, none⟩ ∧ b < w.heap.size ∧ ∀ i, i < is.length → DeedAt w b (off + i * 8) (is.getD i d8z))) := hc
  have HS : Hid (∀ i, (is.getD i d8z).le 1048576) := hs
  clear hc hat hs
  obtain ⟨i0, hi, hz0, hz1, hz2⟩ := info_parts info52
  have hmk : ∀ u : World, (Instr.makeSlice 33 (.int .i64 (is.length : Int)) (.int .i64 (is.length : Int))).run Tryz.prog u =
      .ok (.slice (some ⟨u.heap.size, 0, none⟩) is.length is.length) (u.alloc (.cells (madeCells #[Value.string ⟨#[]⟩, .bool false, .string ⟨#[]⟩, .string ⟨#[]⟩, .string ⟨#[]⟩, .slice none 0 0, .int .i64 0, .string ⟨#[]⟩] (is.length * 8)) 52)) := fun u => by
    have h := run_make (P := Tryz.prog) u 33 52 i0 (.agg #[Value.string ⟨#[]⟩, .bool false, .string ⟨#[]⟩, .string ⟨#[]⟩, .string ⟨#[]⟩, .slice none 0 0, .int .i64 0, .string ⟨#[]⟩]) Tryz.underlying33 hi hz0 .i64 .i64 (is.length : Int) (is.length : Int) (by omega) (Int.le_refl _) (by rw [hz2]; omega) (by omega)
    simpa [hz1, Value.cells] using h
  go_enter Tryz.func8, Tryz.ntmps8
  go_wp2_with fail
  go_loopw [4] (fun i wr => ∃ (k : Nat), k ≤ is.length ∧ i = .int .i64 k ∧ Below w.heap.size w wr ∧ w.heap.size + 1 ≤ wr.heap.size ∧ (∀ j, wr.frozen? ⟨w.heap.size, j, none⟩ = false) ∧ Hid (∀ j, j < k → NewDeed (w.heap.size + 1) wr w.heap.size (j * 8) (is.getD j d8z)) ∧ Hid (∀ j, k ≤ j → j < is.length → wr.cell? ⟨w.heap.size, j * 8, none⟩ = some (.string ⟨#[]⟩) ∧ wr.cell? ⟨w.heap.size, j * 8 + 1, none⟩ = some (.bool false) ∧ wr.cell? ⟨w.heap.size, j * 8 + 2, none⟩ = some (.string ⟨#[]⟩) ∧ wr.cell? ⟨w.heap.size, j * 8 + 3, none⟩ = some (.string ⟨#[]⟩) ∧ wr.cell? ⟨w.heap.size, j * 8 + 4, none⟩ = some (.string ⟨#[]⟩) ∧ wr.cell? ⟨w.heap.size, j * 8 + 5, none⟩ = some (.slice none 0 0) ∧ wr.cell? ⟨w.heap.size, j * 8 + 6, none⟩ = some (.int .i64 0) ∧ wr.cell? ⟨w.heap.size, j * 8 + 7, none⟩ = some (.string ⟨#[]⟩))) (fun i _ => is.length - (intOf i).toNat)
  case atStart =>
    refine ⟨0, Nat.zero_le _, rfl, (Below.refl _ _).alloc (Nat.le_refl _) _, by simp, fun j => by simp, fun j h => absurd h (Nat.not_lt_zero _), fun j _ h => ?_⟩
    have e0 := madeD is.length (j * 8) (by omega)
    rw [show (j * 8) % 8 = 0 by omega] at e0
    have e1 := madeD is.length (j * 8 + 1) (by omega)
    rw [show (j * 8 + 1) % 8 = 1 by omega] at e1
    have e2 := madeD is.length (j * 8 + 2) (by omega)
    rw [show (j * 8 + 2) % 8 = 2 by omega] at e2
    have e3 := madeD is.length (j * 8 + 3) (by omega)
    rw [show (j * 8 + 3) % 8 = 3 by omega] at e3
    have e4 := madeD is.length (j * 8 + 4) (by omega)
    rw [show (j * 8 + 4) % 8 = 4 by omega] at e4
    have e5 := madeD is.length (j * 8 + 5) (by omega)
    rw [show (j * 8 + 5) % 8 = 5 by omega] at e5
    have e6 := madeD is.length (j * 8 + 6) (by omega)
    rw [show (j * 8 + 6) % 8 = 6 by omega] at e6
    have e7 := madeD is.length (j * 8 + 7) (by omega)
    rw [show (j * 8 + 7) % 8 = 7 by omega] at e7
    simp [e0, e1, e2, e3, e4, e5, e6, e7]
  case round =>
    obtain ⟨k, hk, rfl, hb, hz, hfz, hdone, hrest⟩ := hrel
    by_cases hlt : k < is.length
    · rcases HC.out with hss | ⟨ha, hbw, hcell⟩
      · rw [hss] at hlt; exact absurd hlt (Nat.not_lt_zero _)
      subst ha
      obtain ⟨ai, ci, ⟨g0, g1, g2, g3, g4, g5, g6, g7⟩, hg⟩ := (hcell k hlt).below hbw hb
      obtain ⟨q0, q1, q2, q3, q4, q5, q6, q7⟩ := hrest.out k (Nat.le_refl _) hlt
      have hxl := (HS.out k).2.2.1.1
      generalize hx : is.getD k d8z = x at *
      have HX : Hid (is.getD k d8z = x) := hx
      have HG : Hid (LksAt wr ai x.ls) := hg
      clear hx hcell hg
      go_wp2_with fail
      refine (c20 x ai ci wr hxl HG.out).mono ?_
      rintro e w1 ⟨⟨gi, hgi, rfl, hg1⟩, hb1⟩
      have hB1 : Below w.heap.size w w1 := hb.trans (hb1.mono hb.size)
      have p0 := (hb1.cell (p := ⟨w.heap.size, k * 8, none⟩) (by simp; omega)).trans q0
      have f0 := (hb1.frozen (p := ⟨w.heap.size, k * 8, none⟩) (by simp; omega)).trans (hfz _)
      have p1 := (hb1.cell (p := ⟨w.heap.size, k * 8 + 1, none⟩) (by simp; omega)).trans q1
      have f1 := (hb1.frozen (p := ⟨w.heap.size, k * 8 + 1, none⟩) (by simp; omega)).trans (hfz _)
      have p2 := (hb1.cell (p := ⟨w.heap.size, k * 8 + 2, none⟩) (by simp; omega)).trans q2
      have f2 := (hb1.frozen (p := ⟨w.heap.size, k * 8 + 2, none⟩) (by simp; omega)).trans (hfz _)
      have p3 := (hb1.cell (p := ⟨w.heap.size, k * 8 + 3, none⟩) (by simp; omega)).trans q3
      have f3 := (hb1.frozen (p := ⟨w.heap.size, k * 8 + 3, none⟩) (by simp; omega)).trans (hfz _)
      have p4 := (hb1.cell (p := ⟨w.heap.size, k * 8 + 4, none⟩) (by simp; omega)).trans q4
      have f4 := (hb1.frozen (p := ⟨w.heap.size, k * 8 + 4, none⟩) (by simp; omega)).trans (hfz _)
      have p5 := (hb1.cell (p := ⟨w.heap.size, k * 8 + 5, none⟩) (by simp; omega)).trans q5
      have f5 := (hb1.frozen (p := ⟨w.heap.size, k * 8 + 5, none⟩) (by simp; omega)).trans (hfz _)
      have p6 := (hb1.cell (p := ⟨w.heap.size, k * 8 + 6, none⟩) (by simp; omega)).trans q6
      have f6 := (hb1.frozen (p := ⟨w.heap.size, k * 8 + 6, none⟩) (by simp; omega)).trans (hfz _)
      have p7 := (hb1.cell (p := ⟨w.heap.size, k * 8 + 7, none⟩) (by simp; omega)).trans q7
      have f7 := (hb1.frozen (p := ⟨w.heap.size, k * 8 + 7, none⟩) (by simp; omega)).trans (hfz _)
      have hoz : w.heap.size + 1 ≤ w1.heap.size := Nat.le_trans hz hb1.size
      have HFZ : Hid (∀ j, w1.frozen? ⟨w.heap.size, j, none⟩ = false) := fun j => (hb1.frozen (p := ⟨w.heap.size, j, none⟩) (by simp; omega)).trans (hfz j)
      have HO : Hid (∀ j, w1.cell? ⟨w.heap.size, j, none⟩ = wr.cell? ⟨w.heap.size, j, none⟩) := fun j => hb1.cell (by simp; omega)
      have HD1 : Hid (∀ j, j < k → NewDeed (w.heap.size + 1) w1 w.heap.size (j * 8) (is.getD j d8z)) := fun j hj => (hdone.out j hj).below (by omega) hb1
      have HG1 : Hid (LksAt w1 (some ⟨gi, 0, none⟩) x.ls) := hg1
      clear hg1
      go_wp2
      go_roundw
      case rel =>
        refine ⟨k + 1, by omega, by go_num, (((((((hB1.setCell (by simp) _).setCell (by simp) _).setCell (by simp) _).setCell (by simp) _).setCell (by simp) _).setCell (by simp) _).setCell (by simp) _).setCell (by simp) _, by simpa using hoz, fun j => by rw [← HFZ.out j]; simp, fun j hj => ?_, fun j h1 h2 => ?_⟩
        · by_cases e : j = k
          · subst e
            rw [HX.out]
            exact ⟨gi, by omega, set8j_at w1 w.heap.size (j * 8) _ _ _ _ _ _ _ _ _ _ _ _ _ _ _ _ p0 p1 p2 p3 p4 p5 p6 p7, lks_set8 _ _ _ _ _ _ _ _ HG1.out (by omega)⟩
          · obtain ⟨hi', hgi', d0, d3⟩ := HD1.out j (by omega)
            refine ⟨hi', hgi', ?_, lks_set8 _ _ _ _ _ _ _ _ d3 (by omega)⟩
            rw [set8j_other _ _ _ _ _ _ _ _ _ _ _ _ (by omega), set8j_other _ _ _ _ _ _ _ _ _ _ _ _ (by omega), set8j_other _ _ _ _ _ _ _ _ _ _ _ _ (by omega), set8j_other _ _ _ _ _ _ _ _ _ _ _ _ (by omega), set8j_other _ _ _ _ _ _ _ _ _ _ _ _ (by omega), set8j_other _ _ _ _ _ _ _ _ _ _ _ _ (by omega), set8j_other _ _ _ _ _ _ _ _ _ _ _ _ (by omega), set8j_other _ _ _ _ _ _ _ _ _ _ _ _ (by omega)]
            exact d0
        · have hd := hrest.out j (by omega) h2
          rw [set8j_other _ _ _ _ _ _ _ _ _ _ _ _ (by omega), set8j_other _ _ _ _ _ _ _ _ _ _ _ _ (by omega), set8j_other _ _ _ _ _ _ _ _ _ _ _ _ (by omega), set8j_other _ _ _ _ _ _ _ _ _ _ _ _ (by omega), set8j_other _ _ _ _ _ _ _ _ _ _ _ _ (by omega), set8j_other _ _ _ _ _ _ _ _ _ _ _ _ (by omega), set8j_other _ _ _ _ _ _ _ _ _ _ _ _ (by omega), set8j_other _ _ _ _ _ _ _ _ _ _ _ _ (by omega), HO.out, HO.out, HO.out, HO.out, HO.out, HO.out, HO.out, HO.out]
          exact hd
      case measure => simp [intOf]; omega
    · have hdone' : Hid (DeedsNew wr w.heap.size is) := ⟨by omega, fun i hi => hdone.out i (by omega)⟩
      go_wp2
      go_ret
      exact ⟨⟨rfl, hdone'.out⟩, hb⟩
end Go.Proofs.YtggcgnfockpgmaaGreatDoor

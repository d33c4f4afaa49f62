import Derived.Test.YtafneponofcdeaaD3
namespace Go.Proofs.Ytafneponofcdeaa
open Go.RowKit

/-- A store: Width, Texts, Records. -/
structure St where
  wd : Int
  ts : List ByteArray
  rs : List R3
def St.le (s : St) (B : Nat) : Prop := (s.ts.length ≤ B ∧ ∀ i, (s.ts.getD i ByteArray.empty).size ≤ B) ∧ s.rs.length ≤ B ∧ ∀ i, (s.rs.getD i r3z).le B
def StAt (w : World) (ta ra : Option Addr) (s : St) : Prop := StrsAt w ta s.ts ∧ RecsAt w ra s.rs
theorem StAt.below {w w' : World} {ta ra : Option Addr} {s : St} (h : StAt w ta ra s) (hb : Below w.heap.size w w') : StAt w' ta ra s := ⟨strs_below h.1 hb, recs_below h.2 hb⟩

set_option maxHeartbeats 1000000 in
theorem c8 (ta ra : Option Addr) (tc rc : Nat) (s : St) (w : World) (hs : s.le 9223372036854775807) (hat : StAt w ta ra s) :
    Calls Try.prog 8 #[.agg #[.int .i64 s.wd, .slice ta s.ts.length tc, .slice ra s.rs.length rc], .int .i64 1048576] w fun e w' => (∃ r : Int, e = .returned (.int .i64 r) ∧ (0 ≤ r → s.le 1048576)) ∧ Below w.heap.size w w' := by
  obtain ⟨⟨h1, h2⟩, h3, h4⟩ := hs
  have hB0 : Below w.heap.size w (w.alloc (.cells #[.int .i64 s.wd, .slice ta s.ts.length tc, .slice ra s.rs.length rc] 31)) := (Below.refl _ _).alloc (Nat.le_refl _) _
  have HAT := (Hid.out (show Hid (StAt _ ta ra s) from hat.below hB0))
  have h17 := c17 ta tc s.ts _ h2 h1 HAT.1
  have H4 : Hid (∀ i, (s.rs.getD i r3z).le 9223372036854775807) := h4
  have HR : Hid (RecsAt (w.alloc (.cells #[.int .i64 s.wd, .slice ta s.ts.length tc, .slice ra s.rs.length rc] 31)) ra s.rs) := HAT.2
  clear hat HAT h4 h2
  go_enter Try.func8, Try.ntmps8
  go_wp2_with fail
  refine h17.mono ?_
  rintro e w1 ⟨⟨r1, rfl, hr⟩, hw⟩
  obtain rfl := hw
  clear h17
  by_cases hneg : r1 < 0
  · clear hr
    go_wp2
    go_ret
    exact ⟨⟨-1, rfl, fun h => by omega⟩, hB0⟩
  · obtain ⟨q1, q2, q3⟩ := hr (by omega)
    have HQ : Hid (∀ i, (s.ts.getD i ByteArray.empty).size ≤ 1048576) := q2
    clear hr q2
    have h18 := c18 ra rc s.rs r1 _ (by omega) q3 H4.out h3 HR.out
    go_wp2_with fail
    refine h18.mono ?_
    rintro e w2 ⟨⟨r2, rfl, hr⟩, hb2⟩
    have hB2 : Below w.heap.size w w2 := hB0.trans (hb2.mono (by simp))
    have HR2 : Hid (0 ≤ r2 → s.rs.length ≤ 1048576 ∧ (∀ i, (s.rs.getD i r3z).le 1048576) ∧ r2 ≤ 1048576) := hr
    clear h18 hr
    by_cases hneg : r2 < 0
    · go_wp2
      go_ret
      exact ⟨⟨-1, rfl, fun h => by omega⟩, hB2⟩
    · have hr2 : r2 ≤ 1048576 := (HR2.out (by omega)).2.2
      go_wp2
      go_ret
      exact ⟨⟨_, rfl, fun h => ⟨⟨q1, HQ.out⟩, (HR2.out h).1, (HR2.out h).2.1⟩⟩, hB2⟩

set_option maxHeartbeats 1000000 in
theorem c12 (ta ra ta' ra' : Option Addr) (tc rc tc' rc' : Nat) (s : St) (w : World) (hs : s.le 1048576) (hat : StAt w ta ra s) (hat' : StAt w ta' ra' s) :
    Calls Try.prog 12 #[.agg #[.int .i64 s.wd, .slice ta s.ts.length tc, .slice ra s.rs.length rc], .agg #[.int .i64 s.wd, .slice ta' s.ts.length tc', .slice ra' s.rs.length rc']] w fun e w' => e = .returned (.bool true) ∧ Below w.heap.size w w' := by
  have HS : Hid (s.le 1048576) := hs
  have HA : Hid (StAt w ta ra s) := hat
  have HA' : Hid (StAt w ta' ra' s) := hat'
  have hB0 : Below w.heap.size w ((w.alloc (.cells #[.int .i64 s.wd, .slice ta s.ts.length tc, .slice ra s.rs.length rc] 36)).alloc (.cells #[.int .i64 s.wd, .slice ta' s.ts.length tc', .slice ra' s.rs.length rc'] 36)) := ((Below.refl _ _).alloc (Nat.le_refl _) _).alloc (by simp) _
  have h27 := c27 ta ta' tc tc' s.ts _ hs.1.1 (strs_below hat.1 hB0) (strs_below hat'.1 hB0)
  clear hs hat hat'
  go_enter Try.func12, Try.ntmps12
  go_wp2_with fail
  refine h27.mono ?_
  rintro e w1 ⟨rfl, hb1⟩
  have hB1 : Below w.heap.size w w1 := hB0.trans (hb1.mono (by simp; omega))
  have g2 : w1.cell? ⟨w.heap.size, 2, none⟩ = some (.slice ra s.rs.length rc) := by rw [hb1.cell (by simp; omega)]; simp [go_sem]
  have g3 : w1.cell? ⟨w.heap.size + 1, 2, none⟩ = some (.slice ra' s.rs.length rc') := by rw [hb1.cell (by simp)]; simp [go_sem]
  have h28 := c28 ra ra' rc rc' s.rs w1 HS.out.2.1 HS.out.2.2 (recs_below HA.out.2 hB1) (recs_below HA'.out.2 hB1)
  clear h27
  go_wp2_with fail
  refine h28.mono ?_
  rintro e w2 ⟨rfl, hb2⟩
  have hB2 : Below w.heap.size w w2 := hB1.trans (hb2.mono hB1.size)
  clear h28
  go_wp2
  go_ret
  exact ⟨rfl, hB2⟩

theorem toS_cells {w w1 : World} {k : Int} {v u : Value} (hb : Below (w.heap.size + 3) (((w.alloc (.cells #[.int .i64 k, v, u] 31)).alloc (.cells #[.int .i64 0, .slice none 0 0, .slice none 0 0] 36)).alloc (.cells #[.int .i64 k, .slice none 0 0, .slice none 0 0] 36)) w1) :
    (w1.cell? ⟨w.heap.size, 2, none⟩ = some u ∧ w1.cell? ⟨w.heap.size + 1, 0, none⟩ = some (.int .i64 0) ∧ w1.cell? ⟨w.heap.size + 1, 1, none⟩ = some (.slice none 0 0) ∧ w1.cell? ⟨w.heap.size + 1, 2, none⟩ = some (.slice none 0 0)) ∧ (w1.cell? ⟨w.heap.size + 1 + 1, 0, none⟩ = some (.int .i64 k) ∧ w1.cell? ⟨w.heap.size + 1 + 1, 1, none⟩ = some (.slice none 0 0) ∧ w1.cell? ⟨w.heap.size + 1 + 1, 2, none⟩ = some (.slice none 0 0)) ∧ (∀ j, w1.frozen? ⟨w.heap.size + 1, j, none⟩ = false) ∧ ∀ j, w1.frozen? ⟨w.heap.size + 1 + 1, j, none⟩ = false := by
  have c : ∀ b j, b < w.heap.size + 3 → w1.cell? ⟨b, j, none⟩ = (((w.alloc (.cells #[.int .i64 k, v, u] 31)).alloc (.cells #[.int .i64 0, .slice none 0 0, .slice none 0 0] 36)).alloc (.cells #[.int .i64 k, .slice none 0 0, .slice none 0 0] 36)).cell? ⟨b, j, none⟩ := fun b j h => hb.cell (by exact h)
  have f : ∀ b j, b < w.heap.size + 3 → w1.frozen? ⟨b, j, none⟩ = (((w.alloc (.cells #[.int .i64 k, v, u] 31)).alloc (.cells #[.int .i64 0, .slice none 0 0, .slice none 0 0] 36)).alloc (.cells #[.int .i64 k, .slice none 0 0, .slice none 0 0] 36)).frozen? ⟨b, j, none⟩ := fun b j h => hb.frozen (by exact h)
  refine ⟨⟨?_, ?_, ?_, ?_⟩, ⟨?_, ?_, ?_⟩, fun j => ?_, fun j => ?_⟩
  all_goals first
    | (rw [c _ _ (by omega)]; simp [go_sem]; done)
    | (rw [f _ _ (by omega)]; simp [go_sem])

set_option maxHeartbeats 2000000 in
theorem c10 (ta ra : Option Addr) (tc rc : Nat) (s : St) (w : World) (hs : s.le 1048576) (hat : StAt w ta ra s) :
    Calls Try.prog 10 #[.agg #[.int .i64 s.wd, .slice ta s.ts.length tc, .slice ra s.rs.length rc]] w fun e w' => (∃ ta' ra' tc' rc', e = .returned (.agg #[.int .i64 s.wd, .slice ta' s.ts.length tc', .slice ra' s.rs.length rc']) ∧ StAt w' ta' ra' s) ∧ Below w.heap.size w w' := by
  have HS : Hid (s.le 1048576) := hs
  have HA : Hid (StAt w ta ra s) := hat
  clear hs hat
  have hB0 : Below w.heap.size w (((w.alloc (.cells #[.int .i64 s.wd, .slice ta s.ts.length tc, .slice ra s.rs.length rc] 31)).alloc (.cells #[.int .i64 0, .slice none 0 0, .slice none 0 0] 36)).alloc (.cells #[.int .i64 s.wd, .slice none 0 0, .slice none 0 0] 36)) := (((Below.refl _ _).alloc (Nat.le_refl _) _).alloc (by simp) _).alloc (by simp; omega) _
  have h22 := c22 ta tc s.ts _ HS.out.1.1 (strs_below HA.out.1 hB0)
  go_enter Try.func10, Try.ntmps10
  go_wp2_with fail
  refine h22.mono ?_
  rintro e w1 ⟨⟨rfl, hat1⟩, hb1⟩
  have hx1 : Below (w.heap.size + 3) (((w.alloc (.cells #[.int .i64 s.wd, .slice ta s.ts.length tc, .slice ra s.rs.length rc] 31)).alloc (.cells #[.int .i64 0, .slice none 0 0, .slice none 0 0] 36)).alloc (.cells #[.int .i64 s.wd, .slice none 0 0, .slice none 0 0] 36)) w1 := by have h := hb1; simp at h; exact h
  have hB1 : Below w.heap.size w w1 := hB0.trans (hx1.mono (by omega))
  have hz1 : w.heap.size + 3 ≤ w1.heap.size := by have := hx1.size; simpa using this
  obtain ⟨⟨a2, r0, r1, r2⟩, ⟨o0, o1, o2⟩, fr, fo⟩ := toS_cells hx1
  have fo1 := fo 1
  have HT : Hid (StrsAt w1 (some ⟨w.heap.size + 3, 0, none⟩) s.ts) := by have h := hat1; simp at h; exact h
  clear hb1 h22 hat1
  have ne : ∀ i j, (⟨w.heap.size + 1 + 1, i, none⟩ : Addr) ≠ ⟨w.heap.size + 1, j, none⟩ := fun i j e => by injection e with e _; omega
  have ne0 : ∀ i j, (⟨w.heap.size + 1 + 1, i, none⟩ : Addr) ≠ ⟨w.heap.size, j, none⟩ := fun i j e => by injection e with e _; omega
  have hS1 : Below w.heap.size w (w1.setCell ⟨w.heap.size + 1 + 1, 1, none⟩ (.slice (some ⟨w.heap.size + 1 + 1 + 1, 0, none⟩) s.ts.length s.ts.length)) := hB1.setCell (by simp; omega) _
  have h23 := c23 ra rc s.rs _ HS.out.2.1 HS.out.2.2 (recs_below HA.out.2 hS1)
  have a2' : (w1.setCell ⟨w.heap.size + 1 + 1, 1, none⟩ (.slice (some ⟨w.heap.size + 1 + 1 + 1, 0, none⟩) s.ts.length s.ts.length)).cell? ⟨w.heap.size, 2, none⟩ = some (.slice ra s.rs.length rc) := by rw [World.cell?_setCell_other _ _ _ _ (ne0 _ _)]; exact a2
  go_wp2_with fail
  refine h23.mono ?_
  rintro e w2 ⟨⟨rfl, hnew⟩, hb2⟩
  have hB2 : Below w.heap.size w w2 := hS1.trans (hb2.mono hS1.size)
  have HN : Hid (RecsNew w2 w1.heap.size s.rs) := by have h := hnew; simp at h; exact h
  have hb2' : Below w1.heap.size (w1.setCell ⟨w.heap.size + 1 + 1, 1, none⟩ (.slice (some ⟨w.heap.size + 1 + 1 + 1, 0, none⟩) s.ts.length s.ts.length)) w2 := by have h := hb2; simp at h; exact h
  have HT2 : Hid (StrsAt w2 (some ⟨w.heap.size + 3, 0, none⟩) s.ts) := strs_below (strs_set HT.out (by show w.heap.size + 1 + 1 ≠ w.heap.size + 3; omega)) hb2
  have cc : ∀ b j, b < w1.heap.size → w2.cell? ⟨b, j, none⟩ = (w1.setCell ⟨w.heap.size + 1 + 1, 1, none⟩ (.slice (some ⟨w.heap.size + 1 + 1 + 1, 0, none⟩) s.ts.length s.ts.length)).cell? ⟨b, j, none⟩ := fun b j h => hb2'.cell (by exact h)
  have ff : ∀ b j, b < w1.heap.size → w2.frozen? ⟨b, j, none⟩ = false → True := fun _ _ _ _ => trivial
  have fq : ∀ b j, b < w1.heap.size → w2.frozen? ⟨b, j, none⟩ = w1.frozen? ⟨b, j, none⟩ := fun b j h => (hb2'.frozen (by exact h)).trans (by simp)
  have p0 : w2.cell? ⟨w.heap.size + 1 + 1, 0, none⟩ = some (.int .i64 s.wd) := by rw [cc _ _ (by omega), World.cell?_setCell_other _ _ _ _ (adr_ne (by omega))]; exact o0
  have p1 : w2.cell? ⟨w.heap.size + 1 + 1, 1, none⟩ = some (.slice (some ⟨w.heap.size + 1 + 1 + 1, 0, none⟩) s.ts.length s.ts.length) := by rw [cc _ _ (by omega)]; exact World.cell?_setCell_same _ _ _ o1
  have p2 : w2.cell? ⟨w.heap.size + 1 + 1, 2, none⟩ = some (.slice none 0 0) := by rw [cc _ _ (by omega), World.cell?_setCell_other _ _ _ _ (adr_ne (by omega))]; exact o2
  have s0 : w2.cell? ⟨w.heap.size + 1, 0, none⟩ = some (.int .i64 0) := by rw [cc _ _ (by omega), World.cell?_setCell_other _ _ _ _ (ne _ _)]; exact r0
  have s1 : w2.cell? ⟨w.heap.size + 1, 1, none⟩ = some (.slice none 0 0) := by rw [cc _ _ (by omega), World.cell?_setCell_other _ _ _ _ (ne _ _)]; exact r1
  have s2 : w2.cell? ⟨w.heap.size + 1, 2, none⟩ = some (.slice none 0 0) := by rw [cc _ _ (by omega), World.cell?_setCell_other _ _ _ _ (ne _ _)]; exact r2
  have g0 := (fq (w.heap.size + 1) 0 (by omega)).trans (fr 0)
  have g1 := (fq (w.heap.size + 1) 1 (by omega)).trans (fr 1)
  have g2 := (fq (w.heap.size + 1) 2 (by omega)).trans (fr 2)
  have g3 := (fq (w.heap.size + 1 + 1) 2 (by omega)).trans (fo 2)
  clear h23 hnew hb2 hb2' cc ff fq fr fo a2' HT
  go_wp2
  generalize hX : Value.slice (some ⟨w.heap.size + 1 + 1 + 1, 0, none⟩) s.ts.length s.ts.length = SX
  generalize hY : Value.slice (some ⟨w1.heap.size, 0, none⟩) s.rs.length s.rs.length = SY
  have q0 : (w2.setCell ⟨w.heap.size + 1 + 1, 2, none⟩ SY).cell? ⟨w.heap.size + 1, 0, none⟩ = some (.int .i64 0) := by rw [World.cell?_setCell_other _ _ _ _ (ne _ _)]; exact s0
  have q1 : (w2.setCell ⟨w.heap.size + 1 + 1, 2, none⟩ SY).cell? ⟨w.heap.size + 1, 1, none⟩ = some (.slice none 0 0) := by rw [World.cell?_setCell_other _ _ _ _ (ne _ _)]; exact s1
  have q2 : (w2.setCell ⟨w.heap.size + 1 + 1, 2, none⟩ SY).cell? ⟨w.heap.size + 1, 2, none⟩ = some (.slice none 0 0) := by rw [World.cell?_setCell_other _ _ _ _ (ne _ _)]; exact s2
  have F := set3_at _ (w.heap.size + 1) 0 (.int .i64 s.wd) SX SY _ _ _ q0 q1 q2
  simp only [Nat.zero_add] at F
  refine bodyPost_ret (v := .agg #[.int .i64 s.wd, SX, SY]) (by simp [results, Try.results10, go_sem, F.1, F.2.1, F.2.2]) rfl ⟨⟨some ⟨w.heap.size + 3, 0, none⟩, some ⟨w1.heap.size, 0, none⟩, s.ts.length, s.rs.length, by rw [← hX, ← hY], ?_, ?_⟩, ?_⟩
  · exact strs_set (strs_set (strs_set (strs_set HT2.out (by show w.heap.size + 1 + 1 ≠ w.heap.size + 3; omega)) (by show w.heap.size + 1 ≠ w.heap.size + 3; omega)) (by show w.heap.size + 1 ≠ w.heap.size + 3; omega)) (by show w.heap.size + 1 ≠ w.heap.size + 3; omega)
  · exact ((((HN.out.set (by show w.heap.size + 1 + 1 < w1.heap.size; omega)).set (by show w.heap.size + 1 < w1.heap.size; omega)).set (by show w.heap.size + 1 < w1.heap.size; omega)).set (by show w.heap.size + 1 < w1.heap.size; omega)).recs
  · exact (((hB2.setCell (by simp; omega) _).setCell (by simp) _).setCell (by simp) _).setCell (by simp) _
end Go.Proofs.Ytafneponofcdeaa

import Derived.Test.YtafneponofcdeaaD1
namespace Go.Proofs.Ytafneponofcdeaa
open Go.RowKit

/-- A record: Key, Looks, Out. -/
structure R3 where
  key : ByteArray
  gs : List G3
  out : ByteArray
def r3z : R3 := ⟨⟨#[]⟩, [], ⟨#[]⟩⟩
def R3.le (x : R3) (B : Nat) : Prop := x.key.size ≤ B ∧ x.gs.length ≤ B ∧ (∀ i, (x.gs.getD i g3z).le B) ∧ x.out.size ≤ B
def RecAt (w : World) (b o : Nat) (x : R3) : Prop := ∃ ai ci, w.cell? ⟨b, o, none⟩ = some (.string x.key) ∧ w.cell? ⟨b, o + 1, none⟩ = some (.slice ai x.gs.length ci) ∧ w.cell? ⟨b, o + 2, none⟩ = some (.string x.out) ∧ GlsAt w ai x.gs
def RecsAt (w : World) (a : Option Addr) (is : List R3) : Prop := is = [] ∨ ∃ b off, a = some ⟨b, off, none⟩ ∧ b < w.heap.size ∧ ∀ i, i < is.length → RecAt w b (off + i * 3) (is.getD i r3z)
theorem RecAt.below {w w' : World} {b o : Nat} {x : R3} (h : RecAt w b o x) (hlt : b < w.heap.size) (hb : Below w.heap.size w w') : RecAt w' b o x := by
  obtain ⟨ai, ci, h0, h1, h2, h3⟩ := h
  exact ⟨ai, ci, (hb.cell (by exact hlt)).trans h0, (hb.cell (by exact hlt)).trans h1, (hb.cell (by exact hlt)).trans h2, gls_below h3 hb⟩
theorem recs_some {w : World} {a : Option Addr} {is : List R3} (h : RecsAt w a is) : ∃ b off, (is = [] ∨ (a = some ⟨b, off, none⟩ ∧ b < w.heap.size ∧ ∀ i, i < is.length → RecAt w b (off + i * 3) (is.getD i r3z))) := by
  rcases h with h | ⟨b, off, h⟩
  · exact ⟨0, 0, .inl h⟩
  · exact ⟨b, off, .inr h⟩
theorem recs_below {w w' : World} {a : Option Addr} {is : List R3} (h : RecsAt w a is) (hb : Below w.heap.size w w') : RecsAt w' a is := by
  rcases h with h | ⟨b, off, h1, h2, h3⟩
  · exact .inl h
  · exact .inr ⟨b, off, h1, Nat.lt_of_lt_of_le h2 hb.size, fun i hi => (h3 i hi).below h2 hb⟩
theorem getD_smallR {is : List R3} {B : Nat} (h : ∀ i, i < is.length → (is.getD i r3z).le B) (i : Nat) : (is.getD i r3z).le B := by
  rcases Nat.lt_or_ge i is.length with h' | h'
  · exact h i h'
  · have e : is.getD i r3z = r3z := by simp [List.getD, List.getElem?_eq_none h']
    rw [e]; exact ⟨Nat.zero_le _, Nat.zero_le _, fun i => ⟨Nat.zero_le _, Nat.zero_le _⟩, Nat.zero_le _⟩
theorem gls_set {w : World} {a : Option Addr} {is : List G3} {q : Addr} {v : Value} (h : GlsAt w a is) (hq : ∀ b off, a = some ⟨b, off, none⟩ → is ≠ [] → q.block ≠ b) : GlsAt (w.setCell q v) a is := by
  rcases h with h | ⟨b, off, h1, h2, h3⟩
  · exact .inl h
  · by_cases h0 : is = []
    · exact .inl h0
    · have hne : ∀ j, q ≠ ⟨b, j, none⟩ := fun j e => hq b off h1 h0 (by rw [e])
      refine .inr ⟨b, off, h1, by simpa using h2, fun i hi => ?_⟩
      rw [World.cell?_setCell_other _ _ _ _ (hne _), World.cell?_setCell_other _ _ _ _ (hne _), World.cell?_setCell_other _ _ _ _ (hne _)]
      exact h3 i hi

set_option maxHeartbeats 1000000 in
theorem c32 (x : R3) (ai : Option Addr) (ci : Nat) (l : Int) (w : World) (hs : x.le 9223372036854775807) (h0 : 0 ≤ l) (h1 : l ≤ 1048576) (hat : GlsAt w ai x.gs) :
    Calls Try.prog 32 #[.agg #[.string x.key, .slice ai x.gs.length ci, .string x.out], .int .i64 l] w fun e w' => (∃ r : Int, e = .returned (.int .i64 r) ∧ (0 ≤ r → x.le 1048576 ∧ r ≤ 1048576)) ∧ Below w.heap.size w w' := by
  obtain ⟨s1, s2, s3, s4⟩ := hs
  have hB0 : Below w.heap.size w (w.alloc (.cells #[.string x.key, .slice ai x.gs.length ci, .string x.out] 65)) := (Below.refl _ _).alloc (Nat.le_refl _) _
  by_cases h : l < x.key.size
  · go_enter Try.func32, Try.ntmps32
    go_wp2
    go_ret
    exact ⟨⟨-1, rfl, fun h => by omega⟩, hB0⟩
  · have h42 := c42 ai ci x.gs (l - x.key.size) _ (by omega) (by omega) s3 s2 (gls_below hat hB0)
    go_enter Try.func32, Try.ntmps32
    go_wp2_with fail
    refine h42.mono ?_
    rintro e w1 ⟨⟨r1, rfl, hr⟩, hb1⟩
    have hB1 : Below w.heap.size w w1 := hB0.trans (hb1.mono (by simp))
    have g2 : w1.cell? ⟨w.heap.size, 2, none⟩ = some (.string x.out) := by rw [hb1.cell (by simp)]; simp
    clear h42 hat
    by_cases hneg : r1 < 0
    · clear hr
      go_wp2
      go_ret
      exact ⟨⟨-1, rfl, fun h => by omega⟩, hB1⟩
    · obtain ⟨q1, q2, q3⟩ := hr (by omega)
      have HQ : Hid (∀ i, (x.gs.getD i g3z).le 1048576) := q2
      clear hr q2 s3
      by_cases ho : r1 < x.out.size
      · go_wp2
        go_ret
        exact ⟨⟨-1, rfl, fun h => by omega⟩, hB1⟩
      · go_wp2
        go_ret
        exact ⟨⟨_, rfl, fun h => ⟨⟨by omega, q1, HQ.out, by omega⟩, by omega⟩⟩, hB1⟩

set_option maxHeartbeats 1000000 in
theorem c18 (a : Option Addr) (cap : Nat) (is : List R3) (l : Int) (w : World) (h0 : 0 ≤ l) (h1 : l ≤ 1048576) (hs : ∀ i, (is.getD i r3z).le 9223372036854775807) (hl : is.length ≤ 9223372036854775807) (hat : RecsAt w a is) :
    Calls Try.prog 18 #[.slice a is.length cap, .int .i64 l] w fun e w' => (∃ r : Int, e = .returned (.int .i64 r) ∧ (0 ≤ r → is.length ≤ 1048576 ∧ (∀ i, (is.getD i r3z).le 1048576) ∧ r ≤ 1048576)) ∧ Below w.heap.size w w' := by
  obtain ⟨b, off, hc⟩ := recs_some hat
  have HC : Hid (is = [] ∨ (a = some ⟨b, off, none⟩ ∧ b < w.heap.size ∧ ∀ i, i < is.length → RecAt w b (off + i * 3) (is.getD i r3z))) := hc
  have HS : Hid (∀ i, (is.getD i r3z).le 9223372036854775807) := hs
  clear hc hat hs
  by_cases hbig : l < is.length
  · go_enter Try.func18, Try.ntmps18
    go_wp2
    go_ret
    exact ⟨⟨-1, rfl, fun h => by omega⟩, Below.refl _ _⟩
  · go_enter Try.func18, Try.ntmps18
    go_wp2_with fail
    go_loopw [1, 5] (fun l i wr => ∃ (k : Nat) (r : Int), k ≤ is.length ∧ i = .int .i64 k ∧ l = .int .i64 r ∧ 0 ≤ r ∧ r ≤ 1048576 ∧ Hid (∀ i, i < k → (is.getD i r3z).le 1048576) ∧ Below w.heap.size w wr) (fun _ i _ => is.length - (intOf i).toNat)
    case atStart => exact ⟨0, _, Nat.zero_le _, rfl, rfl, by omega, by omega, fun i h => absurd h (Nat.not_lt_zero _), Below.refl _ _⟩
    case round =>
      obtain ⟨k, r, hk, rfl, rfl, hr0, hr1, hsm, hb⟩ := hrel
      by_cases hlt : k < is.length
      · rcases HC.out with hss | ⟨ha, hbw, hcell⟩
        · rw [hss] at hlt; exact absurd hlt (Nat.not_lt_zero _)
        subst ha
        obtain ⟨ai, ci, e0, e1, e2, e3⟩ := (hcell k hlt).below hbw hb
        have hxs := HS.out k
        generalize hx : is.getD k r3z = x at *
        have HX : Hid (is.getD k r3z = x) := hx
        clear hx hcell
        go_wp2_with fail
        refine (c32 x ai ci r wr hxs hr0 hr1 e3).mono ?_
        rintro e w1 ⟨⟨r1, rfl, hr⟩, hb1⟩
        have hB1 : Below w.heap.size w w1 := hb.trans (hb1.mono hb.size)
        by_cases hneg : r1 < 0
        · clear hr
          go_wp2
          go_ret
          exact ⟨⟨-1, rfl, fun h => by omega⟩, hB1⟩
        · have hr' := hr (by omega)
          have hsm' : Hid (∀ i, i < k + 1 → (is.getD i r3z).le 1048576) := by
            intro i h
            rcases Nat.lt_or_ge i k with h1 | h1
            · exact hsm.out i h1
            · obtain rfl : i = k := by omega
              rw [HX.out]; exact hr'.1
          have hr2 := hr'.2
          clear hr hr'
          go_wp2
          go_roundw
          case rel => exact ⟨k + 1, _, by omega, by go_num, rfl, by omega, hr2, hsm', hB1⟩
          case measure => simp [intOf]; omega
      · have hsm' : Hid (∀ i, (is.getD i r3z).le 1048576) := getD_smallR (fun i h => hsm.out i (by omega))
        go_wp2
        go_ret
        exact ⟨⟨r, rfl, fun _ => ⟨by omega, hsm'.out, hr1⟩⟩, hb⟩

set_option maxHeartbeats 1000000 in
theorem c39 (x : R3) (ai bi : Option Addr) (ci di : Nat) (w : World) (hl : x.gs.length ≤ 1048576) (hat : GlsAt w ai x.gs) (hat' : GlsAt w bi x.gs) :
    Calls Try.prog 39 #[.agg #[.string x.key, .slice ai x.gs.length ci, .string x.out], .agg #[.string x.key, .slice bi x.gs.length di, .string x.out]] w fun e w' => e = .returned (.bool true) ∧ Below w.heap.size w w' := by
  have hB0 : Below w.heap.size w ((w.alloc (.cells #[.string x.key, .slice ai x.gs.length ci, .string x.out] 52)).alloc (.cells #[.string x.key, .slice bi x.gs.length di, .string x.out] 52)) := ((Below.refl _ _).alloc (Nat.le_refl _) _).alloc (by simp) _
  have h45 := c45 ai bi ci di x.gs _ hl (gls_below hat hB0) (gls_below hat' hB0)
  go_enter Try.func39, Try.ntmps39
  go_wp2_with fail
  refine h45.mono ?_
  rintro e w1 ⟨rfl, hb1⟩
  have hB1 : Below w.heap.size w w1 := hB0.trans (hb1.mono (by simp; omega))
  have g2 : w1.cell? ⟨w.heap.size, 2, none⟩ = some (.string x.out) := by rw [hb1.cell (by simp; omega)]; simp [go_sem]
  have g3 : w1.cell? ⟨w.heap.size + 1, 2, none⟩ = some (.string x.out) := by rw [hb1.cell (by simp)]; simp [go_sem]
  clear h45 hat hat'
  go_wp2
  go_ret
  exact ⟨rfl, hB1⟩

set_option maxHeartbeats 1000000 in
theorem c28 (a a' : Option Addr) (cap cap' : Nat) (is : List R3) (w : World) (hl : is.length ≤ 1048576) (hs : ∀ i, (is.getD i r3z).le 1048576) (hat : RecsAt w a is) (hat' : RecsAt w a' is) :
    Calls Try.prog 28 #[.slice a is.length cap, .slice a' is.length cap'] w fun e w' => e = .returned (.bool true) ∧ Below w.heap.size w w' := by
  obtain ⟨b, off, hc⟩ := recs_some hat
  have HC : Hid (is = [] ∨ (a = some ⟨b, off, none⟩ ∧ b < w.heap.size ∧ ∀ i, i < is.length → RecAt w b (off + i * 3) (is.getD i r3z))) := hc
  obtain ⟨b', off', hc'⟩ := recs_some hat'
  have HC' : Hid (is = [] ∨ (a' = some ⟨b', off', none⟩ ∧ b' < w.heap.size ∧ ∀ i, i < is.length → RecAt w b' (off' + i * 3) (is.getD i r3z))) := hc'
  have HS : Hid (∀ i, (is.getD i r3z).le 1048576) := hs
  clear hc hat hc' hat' hs
  go_enter Try.func28, Try.ntmps28
  go_wp2_with fail
  go_loopw [5] (fun i wr => ∃ (k : Nat), k ≤ is.length ∧ i = .int .i64 k ∧ Below w.heap.size w wr) (fun i _ => is.length - (intOf i).toNat)
  case atStart => exact ⟨0, Nat.zero_le _, rfl, Below.refl _ _⟩
  case round =>
    obtain ⟨k, hk, rfl, hb⟩ := hrel
    by_cases hlt : k < is.length
    · rcases HC.out with hss | ⟨ha, hbw, hcell⟩
      · rw [hss] at hlt; exact absurd hlt (Nat.not_lt_zero _)
      rcases HC'.out with hss | ⟨ha', hbw', hcell'⟩
      · rw [hss] at hlt; exact absurd hlt (Nat.not_lt_zero _)
      subst ha
      subst ha'
      obtain ⟨ai, ci, e0, e1, e2, e3⟩ := (hcell k hlt).below hbw hb
      obtain ⟨bi, di, f0, f1, f2, f3⟩ := (hcell' k hlt).below hbw' hb
      have hxl := (HS.out k).2.1
      generalize is.getD k r3z = x at *
      have HE : Hid (GlsAt wr ai x.gs) := e3
      have HF : Hid (GlsAt wr bi x.gs) := f3
      clear hcell hcell' e3 f3
      go_wp2_with fail
      go_region_with (go_at_call 39; refine (c39 x ai bi ci di _ hxl (gls_below HE.out (Below.refl _ _).drew) (gls_below HF.out (Below.refl _ _).drew)).mono ?_; rintro e w1 ⟨rfl, hb1⟩)
      all_goals go_wp2
      all_goals go_roundw
      all_goals first
        | exact ⟨k + 1, by omega, by go_num, (hb.drew).trans (hb1.mono hb.size)⟩
        | (simp [intOf]; omega)
    · go_wp2
      go_ret
      exact ⟨rfl, hb⟩
end Go.Proofs.Ytafneponofcdeaa

import Derived.Test.YtafneponofcdeaaD2
namespace Go.Proofs.Ytafneponofcdeaa
open Go.RowKit

/-- A record in new memory. -/
def NewRec (L : Nat) (w : World) (b o : Nat) (x : R3) : Prop := ∃ gi, L ≤ gi ∧ w.cell? ⟨b, o, none⟩ = some (.string x.key) ∧ w.cell? ⟨b, o + 1, none⟩ = some (.slice (some ⟨gi, 0, none⟩) x.gs.length x.gs.length) ∧ w.cell? ⟨b, o + 2, none⟩ = some (.string x.out) ∧ GlsAt w (some ⟨gi, 0, none⟩) x.gs
theorem NewRec.rec {L : Nat} {w : World} {b o : Nat} {x : R3} (h : NewRec L w b o x) : RecAt w b o x := by
  obtain ⟨gi, _, h0, h1, h2, h3⟩ := h
  exact ⟨_, _, h0, h1, h2, h3⟩
theorem NewRec.below {L : Nat} {w w' : World} {b o : Nat} {x : R3} (h : NewRec L w b o x) (hlt : b < w.heap.size) (hb : Below w.heap.size w w') : NewRec L w' b o x := by
  obtain ⟨gi, hg, h0, h1, h2, h3⟩ := h
  exact ⟨gi, hg, (hb.cell (by exact hlt)).trans h0, (hb.cell (by exact hlt)).trans h1, (hb.cell (by exact hlt)).trans h2, gls_below h3 hb⟩
def RecsNew (w : World) (g : Nat) (is : List R3) : Prop := g < w.heap.size ∧ ∀ i, i < is.length → NewRec (g + 1) w g (i * 3) (is.getD i r3z)
theorem RecsNew.recs {w : World} {g : Nat} {is : List R3} (h : RecsNew w g is) : RecsAt w (some ⟨g, 0, none⟩) is := .inr ⟨g, 0, rfl, h.1, fun i hi => by rw [Nat.zero_add]; exact (h.2 i hi).rec⟩
theorem NewRec.set {L : Nat} {w : World} {b o : Nat} {x : R3} {q : Addr} {v : Value} (h : NewRec L w b o x) (h1 : q.block ≠ b) (h2 : q.block < L) : NewRec L (w.setCell q v) b o x := by
  obtain ⟨gi, hg, h0, e1, e2, e3⟩ := h
  have hne : ∀ j, q ≠ ⟨b, j, none⟩ := fun j e => h1 (by rw [e])
  exact ⟨gi, hg, by rw [World.cell?_setCell_other _ _ _ _ (hne _)]; exact h0, by rw [World.cell?_setCell_other _ _ _ _ (hne _)]; exact e1, by rw [World.cell?_setCell_other _ _ _ _ (hne _)]; exact e2, gls_setCell e3 (by omega)⟩
theorem RecsNew.set {w : World} {g : Nat} {is : List R3} {q : Addr} {v : Value} (h : RecsNew w g is) (hq : q.block < g) : RecsNew (w.setCell q v) g is := ⟨by simpa using h.1, fun i hi => (h.2 i hi).set (by omega) (by omega)⟩
theorem strs_set {w : World} {g : Nat} {ss : List ByteArray} {q : Addr} {v : Value} (h : StrsAt w (some ⟨g, 0, none⟩) ss) (hq : q.block ≠ g) : StrsAt (w.setCell q v) (some ⟨g, 0, none⟩) ss := by
  rcases h with h | ⟨b, off, h1, h2, h3⟩
  · exact .inl h
  · have hg : b = g := by injection h1 with h1; injection h1 with h1 _; exact h1.symm
    have hne : ∀ j, q ≠ ⟨b, j, none⟩ := fun j e => hq (by rw [e]; exact hg)
    exact .inr ⟨b, off, h1, by simpa using h2, fun i hi => by rw [World.cell?_setCell_other _ _ _ _ (hne _)]; exact h3 i hi⟩
theorem gls_set3 {w : World} {gi b : Nat} {is : List G3} (j0 j1 j2 : Nat) (v0 v1 v2 : Value) (h : GlsAt w (some ⟨gi, 0, none⟩) is) (hne : b ≠ gi) : GlsAt (((w.setCell ⟨b, j0, none⟩ v0).setCell ⟨b, j1, none⟩ v1).setCell ⟨b, j2, none⟩ v2) (some ⟨gi, 0, none⟩) is :=
  gls_setCell (gls_setCell (gls_setCell h (by exact hne)) (by exact hne)) (by exact hne)

theorem toR_cells {w w1 : World} {k o : ByteArray} {v : Value} (hb : Below (w.heap.size + 3) (((w.alloc (.cells #[.string k, v, .string o] 65)).alloc (.cells #[.string ⟨#[]⟩, .slice none 0 0, .string ⟨#[]⟩] 52)).alloc (.cells #[.string k, .slice none 0 0, .string ⟨#[]⟩] 52)) w1) :
    (w1.cell? ⟨w.heap.size, 2, none⟩ = some (.string o) ∧ w1.cell? ⟨w.heap.size + 1, 0, none⟩ = some (.string ⟨#[]⟩) ∧ w1.cell? ⟨w.heap.size + 1, 1, none⟩ = some (.slice none 0 0) ∧ w1.cell? ⟨w.heap.size + 1, 2, none⟩ = some (.string ⟨#[]⟩)) ∧ (w1.cell? ⟨w.heap.size + 1 + 1, 0, none⟩ = some (.string k) ∧ w1.cell? ⟨w.heap.size + 1 + 1, 1, none⟩ = some (.slice none 0 0) ∧ w1.cell? ⟨w.heap.size + 1 + 1, 2, none⟩ = some (.string ⟨#[]⟩)) ∧ (∀ j, w1.frozen? ⟨w.heap.size + 1, j, none⟩ = false) ∧ ∀ j, w1.frozen? ⟨w.heap.size + 1 + 1, j, none⟩ = false := by
  have c : ∀ b j, b < w.heap.size + 3 → w1.cell? ⟨b, j, none⟩ = (((w.alloc (.cells #[.string k, v, .string o] 65)).alloc (.cells #[.string ⟨#[]⟩, .slice none 0 0, .string ⟨#[]⟩] 52)).alloc (.cells #[.string k, .slice none 0 0, .string ⟨#[]⟩] 52)).cell? ⟨b, j, none⟩ := fun b j h => hb.cell (by exact h)
  have f : ∀ b j, b < w.heap.size + 3 → w1.frozen? ⟨b, j, none⟩ = (((w.alloc (.cells #[.string k, v, .string o] 65)).alloc (.cells #[.string ⟨#[]⟩, .slice none 0 0, .string ⟨#[]⟩] 52)).alloc (.cells #[.string k, .slice none 0 0, .string ⟨#[]⟩] 52)).frozen? ⟨b, j, none⟩ := fun b j h => hb.frozen (by exact h)
  refine ⟨⟨?_, ?_, ?_, ?_⟩, ⟨?_, ?_, ?_⟩, fun j => ?_, fun j => ?_⟩
  all_goals first
    | (rw [c _ _ (by omega)]; simp [go_sem]; done)
    | (rw [f _ _ (by omega)]; simp [go_sem])

set_option maxHeartbeats 2000000 in
theorem c36 (x : R3) (ai : Option Addr) (ci : Nat) (w : World) (hl : x.gs.length ≤ 1048576) (hat : GlsAt w ai x.gs) :
    Calls Try.prog 36 #[.agg #[.string x.key, .slice ai x.gs.length ci, .string x.out]] w fun e w' => (e = .returned (.agg #[.string x.key, .slice (some ⟨w.heap.size + 3, 0, none⟩) x.gs.length x.gs.length, .string x.out]) ∧ GlsAt w' (some ⟨w.heap.size + 3, 0, none⟩) x.gs) ∧ Below w.heap.size w w' := by
  have hB0 : Below w.heap.size w (((w.alloc (.cells #[.string x.key, .slice ai x.gs.length ci, .string x.out] 65)).alloc (.cells #[.string ⟨#[]⟩, .slice none 0 0, .string ⟨#[]⟩] 52)).alloc (.cells #[.string x.key, .slice none 0 0, .string ⟨#[]⟩] 52)) := (((Below.refl _ _).alloc (Nat.le_refl _) _).alloc (by simp) _).alloc (by simp; omega) _
  have h43 := c43 ai ci x.gs _ hl (gls_below hat hB0)
  go_enter Try.func36, Try.ntmps36
  go_wp2_with fail
  refine h43.mono ?_
  rintro e w1 ⟨⟨rfl, hat1⟩, hb1⟩
  have hx1 : Below (w.heap.size + 3) (((w.alloc (.cells #[.string x.key, .slice ai x.gs.length ci, .string x.out] 65)).alloc (.cells #[.string ⟨#[]⟩, .slice none 0 0, .string ⟨#[]⟩] 52)).alloc (.cells #[.string x.key, .slice none 0 0, .string ⟨#[]⟩] 52)) w1 := by have h := hb1; simp at h; exact h
  have hB1 : Below w.heap.size w w1 := hB0.trans (hx1.mono (by omega))
  obtain ⟨⟨a2, r0, r1, r2⟩, ⟨o0, o1, o2⟩, fr, fo⟩ := toR_cells hx1
  have fr0 := fr 0
  have fr1 := fr 1
  have fr2 := fr 2
  have fo1 := fo 1
  have fo2 := fo 2
  have HG : Hid (GlsAt w1 (some ⟨w.heap.size + 3, 0, none⟩) x.gs) := by have h := hat1; simp at h; exact h
  clear hb1 h43 hat hat1 fr fo
  go_wp2
  have ne : ∀ i j, (⟨w.heap.size + 1 + 1, i, none⟩ : Addr) ≠ ⟨w.heap.size + 1, j, none⟩ := fun i j e => by injection e with e _; omega
  generalize hS : Value.slice (some ⟨w.heap.size + 1 + 1 + 1, 0, none⟩) x.gs.length x.gs.length = SL
  have q0 : ((w1.setCell ⟨w.heap.size + 1 + 1, 1, none⟩ SL).setCell ⟨w.heap.size + 1 + 1, 2, none⟩ (.string x.out)).cell? ⟨w.heap.size + 1, 0, none⟩ = some (.string ⟨#[]⟩) := by rw [World.cell?_setCell_other _ _ _ _ (ne _ _), World.cell?_setCell_other _ _ _ _ (ne _ _)]; exact r0
  have q1 : ((w1.setCell ⟨w.heap.size + 1 + 1, 1, none⟩ SL).setCell ⟨w.heap.size + 1 + 1, 2, none⟩ (.string x.out)).cell? ⟨w.heap.size + 1, 1, none⟩ = some (.slice none 0 0) := by rw [World.cell?_setCell_other _ _ _ _ (ne _ _), World.cell?_setCell_other _ _ _ _ (ne _ _)]; exact r1
  have q2 : ((w1.setCell ⟨w.heap.size + 1 + 1, 1, none⟩ SL).setCell ⟨w.heap.size + 1 + 1, 2, none⟩ (.string x.out)).cell? ⟨w.heap.size + 1, 2, none⟩ = some (.string ⟨#[]⟩) := by rw [World.cell?_setCell_other _ _ _ _ (ne _ _), World.cell?_setCell_other _ _ _ _ (ne _ _)]; exact r2
  have F := set3_at _ (w.heap.size + 1) 0 (.string x.key) SL (.string x.out) _ _ _ q0 q1 q2
  simp only [Nat.zero_add] at F
  refine bodyPost_ret (v := .agg #[.string x.key, SL, .string x.out]) (by simp [results, Try.results36, go_sem, F.1, F.2.1, F.2.2]) rfl ⟨⟨by rw [← hS], ?_⟩, ?_⟩
  · exact gls_set3 _ _ _ _ _ _ (gls_setCell (gls_setCell HG.out (by show w.heap.size + 1 + 1 ≠ w.heap.size + 3; omega)) (by show w.heap.size + 1 + 1 ≠ w.heap.size + 3; omega)) (by omega)
  · exact ((((hB1.setCell (by simp; omega) _).setCell (by simp; omega) _).setCell (by simp) _).setCell (by simp) _).setCell (by simp) _

theorem info52 : (Try.prog.info? 52).map (fun i => (i.zero, i.size, i.bytes)) = some (some (.agg #[.string ⟨#[]⟩, .slice none 0 0, .string ⟨#[]⟩]), 3, 56) := by kernel_rfl
theorem madeR (n j : Nat) (h : j < n * 3) : (madeCells #[Value.string ⟨#[]⟩, .slice none 0 0, .string ⟨#[]⟩] (n * 3))[j]? = (#[Value.string ⟨#[]⟩, .slice none 0 0, .string ⟨#[]⟩] : Array Value)[j % 3]? := by
  have h3 : j % 3 < 3 := Nat.mod_lt _ (by omega)
  rw [Array.getElem?_eq_getElem (by simpa [size_madeCells] using h), Array.getElem?_eq_getElem (by simpa using h3)]
  simp [madeCells, h3]

set_option maxHeartbeats 2000000 in
theorem c23 (a : Option Addr) (cap : Nat) (is : List R3) (w : World) (hl : is.length ≤ 1048576) (hs : ∀ i, (is.getD i r3z).le 1048576) (hat : RecsAt w a is) :
    Calls Try.prog 23 #[.slice a is.length cap] w fun e w' => (e = .returned (.slice (some ⟨w.heap.size, 0, none⟩) is.length is.length) ∧ RecsNew w' w.heap.size is) ∧ Below w.heap.size w w' := by
  obtain ⟨b, off, hc⟩ := recs_some hat
  have HC : Hid (is = [] ∨ (a = some ⟨b, off, none⟩ ∧ b < w.heap.size ∧ ∀ i, i < is.length → RecAt w b (off + i * 3) (is.getD i r3z))) := hc
  have HS : Hid (∀ i, (is.getD i r3z).le 1048576) := hs
  clear hc hat hs
  obtain ⟨i0, hi, hz0, hz1, hz2⟩ := info_parts info52
  have hmk : ∀ u : World, (Instr.makeSlice 34 (.int .i64 (is.length : Int)) (.int .i64 (is.length : Int))).run Try.prog u =
      .ok (.slice (some ⟨u.heap.size, 0, none⟩) is.length is.length) (u.alloc (.cells (madeCells #[.string ⟨#[]⟩, .slice none 0 0, .string ⟨#[]⟩] (is.length * 3)) 52)) := fun u => by
    have h := run_make (P := Try.prog) u 34 52 i0 (.agg #[.string ⟨#[]⟩, .slice none 0 0, .string ⟨#[]⟩]) Try.underlying34 hi hz0 .i64 .i64 (is.length : Int) (is.length : Int) (by omega) (Int.le_refl _) (by rw [hz2]; omega) (by omega)
    simpa [hz1, Value.cells] using h
  go_enter Try.func23, Try.ntmps23
  go_wp2_with fail
  go_loopw [4] (fun i wr => ∃ (k : Nat), k ≤ is.length ∧ i = .int .i64 k ∧ Below w.heap.size w wr ∧ w.heap.size + 1 ≤ wr.heap.size ∧ (∀ j, wr.frozen? ⟨w.heap.size, j, none⟩ = false) ∧ Hid (∀ j, j < k → NewRec (w.heap.size + 1) wr w.heap.size (j * 3) (is.getD j r3z)) ∧ Hid (∀ j, k ≤ j → j < is.length → wr.cell? ⟨w.heap.size, j * 3, none⟩ = some (.string ⟨#[]⟩) ∧ wr.cell? ⟨w.heap.size, j * 3 + 1, none⟩ = some (.slice none 0 0) ∧ wr.cell? ⟨w.heap.size, j * 3 + 2, none⟩ = some (.string ⟨#[]⟩))) (fun i _ => is.length - (intOf i).toNat)
  case atStart =>
    refine ⟨0, Nat.zero_le _, rfl, (Below.refl _ _).alloc (Nat.le_refl _) _, by simp, fun j => by simp, fun j h => absurd h (Nat.not_lt_zero _), fun j _ h => ?_⟩
    have e0 := madeR is.length (j * 3) (by omega)
    have e1 := madeR is.length (j * 3 + 1) (by omega)
    have e2 := madeR is.length (j * 3 + 2) (by omega)
    rw [show j * 3 % 3 = 0 by omega] at e0
    rw [show (j * 3 + 1) % 3 = 1 by omega] at e1
    rw [show (j * 3 + 2) % 3 = 2 by omega] at e2
    simp [e0, e1, e2]
  case round =>
    obtain ⟨k, hk, rfl, hb, hz, hfz, hdone, hrest⟩ := hrel
    by_cases hlt : k < is.length
    · rcases HC.out with hss | ⟨ha, hbw, hcell⟩
      · rw [hss] at hlt; exact absurd hlt (Nat.not_lt_zero _)
      subst ha
      obtain ⟨ai, ci, g0, g1, g2, g3⟩ := (hcell k hlt).below hbw hb
      obtain ⟨q0, q1, q2⟩ := hrest.out k (Nat.le_refl _) hlt
      have hxl := (HS.out k).2.1
      generalize hx : is.getD k r3z = x at *
      have HX : Hid (is.getD k r3z = x) := hx
      clear hx hcell
      go_wp2_with fail
      refine (c36 x ai ci wr hxl g3).mono ?_
      rintro e w1 ⟨⟨rfl, hg1⟩, hb1⟩
      have hB1 : Below w.heap.size w w1 := hb.trans (hb1.mono hb.size)
      have p0 := (hb1.cell (p := ⟨w.heap.size, k * 3, none⟩) (by simp; omega)).trans q0
      have p1 := (hb1.cell (p := ⟨w.heap.size, k * 3 + 1, none⟩) (by simp; omega)).trans q1
      have p2 := (hb1.cell (p := ⟨w.heap.size, k * 3 + 2, none⟩) (by simp; omega)).trans q2
      have f0 := (hb1.frozen (p := ⟨w.heap.size, k * 3, none⟩) (by simp; omega)).trans (hfz _)
      have f1 := (hb1.frozen (p := ⟨w.heap.size, k * 3 + 1, none⟩) (by simp; omega)).trans (hfz _)
      have f2 := (hb1.frozen (p := ⟨w.heap.size, k * 3 + 2, none⟩) (by simp; omega)).trans (hfz _)
      have HO : Hid (∀ j, w1.cell? ⟨w.heap.size, j, none⟩ = wr.cell? ⟨w.heap.size, j, none⟩) := fun j => hb1.cell (by simp; omega)
      have hoz : w.heap.size + 1 ≤ w1.heap.size := Nat.le_trans hz hb1.size
      have HFZ : Hid (∀ j, w1.frozen? ⟨w.heap.size, j, none⟩ = false) := fun j => (hb1.frozen (p := ⟨w.heap.size, j, none⟩) (by simp; omega)).trans (hfz j)
      have HD1 : Hid (∀ j, j < k → NewRec (w.heap.size + 1) w1 w.heap.size (j * 3) (is.getD j r3z)) := fun j hj => (hdone.out j hj).below (by omega) hb1
      have HG1 : Hid (GlsAt w1 (some ⟨wr.heap.size + 3, 0, none⟩) x.gs) := hg1
      clear hg1 g3
      go_wp2
      go_roundw
      case rel =>
        refine ⟨k + 1, by omega, by go_num, ((hB1.setCell (by simp) _).setCell (by simp) _).setCell (by simp) _, by simpa using hoz, fun j => by rw [← HFZ.out j]; simp, fun j hj => ?_, fun j h1 h2 => ?_⟩
        · by_cases e : j = k
          · subst e
            rw [HX.out]
            have F := set3_at w1 w.heap.size (j * 3) (.string x.key) (.slice (some ⟨wr.heap.size + 3, 0, none⟩) x.gs.length x.gs.length) (.string x.out) _ _ _ p0 p1 p2
            exact ⟨wr.heap.size + 3, by omega, F.1, F.2.1, F.2.2, gls_set3 _ _ _ _ _ _ HG1.out (by omega)⟩
          · obtain ⟨gi, hgi, d0, d1, d2, d3⟩ := HD1.out j (by omega)
            refine ⟨gi, hgi, ?_, ?_, ?_, gls_set3 _ _ _ _ _ _ d3 (by omega)⟩
            · rw [set3_other _ _ _ _ _ _ _ (by omega) (by omega) (by omega)]; exact d0
            · rw [set3_other _ _ _ _ _ _ _ (by omega) (by omega) (by omega)]; exact d1
            · rw [set3_other _ _ _ _ _ _ _ (by omega) (by omega) (by omega)]; exact d2
        · have hd := hrest.out j (by omega) h2
          rw [set3_other _ _ _ _ _ _ _ (by omega) (by omega) (by omega), set3_other _ _ _ _ _ _ _ (by omega) (by omega) (by omega), set3_other _ _ _ _ _ _ _ (by omega) (by omega) (by omega), HO.out, HO.out, HO.out]
          exact hd
      case measure => simp [intOf]; omega
    · have hdone' : Hid (RecsNew wr w.heap.size is) := ⟨by omega, fun i hi => hdone.out i (by omega)⟩
      go_wp2
      go_ret
      exact ⟨⟨rfl, hdone'.out⟩, hb⟩
end Go.Proofs.Ytafneponofcdeaa

import Derived.Test.YtkhlekmicpmpkaaGreatDoorMN
import Derived.Test.YtkhlekmicpmpkaaGreatDoorZK35
namespace Go.Proofs.YtkhlekmicpmpkaaGreatDoor
open Go.RowKit Go.Maps
set_option maxRecDepth 100000
set_option linter.unusedVariables false
set_option maxHeartbeats 1000000 in
theorem c37e (a a' : Option Addr) (cap cap' : Nat) (is : List R3) (w : World) (hl : is.length ≤ 1048576) (hs : ∀ i, (is.getD i r3z).gs.length ≤ 1048576) (hat : RecsAt w a is) (hat' : RecsAt w a' is) :
 Calls Tryz.prog 37 #[.slice a is.length cap, .slice a' is.length cap'] w fun e w' => e = .returned (.bool true) ∧ Below w.heap.size w w' := by
 obtain ⟨b, off, hc⟩ := recs_some hat
 have HC : Hid (is = [] ∨ (a = some ⟨b, off, none⟩ ∧ b < w.heap.size ∧ ∀ i, i < is.length → RecAt w b (off + i * 3) (is.getD i r3z))) := hc
 obtain ⟨b', off', hc'⟩ := recs_some hat'
 have HC' : Hid (is = [] ∨ (a' = some ⟨b', off', none⟩ ∧ b' < w.heap.size ∧ ∀ i, i < is.length → RecAt w b' (off' + i * 3) (is.getD i r3z))) := hc'
 have HS : Hid (∀ i, (is.getD i r3z).gs.length ≤ 1048576) := hs
 clear hc hat hc' hat' hs
 go_enter Tryz.func37, Tryz.ntmps37
 go_wp2_with fail
 go_loopw [5] (fun i wr => ∃ (k : Nat), k ≤ is.length ∧ i = .int .i64 k ∧ Below w.heap.size w wr) (fun i _ => is.length - (intOf i).toNat)
 case atStart => exact ⟨0, Nat.zero_le _, rfl, Below.refl _ _⟩
 case round =>
  obtain ⟨k, hk, rfl, hb⟩ := hrel
  by_cases hlt : k < is.length
  · rcases HC.out with hss | ⟨ha, hbw, hcell⟩
    · rw [hss] at hlt; exact absurd hlt (Nat.not_lt_zero _)
    rcases HC'.out with hss | ⟨ha', hbw', hcell'⟩
    · rw [hss] at hlt; exact absurd hlt (Nat.not_lt_zero _)
    subst ha
    subst ha'
    obtain ⟨ai, ci, e0, e1, e2, e3⟩ := (hcell k hlt).below hbw hb
    obtain ⟨bi, di, f0, f1, f2, f3⟩ := (hcell' k hlt).below hbw' hb
    have hxl := HS.out k
    generalize is.getD k r3z = x at *
    have HE : Hid (GlsAt wr ai x.gs) := e3
    have HF : Hid (GlsAt wr bi x.gs) := f3
    clear hcell hcell' e3 f3
    go_wp2_with fail
    go_region_with (go_at_call 70; refine (c70 x ai bi ci di _ hxl (gls_below HE.out (Below.refl _ _).drew) (gls_below HF.out (Below.refl _ _).drew)).mono ?_; rintro e w1 ⟨rfl, hb1⟩)
    all_goals go_wp2
    all_goals go_roundw
    all_goals first
     | exact ⟨k + 1, by omega, by go_num, (hb.drew).trans (hb1.mono hb.size)⟩
     | (simp [intOf]; omega)
  · go_wp2
    go_ret
    exact ⟨rfl, hb⟩
set_option maxHeartbeats 1000000 in
theorem c14e (ta ra ta' ra' : Option Addr) (tc rc tc' rc' : Nat) (s : St) (w : World) (hs : s.ts.length ≤ 1048576 ∧ s.rs.length ≤ 1048576 ∧ ∀ i, (s.rs.getD i r3z).gs.length ≤ 1048576) (hat : StAt w ta ra s) (hat' : StAt w ta' ra' s) :
 Calls Tryz.prog 14 #[.agg #[.int .i64 s.wd, .slice ta s.ts.length tc, .slice ra s.rs.length rc], .agg #[.int .i64 s.wd, .slice ta' s.ts.length tc', .slice ra' s.rs.length rc']] w fun e w' => e = .returned (.bool true) ∧ Below w.heap.size w w' := by
 have HS : Hid (s.ts.length ≤ 1048576 ∧ s.rs.length ≤ 1048576 ∧ ∀ i, (s.rs.getD i r3z).gs.length ≤ 1048576) := hs
 have HA : Hid (StAt w ta ra s) := hat
 have HA' : Hid (StAt w ta' ra' s) := hat'
 have hB0 : Below w.heap.size w ((w.alloc (.cells #[.int .i64 s.wd, .slice ta s.ts.length tc, .slice ra s.rs.length rc] 37)).alloc (.cells #[.int .i64 s.wd, .slice ta' s.ts.length tc', .slice ra' s.rs.length rc'] 37)) := ((Below.refl _ _).alloc (Nat.le_refl _) _).alloc (by simp) _
 have h27 := c36 ta ta' tc tc' s.ts _ hs.1 (strs_below hat.1 hB0) (strs_below hat'.1 hB0)
 clear hs hat hat'
 go_enter Tryz.func14, Tryz.ntmps14
 go_wp2_with fail
 refine h27.mono ?_
 rintro e w1 ⟨rfl, hb1⟩
 have hB1 : Below w.heap.size w w1 := hB0.trans (hb1.mono (by simp; omega))
 have g2 : w1.cell? ⟨w.heap.size, 2, none⟩ = some (.slice ra s.rs.length rc) := by rw [hb1.cell (by simp; omega)]; simp [go_sem]
 have g3 : w1.cell? ⟨w.heap.size + 1, 2, none⟩ = some (.slice ra' s.rs.length rc') := by rw [hb1.cell (by simp)]; simp [go_sem]
 have h28 := c37e ra ra' rc rc' s.rs w1 HS.out.2.1 HS.out.2.2 (recs_below HA.out.2 hB1) (recs_below HA'.out.2 hB1)
 clear h27
 go_wp2_with fail
 refine h28.mono ?_
 rintro e w2 ⟨rfl, hb2⟩
 have hB2 : Below w.heap.size w w2 := hB1.trans (hb2.mono hB1.size)
 clear h28
 go_wp2
 go_ret
 exact ⟨rfl, hB2⟩
set_option maxHeartbeats 1000000 in
theorem c11o (a : Option Addr) (cap : Nat) (is : List L4) (w : World) (hl : is.length ≤ 1048576) (hat : LksAt w a is) :
 Calls Tryz.prog 11 #[.slice a is.length cap] w fun e w' => (e = .returned (.slice (some ⟨w.heap.size, 0, none⟩) is.length is.length) ∧ LksAt w' (some ⟨w.heap.size, 0, none⟩) is ∧ Open4 w' w.heap.size is.length) ∧ Below w.heap.size w w' := by
 obtain ⟨b, off, hc⟩ := lks_some hat
 have HC : Hid (is = [] ∨ (a = some ⟨b, off, none⟩ ∧ b < w.heap.size ∧ ∀ i, i < is.length → w.cell? ⟨b, off + i * 4, none⟩ = some (.bool (is.getD i l4z).has) ∧ w.cell? ⟨b, off + i * 4 + 1, none⟩ = some (.string (is.getD i l4z).nm) ∧ w.cell? ⟨b, off + i * 4 + 2, none⟩ = some (.int .i64 (is.getD i l4z).cd) ∧ w.cell? ⟨b, off + i * 4 + 3, none⟩ = some (.string (is.getD i l4z).tx))) := hc
 clear hc hat
 obtain ⟨i0, hi, hz0, hz1, hz2⟩ := info_parts info61
 have hmk : ∀ u : World, (Instr.makeSlice 43 (.int .i64 (is.length : Int)) (.int .i64 (is.length : Int))).run Tryz.prog u =
  .ok (.slice (some ⟨u.heap.size, 0, none⟩) is.length is.length) (u.alloc (.cells (madeCells #[.bool false, .string ⟨#[]⟩, .int .i64 0, .string ⟨#[]⟩] (is.length * 4)) 61)) := fun u => by
  have h := run_make (P := Tryz.prog) u 43 61 i0 (.agg #[.bool false, .string ⟨#[]⟩, .int .i64 0, .string ⟨#[]⟩]) Tryz.underlying43 hi hz0 .i64 .i64 (is.length : Int) (is.length : Int) (by omega) (Int.le_refl _) (by rw [hz2]; omega) (by omega)
  simpa [hz1, Value.cells] using h
 go_enter Tryz.func11, Tryz.ntmps11
 go_wp2_with fail
 go_loopw [4] (fun i wr => ∃ (k : Nat), k ≤ is.length ∧ i = .int .i64 k ∧ Below w.heap.size w wr ∧ w.heap.size + 1 ≤ wr.heap.size ∧ (∀ j, wr.frozen? ⟨w.heap.size, j, none⟩ = false) ∧ Hid (∀ j, j < k → wr.cell? ⟨w.heap.size, j * 4, none⟩ = some (.bool (is.getD j l4z).has) ∧ wr.cell? ⟨w.heap.size, j * 4 + 1, none⟩ = some (.string (is.getD j l4z).nm) ∧ wr.cell? ⟨w.heap.size, j * 4 + 2, none⟩ = some (.int .i64 (is.getD j l4z).cd) ∧ wr.cell? ⟨w.heap.size, j * 4 + 3, none⟩ = some (.string (is.getD j l4z).tx)) ∧ Hid (∀ j, k ≤ j → j < is.length → wr.cell? ⟨w.heap.size, j * 4, none⟩ = some (.bool false) ∧ wr.cell? ⟨w.heap.size, j * 4 + 1, none⟩ = some (.string ⟨#[]⟩) ∧ wr.cell? ⟨w.heap.size, j * 4 + 2, none⟩ = some (.int .i64 0) ∧ wr.cell? ⟨w.heap.size, j * 4 + 3, none⟩ = some (.string ⟨#[]⟩))) (fun i _ => is.length - (intOf i).toNat)
 case atStart =>
  refine ⟨0, Nat.zero_le _, rfl, (Below.refl _ _).alloc (Nat.le_refl _) _, by simp, fun j => by simp, fun j h => absurd h (Nat.not_lt_zero _), fun j _ h => ?_⟩
  have e0 := madeL is.length (j * 4) (by omega)
  have e1 := madeL is.length (j * 4 + 1) (by omega)
  have e2 := madeL is.length (j * 4 + 2) (by omega)
  have e3 := madeL is.length (j * 4 + 3) (by omega)
  rw [show j * 4 % 4 = 0 by omega] at e0
  rw [show (j * 4 + 1) % 4 = 1 by omega] at e1
  rw [show (j * 4 + 2) % 4 = 2 by omega] at e2
  rw [show (j * 4 + 3) % 4 = 3 by omega] at e3
  simp [e0, e1, e2, e3]
 case round =>
  obtain ⟨k, hk, rfl, hb, hz, hfz, hdone, hrest⟩ := hrel
  by_cases hlt : k < is.length
  · rcases HC.out with hss | ⟨ha, hbw, hcell⟩
    · rw [hss] at hlt; exact absurd hlt (Nat.not_lt_zero _)
    subst ha
    have g0 := (hb.cell (p := ⟨b, off + k * 4, none⟩) hbw).trans (hcell k hlt).1
    have g1 := (hb.cell (p := ⟨b, off + k * 4 + 1, none⟩) hbw).trans (hcell k hlt).2.1
    have g2 := (hb.cell (p := ⟨b, off + k * 4 + 2, none⟩) hbw).trans (hcell k hlt).2.2.1
    have g3 := (hb.cell (p := ⟨b, off + k * 4 + 3, none⟩) hbw).trans (hcell k hlt).2.2.2
    obtain ⟨q0, q1, q2, q3⟩ := hrest.out k (Nat.le_refl _) hlt
    generalize hx : is.getD k l4z = x at *
    have HX : Hid (is.getD k l4z = x) := hx
    clear hx hcell
    go_wp2_with fail
    refine (c31 x wr).mono ?_
    rintro e w1 ⟨rfl, hb1⟩
    have hB1 : Below w.heap.size w w1 := hb.trans (hb1.mono hb.size)
    have p0 := (hb1.cell (p := ⟨w.heap.size, k * 4, none⟩) (by simp; omega)).trans q0
    have p1 := (hb1.cell (p := ⟨w.heap.size, k * 4 + 1, none⟩) (by simp; omega)).trans q1
    have p2 := (hb1.cell (p := ⟨w.heap.size, k * 4 + 2, none⟩) (by simp; omega)).trans q2
    have p3 := (hb1.cell (p := ⟨w.heap.size, k * 4 + 3, none⟩) (by simp; omega)).trans q3
    have f0 := (hb1.frozen (p := ⟨w.heap.size, k * 4, none⟩) (by simp; omega)).trans (hfz _)
    have f1 := (hb1.frozen (p := ⟨w.heap.size, k * 4 + 1, none⟩) (by simp; omega)).trans (hfz _)
    have f2 := (hb1.frozen (p := ⟨w.heap.size, k * 4 + 2, none⟩) (by simp; omega)).trans (hfz _)
    have f3 := (hb1.frozen (p := ⟨w.heap.size, k * 4 + 3, none⟩) (by simp; omega)).trans (hfz _)
    have HO : Hid (∀ j, w1.cell? ⟨w.heap.size, j, none⟩ = wr.cell? ⟨w.heap.size, j, none⟩) := fun j => hb1.cell (by simp; omega)
    have hoz : w.heap.size + 1 ≤ w1.heap.size := Nat.le_trans hz hb1.size
    have HFZ : Hid (∀ j, w1.frozen? ⟨w.heap.size, j, none⟩ = false) := fun j => (hb1.frozen (p := ⟨w.heap.size, j, none⟩) (by simp; omega)).trans (hfz j)
    go_wp2
    go_roundw
    case rel =>
     refine ⟨k + 1, by omega, by go_num, (((hB1.setCell (by simp) _).setCell (by simp) _).setCell (by simp) _).setCell (by simp) _, by simpa using hoz, fun j => by rw [← HFZ.out j]; simp, fun j hj => ?_, fun j h1 h2 => ?_⟩
     · by_cases e : j = k
       · subst e
         rw [HX.out]
         exact set4_at w1 w.heap.size (j * 4) _ _ _ _ _ _ _ _ p0 p1 p2 p3
       · have hd := hdone.out j (by omega)
         rw [set4_other _ _ _ _ _ _ _ _ (by omega) (by omega) (by omega) (by omega), set4_other _ _ _ _ _ _ _ _ (by omega) (by omega) (by omega) (by omega), set4_other _ _ _ _ _ _ _ _ (by omega) (by omega) (by omega) (by omega), set4_other _ _ _ _ _ _ _ _ (by omega) (by omega) (by omega) (by omega), HO.out, HO.out, HO.out, HO.out]
         exact hd
     · have hd := hrest.out j (by omega) h2
       rw [set4_other _ _ _ _ _ _ _ _ (by omega) (by omega) (by omega) (by omega), set4_other _ _ _ _ _ _ _ _ (by omega) (by omega) (by omega) (by omega), set4_other _ _ _ _ _ _ _ _ (by omega) (by omega) (by omega) (by omega), set4_other _ _ _ _ _ _ _ _ (by omega) (by omega) (by omega) (by omega), HO.out, HO.out, HO.out, HO.out]
       exact hd
    case measure => simp [intOf]; omega
  · have hdone' : Hid (LksAt wr (some ⟨w.heap.size, 0, none⟩) is) := .inr ⟨w.heap.size, 0, rfl, by omega, fun i hi => by simp only [Nat.zero_add]; exact hdone.out i (by omega)⟩
    have hop : Hid (Open4 wr w.heap.size is.length) := ⟨by omega, fun j hj => by
     obtain ⟨q, r, e, hr⟩ : ∃ q r, j = q * 4 + r ∧ r < 4 := ⟨j / 4, j % 4, by omega, by omega⟩
     obtain ⟨d0, d1, d2, d3⟩ := hdone.out q (by omega)
     have : r = 0 ∨ r = 1 ∨ r = 2 ∨ r = 3 := by omega
     rcases this with rfl | rfl | rfl | rfl
     · exact ⟨_, by rw [e]; exact d0⟩
     · exact ⟨_, by rw [e]; exact d1⟩
     · exact ⟨_, by rw [e]; exact d2⟩
     · exact ⟨_, by rw [e]; exact d3⟩, hfz⟩
    go_wp2
    go_ret
    exact ⟨⟨rfl, hdone'.out, hop.out⟩, hb⟩
theorem gsum_app (a b : List R3) : gsum (a ++ b) = gsum a + gsum b := by
 unfold gsum
 rw [List.map_append, List.sum_append]
theorem keep_len {s KS : St} {m : M3} {ls : List L4} {c kc : Int} {t : ByteArray} (h : keepF s m ls c t = (KS, kc)) (hs : s.le 1048576) : KS.ts.length ≤ 300 ∧ KS.rs.length ≤ 150 ∧ gsum KS.rs ≤ gsum s.rs + 15 ∧ ∀ i, (KS.rs.getD i r3z).gs.length ≤ 1048576 := by
 have h0 : st0.ts.length ≤ 300 ∧ st0.rs.length ≤ 150 ∧ gsum st0.rs ≤ gsum s.rs + 15 ∧ ∀ i, (st0.rs.getD i r3z).gs.length ≤ 1048576 := ⟨Nat.zero_le _, Nat.zero_le _, Nat.zero_le _, fun i => Nat.zero_le _⟩
 unfold keepF at h
 split at h
 · cases h; exact h0
 · split at h
   · cases h; exact h0
   · rename_i hr
     split at h
     · cases h; exact h0
     · split at h
       · cases h; exact h0
       · rename_i hb
         cases h
         have hr' : RanOk m ls c t := Classical.not_not.1 hr
         have hll : ls.length ≤ 15 := hr'.2.1.1
         refine ⟨Nat.le_of_not_lt (fun k => hb (.inl k)), Nat.le_of_not_lt (fun k => hb (.inr k)), ?_, putR_gs (fun i => (hs.2.2 i).2.1) (by show (ls.map _).length ≤ _; rw [List.length_map]; omega)⟩
         show gsum (putR s.rs (recR s.wd m ls c t)) ≤ _
         unfold putR
         split
         · omega
         · rw [gsum_app]
           have : gsum [recR s.wd m ls c t] = ls.length := by simp [gsum, recR]
           omega
theorem isKeep_un {s KS : St} {m : M3} {ls : List L4} {c kc : Int} {t : ByteArray} {base : Nat} {w' : World} {e : Ending} (h : IsKeep s m ls c t base w' e) (hk : keepF s m ls c t = (KS, kc)) : ∃ ta' tc' ra' rc', e = .returned (.tuple #[.agg #[.int .i64 KS.wd, .slice ta' KS.ts.length tc', .slice ra' KS.rs.length rc'], .int .i64 kc]) ∧ StOwn w' base KS.ts KS.rs (.slice ta' KS.ts.length tc') (.slice ra' KS.rs.length rc') := by
 unfold IsKeep at h
 rw [hk] at h
 exact h
theorem stOwn_keepN {W W' : World} {base : Nat} {ts : List ByteArray} {rs : List R3} {tv rv : Value} (h : StOwn W base ts rs tv rv) (hk : ∀ q, base ≤ q → q < W.heap.size → W'.heap[q]? = W.heap[q]?) : StOwn W' base ts rs tv rv := by
 obtain ⟨h1, vs, h2⟩ := h
 exact ⟨own_keep' h1 (fun q hq => hk q (own_blk h1 hq) (own_lt h1 hq)), vs, h2.keep (fun q t hT _ hb => hk q hb (ofT_lt hT))⟩
theorem strs_row {w : World} {base : Nat} {a : Option Addr} {c : Nat} {ts : List ByteArray} (h : w.ownsRow base 9 1 (.slice a ts.length c) ts.length (ts.map Value.string)) : StrsAt w a ts := by
 rcases h.2 with ⟨hv, h0⟩ | ⟨g, cap, cur, hv, hg, hh, _⟩
 · exact .inl (List.length_eq_zero_iff.1 h0)
 · simp only [Value.slice.injEq] at hv
   obtain ⟨rfl, _, rfl⟩ := hv
   obtain ⟨r1, _, _, r4⟩ := row_strs h
   exact .inr ⟨g, 0, rfl, r1, fun k hk => by rw [Nat.zero_add]; exact r4 k hk⟩
theorem stOwn_at {W : World} {base : Nat} {s : St} {ta ra : Option Addr} {tc rc : Nat} (h : StOwn W base s.ts s.rs (.slice ta s.ts.length tc) (.slice ra s.rs.length rc)) : StAt W ta ra s := by
 obtain ⟨h1, vs, h2⟩ := h
 exact ⟨strs_row h1, recs_own h2⟩
theorem stF_lo {W : World} {base : Nat} {s : St} {tv rv : Value} {vs : List Value} (h1 : W.ownsRow base 9 1 tv s.ts.length (s.ts.map Value.string)) (h2 : RecOwn W base rv s.rs vs) {q : Nat} (hq : stF tv rv vs s.rs.length q) : base ≤ q ∧ q < W.heap.size ∧ ∃ t, OfT W q t ∧ (t = 9 ∨ t = 67 ∨ t = 92) := by
 rcases hq with e | e | ⟨i, hi, e⟩
 · exact ⟨own_blk h1 e, own_lt h1 e, 9, own_ofT h1 e, .inl rfl⟩
 · exact ⟨own_blk h2.row e, own_lt h2.row e, 67, own_ofT h2.row e, .inr (.inl rfl)⟩
 · obtain ⟨a, c, e3, h3⟩ := h2.gl i hi
   rw [e3] at e
   exact ⟨own_blk h3 e, own_lt h3 e, 92, own_ofT h3 e, .inr (.inr rfl)⟩
theorem mkN_eq (K : Int) (ts : List ByteArray) (rs : List R3) : mkN K ts rs = K + (ts.length : Int) + 2 * (rs.length : Int) + 3 * (gsum rs : Int) := by
 unfold mkN kn
 rw [List.take_length]
end Go.Proofs.YtkhlekmicpmpkaaGreatDoor

import Derived.Test.YtopoaccekhmcaaaGreatDoorA6
import Derived.Test.YtopoaccekhmcaaaGreatDoorA11
namespace Go.Proofs.YtopoaccekhmcaaaGreatDoor
open Go.RowKit
set_option maxHeartbeats 4000000 in
set_option maxRecDepth 100000 in
theorem c5z (d n : Int) (w : World) (hv : btw d 1 8 = false ∨ btw n 1 4 = false) :
    Calls Tryz.prog 5 #[.int .i64 d, .int .i64 n] w fun e w' => e = .returned (.agg #[.int .i64 0, .bool false, .int .i64 0, .int .i64 0, .int .i64 0, .slice none 0 0, .slice none 0 0, .slice none 0 0, .int .i64 0, .slice none 0 0, .slice none 0 0, .slice none 0 0, .slice none 0 0, .slice none 0 0, .slice none 0 0]) ∧ Below w.heap.size w w' := by
  have hB0 : ∀ o, Below w.heap.size w (w.alloc o) := fun o => (Below.refl _ _).alloc (Nat.le_refl _) _
  have Z0 : M.BlkAt (w.alloc (.cells #[.int .i64 0, .bool false, .int .i64 0, .int .i64 0, .int .i64 0, .slice none 0 0, .slice none 0 0, .slice none 0 0, .int .i64 0, .slice none 0 0, .slice none 0 0, .slice none 0 0, .slice none 0 0, .slice none 0 0, .slice none 0 0] 35)) w.heap.size [.int .i64 0, .bool false, .int .i64 0, .int .i64 0, .int .i64 0, .slice none 0 0, .slice none 0 0, .slice none 0 0, .int .i64 0, .slice none 0 0, .slice none 0 0, .slice none 0 0, .slice none 0 0, .slice none 0 0, .slice none 0 0] := M.blk_new w [.int .i64 0, .bool false, .int .i64 0, .int .i64 0, .int .i64 0, .slice none 0 0, .slice none 0 0, .slice none 0 0, .int .i64 0, .slice none 0 0, .slice none 0 0, .slice none 0 0, .slice none 0 0, .slice none 0 0, .slice none 0 0] 35
  have F0 : M.OpnAt (w.alloc (.cells #[.int .i64 0, .bool false, .int .i64 0, .int .i64 0, .int .i64 0, .slice none 0 0, .slice none 0 0, .slice none 0 0, .int .i64 0, .slice none 0 0, .slice none 0 0, .slice none 0 0, .slice none 0 0, .slice none 0 0, .slice none 0 0] 35)) w.heap.size := M.opn_new w _ 35
  have hz0 : w.heap.size < (w.alloc (.cells #[.int .i64 0, .bool false, .int .i64 0, .int .i64 0, .int .i64 0, .slice none 0 0, .slice none 0 0, .slice none 0 0, .int .i64 0, .slice none 0 0, .slice none 0 0, .slice none 0 0, .slice none 0 0, .slice none 0 0, .slice none 0 0] 35)).heap.size := by simp
  have hB1 := hB0 (.cells #[.int .i64 0, .bool false, .int .i64 0, .int .i64 0, .int .i64 0, .slice none 0 0, .slice none 0 0, .slice none 0 0, .int .i64 0, .slice none 0 0, .slice none 0 0, .slice none 0 0, .slice none 0 0, .slice none 0 0, .slice none 0 0] 35)
  go_enter Tryz.func5, Tryz.ntmps5
  go_wp2_with fail
  generalize (w.alloc (.cells #[.int .i64 0, .bool false, .int .i64 0, .int .i64 0, .int .i64 0, .slice none 0 0, .slice none 0 0, .slice none 0 0, .int .i64 0, .slice none 0 0, .slice none 0 0, .slice none 0 0, .slice none 0 0, .slice none 0 0, .slice none 0 0] 35)) = u at *
  refine (c13 d u).mono ?_
  rintro e w1 ⟨rfl, hb1⟩
  have hB2 := hB1.trans (hb1.mono hB1.size)
  have hz1 := Nat.lt_of_lt_of_le hz0 hb1.size
  have Z1 := hidI (Z0.below hb1 hz0)
  have F1 := hidI (F0.below hb1 hz0)
  clear hb1 Z0 F0
  by_cases h1 : btw d 1 8 = true
  · rw [h1]
    have h2 : btw n 1 4 = false := by
      rcases hv with h | h
      · rw [h1] at h; exact absurd h (by decide)
      · exact h
    go_wp2_with fail
    refine (c14 n w1).mono ?_
    rintro e w2 ⟨rfl, hb2⟩
    rw [h2]
    have hB3 := hB2.trans (hb2.mono hB2.size)
    have Z2 := hidI (Z1.out.below hb2 hz1)
    have F2 := hidI (F1.out.below hb2 hz1)
    clear hb2 Z1 F1
    have hmark : True := trivial
    go_wp2_with (refine M.wpList_store_blk rfl 35 (.tmp 4) (.tmp 13) rfl w.heap.size 0 rfl _ rfl (M.blk_some Z2.out rfl) F2.out (by simp [Value.oneCell']) (by kernel_rfl) rfl ?_; revert hmark)
    intro hmark
    clear hmark
    refine M.st_over (N := w.heap.size) rfl Z2.out F2.out (Nat.le_refl _) ?_
    intro E hbE ZE FE _ _
    have hBE := hidI (hB3.trans hbE)
    have HZE := hidI ZE
    clear hbE ZE FE Z2 F2
    go_wp2_with fail
    refine bodyPost_ret (v := .agg ([.int .i64 0, .bool false, .int .i64 0, .int .i64 0, .int .i64 0, .slice none 0 0, .slice none 0 0, .slice none 0 0, .int .i64 0, .slice none 0 0, .slice none 0 0, .slice none 0 0, .slice none 0 0, .slice none 0 0, .slice none 0 0] : List Value).toArray) (M.results_blk (P := Tryz.prog) (ty := 35) rfl _ E w.heap.size [.int .i64 0, .bool false, .int .i64 0, .int .i64 0, .int .i64 0, .slice none 0 0, .slice none 0 0, .slice none 0 0, .int .i64 0, .slice none 0 0, .slice none 0 0, .slice none 0 0, .slice none 0 0, .slice none 0 0, .slice none 0 0] _ rfl HZE.out Tryz.underlying35 rfl (by kernel_rfl)) rfl ⟨rfl, hBE.out⟩
  · have h1' : btw d 1 8 = false := by simpa using h1
    rw [h1']
    have hmark : True := trivial
    go_wp2_with (refine M.wpList_store_blk rfl 35 (.tmp 4) (.tmp 13) rfl w.heap.size 0 rfl _ rfl (M.blk_some Z1.out rfl) F1.out (by simp [Value.oneCell']) (by kernel_rfl) rfl ?_; revert hmark)
    intro hmark
    clear hmark
    refine M.st_over (N := w.heap.size) rfl Z1.out F1.out (Nat.le_refl _) ?_
    intro E hbE ZE FE _ _
    have hBE := hidI (hB2.trans hbE)
    have HZE := hidI ZE
    clear hbE ZE FE Z1 F1
    go_wp2_with fail
    refine bodyPost_ret (v := .agg ([.int .i64 0, .bool false, .int .i64 0, .int .i64 0, .int .i64 0, .slice none 0 0, .slice none 0 0, .slice none 0 0, .int .i64 0, .slice none 0 0, .slice none 0 0, .slice none 0 0, .slice none 0 0, .slice none 0 0, .slice none 0 0] : List Value).toArray) (M.results_blk (P := Tryz.prog) (ty := 35) rfl _ E w.heap.size [.int .i64 0, .bool false, .int .i64 0, .int .i64 0, .int .i64 0, .slice none 0 0, .slice none 0 0, .slice none 0 0, .int .i64 0, .slice none 0 0, .slice none 0 0, .slice none 0 0, .slice none 0 0, .slice none 0 0, .slice none 0 0] _ rfl HZE.out Tryz.underlying35 rfl (by kernel_rfl)) rfl ⟨rfl, hBE.out⟩
theorem NB.below {u u' : World} {base n b g : Nat} (h : NB u base n b g) (hb : Below u.heap.size u u') : NB u' base n b g :=
  ⟨h.b1, Nat.lt_of_lt_of_le h.b2 hb.size, h.g1, Nat.lt_of_lt_of_le h.g2 hb.size, h.ne, (hb.cell (p := ⟨b, 0, none⟩) h.b2).trans h.cb, (hb.frozen (p := ⟨b, 0, none⟩) h.b2).trans h.fb, fun i hi => (hb.cell (p := ⟨g, i, none⟩) h.g2).trans (h.cg i hi), fun i => (hb.frozen (p := ⟨g, i, none⟩) h.g2).trans (h.fg i)⟩
theorem NB.rs {u : World} {base n b g : Nat} (h : NB u base n b g) : RS u (some ⟨b, 0, none⟩) [epL] := .inr ⟨b, rfl, h.b2, fun i hi => by
  obtain rfl : i = 0 := by simp at hi; omega
  exact h.cb⟩
theorem NB.ri {u : World} {base n b g : Nat} (h : NB u base n b g) : RI u (some ⟨g, 0, none⟩) (List.replicate n (-1)) := .inr ⟨g, rfl, h.g2, fun i hi => by
  have hi' : i < n := by simpa using hi
  rw [h.cg i hi']
  simp [List.getD, hi']⟩
/-- Marks of a boss. -/
structure MkD (n : Nat) (u : World) (b g : Nat) : Prop where
  lb : b < u.heap.size
  lg : g < u.heap.size
  cb : u.cell? ⟨b, 0, none⟩ = some (.string ⟨#[109, 49]⟩)
  cg : ∀ i, i < n → u.cell? ⟨g, i, none⟩ = some (.int .i64 (2 + (i : Int)))
theorem mkd_below {n : Nat} {u u' : World} {b g : Nat} (h : MkD n u b g) (hb : Below u.heap.size u u') (_ : True) (_ : True) : MkD n u' b g :=
  ⟨Nat.lt_of_lt_of_le h.lb hb.size, Nat.lt_of_lt_of_le h.lg hb.size, (hb.cell (p := ⟨b, 0, none⟩) h.lb).trans h.cb, fun i hi => (hb.cell (p := ⟨g, i, none⟩) h.lg).trans (h.cg i hi)⟩
theorem NB.below' {u u' : World} {N base n b g : Nat} (h : NB u base n b g) (hb : Below N u u') (hN : b < N ∧ g < N) : NB u' base n b g :=
  ⟨h.b1, Nat.lt_of_lt_of_le h.b2 hb.size, h.g1, Nat.lt_of_lt_of_le h.g2 hb.size, h.ne, (hb.cell (p := ⟨b, 0, none⟩) hN.1).trans h.cb, (hb.frozen (p := ⟨b, 0, none⟩) hN.1).trans h.fb, fun i hi => (hb.cell (p := ⟨g, i, none⟩) hN.2).trans (h.cg i hi), fun i => (hb.frozen (p := ⟨g, i, none⟩) hN.2).trans (h.fg i)⟩
theorem c6n (n : Nat) (d : Int) (b b' g g' lc lc' hc hc' : Nat) (w : World) (hn : n ≤ 1000) (hS : RS w (some ⟨b, 0, none⟩) [epL]) (hS' : RS w (some ⟨b', 0, none⟩) [epL]) (hH : RI w (some ⟨g, 0, none⟩) (List.replicate n (-1))) (hH' : RI w (some ⟨g', 0, none⟩) (List.replicate n (-1))) :
    Calls Tryz.prog 6 #[.agg #[.int .i64 d, .bool true, .int .i64 0, .int .i64 1, .int .i64 0, .slice none 0 0, .slice (some ⟨b, 0, none⟩) 1 lc, .slice none 0 0, .int .i64 d, .slice none 0 0, .slice none 0 0, .slice (some ⟨g, 0, none⟩) n hc, .slice none 0 0, .slice none 0 0, .slice none 0 0], .agg #[.int .i64 d, .bool true, .int .i64 0, .int .i64 1, .int .i64 0, .slice none 0 0, .slice (some ⟨b', 0, none⟩) 1 lc', .slice none 0 0, .int .i64 d, .slice none 0 0, .slice none 0 0, .slice (some ⟨g', 0, none⟩) n hc', .slice none 0 0, .slice none 0 0, .slice none 0 0]] w fun e w' => e = .returned (.bool true) ∧ Below w.heap.size w w' := by
  have k := c6 d 1 d true [epL] (List.replicate n (-1)) (some ⟨b, 0, none⟩) (some ⟨b', 0, none⟩) (some ⟨g, 0, none⟩) (some ⟨g', 0, none⟩) lc lc' hc hc' w (by decide) (by simp; omega) hS hS' hH hH'
  rw [List.length_replicate] at k
  exact k
set_option maxHeartbeats 8000000 in
set_option maxRecDepth 100000 in
/-- The law where the arguments fit, from what impl.NewBoss answers there. -/
theorem c3v (d : Int) (n : Nat) (w : World) (hd : btw d 1 8 = true) (hn : btw (n : Int) 1 4 = true)
    (h5 : ∀ w : World, Calls Tryz.prog 5 #[.int .i64 d, .int .i64 n] w fun e w' => (∃ b lc g hc, e = .returned (.agg #[.int .i64 d, .bool true, .int .i64 0, .int .i64 1, .int .i64 0, .slice none 0 0, .slice (some ⟨b, 0, none⟩) 1 lc, .slice none 0 0, .int .i64 d, .slice none 0 0, .slice none 0 0, .slice (some ⟨g, 0, none⟩) n hc, .slice none 0 0, .slice none 0 0, .slice none 0 0]) ∧ NB w' w.heap.size n b g) ∧ Below w.heap.size w w') :
    Calls Tryz.prog 3 #[.int .i64 d, .int .i64 n] w fun e w' => e = .returned (.bool true) ∧ Below w.heap.size w w' := by
  have hn1 : 1 ≤ n ∧ n ≤ 4 := by simp [btw] at hn; omega
  go_enter Tryz.func3, Tryz.ntmps3
  go_wp2_with fail
  refine (c4 d n w hd hn).mono ?_
  rintro e w1 ⟨⟨b, lc, g, hc, rfl, hNB⟩, hBc⟩
  have HN := hidI hNB
  have hz0 := hBc.size
  have hbw0 : b < w1.heap.size := hNB.b2
  have hgw0 : g < w1.heap.size := hNB.g2
  clear hNB
  have hmark : True := trivial
  go_wp2_with (refine M.wpList_store_blk rfl 35 (.tmp 5) (.tmp 12) rfl w1.heap.size 0 rfl _ rfl (M.st_some w1 [.int .i64 0, .bool false, .int .i64 0, .int .i64 0, .int .i64 0, .slice none 0 0, .slice none 0 0, .slice none 0 0, .int .i64 0, .slice none 0 0, .slice none 0 0, .slice none 0 0, .slice none 0 0, .slice none 0 0, .slice none 0 0] _ 35 rfl) (M.opn_new w1 _ 35) (by simp [Value.oneCell']) (by kernel_rfl) rfl ?_; revert hmark)
  intro hmark
  clear hmark
  refine M.st_gen rfl ?_
  intro w1' hWF HY _ hltHY
  replace HY := hidI HY
  have hzw1 := Nat.le_of_lt hltHY
  have HN := hidI (HN.out.below hWF)
  have hBc := hBc.trans (hWF.mono hBc.size)
  clear hWF
  go_wp2_with fail
  refine (h5 w1').mono ?_
  rintro e w2 ⟨⟨b2, lc2, g2, hc2, rfl, hNB⟩, hbn⟩
  have hz2 := hbn.size
  have HN := hidI (HN.out.below hbn)
  have hBc := hBc.trans (hbn.mono hBc.size)
  have HY := hidI (HY.out.below hbn (by omega))
  have hltHY := Nat.lt_of_lt_of_le hltHY hbn.size
  have HG := hidI hNB
  have hb2 : b2 < w2.heap.size := hNB.b2
  have hg2 : g2 < w2.heap.size := hNB.g2
  clear hNB hbn
  have hmark : True := trivial
  go_wp2_with (refine M.wpList_store_blk rfl 35 (.tmp 6) (.tmp 15) rfl w2.heap.size 0 rfl _ rfl (M.st_some w2 [.int .i64 0, .bool false, .int .i64 0, .int .i64 0, .int .i64 0, .slice none 0 0, .slice none 0 0, .slice none 0 0, .int .i64 0, .slice none 0 0, .slice none 0 0, .slice none 0 0, .slice none 0 0, .slice none 0 0, .slice none 0 0] _ 35 rfl) (M.opn_new w2 _ 35) (by simp [Value.oneCell']) (by kernel_rfl) rfl ?_; revert hmark)
  intro hmark
  clear hmark
  refine M.st_gen rfl ?_
  intro w2' hWF HX _ hltHX
  replace HX := hidI HX
  have hzw2 := Nat.le_of_lt hltHX
  have HN := hidI (HN.out.below hWF)
  have hBc := hBc.trans (hWF.mono hBc.size)
  have HY := hidI (HY.out.below hWF (by omega))
  have hltHY := Nat.lt_of_lt_of_le hltHY hWF.size
  have HG := hidI (HG.out.below hWF)
  clear hWF
  go_wp2_with (first | refine M.wpList_load_blk rfl 35 (.tmp 6) rfl w2.heap.size rfl _ _ HX.out Tryz.underlying35 rfl (by kernel_rfl) ?_ | refine M.wpList_load_blk rfl 35 (.tmp 5) rfl w1.heap.size rfl _ _ HY.out Tryz.underlying35 rfl (by kernel_rfl) ?_)
  refine (c6n n d b2 b g2 g lc2 lc hc2 hc w2' (by omega) HG.out.rs HN.out.rs HG.out.ri HN.out.ri).mono ?_
  rintro e w3 ⟨rfl, hbn⟩
  have HN := hidI (HN.out.below hbn)
  have hBc := hBc.trans (hbn.mono hBc.size)
  have HY := hidI (HY.out.below hbn (by omega))
  have hltHY := Nat.lt_of_lt_of_le hltHY hbn.size
  have HG := hidI (HG.out.below hbn)
  have HX := hidI (HX.out.below hbn (by omega))
  have hltHX := Nat.lt_of_lt_of_le hltHX hbn.size
  clear hbn
  have hq := HG.out
  go_wp2_with (refine M.wpList_load_blk rfl 35 (.tmp 6) rfl w2.heap.size rfl _ _ HX.out Tryz.underlying35 rfl (by kernel_rfl) ?_)
  refine (c7 d 1 d true b2 lc2 g2 n hc2 (.string epL) w3 hq.b2 hq.g2 hq.ne (by omega) hq.cb hq.fb (fun i hi => ⟨_, hq.cg i hi⟩) hq.fg).mono ?_
  rintro e w4 ⟨rfl, hT, hm1, hm2⟩
  have hbw1 : b < w1'.heap.size := by omega
  have hgw1 : g < w1'.heap.size := by omega
  have hB4 : Below w1'.heap.size w3 w4 := hT.below hq.b1 hq.g1 (by omega)
  have HM : Hid (MkD n w4 b2 g2) := ⟨Nat.lt_of_lt_of_le hq.b2 hT.size, Nat.lt_of_lt_of_le hq.g2 hT.size, hm1, hm2⟩
  have hsz4 := hT.size
  have HX : Hid (M.BlkAt w4 w2.heap.size [.int .i64 d, .bool true, .int .i64 0, .int .i64 1, .int .i64 0, .slice none 0 0, .slice (some ⟨b2, 0, none⟩) 1 lc2, .slice none 0 0, .int .i64 d, .slice none 0 0, .slice none 0 0, .slice (some ⟨g2, 0, none⟩) n hc2, .slice none 0 0, .slice none 0 0, .slice none 0 0]) := fun j v e => (hT.cell (p := ⟨w2.heap.size, j, none⟩) (show w2.heap.size < w3.heap.size by omega) (show w2.heap.size ≠ b2 by have := hb2; omega) (show w2.heap.size ≠ g2 by have := hg2; omega)).trans (HX.out j v e)
  have HY := hidI (HY.out.below hB4 (by omega))
  have HN := hidI (HN.out.below' hB4 ⟨hbw1, hgw1⟩)
  have hBc : Below w.heap.size w w4 := hBc.trans (hB4.mono (by omega))
  have hltHY : w1.heap.size < w4.heap.size := by omega
  have hltHX : w2.heap.size < w4.heap.size := by omega
  clear hT hm1 hm2 hq HG hB4
  have hqp : ¬ 2 + (n : Int) < 0 := by omega
  go_wp2_with (refine M.wpList_load_blk rfl 35 (.tmp 6) rfl w2.heap.size rfl _ _ HX.out Tryz.underlying35 rfl (by kernel_rfl) ?_)
  refine (c8 d 1 d true b2 lc2 g2 n hc2 w4 HM.out.lb HM.out.lg (by omega) HM.out.cb HM.out.cg).mono ?_
  rintro e w5 ⟨rfl, hbn⟩
  have HN := hidI (HN.out.below hbn)
  have hBc := hBc.trans (hbn.mono hBc.size)
  have HY := hidI (HY.out.below hbn (by omega))
  have hltHY := Nat.lt_of_lt_of_le hltHY hbn.size
  have HX := hidI (HX.out.below hbn (by omega))
  have hltHX := Nat.lt_of_lt_of_le hltHX hbn.size
  have HM := hidI (mkd_below HM.out hbn trivial trivial)
  clear hbn
  go_wp2_with fail
  refine (h5 w5).mono ?_
  rintro e w6 ⟨⟨b3, lc3, g3, hc3, rfl, hNB⟩, hbn⟩
  have hz6 := hbn.size
  have HN := hidI (HN.out.below hbn)
  have hBc := hBc.trans (hbn.mono hBc.size)
  have HY := hidI (HY.out.below hbn (by omega))
  have hltHY := Nat.lt_of_lt_of_le hltHY hbn.size
  have HX := hidI (HX.out.below hbn (by omega))
  have hltHX := Nat.lt_of_lt_of_le hltHX hbn.size
  have HM := hidI (mkd_below HM.out hbn trivial trivial)
  have HG := hidI hNB
  clear hNB hbn
  have hmark : True := trivial
  go_wp2_with (refine M.wpList_store_blk rfl 35 (.tmp 9) (.tmp 33) rfl w6.heap.size 0 rfl _ rfl (M.st_some w6 [.int .i64 0, .bool false, .int .i64 0, .int .i64 0, .int .i64 0, .slice none 0 0, .slice none 0 0, .slice none 0 0, .int .i64 0, .slice none 0 0, .slice none 0 0, .slice none 0 0, .slice none 0 0, .slice none 0 0, .slice none 0 0] _ 35 rfl) (M.opn_new w6 _ 35) (by simp [Value.oneCell']) (by kernel_rfl) rfl ?_; revert hmark)
  intro hmark
  clear hmark
  refine M.st_gen rfl ?_
  intro w6' hWF HH _ hltHH
  replace HH := hidI HH
  have hzw6 := Nat.le_of_lt hltHH
  have HN := hidI (HN.out.below hWF)
  have hBc := hBc.trans (hWF.mono hBc.size)
  have HY := hidI (HY.out.below hWF (by omega))
  have hltHY := Nat.lt_of_lt_of_le hltHY hWF.size
  have HX := hidI (HX.out.below hWF (by omega))
  have hltHX := Nat.lt_of_lt_of_le hltHX hWF.size
  have HM := hidI (mkd_below HM.out hWF trivial trivial)
  have HG := hidI (HG.out.below hWF)
  clear hWF
  go_wp2_with (first | refine M.wpList_load_blk rfl 35 (.tmp 9) rfl w6.heap.size rfl _ _ HH.out Tryz.underlying35 rfl (by kernel_rfl) ?_ | refine M.wpList_load_blk rfl 35 (.tmp 5) rfl w1.heap.size rfl _ _ HY.out Tryz.underlying35 rfl (by kernel_rfl) ?_)
  refine (c6n n d b3 b g3 g lc3 lc hc3 hc w6' (by omega) HG.out.rs HN.out.rs HG.out.ri HN.out.ri).mono ?_
  rintro e w7 ⟨rfl, hbn⟩
  have HN := hidI (HN.out.below hbn)
  have hBc := hBc.trans (hbn.mono hBc.size)
  have HY := hidI (HY.out.below hbn (by omega))
  have hltHY := Nat.lt_of_lt_of_le hltHY hbn.size
  have HX := hidI (HX.out.below hbn (by omega))
  have hltHX := Nat.lt_of_lt_of_le hltHX hbn.size
  have HM := hidI (mkd_below HM.out hbn trivial trivial)
  have HG := hidI (HG.out.below hbn)
  have HH := hidI (HH.out.below hbn (by omega))
  have hltHH := Nat.lt_of_lt_of_le hltHH hbn.size
  clear hbn
  clear HG HN HY HH
  go_wp2_with (refine M.wpList_load_blk rfl 35 (.tmp 6) rfl w2.heap.size rfl _ _ HX.out Tryz.underlying35 rfl (by kernel_rfl) ?_)
  refine (c8 d 1 d true b2 lc2 g2 n hc2 w7 HM.out.lb HM.out.lg (by omega) HM.out.cb HM.out.cg).mono ?_
  rintro e w8 ⟨rfl, hbn⟩
  have hBc := hBc.trans (hbn.mono hBc.size)
  have HX := hidI (HX.out.below hbn (by omega))
  have hltHX := Nat.lt_of_lt_of_le hltHX hbn.size
  have HM := hidI (mkd_below HM.out hbn trivial trivial)
  clear hbn
  go_wp2
  go_ret
  exact ⟨rfl, hBc⟩
end Go.Proofs.YtopoaccekhmcaaaGreatDoor

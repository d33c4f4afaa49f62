import Derived.Test.YtlfokigiejcfoaaGreatDoorA6
import Derived.Test.YtlfokigiejcfoaaGreatDoorA11
namespace Go.Proofs.YtlfokigiejcfoaaGreatDoor
open Go.RowKit
set_option maxHeartbeats 4000000 in
set_option maxRecDepth 100000 in
theorem c10z (d n : Int) (w : World) (hv : btw d 1 8 = false ∨ btw n 1 4 = false) :
    Calls Tryz.prog 10 #[.int .i64 d, .int .i64 n] w fun e w' => e = .returned (.agg #[.int .i64 0, .bool false, .int .i64 0, .int .i64 0, .int .i64 0, .slice none 0 0, .slice none 0 0, .slice none 0 0, .int .i64 0, .slice none 0 0, .slice none 0 0, .slice none 0 0, .slice none 0 0, .slice none 0 0, .slice none 0 0]) ∧ Below w.heap.size w w' := by
  have hB0 : ∀ o, Below w.heap.size w (w.alloc o) := fun o => (Below.refl _ _).alloc (Nat.le_refl _) _
  have Z0 : M.BlkAt (w.alloc (.cells #[.int .i64 0, .bool false, .int .i64 0, .int .i64 0, .int .i64 0, .slice none 0 0, .slice none 0 0, .slice none 0 0, .int .i64 0, .slice none 0 0, .slice none 0 0, .slice none 0 0, .slice none 0 0, .slice none 0 0, .slice none 0 0] 35)) w.heap.size [.int .i64 0, .bool false, .int .i64 0, .int .i64 0, .int .i64 0, .slice none 0 0, .slice none 0 0, .slice none 0 0, .int .i64 0, .slice none 0 0, .slice none 0 0, .slice none 0 0, .slice none 0 0, .slice none 0 0, .slice none 0 0] := M.blk_new w [.int .i64 0, .bool false, .int .i64 0, .int .i64 0, .int .i64 0, .slice none 0 0, .slice none 0 0, .slice none 0 0, .int .i64 0, .slice none 0 0, .slice none 0 0, .slice none 0 0, .slice none 0 0, .slice none 0 0, .slice none 0 0] 35
  have F0 : M.OpnAt (w.alloc (.cells #[.int .i64 0, .bool false, .int .i64 0, .int .i64 0, .int .i64 0, .slice none 0 0, .slice none 0 0, .slice none 0 0, .int .i64 0, .slice none 0 0, .slice none 0 0, .slice none 0 0, .slice none 0 0, .slice none 0 0, .slice none 0 0] 35)) w.heap.size := M.opn_new w _ 35
  have hz0 : w.heap.size < (w.alloc (.cells #[.int .i64 0, .bool false, .int .i64 0, .int .i64 0, .int .i64 0, .slice none 0 0, .slice none 0 0, .slice none 0 0, .int .i64 0, .slice none 0 0, .slice none 0 0, .slice none 0 0, .slice none 0 0, .slice none 0 0, .slice none 0 0] 35)).heap.size := by simp
  have hB1 := hB0 (.cells #[.int .i64 0, .bool false, .int .i64 0, .int .i64 0, .int .i64 0, .slice none 0 0, .slice none 0 0, .slice none 0 0, .int .i64 0, .slice none 0 0, .slice none 0 0, .slice none 0 0, .slice none 0 0, .slice none 0 0, .slice none 0 0] 35)
  go_enter Tryz.func10, Tryz.ntmps10
  go_wp2_with fail
  generalize (w.alloc (.cells #[.int .i64 0, .bool false, .int .i64 0, .int .i64 0, .int .i64 0, .slice none 0 0, .slice none 0 0, .slice none 0 0, .int .i64 0, .slice none 0 0, .slice none 0 0, .slice none 0 0, .slice none 0 0, .slice none 0 0, .slice none 0 0] 35)) = u at *
  refine (c28 d u).mono ?_
  rintro e w1 ⟨rfl, hb1⟩
  have hB2 := hB1.trans (hb1.mono hB1.size)
  have hz1 := Nat.lt_of_lt_of_le hz0 hb1.size
  have Z1 := hidI (Z0.below hb1 hz0)
  have F1 := hidI (F0.below hb1 hz0)
  clear hb1 Z0 F0
  by_cases h1 : btw d 1 8 = true
  · rw [h1]
    have h2 : btw n 1 4 = false := by
      rcases hv with h | h
      · rw [h1] at h; exact absurd h (by decide)
      · exact h
    go_wp2_with fail
    refine (c29 n w1).mono ?_
    rintro e w2 ⟨rfl, hb2⟩
    rw [h2]
    have hB3 := hB2.trans (hb2.mono hB2.size)
    have Z2 := hidI (Z1.out.below hb2 hz1)
    have F2 := hidI (F1.out.below hb2 hz1)
    clear hb2 Z1 F1
    have hmark : True := trivial
    go_wp2_with (refine M.wpList_store_blk rfl 35 (.tmp 4) (.tmp 13) rfl w.heap.size 0 rfl _ rfl (M.blk_some Z2.out rfl) F2.out (by simp [Value.oneCell']) (by kernel_rfl) rfl ?_; revert hmark)
    intro hmark
    clear hmark
    refine M.st_over (N := w.heap.size) rfl Z2.out F2.out (Nat.le_refl _) ?_
    intro E hbE ZE FE _ _
    have hBE := hidI (hB3.trans hbE)
    have HZE := hidI ZE
    clear hbE ZE FE Z2 F2
    go_wp2_with fail
    refine bodyPost_ret (v := .agg ([.int .i64 0, .bool false, .int .i64 0, .int .i64 0, .int .i64 0, .slice none 0 0, .slice none 0 0, .slice none 0 0, .int .i64 0, .slice none 0 0, .slice none 0 0, .slice none 0 0, .slice none 0 0, .slice none 0 0, .slice none 0 0] : List Value).toArray) (M.results_blk (P := Tryz.prog) (ty := 35) rfl _ E w.heap.size [.int .i64 0, .bool false, .int .i64 0, .int .i64 0, .int .i64 0, .slice none 0 0, .slice none 0 0, .slice none 0 0, .int .i64 0, .slice none 0 0, .slice none 0 0, .slice none 0 0, .slice none 0 0, .slice none 0 0, .slice none 0 0] _ rfl HZE.out Tryz.underlying35 rfl (by kernel_rfl)) rfl ⟨rfl, hBE.out⟩
  · have h1' : btw d 1 8 = false := by simpa using h1
    rw [h1']
    have hmark : True := trivial
    go_wp2_with (refine M.wpList_store_blk rfl 35 (.tmp 4) (.tmp 13) rfl w.heap.size 0 rfl _ rfl (M.blk_some Z1.out rfl) F1.out (by simp [Value.oneCell']) (by kernel_rfl) rfl ?_; revert hmark)
    intro hmark
    clear hmark
    refine M.st_over (N := w.heap.size) rfl Z1.out F1.out (Nat.le_refl _) ?_
    intro E hbE ZE FE _ _
    have hBE := hidI (hB2.trans hbE)
    have HZE := hidI ZE
    clear hbE ZE FE Z1 F1
    go_wp2_with fail
    refine bodyPost_ret (v := .agg ([.int .i64 0, .bool false, .int .i64 0, .int .i64 0, .int .i64 0, .slice none 0 0, .slice none 0 0, .slice none 0 0, .int .i64 0, .slice none 0 0, .slice none 0 0, .slice none 0 0, .slice none 0 0, .slice none 0 0, .slice none 0 0] : List Value).toArray) (M.results_blk (P := Tryz.prog) (ty := 35) rfl _ E w.heap.size [.int .i64 0, .bool false, .int .i64 0, .int .i64 0, .int .i64 0, .slice none 0 0, .slice none 0 0, .slice none 0 0, .int .i64 0, .slice none 0 0, .slice none 0 0, .slice none 0 0, .slice none 0 0, .slice none 0 0, .slice none 0 0] _ rfl HZE.out Tryz.underlying35 rfl (by kernel_rfl)) rfl ⟨rfl, hBE.out⟩
theorem NB.below {u u' : World} {base n b g : Nat} (h : NB u base n b g) (hb : Below u.heap.size u u') : NB u' base n b g :=
  ⟨h.b1, Nat.lt_of_lt_of_le h.b2 hb.size, h.g1, Nat.lt_of_lt_of_le h.g2 hb.size, h.ne, (hb.cell (p := ⟨b, 0, none⟩) h.b2).trans h.cb, (hb.frozen (p := ⟨b, 0, none⟩) h.b2).trans h.fb, fun i hi => (hb.cell (p := ⟨g, i, none⟩) h.g2).trans (h.cg i hi), fun i => (hb.frozen (p := ⟨g, i, none⟩) h.g2).trans (h.fg i)⟩
theorem NB.rs {u : World} {base n b g : Nat} (h : NB u base n b g) : RS u (some ⟨b, 0, none⟩) [epL] := .inr ⟨b, rfl, h.b2, fun i hi => by
  obtain rfl : i = 0 := by simp at hi; omega
  exact h.cb⟩
theorem NB.ri {u : World} {base n b g : Nat} (h : NB u base n b g) : RI u (some ⟨g, 0, none⟩) (List.replicate n (-1)) := .inr ⟨g, rfl, h.g2, fun i hi => by
  have hi' : i < n := by simpa using hi
  rw [h.cg i hi']
  simp [List.getD, hi']⟩
/-- Marks of a boss. -/
structure MkD (n : Nat) (u : World) (b g : Nat) : Prop where
  lb : b < u.heap.size
  lg : g < u.heap.size
  cb : u.cell? ⟨b, 0, none⟩ = some (.string ⟨#[109, 49]⟩)
  cg : ∀ i, i < n → u.cell? ⟨g, i, none⟩ = some (.int .i64 (2 + (i : Int)))
theorem mkd_below {n : Nat} {u u' : World} {b g : Nat} (h : MkD n u b g) (hb : Below u.heap.size u u') (_ : True) (_ : True) : MkD n u' b g :=
  ⟨Nat.lt_of_lt_of_le h.lb hb.size, Nat.lt_of_lt_of_le h.lg hb.size, (hb.cell (p := ⟨b, 0, none⟩) h.lb).trans h.cb, fun i hi => (hb.cell (p := ⟨g, i, none⟩) h.lg).trans (h.cg i hi)⟩
theorem NB.below' {u u' : World} {N base n b g : Nat} (h : NB u base n b g) (hb : Below N u u') (hN : b < N ∧ g < N) : NB u' base n b g :=
  ⟨h.b1, Nat.lt_of_lt_of_le h.b2 hb.size, h.g1, Nat.lt_of_lt_of_le h.g2 hb.size, h.ne, (hb.cell (p := ⟨b, 0, none⟩) hN.1).trans h.cb, (hb.frozen (p := ⟨b, 0, none⟩) hN.1).trans h.fb, fun i hi => (hb.cell (p := ⟨g, i, none⟩) hN.2).trans (h.cg i hi), fun i => (hb.frozen (p := ⟨g, i, none⟩) hN.2).trans (h.fg i)⟩
theorem c12n (n : Nat) (d : Int) (b b' g g' lc lc' hc hc' : Nat) (w : World) (hn : n ≤ 1000) (hS : RS w (some ⟨b, 0, none⟩) [epL]) (hS' : RS w (some ⟨b', 0, none⟩) [epL]) (hH : RI w (some ⟨g, 0, none⟩) (List.replicate n (-1))) (hH' : RI w (some ⟨g', 0, none⟩) (List.replicate n (-1))) :
    Calls Tryz.prog 12 #[.agg #[.int .i64 d, .bool true, .int .i64 0, .int .i64 1, .int .i64 0, .slice none 0 0, .slice (some ⟨b, 0, none⟩) 1 lc, .slice none 0 0, .int .i64 d, .slice none 0 0, .slice none 0 0, .slice (some ⟨g, 0, none⟩) n hc, .slice none 0 0, .slice none 0 0, .slice none 0 0], .agg #[.int .i64 d, .bool true, .int .i64 0, .int .i64 1, .int .i64 0, .slice none 0 0, .slice (some ⟨b', 0, none⟩) 1 lc', .slice none 0 0, .int .i64 d, .slice none 0 0, .slice none 0 0, .slice (some ⟨g', 0, none⟩) n hc', .slice none 0 0, .slice none 0 0, .slice none 0 0]] w fun e w' => e = .returned (.bool true) ∧ Below w.heap.size w w' := by
  have k := c12 d 1 d true [epL] (List.replicate n (-1)) (some ⟨b, 0, none⟩) (some ⟨b', 0, none⟩) (some ⟨g, 0, none⟩) (some ⟨g', 0, none⟩) lc lc' hc hc' w (by decide) (by simp; omega) hS hS' hH hH'
  rw [List.length_replicate] at k
  exact k
end Go.Proofs.YtlfokigiejcfoaaGreatDoor

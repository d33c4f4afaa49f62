import Derived.Test.YtboojefodbjbcaaGreatDoorZR00
import Derived.Test.YtboojefodbjbcaaGreatDoorGV3
namespace Go.Proofs.YtboojefodbjbcaaGreatDoor.G.T
set_option linter.unusedSimpArgs false
open Go.RowKit
set_option maxHeartbeats 4000000 in
theorem c42 (a : Option Addr) (cap : Nat) (fs : List F2) (w : World) (hl : fs.length ≤ 1048576) (hs : ∀ i, (fs.getD i f2z).le 1048576) (hat : FilesAt w a fs) :
 Calls Tryz.prog 42 #[.agg #[.slice a fs.length cap]] w fun e w' => (∃ b : Bool, e = .returned (.bool b) ∧ (b = true ↔ treeOk fs)) ∧ Below w.heap.size w w' := by
 obtain ⟨b, off, hc⟩ := files_some hat
 have HC : Hid (fs = [] ∨ (a = some ⟨b, off, none⟩ ∧ b < w.heap.size ∧ ∀ i, i < fs.length → w.cell? ⟨b, off + i * 2, none⟩ = some (.string (fs.getD i f2z).nm) ∧ w.cell? ⟨b, off + i * 2 + 1, none⟩ = some (.string (fs.getD i f2z).tx))) := hc
 clear hc hat
 by_cases hbig : 40 < fs.length
 · go_enter Tryz.func42, Tryz.ntmps42
   go_wp2
   go_ret
   exact ⟨⟨false, rfl, by simp [treeOk]; omega⟩, (Below.refl _ _).alloc (Nat.le_refl _) _⟩
 · go_enter Tryz.func42, Tryz.ntmps42
   go_wp2_with fail
   go_loopw [12] (fun i wr => ∃ k : Nat, k ≤ fs.length ∧ i = .int .i64 k ∧ Below w.heap.size w wr ∧ wr.cell? ⟨w.heap.size, 0, none⟩ = some (.slice a fs.length cap) ∧ w.heap.size + 1 ≤ wr.heap.size ∧ Hid (∀ j, j < k → stepOk fs j = true)) (fun i _ => fs.length - (intOf i).toNat)
   case atStart => exact ⟨0, Nat.zero_le _, rfl, (Below.refl _ _).alloc (Nat.le_refl _) _, by simp, by simp, fun j h => absurd h (Nat.not_lt_zero _)⟩
   case round =>
    obtain ⟨k, hk, rfl, hb, t0, hz, hdone⟩ := hrel
    by_cases hlt : k < fs.length
    · rcases HC.out with hss | ⟨ha, hbw, hcell⟩
      · rw [hss] at hlt; exact absurd hlt (Nat.not_lt_zero _)
      subst ha
      have HB : Hid (Below w.heap.size w wr) := hb
      have g0 := (hb.cell (p := ⟨b, off + k * 2, none⟩) hbw).trans (hcell k hlt).1
      have g1 := (hb.cell (p := ⟨b, off + k * 2 + 1, none⟩) hbw).trans (hcell k hlt).2
      have hbr : b < wr.heap.size := Nat.lt_of_lt_of_le hbw hb.size
      have hsx : Hid ((fs.getD k f2z).le 1048700) := ⟨Nat.le_trans (hs k).1 (by omega), Nat.le_trans (hs k).2 (by omega)⟩
      rcases Nat.eq_zero_or_pos k with h0 | h0
      · subst h0
        have HS : Hid (stepOk fs 0 = fileOk (fs.getD 0 f2z)) := by simp [stepOk, Hid]
        simp only [Nat.zero_mul, Nat.add_zero] at g0 g1
        generalize fs.getD 0 f2z = x at *
        clear hcell hb
        cases hx : fileOk x
        · go_wp2_with fail
          have HBW : Hid (Below wr.heap.size wr (wr.alloc (.cells #[.string x.nm, .string x.tx] 129))) := (Below.refl _ _).alloc (Nat.le_refl _) _
          have t1 := (HBW.out.cell (p := ⟨w.heap.size, 0, none⟩) (by show w.heap.size < wr.heap.size; omega)).trans t0
          have f0 : (wr.alloc (.cells #[.string x.nm, .string x.tx] 129)).cell? ⟨wr.heap.size, 0, none⟩ = some (.string x.nm) := by simp
          have f1 : (wr.alloc (.cells #[.string x.nm, .string x.tx] 129)).cell? ⟨wr.heap.size, 1, none⟩ = some (.string x.tx) := by simp
          have hFW : wr.heap.size < (wr.alloc (.cells #[.string x.nm, .string x.tx] 129)).heap.size := by simp
          generalize (wr.alloc (.cells #[.string x.nm, .string x.tx] 129)) = W at *
          have hwW : w.heap.size < W.heap.size := by omega
          have hbW : b < W.heap.size := by omega
          refine wp_region_held_drew (S := (fun u => u.cell? ⟨w.heap.size, 0, none⟩ = some (.slice (some ⟨b, off, none⟩) fs.length cap) ∧ u.cell? ⟨wr.heap.size, 0, none⟩ = some (.string x.nm) ∧ u.cell? ⟨wr.heap.size, 1, none⟩ = some (.string x.tx))) (by kernel_rfl) ?_ (fun hHeld => ?_)
          · ((try dsimp only); go_keep)
          refine tk (i := 0) (oi := ⟨some 17, .load 129 (.tmp 4), 129, _, _, none⟩) (v := ?_) rfl (by kernel_rfl) rfl ?e hHeld ?_
          case e => intro wq hSw; (try dsimp only at hSw); go_simp; try with_reducible rfl
          try simp only [qq]
          refine rd (i := 1) (o := ⟨some 18, .call ⟨.value (.func 85), #[.tmp 17], #[129]⟩, 4, _, _, none⟩) rfl (by kernel_rfl) (fun K hK => ?_)
          go_simp
          refine (c85v hx _ hsx.out).mono ?_
          rintro e w1 ⟨rfl, hb1⟩
          have HB1 : Hid (Below W.heap.size W w1) := ((Below.refl _ _).drew).trans hb1
          have p0 := (HB1.out.cell (p := ⟨w.heap.size, 0, none⟩) hwW).trans t1
          have p1 := (HB1.out.cell (p := ⟨wr.heap.size, 0, none⟩) hFW).trans f0
          have p2 := (HB1.out.cell (p := ⟨wr.heap.size, 1, none⟩) hFW).trans f1
          go_wp2_with fail
          clear hHeld
          refine hK.out _ _ ?_ (fun hHeld => ?_)
          · ((try dsimp only); go_keep)
          clear hK K
          try simp only [qq]
          refine tk (i := 2) (oi := ⟨some 19, .unOp .not 4 (.tmp 18), 4, _, _, none⟩) (v := ?_) rfl (by kernel_rfl) rfl ?e hHeld ?_
          case e => intro wq hSw; (try dsimp only at hSw); go_simp; try with_reducible rfl
          try simp only [qq]
          refine tk (i := 3) (oi := ⟨some 20, .move (.tmp 19), 4, _, _, none⟩) (v := ?_) rfl (by kernel_rfl) rfl ?e hHeld ?_
          case e => intro wq hSw; (try dsimp only at hSw); go_simp; try with_reducible rfl
          try simp only [qq]
          refine tu (i := 4) (oi := ⟨some 21, .move (.tmp 3), 3, _, _, some (3, false)⟩) rfl (by kernel_rfl) rfl hHeld ?_
          try simp only [qq]
          refine tu (i := 5) (oi := ⟨some 22, .binOp .gtr 3 (.tmp 21) (.const (.int .i64 0)) 3, 4, _, _, some (3, false)⟩) rfl (by kernel_rfl) rfl hHeld ?_
          try simp only [qq]
          refine tu (i := 6) (oi := ⟨some 23, .move (.tmp 22), 4, _, _, some (3, false)⟩) rfl (by kernel_rfl) rfl hHeld ?_
          try simp only [qq]
          refine tu (i := 7) (oi := ⟨some 24, .fieldAddr 49 (.tmp 1) 0, 0, _, _, some (6, true)⟩) rfl (by kernel_rfl) rfl hHeld ?_
          try simp only [qq]
          refine tu (i := 8) (oi := ⟨some 25, .load 47 (.tmp 24), 47, _, _, some (6, true)⟩) rfl (by kernel_rfl) rfl hHeld ?_
          try simp only [qq]
          refine tu (i := 9) (oi := ⟨some 26, .move (.tmp 3), 3, _, _, some (6, true)⟩) rfl (by kernel_rfl) rfl hHeld ?_
          try simp only [qq]
          refine tu (i := 10) (oi := ⟨some 27, .binOp .sub 3 (.tmp 26) (.const (.int .i64 1)) 3, 3, _, _, some (6, true)⟩) rfl (by kernel_rfl) rfl hHeld ?_
          try simp only [qq]
          refine tu (i := 11) (oi := ⟨some 28, .indexAddr 47 (.tmp 25) (.tmp 27), 0, _, _, some (6, true)⟩) rfl (by kernel_rfl) rfl hHeld ?_
          try simp only [qq]
          refine tu (i := 12) (oi := ⟨some 29, .fieldAddr 129 (.tmp 28) 0, 0, _, _, some (6, true)⟩) rfl (by kernel_rfl) rfl hHeld ?_
          try simp only [qq]
          refine tu (i := 13) (oi := ⟨some 30, .load 9 (.tmp 29), 9, _, _, some (6, true)⟩) rfl (by kernel_rfl) rfl hHeld ?_
          try simp only [qq]
          refine tu (i := 14) (oi := ⟨some 31, .fieldAddr 129 (.tmp 4) 0, 0, _, _, some (6, true)⟩) rfl (by kernel_rfl) rfl hHeld ?_
          try simp only [qq]
          refine tu (i := 15) (oi := ⟨some 32, .load 9 (.tmp 31), 9, _, _, some (6, true)⟩) rfl (by kernel_rfl) rfl hHeld ?_
          try simp only [qq]
          refine tu (i := 16) (oi := ⟨some 33, .binOp .geq 9 (.tmp 30) (.tmp 32) 9, 4, _, _, some (6, true)⟩) rfl (by kernel_rfl) rfl hHeld ?_
          try simp only [qq]
          refine tu (i := 17) (oi := ⟨some 34, .pick (.tmp 23) (.tmp 33) (.const (.bool false)), 4, _, _, some (3, false)⟩) rfl (by kernel_rfl) rfl hHeld ?_
          try simp only [qq]
          refine tk (i := 18) (oi := ⟨some 35, .pick (.tmp 20) (.const (.bool true)) (.tmp 34), 4, _, _, none⟩) (v := ?_) rfl (by kernel_rfl) rfl ?e hHeld ?_
          case e => intro wq hSw; (try dsimp only at hSw); go_simp; try with_reducible rfl
          try simp only [qq]
          refine wpAnyH_done (by kernel_rfl) ?_ _
          have hB1 : Below w.heap.size w w1 := HB.out.trans ((HBW.out.trans (HB1.out.mono (by omega))).mono HB.out.size)
          rw [hx] at HS
          clear hHeld
          go_wp2
          go_ret
          exact ⟨⟨false, rfl, by simp only [Bool.false_eq_true, false_iff]; intro h; have := h.2 _ hlt; rw [HS.out] at this; cases this⟩, hB1⟩
        · go_wp2_with fail
          have HBW : Hid (Below wr.heap.size wr (wr.alloc (.cells #[.string x.nm, .string x.tx] 129))) := (Below.refl _ _).alloc (Nat.le_refl _) _
          have t1 := (HBW.out.cell (p := ⟨w.heap.size, 0, none⟩) (by show w.heap.size < wr.heap.size; omega)).trans t0
          have f0 : (wr.alloc (.cells #[.string x.nm, .string x.tx] 129)).cell? ⟨wr.heap.size, 0, none⟩ = some (.string x.nm) := by simp
          have f1 : (wr.alloc (.cells #[.string x.nm, .string x.tx] 129)).cell? ⟨wr.heap.size, 1, none⟩ = some (.string x.tx) := by simp
          have hFW : wr.heap.size < (wr.alloc (.cells #[.string x.nm, .string x.tx] 129)).heap.size := by simp
          generalize (wr.alloc (.cells #[.string x.nm, .string x.tx] 129)) = W at *
          have hwW : w.heap.size < W.heap.size := by omega
          have hbW : b < W.heap.size := by omega
          refine wp_region_held_drew (S := (fun u => u.cell? ⟨w.heap.size, 0, none⟩ = some (.slice (some ⟨b, off, none⟩) fs.length cap) ∧ u.cell? ⟨wr.heap.size, 0, none⟩ = some (.string x.nm) ∧ u.cell? ⟨wr.heap.size, 1, none⟩ = some (.string x.tx))) (by kernel_rfl) ?_ (fun hHeld => ?_)
          · ((try dsimp only); go_keep)
          refine tk (i := 0) (oi := ⟨some 17, .load 129 (.tmp 4), 129, _, _, none⟩) (v := ?_) rfl (by kernel_rfl) rfl ?e hHeld ?_
          case e => intro wq hSw; (try dsimp only at hSw); go_simp; try with_reducible rfl
          try simp only [qq]
          refine rd (i := 1) (o := ⟨some 18, .call ⟨.value (.func 85), #[.tmp 17], #[129]⟩, 4, _, _, none⟩) rfl (by kernel_rfl) (fun K hK => ?_)
          go_simp
          refine (c85v hx _ hsx.out).mono ?_
          rintro e w1 ⟨rfl, hb1⟩
          have HB1 : Hid (Below W.heap.size W w1) := ((Below.refl _ _).drew).trans hb1
          have p0 := (HB1.out.cell (p := ⟨w.heap.size, 0, none⟩) hwW).trans t1
          have p1 := (HB1.out.cell (p := ⟨wr.heap.size, 0, none⟩) hFW).trans f0
          have p2 := (HB1.out.cell (p := ⟨wr.heap.size, 1, none⟩) hFW).trans f1
          go_wp2_with fail
          clear hHeld
          refine hK.out _ _ ?_ (fun hHeld => ?_)
          · ((try dsimp only); go_keep)
          clear hK K
          try simp only [qq]
          refine tk (i := 2) (oi := ⟨some 19, .unOp .not 4 (.tmp 18), 4, _, _, none⟩) (v := ?_) rfl (by kernel_rfl) rfl ?e hHeld ?_
          case e => intro wq hSw; (try dsimp only at hSw); go_simp; try with_reducible rfl
          try simp only [qq]
          refine tk (i := 3) (oi := ⟨some 20, .move (.tmp 19), 4, _, _, none⟩) (v := ?_) rfl (by kernel_rfl) rfl ?e hHeld ?_
          case e => intro wq hSw; (try dsimp only at hSw); go_simp; try with_reducible rfl
          try simp only [qq]
          refine tk (i := 4) (oi := ⟨some 21, .move (.tmp 3), 3, _, _, some (3, false)⟩) (v := ?_) rfl (by kernel_rfl) rfl ?e hHeld ?_
          case e => intro wq hSw; (try dsimp only at hSw); go_simp; try with_reducible rfl
          try simp only [qq]
          refine tk (i := 5) (oi := ⟨some 22, .binOp .gtr 3 (.tmp 21) (.const (.int .i64 0)) 3, 4, _, _, some (3, false)⟩) (v := ?_) rfl (by kernel_rfl) rfl ?e hHeld ?_
          case e => intro wq hSw; (try dsimp only at hSw); go_simp; try with_reducible rfl
          try simp only [qq]
          refine tk (i := 6) (oi := ⟨some 23, .move (.tmp 22), 4, _, _, some (3, false)⟩) (v := ?_) rfl (by kernel_rfl) rfl ?e hHeld ?_
          case e => intro wq hSw; (try dsimp only at hSw); go_simp; try with_reducible rfl
          try simp only [qq]
          refine tu (i := 7) (oi := ⟨some 24, .fieldAddr 49 (.tmp 1) 0, 0, _, _, some (6, true)⟩) rfl (by kernel_rfl) rfl hHeld ?_
          try simp only [qq]
          refine tu (i := 8) (oi := ⟨some 25, .load 47 (.tmp 24), 47, _, _, some (6, true)⟩) rfl (by kernel_rfl) rfl hHeld ?_
          try simp only [qq]
          refine tu (i := 9) (oi := ⟨some 26, .move (.tmp 3), 3, _, _, some (6, true)⟩) rfl (by kernel_rfl) rfl hHeld ?_
          try simp only [qq]
          refine tu (i := 10) (oi := ⟨some 27, .binOp .sub 3 (.tmp 26) (.const (.int .i64 1)) 3, 3, _, _, some (6, true)⟩) rfl (by kernel_rfl) rfl hHeld ?_
          try simp only [qq]
          refine tu (i := 11) (oi := ⟨some 28, .indexAddr 47 (.tmp 25) (.tmp 27), 0, _, _, some (6, true)⟩) rfl (by kernel_rfl) rfl hHeld ?_
          try simp only [qq]
          refine tu (i := 12) (oi := ⟨some 29, .fieldAddr 129 (.tmp 28) 0, 0, _, _, some (6, true)⟩) rfl (by kernel_rfl) rfl hHeld ?_
          try simp only [qq]
          refine tu (i := 13) (oi := ⟨some 30, .load 9 (.tmp 29), 9, _, _, some (6, true)⟩) rfl (by kernel_rfl) rfl hHeld ?_
          try simp only [qq]
          refine tu (i := 14) (oi := ⟨some 31, .fieldAddr 129 (.tmp 4) 0, 0, _, _, some (6, true)⟩) rfl (by kernel_rfl) rfl hHeld ?_
          try simp only [qq]
          refine tu (i := 15) (oi := ⟨some 32, .load 9 (.tmp 31), 9, _, _, some (6, true)⟩) rfl (by kernel_rfl) rfl hHeld ?_
          try simp only [qq]
          refine tu (i := 16) (oi := ⟨some 33, .binOp .geq 9 (.tmp 30) (.tmp 32) 9, 4, _, _, some (6, true)⟩) rfl (by kernel_rfl) rfl hHeld ?_
          try simp only [qq]
          refine tk (i := 17) (oi := ⟨some 34, .pick (.tmp 23) (.tmp 33) (.const (.bool false)), 4, _, _, some (3, false)⟩) (v := ?_) rfl (by kernel_rfl) rfl ?e hHeld ?_
          case e => intro wq hSw; (try dsimp only at hSw); go_simp; try with_reducible rfl
          try simp only [qq]
          refine tk (i := 18) (oi := ⟨some 35, .pick (.tmp 20) (.const (.bool true)) (.tmp 34), 4, _, _, none⟩) (v := ?_) rfl (by kernel_rfl) rfl ?e hHeld ?_
          case e => intro wq hSw; (try dsimp only at hSw); go_simp; try with_reducible rfl
          try simp only [qq]
          refine wpAnyH_done (by kernel_rfl) ?_ _
          have hB1 : Below w.heap.size w w1 := HB.out.trans ((HBW.out.trans (HB1.out.mono (by omega))).mono HB.out.size)
          have hz1 : w.heap.size + 1 ≤ w1.heap.size := by have := HB1.out.size; omega
          rw [hx] at HS
          have hd' : Hid (∀ j, j < 0 + 1 → stepOk fs j = true) := fun j hj => by
           rcases Nat.lt_or_ge j 0 with h | h
           · exact hdone.out j h
           · obtain rfl : j = 0 := by omega
             exact HS.out
          clear hHeld
          go_wp2
          go_roundw
          case rel => exact ⟨0 + 1, by omega, by go_num, hB1, p0, hz1, hd'⟩
          case measure => simp [intOf]; omega
      · obtain ⟨q, hq⟩ : ∃ q, q + 1 = k := ⟨k - 1, by omega⟩
        have g2 := (hb.cell (p := ⟨b, off + q * 2, none⟩) hbw).trans (hcell q (by omega)).1
        have HS : Hid (stepOk fs k = (fileOk (fs.getD k f2z) && Op.bytesLess (fs.getD q f2z).nm.toList (fs.getD k f2z).nm.toList)) := by
         have e1 : decide (k = 0) = false := decide_eq_false (by omega)
         have e2 : k - 1 = q := by omega
         unfold stepOk; rw [e1, e2]; rfl
        have hm0 : (0 : Int) < (k : Int) := by omega
        have hm1 : decide ((0 : Int) < (k : Int)) = true := decide_eq_true hm0
        generalize fs.getD k f2z = x at *
        generalize fs.getD q f2z = y at *
        have hwr : IntKind.i64.wrap ((k : Int) - 1) = (q : Int) := by rw [show (k : Int) - 1 = (q : Int) by omega]; exact wrap_nat q (by omega)
        have hql : (q : Int) < (fs.length : Int) := by omega
        clear hq
        clear hcell hb
        cases hx : fileOk x
        · cases hy : Op.bytesLess y.nm.toList x.nm.toList
          · go_wp2_with fail
            have HBW : Hid (Below wr.heap.size wr (wr.alloc (.cells #[.string x.nm, .string x.tx] 129))) := (Below.refl _ _).alloc (Nat.le_refl _) _
            have t1 := (HBW.out.cell (p := ⟨w.heap.size, 0, none⟩) (by show w.heap.size < wr.heap.size; omega)).trans t0
            have y1 := (HBW.out.cell (p := ⟨b, off + q * 2, none⟩) hbr).trans g2
            have f0 : (wr.alloc (.cells #[.string x.nm, .string x.tx] 129)).cell? ⟨wr.heap.size, 0, none⟩ = some (.string x.nm) := by simp
            have f1 : (wr.alloc (.cells #[.string x.nm, .string x.tx] 129)).cell? ⟨wr.heap.size, 1, none⟩ = some (.string x.tx) := by simp
            have hFW : wr.heap.size < (wr.alloc (.cells #[.string x.nm, .string x.tx] 129)).heap.size := by simp
            generalize (wr.alloc (.cells #[.string x.nm, .string x.tx] 129)) = W at *
            have hwW : w.heap.size < W.heap.size := by omega
            have hbW : b < W.heap.size := by omega
            refine wp_region_held_drew (S := (fun u => u.cell? ⟨w.heap.size, 0, none⟩ = some (.slice (some ⟨b, off, none⟩) fs.length cap) ∧ u.cell? ⟨wr.heap.size, 0, none⟩ = some (.string x.nm) ∧ u.cell? ⟨wr.heap.size, 1, none⟩ = some (.string x.tx) ∧ u.cell? ⟨b, off + q * 2, none⟩ = some (.string y.nm))) (by kernel_rfl) ?_ (fun hHeld => ?_)
            · ((try dsimp only); go_keep)
            refine tk (i := 0) (oi := ⟨some 17, .load 129 (.tmp 4), 129, _, _, none⟩) (v := ?_) rfl (by kernel_rfl) rfl ?e hHeld ?_
            case e => intro wq hSw; (try dsimp only at hSw); go_simp; try with_reducible rfl
            try simp only [qq]
            refine rd (i := 1) (o := ⟨some 18, .call ⟨.value (.func 85), #[.tmp 17], #[129]⟩, 4, _, _, none⟩) rfl (by kernel_rfl) (fun K hK => ?_)
            go_simp
            refine (c85v hx _ hsx.out).mono ?_
            rintro e w1 ⟨rfl, hb1⟩
            have HB1 : Hid (Below W.heap.size W w1) := ((Below.refl _ _).drew).trans hb1
            have p0 := (HB1.out.cell (p := ⟨w.heap.size, 0, none⟩) hwW).trans t1
            have p1 := (HB1.out.cell (p := ⟨wr.heap.size, 0, none⟩) hFW).trans f0
            have p2 := (HB1.out.cell (p := ⟨wr.heap.size, 1, none⟩) hFW).trans f1
            have p3 := (HB1.out.cell (p := ⟨b, off + q * 2, none⟩) hbW).trans y1
            go_wp2_with fail
            clear hHeld
            refine hK.out _ _ ?_ (fun hHeld => ?_)
            · ((try dsimp only); go_keep)
            clear hK K
            try simp only [qq]
            refine tk (i := 2) (oi := ⟨some 19, .unOp .not 4 (.tmp 18), 4, _, _, none⟩) (v := ?_) rfl (by kernel_rfl) rfl ?e hHeld ?_
            case e => intro wq hSw; (try dsimp only at hSw); go_simp; try with_reducible rfl
            try simp only [qq]
            refine tk (i := 3) (oi := ⟨some 20, .move (.tmp 19), 4, _, _, none⟩) (v := ?_) rfl (by kernel_rfl) rfl ?e hHeld ?_
            case e => intro wq hSw; (try dsimp only at hSw); go_simp; try with_reducible rfl
            try simp only [qq]
            refine tu (i := 4) (oi := ⟨some 21, .move (.tmp 3), 3, _, _, some (3, false)⟩) rfl (by kernel_rfl) rfl hHeld ?_
            try simp only [qq]
            refine tu (i := 5) (oi := ⟨some 22, .binOp .gtr 3 (.tmp 21) (.const (.int .i64 0)) 3, 4, _, _, some (3, false)⟩) rfl (by kernel_rfl) rfl hHeld ?_
            try simp only [qq]
            refine tu (i := 6) (oi := ⟨some 23, .move (.tmp 22), 4, _, _, some (3, false)⟩) rfl (by kernel_rfl) rfl hHeld ?_
            try simp only [qq]
            refine tu (i := 7) (oi := ⟨some 24, .fieldAddr 49 (.tmp 1) 0, 0, _, _, some (6, true)⟩) rfl (by kernel_rfl) rfl hHeld ?_
            try simp only [qq]
            refine tu (i := 8) (oi := ⟨some 25, .load 47 (.tmp 24), 47, _, _, some (6, true)⟩) rfl (by kernel_rfl) rfl hHeld ?_
            try simp only [qq]
            refine tu (i := 9) (oi := ⟨some 26, .move (.tmp 3), 3, _, _, some (6, true)⟩) rfl (by kernel_rfl) rfl hHeld ?_
            try simp only [qq]
            refine tu (i := 10) (oi := ⟨some 27, .binOp .sub 3 (.tmp 26) (.const (.int .i64 1)) 3, 3, _, _, some (6, true)⟩) rfl (by kernel_rfl) rfl hHeld ?_
            try simp only [qq]
            refine tu (i := 11) (oi := ⟨some 28, .indexAddr 47 (.tmp 25) (.tmp 27), 0, _, _, some (6, true)⟩) rfl (by kernel_rfl) rfl hHeld ?_
            try simp only [qq]
            refine tu (i := 12) (oi := ⟨some 29, .fieldAddr 129 (.tmp 28) 0, 0, _, _, some (6, true)⟩) rfl (by kernel_rfl) rfl hHeld ?_
            try simp only [qq]
            refine tu (i := 13) (oi := ⟨some 30, .load 9 (.tmp 29), 9, _, _, some (6, true)⟩) rfl (by kernel_rfl) rfl hHeld ?_
            try simp only [qq]
            refine tu (i := 14) (oi := ⟨some 31, .fieldAddr 129 (.tmp 4) 0, 0, _, _, some (6, true)⟩) rfl (by kernel_rfl) rfl hHeld ?_
            try simp only [qq]
            refine tu (i := 15) (oi := ⟨some 32, .load 9 (.tmp 31), 9, _, _, some (6, true)⟩) rfl (by kernel_rfl) rfl hHeld ?_
            try simp only [qq]
            refine tu (i := 16) (oi := ⟨some 33, .binOp .geq 9 (.tmp 30) (.tmp 32) 9, 4, _, _, some (6, true)⟩) rfl (by kernel_rfl) rfl hHeld ?_
            try simp only [qq]
            refine tu (i := 17) (oi := ⟨some 34, .pick (.tmp 23) (.tmp 33) (.const (.bool false)), 4, _, _, some (3, false)⟩) rfl (by kernel_rfl) rfl hHeld ?_
            try simp only [qq]
            refine tk (i := 18) (oi := ⟨some 35, .pick (.tmp 20) (.const (.bool true)) (.tmp 34), 4, _, _, none⟩) (v := ?_) rfl (by kernel_rfl) rfl ?e hHeld ?_
            case e => intro wq hSw; (try dsimp only at hSw); go_simp; try with_reducible rfl
            try simp only [qq]
            refine wpAnyH_done (by kernel_rfl) ?_ _
            have hB1 : Below w.heap.size w w1 := HB.out.trans ((HBW.out.trans (HB1.out.mono (by omega))).mono HB.out.size)
            rw [hx, hy] at HS
            clear hHeld
            go_wp2
            go_ret
            exact ⟨⟨false, rfl, by simp only [Bool.false_eq_true, false_iff]; intro h; have := h.2 _ hlt; rw [HS.out] at this; cases this⟩, hB1⟩
          · go_wp2_with fail
            have HBW : Hid (Below wr.heap.size wr (wr.alloc (.cells #[.string x.nm, .string x.tx] 129))) := (Below.refl _ _).alloc (Nat.le_refl _) _
            have t1 := (HBW.out.cell (p := ⟨w.heap.size, 0, none⟩) (by show w.heap.size < wr.heap.size; omega)).trans t0
            have y1 := (HBW.out.cell (p := ⟨b, off + q * 2, none⟩) hbr).trans g2
            have f0 : (wr.alloc (.cells #[.string x.nm, .string x.tx] 129)).cell? ⟨wr.heap.size, 0, none⟩ = some (.string x.nm) := by simp
            have f1 : (wr.alloc (.cells #[.string x.nm, .string x.tx] 129)).cell? ⟨wr.heap.size, 1, none⟩ = some (.string x.tx) := by simp
            have hFW : wr.heap.size < (wr.alloc (.cells #[.string x.nm, .string x.tx] 129)).heap.size := by simp
            generalize (wr.alloc (.cells #[.string x.nm, .string x.tx] 129)) = W at *
            have hwW : w.heap.size < W.heap.size := by omega
            have hbW : b < W.heap.size := by omega
            refine wp_region_held_drew (S := (fun u => u.cell? ⟨w.heap.size, 0, none⟩ = some (.slice (some ⟨b, off, none⟩) fs.length cap) ∧ u.cell? ⟨wr.heap.size, 0, none⟩ = some (.string x.nm) ∧ u.cell? ⟨wr.heap.size, 1, none⟩ = some (.string x.tx) ∧ u.cell? ⟨b, off + q * 2, none⟩ = some (.string y.nm))) (by kernel_rfl) ?_ (fun hHeld => ?_)
            · ((try dsimp only); go_keep)
            refine tk (i := 0) (oi := ⟨some 17, .load 129 (.tmp 4), 129, _, _, none⟩) (v := ?_) rfl (by kernel_rfl) rfl ?e hHeld ?_
            case e => intro wq hSw; (try dsimp only at hSw); go_simp; try with_reducible rfl
            try simp only [qq]
            refine rd (i := 1) (o := ⟨some 18, .call ⟨.value (.func 85), #[.tmp 17], #[129]⟩, 4, _, _, none⟩) rfl (by kernel_rfl) (fun K hK => ?_)
            go_simp
            refine (c85v hx _ hsx.out).mono ?_
            rintro e w1 ⟨rfl, hb1⟩
            have HB1 : Hid (Below W.heap.size W w1) := ((Below.refl _ _).drew).trans hb1
            have p0 := (HB1.out.cell (p := ⟨w.heap.size, 0, none⟩) hwW).trans t1
            have p1 := (HB1.out.cell (p := ⟨wr.heap.size, 0, none⟩) hFW).trans f0
            have p2 := (HB1.out.cell (p := ⟨wr.heap.size, 1, none⟩) hFW).trans f1
            have p3 := (HB1.out.cell (p := ⟨b, off + q * 2, none⟩) hbW).trans y1
            go_wp2_with fail
            clear hHeld
            refine hK.out _ _ ?_ (fun hHeld => ?_)
            · ((try dsimp only); go_keep)
            clear hK K
            try simp only [qq]
            refine tk (i := 2) (oi := ⟨some 19, .unOp .not 4 (.tmp 18), 4, _, _, none⟩) (v := ?_) rfl (by kernel_rfl) rfl ?e hHeld ?_
            case e => intro wq hSw; (try dsimp only at hSw); go_simp; try with_reducible rfl
            try simp only [qq]
            refine tk (i := 3) (oi := ⟨some 20, .move (.tmp 19), 4, _, _, none⟩) (v := ?_) rfl (by kernel_rfl) rfl ?e hHeld ?_
            case e => intro wq hSw; (try dsimp only at hSw); go_simp; try with_reducible rfl
            try simp only [qq]
            refine tu (i := 4) (oi := ⟨some 21, .move (.tmp 3), 3, _, _, some (3, false)⟩) rfl (by kernel_rfl) rfl hHeld ?_
            try simp only [qq]
            refine tu (i := 5) (oi := ⟨some 22, .binOp .gtr 3 (.tmp 21) (.const (.int .i64 0)) 3, 4, _, _, some (3, false)⟩) rfl (by kernel_rfl) rfl hHeld ?_
            try simp only [qq]
            refine tu (i := 6) (oi := ⟨some 23, .move (.tmp 22), 4, _, _, some (3, false)⟩) rfl (by kernel_rfl) rfl hHeld ?_
            try simp only [qq]
            refine tu (i := 7) (oi := ⟨some 24, .fieldAddr 49 (.tmp 1) 0, 0, _, _, some (6, true)⟩) rfl (by kernel_rfl) rfl hHeld ?_
            try simp only [qq]
            refine tu (i := 8) (oi := ⟨some 25, .load 47 (.tmp 24), 47, _, _, some (6, true)⟩) rfl (by kernel_rfl) rfl hHeld ?_
            try simp only [qq]
            refine tu (i := 9) (oi := ⟨some 26, .move (.tmp 3), 3, _, _, some (6, true)⟩) rfl (by kernel_rfl) rfl hHeld ?_
            try simp only [qq]
            refine tu (i := 10) (oi := ⟨some 27, .binOp .sub 3 (.tmp 26) (.const (.int .i64 1)) 3, 3, _, _, some (6, true)⟩) rfl (by kernel_rfl) rfl hHeld ?_
            try simp only [qq]
            refine tu (i := 11) (oi := ⟨some 28, .indexAddr 47 (.tmp 25) (.tmp 27), 0, _, _, some (6, true)⟩) rfl (by kernel_rfl) rfl hHeld ?_
            try simp only [qq]
            refine tu (i := 12) (oi := ⟨some 29, .fieldAddr 129 (.tmp 28) 0, 0, _, _, some (6, true)⟩) rfl (by kernel_rfl) rfl hHeld ?_
            try simp only [qq]
            refine tu (i := 13) (oi := ⟨some 30, .load 9 (.tmp 29), 9, _, _, some (6, true)⟩) rfl (by kernel_rfl) rfl hHeld ?_
            try simp only [qq]
            refine tu (i := 14) (oi := ⟨some 31, .fieldAddr 129 (.tmp 4) 0, 0, _, _, some (6, true)⟩) rfl (by kernel_rfl) rfl hHeld ?_
            try simp only [qq]
            refine tu (i := 15) (oi := ⟨some 32, .load 9 (.tmp 31), 9, _, _, some (6, true)⟩) rfl (by kernel_rfl) rfl hHeld ?_
            try simp only [qq]
            refine tu (i := 16) (oi := ⟨some 33, .binOp .geq 9 (.tmp 30) (.tmp 32) 9, 4, _, _, some (6, true)⟩) rfl (by kernel_rfl) rfl hHeld ?_
            try simp only [qq]
            refine tu (i := 17) (oi := ⟨some 34, .pick (.tmp 23) (.tmp 33) (.const (.bool false)), 4, _, _, some (3, false)⟩) rfl (by kernel_rfl) rfl hHeld ?_
            try simp only [qq]
            refine tk (i := 18) (oi := ⟨some 35, .pick (.tmp 20) (.const (.bool true)) (.tmp 34), 4, _, _, none⟩) (v := ?_) rfl (by kernel_rfl) rfl ?e hHeld ?_
            case e => intro wq hSw; (try dsimp only at hSw); go_simp; try with_reducible rfl
            try simp only [qq]
            refine wpAnyH_done (by kernel_rfl) ?_ _
            have hB1 : Below w.heap.size w w1 := HB.out.trans ((HBW.out.trans (HB1.out.mono (by omega))).mono HB.out.size)
            rw [hx, hy] at HS
            clear hHeld
            go_wp2
            go_ret
            exact ⟨⟨false, rfl, by simp only [Bool.false_eq_true, false_iff]; intro h; have := h.2 _ hlt; rw [HS.out] at this; cases this⟩, hB1⟩
        · cases hy : Op.bytesLess y.nm.toList x.nm.toList
          · go_wp2_with fail
            have HBW : Hid (Below wr.heap.size wr (wr.alloc (.cells #[.string x.nm, .string x.tx] 129))) := (Below.refl _ _).alloc (Nat.le_refl _) _
            have t1 := (HBW.out.cell (p := ⟨w.heap.size, 0, none⟩) (by show w.heap.size < wr.heap.size; omega)).trans t0
            have y1 := (HBW.out.cell (p := ⟨b, off + q * 2, none⟩) hbr).trans g2
            have f0 : (wr.alloc (.cells #[.string x.nm, .string x.tx] 129)).cell? ⟨wr.heap.size, 0, none⟩ = some (.string x.nm) := by simp
            have f1 : (wr.alloc (.cells #[.string x.nm, .string x.tx] 129)).cell? ⟨wr.heap.size, 1, none⟩ = some (.string x.tx) := by simp
            have hFW : wr.heap.size < (wr.alloc (.cells #[.string x.nm, .string x.tx] 129)).heap.size := by simp
            generalize (wr.alloc (.cells #[.string x.nm, .string x.tx] 129)) = W at *
            have hwW : w.heap.size < W.heap.size := by omega
            have hbW : b < W.heap.size := by omega
            refine wp_region_held_drew (S := (fun u => u.cell? ⟨w.heap.size, 0, none⟩ = some (.slice (some ⟨b, off, none⟩) fs.length cap) ∧ u.cell? ⟨wr.heap.size, 0, none⟩ = some (.string x.nm) ∧ u.cell? ⟨wr.heap.size, 1, none⟩ = some (.string x.tx) ∧ u.cell? ⟨b, off + q * 2, none⟩ = some (.string y.nm))) (by kernel_rfl) ?_ (fun hHeld => ?_)
            · ((try dsimp only); go_keep)
            refine tk (i := 0) (oi := ⟨some 17, .load 129 (.tmp 4), 129, _, _, none⟩) (v := ?_) rfl (by kernel_rfl) rfl ?e hHeld ?_
            case e => intro wq hSw; (try dsimp only at hSw); go_simp; try with_reducible rfl
            try simp only [qq]
            refine rd (i := 1) (o := ⟨some 18, .call ⟨.value (.func 85), #[.tmp 17], #[129]⟩, 4, _, _, none⟩) rfl (by kernel_rfl) (fun K hK => ?_)
            go_simp
            refine (c85v hx _ hsx.out).mono ?_
            rintro e w1 ⟨rfl, hb1⟩
            have HB1 : Hid (Below W.heap.size W w1) := ((Below.refl _ _).drew).trans hb1
            have p0 := (HB1.out.cell (p := ⟨w.heap.size, 0, none⟩) hwW).trans t1
            have p1 := (HB1.out.cell (p := ⟨wr.heap.size, 0, none⟩) hFW).trans f0
            have p2 := (HB1.out.cell (p := ⟨wr.heap.size, 1, none⟩) hFW).trans f1
            have p3 := (HB1.out.cell (p := ⟨b, off + q * 2, none⟩) hbW).trans y1
            go_wp2_with fail
            clear hHeld
            refine hK.out _ _ ?_ (fun hHeld => ?_)
            · ((try dsimp only); go_keep)
            clear hK K
            try simp only [qq]
            refine tk (i := 2) (oi := ⟨some 19, .unOp .not 4 (.tmp 18), 4, _, _, none⟩) (v := ?_) rfl (by kernel_rfl) rfl ?e hHeld ?_
            case e => intro wq hSw; (try dsimp only at hSw); go_simp; try with_reducible rfl
            try simp only [qq]
            refine tk (i := 3) (oi := ⟨some 20, .move (.tmp 19), 4, _, _, none⟩) (v := ?_) rfl (by kernel_rfl) rfl ?e hHeld ?_
            case e => intro wq hSw; (try dsimp only at hSw); go_simp; try with_reducible rfl
            try simp only [qq]
            refine tk (i := 4) (oi := ⟨some 21, .move (.tmp 3), 3, _, _, some (3, false)⟩) (v := ?_) rfl (by kernel_rfl) rfl ?e hHeld ?_
            case e => intro wq hSw; (try dsimp only at hSw); go_simp; try with_reducible rfl
            try simp only [qq]
            refine tk (i := 5) (oi := ⟨some 22, .binOp .gtr 3 (.tmp 21) (.const (.int .i64 0)) 3, 4, _, _, some (3, false)⟩) (v := ?_) rfl (by kernel_rfl) rfl ?e hHeld ?_
            case e => intro wq hSw; (try dsimp only at hSw); go_simp; try with_reducible rfl
            try simp only [qq]
            refine tk (i := 6) (oi := ⟨some 23, .move (.tmp 22), 4, _, _, some (3, false)⟩) (v := ?_) rfl (by kernel_rfl) rfl ?e hHeld ?_
            case e => intro wq hSw; (try dsimp only at hSw); go_simp; try with_reducible rfl
            try simp only [qq]
            refine tk (i := 7) (oi := ⟨some 24, .fieldAddr 49 (.tmp 1) 0, 0, _, _, some (6, true)⟩) (v := ?_) rfl (by kernel_rfl) rfl ?e hHeld ?_
            case e => intro wq hSw; (try dsimp only at hSw); go_simp; try with_reducible rfl
            try simp only [qq]
            refine tk (i := 8) (oi := ⟨some 25, .load 47 (.tmp 24), 47, _, _, some (6, true)⟩) (v := ?_) rfl (by kernel_rfl) rfl ?e hHeld ?_
            case e => intro wq hSw; (try dsimp only at hSw); go_simp; try with_reducible rfl
            try simp only [qq]
            refine tk (i := 9) (oi := ⟨some 26, .move (.tmp 3), 3, _, _, some (6, true)⟩) (v := ?_) rfl (by kernel_rfl) rfl ?e hHeld ?_
            case e => intro wq hSw; (try dsimp only at hSw); go_simp; try with_reducible rfl
            try simp only [qq]
            refine tk (i := 10) (oi := ⟨some 27, .binOp .sub 3 (.tmp 26) (.const (.int .i64 1)) 3, 3, _, _, some (6, true)⟩) (v := ?_) rfl (by kernel_rfl) rfl ?e hHeld ?_
            case e => intro wq hSw; (try dsimp only at hSw); go_simp; try with_reducible rfl
            try simp only [qq]
            refine tk (i := 11) (oi := ⟨some 28, .indexAddr 47 (.tmp 25) (.tmp 27), 0, _, _, some (6, true)⟩) (v := ?_) rfl (by kernel_rfl) rfl ?e hHeld ?_
            case e => intro wq hSw; (try dsimp only at hSw); go_simp; try with_reducible rfl
            try simp only [qq]
            refine tk (i := 12) (oi := ⟨some 29, .fieldAddr 129 (.tmp 28) 0, 0, _, _, some (6, true)⟩) (v := ?_) rfl (by kernel_rfl) rfl ?e hHeld ?_
            case e => intro wq hSw; (try dsimp only at hSw); go_simp; try with_reducible rfl
            try simp only [qq]
            refine tk (i := 13) (oi := ⟨some 30, .load 9 (.tmp 29), 9, _, _, some (6, true)⟩) (v := ?_) rfl (by kernel_rfl) rfl ?e hHeld ?_
            case e => intro wq hSw; (try dsimp only at hSw); go_simp; try with_reducible rfl
            try simp only [qq]
            refine tk (i := 14) (oi := ⟨some 31, .fieldAddr 129 (.tmp 4) 0, 0, _, _, some (6, true)⟩) (v := ?_) rfl (by kernel_rfl) rfl ?e hHeld ?_
            case e => intro wq hSw; (try dsimp only at hSw); go_simp; try with_reducible rfl
            try simp only [qq]
            refine tk (i := 15) (oi := ⟨some 32, .load 9 (.tmp 31), 9, _, _, some (6, true)⟩) (v := ?_) rfl (by kernel_rfl) rfl ?e hHeld ?_
            case e => intro wq hSw; (try dsimp only at hSw); go_simp; try with_reducible rfl
            try simp only [qq]
            refine tk (i := 16) (oi := ⟨some 33, .binOp .geq 9 (.tmp 30) (.tmp 32) 9, 4, _, _, some (6, true)⟩) (v := ?_) rfl (by kernel_rfl) rfl ?e hHeld ?_
            case e => intro wq hSw; (try dsimp only at hSw); go_simp; try with_reducible rfl
            try simp only [qq]
            refine tk (i := 17) (oi := ⟨some 34, .pick (.tmp 23) (.tmp 33) (.const (.bool false)), 4, _, _, some (3, false)⟩) (v := ?_) rfl (by kernel_rfl) rfl ?e hHeld ?_
            case e => intro wq hSw; (try dsimp only at hSw); go_simp; try with_reducible rfl
            try simp only [qq]
            refine tk (i := 18) (oi := ⟨some 35, .pick (.tmp 20) (.const (.bool true)) (.tmp 34), 4, _, _, none⟩) (v := ?_) rfl (by kernel_rfl) rfl ?e hHeld ?_
            case e => intro wq hSw; (try dsimp only at hSw); go_simp; try with_reducible rfl
            try simp only [qq]
            refine wpAnyH_done (by kernel_rfl) ?_ _
            have hB1 : Below w.heap.size w w1 := HB.out.trans ((HBW.out.trans (HB1.out.mono (by omega))).mono HB.out.size)
            rw [hx, hy] at HS
            clear hHeld
            go_wp2
            go_ret
            exact ⟨⟨false, rfl, by simp only [Bool.false_eq_true, false_iff]; intro h; have := h.2 _ hlt; rw [HS.out] at this; cases this⟩, hB1⟩
          · go_wp2_with fail
            have HBW : Hid (Below wr.heap.size wr (wr.alloc (.cells #[.string x.nm, .string x.tx] 129))) := (Below.refl _ _).alloc (Nat.le_refl _) _
            have t1 := (HBW.out.cell (p := ⟨w.heap.size, 0, none⟩) (by show w.heap.size < wr.heap.size; omega)).trans t0
            have y1 := (HBW.out.cell (p := ⟨b, off + q * 2, none⟩) hbr).trans g2
            have f0 : (wr.alloc (.cells #[.string x.nm, .string x.tx] 129)).cell? ⟨wr.heap.size, 0, none⟩ = some (.string x.nm) := by simp
            have f1 : (wr.alloc (.cells #[.string x.nm, .string x.tx] 129)).cell? ⟨wr.heap.size, 1, none⟩ = some (.string x.tx) := by simp
            have hFW : wr.heap.size < (wr.alloc (.cells #[.string x.nm, .string x.tx] 129)).heap.size := by simp
            generalize (wr.alloc (.cells #[.string x.nm, .string x.tx] 129)) = W at *
            have hwW : w.heap.size < W.heap.size := by omega
            have hbW : b < W.heap.size := by omega
            refine wp_region_held_drew (S := (fun u => u.cell? ⟨w.heap.size, 0, none⟩ = some (.slice (some ⟨b, off, none⟩) fs.length cap) ∧ u.cell? ⟨wr.heap.size, 0, none⟩ = some (.string x.nm) ∧ u.cell? ⟨wr.heap.size, 1, none⟩ = some (.string x.tx) ∧ u.cell? ⟨b, off + q * 2, none⟩ = some (.string y.nm))) (by kernel_rfl) ?_ (fun hHeld => ?_)
            · ((try dsimp only); go_keep)
            refine tk (i := 0) (oi := ⟨some 17, .load 129 (.tmp 4), 129, _, _, none⟩) (v := ?_) rfl (by kernel_rfl) rfl ?e hHeld ?_
            case e => intro wq hSw; (try dsimp only at hSw); go_simp; try with_reducible rfl
            try simp only [qq]
            refine rd (i := 1) (o := ⟨some 18, .call ⟨.value (.func 85), #[.tmp 17], #[129]⟩, 4, _, _, none⟩) rfl (by kernel_rfl) (fun K hK => ?_)
            go_simp
            refine (c85v hx _ hsx.out).mono ?_
            rintro e w1 ⟨rfl, hb1⟩
            have HB1 : Hid (Below W.heap.size W w1) := ((Below.refl _ _).drew).trans hb1
            have p0 := (HB1.out.cell (p := ⟨w.heap.size, 0, none⟩) hwW).trans t1
            have p1 := (HB1.out.cell (p := ⟨wr.heap.size, 0, none⟩) hFW).trans f0
            have p2 := (HB1.out.cell (p := ⟨wr.heap.size, 1, none⟩) hFW).trans f1
            have p3 := (HB1.out.cell (p := ⟨b, off + q * 2, none⟩) hbW).trans y1
            go_wp2_with fail
            clear hHeld
            refine hK.out _ _ ?_ (fun hHeld => ?_)
            · ((try dsimp only); go_keep)
            clear hK K
            try simp only [qq]
            refine tk (i := 2) (oi := ⟨some 19, .unOp .not 4 (.tmp 18), 4, _, _, none⟩) (v := ?_) rfl (by kernel_rfl) rfl ?e hHeld ?_
            case e => intro wq hSw; (try dsimp only at hSw); go_simp; try with_reducible rfl
            try simp only [qq]
            refine tk (i := 3) (oi := ⟨some 20, .move (.tmp 19), 4, _, _, none⟩) (v := ?_) rfl (by kernel_rfl) rfl ?e hHeld ?_
            case e => intro wq hSw; (try dsimp only at hSw); go_simp; try with_reducible rfl
            try simp only [qq]
            refine tk (i := 4) (oi := ⟨some 21, .move (.tmp 3), 3, _, _, some (3, false)⟩) (v := ?_) rfl (by kernel_rfl) rfl ?e hHeld ?_
            case e => intro wq hSw; (try dsimp only at hSw); go_simp; try with_reducible rfl
            try simp only [qq]
            refine tk (i := 5) (oi := ⟨some 22, .binOp .gtr 3 (.tmp 21) (.const (.int .i64 0)) 3, 4, _, _, some (3, false)⟩) (v := ?_) rfl (by kernel_rfl) rfl ?e hHeld ?_
            case e => intro wq hSw; (try dsimp only at hSw); go_simp; try with_reducible rfl
            try simp only [qq]
            refine tk (i := 6) (oi := ⟨some 23, .move (.tmp 22), 4, _, _, some (3, false)⟩) (v := ?_) rfl (by kernel_rfl) rfl ?e hHeld ?_
            case e => intro wq hSw; (try dsimp only at hSw); go_simp; try with_reducible rfl
            try simp only [qq]
            refine tk (i := 7) (oi := ⟨some 24, .fieldAddr 49 (.tmp 1) 0, 0, _, _, some (6, true)⟩) (v := ?_) rfl (by kernel_rfl) rfl ?e hHeld ?_
            case e => intro wq hSw; (try dsimp only at hSw); go_simp; try with_reducible rfl
            try simp only [qq]
            refine tk (i := 8) (oi := ⟨some 25, .load 47 (.tmp 24), 47, _, _, some (6, true)⟩) (v := ?_) rfl (by kernel_rfl) rfl ?e hHeld ?_
            case e => intro wq hSw; (try dsimp only at hSw); go_simp; try with_reducible rfl
            try simp only [qq]
            refine tk (i := 9) (oi := ⟨some 26, .move (.tmp 3), 3, _, _, some (6, true)⟩) (v := ?_) rfl (by kernel_rfl) rfl ?e hHeld ?_
            case e => intro wq hSw; (try dsimp only at hSw); go_simp; try with_reducible rfl
            try simp only [qq]
            refine tk (i := 10) (oi := ⟨some 27, .binOp .sub 3 (.tmp 26) (.const (.int .i64 1)) 3, 3, _, _, some (6, true)⟩) (v := ?_) rfl (by kernel_rfl) rfl ?e hHeld ?_
            case e => intro wq hSw; (try dsimp only at hSw); go_simp; try with_reducible rfl
            try simp only [qq]
            refine tk (i := 11) (oi := ⟨some 28, .indexAddr 47 (.tmp 25) (.tmp 27), 0, _, _, some (6, true)⟩) (v := ?_) rfl (by kernel_rfl) rfl ?e hHeld ?_
            case e => intro wq hSw; (try dsimp only at hSw); go_simp; try with_reducible rfl
            try simp only [qq]
            refine tk (i := 12) (oi := ⟨some 29, .fieldAddr 129 (.tmp 28) 0, 0, _, _, some (6, true)⟩) (v := ?_) rfl (by kernel_rfl) rfl ?e hHeld ?_
            case e => intro wq hSw; (try dsimp only at hSw); go_simp; try with_reducible rfl
            try simp only [qq]
            refine tk (i := 13) (oi := ⟨some 30, .load 9 (.tmp 29), 9, _, _, some (6, true)⟩) (v := ?_) rfl (by kernel_rfl) rfl ?e hHeld ?_
            case e => intro wq hSw; (try dsimp only at hSw); go_simp; try with_reducible rfl
            try simp only [qq]
            refine tk (i := 14) (oi := ⟨some 31, .fieldAddr 129 (.tmp 4) 0, 0, _, _, some (6, true)⟩) (v := ?_) rfl (by kernel_rfl) rfl ?e hHeld ?_
            case e => intro wq hSw; (try dsimp only at hSw); go_simp; try with_reducible rfl
            try simp only [qq]
            refine tk (i := 15) (oi := ⟨some 32, .load 9 (.tmp 31), 9, _, _, some (6, true)⟩) (v := ?_) rfl (by kernel_rfl) rfl ?e hHeld ?_
            case e => intro wq hSw; (try dsimp only at hSw); go_simp; try with_reducible rfl
            try simp only [qq]
            refine tk (i := 16) (oi := ⟨some 33, .binOp .geq 9 (.tmp 30) (.tmp 32) 9, 4, _, _, some (6, true)⟩) (v := ?_) rfl (by kernel_rfl) rfl ?e hHeld ?_
            case e => intro wq hSw; (try dsimp only at hSw); go_simp; try with_reducible rfl
            try simp only [qq]
            refine tk (i := 17) (oi := ⟨some 34, .pick (.tmp 23) (.tmp 33) (.const (.bool false)), 4, _, _, some (3, false)⟩) (v := ?_) rfl (by kernel_rfl) rfl ?e hHeld ?_
            case e => intro wq hSw; (try dsimp only at hSw); go_simp; try with_reducible rfl
            try simp only [qq]
            refine tk (i := 18) (oi := ⟨some 35, .pick (.tmp 20) (.const (.bool true)) (.tmp 34), 4, _, _, none⟩) (v := ?_) rfl (by kernel_rfl) rfl ?e hHeld ?_
            case e => intro wq hSw; (try dsimp only at hSw); go_simp; try with_reducible rfl
            try simp only [qq]
            refine wpAnyH_done (by kernel_rfl) ?_ _
            have hB1 : Below w.heap.size w w1 := HB.out.trans ((HBW.out.trans (HB1.out.mono (by omega))).mono HB.out.size)
            have hz1 : w.heap.size + 1 ≤ w1.heap.size := by have := HB1.out.size; omega
            rw [hx, hy] at HS
            have hd' : Hid (∀ j, j < k + 1 → stepOk fs j = true) := fun j hj => by
             rcases Nat.lt_or_ge j k with h | h
             · exact hdone.out j h
             · obtain rfl : j = k := by omega
               exact HS.out
            clear hHeld
            go_wp2
            go_roundw
            case rel => exact ⟨k + 1, by omega, by go_num, hB1, p0, hz1, hd'⟩
            case measure => simp [intOf]; omega
    · have hd' : Hid (treeOk fs) := ⟨by omega, fun j hj => hdone.out j (by omega)⟩
      go_wp2
      go_ret
      exact ⟨⟨true, rfl, by simp only [true_iff]; exact hd'.out⟩, hb⟩
end Go.Proofs.YtboojefodbjbcaaGreatDoor.G.T

import Derived.Test.YtboojefodbjbcaaGreatDoorZR00
import Derived.Deep.RegionHeld3
import Derived.Laws.Cover1
namespace Go.Proofs.YtboojefodbjbcaaGreatDoor.G.T
set_option linter.unusedSimpArgs false
open Go.RowKit
def fileOk (x : F2) : Bool := nameOk x.nm.data.toList && decide ((x.tx.size : Int) ≤ 300)
set_option maxHeartbeats 400000 in
theorem c66 (x : F2) (w : World) (hs : x.le 1048700) :
 Calls Tryz.prog 66 #[.agg #[.string x.nm, .string x.tx]] w fun e w' => e = .returned (.bool (fileOk x)) ∧ Below w.heap.size w w' := by
 have HF : Hid (fileOk x = (nameOk x.nm.data.toList && decide ((x.tx.size : Int) ≤ 300))) := rfl
 obtain ⟨h1, h2⟩ := hs
 go_enter Tryz.func66, Tryz.ntmps66
 go_wp2_with fail
 refine (c31 _ _ h1).mono ?_
 rintro e w1 ⟨rfl, rfl⟩
 cases hn : nameOk x.nm.data.toList
 all_goals
  rw [hn] at HF
  go_wp2
  all_goals go_ret
  all_goals exact ⟨ret_bool (by rw [HF.out]; simp), (Below.refl _ _).alloc (Nat.le_refl _) _⟩
set_option maxHeartbeats 400000 in
theorem c85 (x : F2) (w : World) (hs : x.le 1048700) :
 Calls Tryz.prog 85 #[.agg #[.string x.nm, .string x.tx]] w fun e w' => e = .returned (.bool (fileOk x)) ∧ Below w.heap.size w w' := by
 have HF : Hid (fileOk x = (nameOk x.nm.data.toList && decide ((x.tx.size : Int) ≤ 300))) := rfl
 obtain ⟨h1, h2⟩ := hs
 go_enter Tryz.func85, Tryz.ntmps85
 go_wp2_with fail
 refine (c80 _ _ h1).mono ?_
 rintro e w1 ⟨rfl, rfl⟩
 cases hn : nameOk x.nm.data.toList
 all_goals
  rw [hn] at HF
  go_wp2
  all_goals go_ret
  all_goals exact ⟨ret_bool (by rw [HF.out]; simp), (Below.refl _ _).alloc (Nat.le_refl _) _⟩
theorem wrap_nat (q : Nat) (h : q < 1048577) : IntKind.i64.wrap (q : Int) = (q : Int) := by
 have h1 : (q : Int) % 2 ^ 64 = q := by omega
 simp only [IntKind.wrap, IntKind.bits, IntKind.signed, h1]
 rw [if_neg (by simp; omega)]
theorem c66v {x : F2} {v : Bool} (hv : fileOk x = v) (w : World) (hs : x.le 1048700) :
 Calls Tryz.prog 66 #[.agg #[.string x.nm, .string x.tx]] w fun e w' => e = .returned (.bool v) ∧ Below w.heap.size w w' := hv ▸ c66 x w hs
theorem c85v {x : F2} {v : Bool} (hv : fileOk x = v) (w : World) (hs : x.le 1048700) :
 Calls Tryz.prog 85 #[.agg #[.string x.nm, .string x.tx]] w fun e w' => e = .returned (.bool v) ∧ Below w.heap.size w w' := hv ▸ c85 x w hs
def stepOk (fs : List F2) (k : Nat) : Bool := fileOk (fs.getD k f2z) && (decide (k = 0) || Op.bytesLess (fs.getD (k - 1) f2z).nm.toList (fs.getD k f2z).nm.toList)
def treeOk (fs : List F2) : Prop := fs.length ≤ 40 ∧ ∀ k, k < fs.length → stepOk fs k = true
set_option maxHeartbeats 1000000 in
theorem c29 (a : Option Addr) (cap : Nat) (fs : List F2) (w : World) (hl : fs.length ≤ 1048576) (hs : ∀ i, (fs.getD i f2z).le 1048576) (hat : FilesAt w a fs) :
 Calls Tryz.prog 29 #[.agg #[.slice a fs.length cap]] w fun e w' => (∃ b : Bool, e = .returned (.bool b) ∧ (b = true ↔ treeOk fs)) ∧ Below w.heap.size w w' := by
 obtain ⟨b, off, hc⟩ := files_some hat
 have HC : Hid (fs = [] ∨ (a = some ⟨b, off, none⟩ ∧ b < w.heap.size ∧ ∀ i, i < fs.length → w.cell? ⟨b, off + i * 2, none⟩ = some (.string (fs.getD i f2z).nm) ∧ w.cell? ⟨b, off + i * 2 + 1, none⟩ = some (.string (fs.getD i f2z).tx))) := hc
 clear hc hat
 by_cases hbig : 40 < fs.length
 · go_enter Tryz.func29, Tryz.ntmps29
   go_wp2
   go_ret
   exact ⟨⟨false, rfl, by simp [treeOk]; omega⟩, (Below.refl _ _).alloc (Nat.le_refl _) _⟩
 · go_enter Tryz.func29, Tryz.ntmps29
   go_wp2_with fail
   go_loopw [3] (fun i wr => ∃ k : Nat, k ≤ fs.length ∧ i = .int .i64 k ∧ Below w.heap.size w wr ∧ wr.cell? ⟨w.heap.size, 0, none⟩ = some (.slice a fs.length cap) ∧ w.heap.size + 1 ≤ wr.heap.size ∧ Hid (∀ j, j < k → stepOk fs j = true)) (fun i _ => fs.length - (intOf i).toNat)
   case atStart => exact ⟨0, Nat.zero_le _, rfl, (Below.refl _ _).alloc (Nat.le_refl _) _, by simp, by simp, fun j h => absurd h (Nat.not_lt_zero _)⟩
   case round =>
    obtain ⟨k, hk, rfl, hb, t0, hz, hdone⟩ := hrel
    by_cases hlt : k < fs.length
    · rcases HC.out with hss | ⟨ha, hbw, hcell⟩
      · rw [hss] at hlt; exact absurd hlt (Nat.not_lt_zero _)
      subst ha
      have HB : Hid (Below w.heap.size w wr) := hb
      have g0 := (hb.cell (p := ⟨b, off + k * 2, none⟩) hbw).trans (hcell k hlt).1
      have g1 := (hb.cell (p := ⟨b, off + k * 2 + 1, none⟩) hbw).trans (hcell k hlt).2
      have hbr : b < wr.heap.size := Nat.lt_of_lt_of_le hbw hb.size
      have hsx : Hid ((fs.getD k f2z).le 1048700) := ⟨Nat.le_trans (hs k).1 (by omega), Nat.le_trans (hs k).2 (by omega)⟩
      rcases Nat.eq_zero_or_pos k with h0 | h0
      · subst h0
        have HS : Hid (stepOk fs 0 = fileOk (fs.getD 0 f2z)) := by simp [stepOk, Hid]
        simp only [Nat.zero_mul, Nat.add_zero] at g0 g1
        generalize fs.getD 0 f2z = x at *
        clear hcell hb
        cases hx : fileOk x
        · go_wp2_with fail
          refine wp_region_held_drew (S := (fun u => u.cell? ⟨w.heap.size, 0, none⟩ = some (.slice (some ⟨b, off, none⟩) fs.length cap) ∧ u.cell? ⟨b, off, none⟩ = some (.string x.nm) ∧ u.cell? ⟨b, off + 1, none⟩ = some (.string x.tx))) (by kernel_rfl) ?_ (fun hHeld => ?_)
          · ((try dsimp only); go_keep)
          refine tk (i := 0) (oi := ⟨some 15, .fieldAddr 49 (.tmp 1) 0, 0, _, _, none⟩) (v := ?_) rfl (by kernel_rfl) rfl ?e hHeld ?_
          case e => intro wq hSw; (try dsimp only at hSw); go_simp; try with_reducible rfl
          try simp only [qq]
          refine tk (i := 1) (oi := ⟨some 16, .load 47 (.tmp 15), 47, _, _, none⟩) (v := ?_) rfl (by kernel_rfl) rfl ?e hHeld ?_
          case e => intro wq hSw; (try dsimp only at hSw); go_simp; try with_reducible rfl
          try simp only [qq]
          refine tk (i := 2) (oi := ⟨some 17, .move (.tmp 3), 3, _, _, none⟩) (v := ?_) rfl (by kernel_rfl) rfl ?e hHeld ?_
          case e => intro wq hSw; (try dsimp only at hSw); go_simp; try with_reducible rfl
          try simp only [qq]
          refine tk (i := 3) (oi := ⟨some 18, .indexAddr 47 (.tmp 16) (.tmp 17), 0, _, _, none⟩) (v := ?_) rfl (by kernel_rfl) rfl ?e hHeld ?_
          case e => intro wq hSw; (try dsimp only at hSw); go_simp; try with_reducible rfl
          try simp only [qq]
          refine tk (i := 4) (oi := ⟨some 19, .load 129 (.tmp 18), 129, _, _, none⟩) (v := ?_) rfl (by kernel_rfl) rfl ?e hHeld ?_
          case e => intro wq hSw; (try dsimp only at hSw); go_simp; try with_reducible rfl
          try simp only [qq]
          refine rd (i := 5) (o := ⟨some 20, .call ⟨.value (.func 66), #[.tmp 19], #[129]⟩, 4, _, _, none⟩) rfl (by kernel_rfl) (fun K hK => ?_)
          go_simp
          refine (c66v hx _ hsx.out).mono ?_
          rintro e w1 ⟨rfl, hb1⟩
          have HB1 : Hid (Below wr.heap.size wr w1) := ((Below.refl _ _).drew).trans hb1
          have p0 := (HB1.out.cell (p := ⟨w.heap.size, 0, none⟩) (by show w.heap.size < wr.heap.size; omega)).trans t0
          have p1 := (HB1.out.cell (p := ⟨b, off, none⟩) hbr).trans g0
          have p2 := (HB1.out.cell (p := ⟨b, off + 1, none⟩) hbr).trans g1
          go_wp2_with fail
          clear hHeld
          refine hK.out _ _ ?_ (fun hHeld => ?_)
          · ((try dsimp only); go_keep)
          clear hK K
          try simp only [qq]
          refine tk (i := 6) (oi := ⟨some 21, .unOp .not 4 (.tmp 20), 4, _, _, none⟩) (v := ?_) rfl (by kernel_rfl) rfl ?e hHeld ?_
          case e => intro wq hSw; (try dsimp only at hSw); go_simp; try with_reducible rfl
          try simp only [qq]
          refine tk (i := 7) (oi := ⟨some 22, .move (.tmp 21), 4, _, _, none⟩) (v := ?_) rfl (by kernel_rfl) rfl ?e hHeld ?_
          case e => intro wq hSw; (try dsimp only at hSw); go_simp; try with_reducible rfl
          try simp only [qq]
          refine tu (i := 8) (oi := ⟨some 23, .move (.tmp 3), 3, _, _, some (7, false)⟩) rfl (by kernel_rfl) rfl hHeld ?_
          try simp only [qq]
          refine tu (i := 9) (oi := ⟨some 24, .binOp .gtr 3 (.tmp 23) (.const (.int .i64 0)) 3, 4, _, _, some (7, false)⟩) rfl (by kernel_rfl) rfl hHeld ?_
          try simp only [qq]
          refine tu (i := 10) (oi := ⟨some 25, .move (.tmp 24), 4, _, _, some (7, false)⟩) rfl (by kernel_rfl) rfl hHeld ?_
          try simp only [qq]
          refine tu (i := 11) (oi := ⟨some 26, .fieldAddr 49 (.tmp 1) 0, 0, _, _, some (10, true)⟩) rfl (by kernel_rfl) rfl hHeld ?_
          try simp only [qq]
          refine tu (i := 12) (oi := ⟨some 27, .load 47 (.tmp 26), 47, _, _, some (10, true)⟩) rfl (by kernel_rfl) rfl hHeld ?_
          try simp only [qq]
          refine tu (i := 13) (oi := ⟨some 28, .move (.tmp 3), 3, _, _, some (10, true)⟩) rfl (by kernel_rfl) rfl hHeld ?_
          try simp only [qq]
          refine tu (i := 14) (oi := ⟨some 29, .binOp .sub 3 (.tmp 28) (.const (.int .i64 1)) 3, 3, _, _, some (10, true)⟩) rfl (by kernel_rfl) rfl hHeld ?_
          try simp only [qq]
          refine tu (i := 15) (oi := ⟨some 30, .indexAddr 47 (.tmp 27) (.tmp 29), 0, _, _, some (10, true)⟩) rfl (by kernel_rfl) rfl hHeld ?_
          try simp only [qq]
          refine tu (i := 16) (oi := ⟨some 31, .fieldAddr 129 (.tmp 30) 0, 0, _, _, some (10, true)⟩) rfl (by kernel_rfl) rfl hHeld ?_
          try simp only [qq]
          refine tu (i := 17) (oi := ⟨some 32, .load 9 (.tmp 31), 9, _, _, some (10, true)⟩) rfl (by kernel_rfl) rfl hHeld ?_
          try simp only [qq]
          refine tu (i := 18) (oi := ⟨some 33, .fieldAddr 49 (.tmp 1) 0, 0, _, _, some (10, true)⟩) rfl (by kernel_rfl) rfl hHeld ?_
          try simp only [qq]
          refine tu (i := 19) (oi := ⟨some 34, .load 47 (.tmp 33), 47, _, _, some (10, true)⟩) rfl (by kernel_rfl) rfl hHeld ?_
          try simp only [qq]
          refine tu (i := 20) (oi := ⟨some 35, .move (.tmp 3), 3, _, _, some (10, true)⟩) rfl (by kernel_rfl) rfl hHeld ?_
          try simp only [qq]
          refine tu (i := 21) (oi := ⟨some 36, .indexAddr 47 (.tmp 34) (.tmp 35), 0, _, _, some (10, true)⟩) rfl (by kernel_rfl) rfl hHeld ?_
          try simp only [qq]
          refine tu (i := 22) (oi := ⟨some 37, .fieldAddr 129 (.tmp 36) 0, 0, _, _, some (10, true)⟩) rfl (by kernel_rfl) rfl hHeld ?_
          try simp only [qq]
          refine tu (i := 23) (oi := ⟨some 38, .load 9 (.tmp 37), 9, _, _, some (10, true)⟩) rfl (by kernel_rfl) rfl hHeld ?_
          try simp only [qq]
          refine tu (i := 24) (oi := ⟨some 39, .binOp .geq 9 (.tmp 32) (.tmp 38) 9, 4, _, _, some (10, true)⟩) rfl (by kernel_rfl) rfl hHeld ?_
          try simp only [qq]
          refine tu (i := 25) (oi := ⟨some 40, .pick (.tmp 25) (.tmp 39) (.const (.bool false)), 4, _, _, some (7, false)⟩) rfl (by kernel_rfl) rfl hHeld ?_
          try simp only [qq]
          refine tk (i := 26) (oi := ⟨some 41, .pick (.tmp 22) (.const (.bool true)) (.tmp 40), 4, _, _, none⟩) (v := ?_) rfl (by kernel_rfl) rfl ?e hHeld ?_
          case e => intro wq hSw; (try dsimp only at hSw); go_simp; try with_reducible rfl
          try simp only [qq]
          refine wpAnyH_done (by kernel_rfl) ?_ _
          have hB1 : Below w.heap.size w w1 := HB.out.trans (HB1.out.mono HB.out.size)
          rw [hx] at HS
          clear hHeld
          go_wp2
          go_ret
          exact ⟨⟨false, rfl, by simp only [Bool.false_eq_true, false_iff]; intro h; have := h.2 _ hlt; rw [HS.out] at this; cases this⟩, hB1⟩
        · go_wp2_with fail
          refine wp_region_held_drew (S := (fun u => u.cell? ⟨w.heap.size, 0, none⟩ = some (.slice (some ⟨b, off, none⟩) fs.length cap) ∧ u.cell? ⟨b, off, none⟩ = some (.string x.nm) ∧ u.cell? ⟨b, off + 1, none⟩ = some (.string x.tx))) (by kernel_rfl) ?_ (fun hHeld => ?_)
          · ((try dsimp only); go_keep)
          refine tk (i := 0) (oi := ⟨some 15, .fieldAddr 49 (.tmp 1) 0, 0, _, _, none⟩) (v := ?_) rfl (by kernel_rfl) rfl ?e hHeld ?_
          case e => intro wq hSw; (try dsimp only at hSw); go_simp; try with_reducible rfl
          try simp only [qq]
          refine tk (i := 1) (oi := ⟨some 16, .load 47 (.tmp 15), 47, _, _, none⟩) (v := ?_) rfl (by kernel_rfl) rfl ?e hHeld ?_
          case e => intro wq hSw; (try dsimp only at hSw); go_simp; try with_reducible rfl
          try simp only [qq]
          refine tk (i := 2) (oi := ⟨some 17, .move (.tmp 3), 3, _, _, none⟩) (v := ?_) rfl (by kernel_rfl) rfl ?e hHeld ?_
          case e => intro wq hSw; (try dsimp only at hSw); go_simp; try with_reducible rfl
          try simp only [qq]
          refine tk (i := 3) (oi := ⟨some 18, .indexAddr 47 (.tmp 16) (.tmp 17), 0, _, _, none⟩) (v := ?_) rfl (by kernel_rfl) rfl ?e hHeld ?_
          case e => intro wq hSw; (try dsimp only at hSw); go_simp; try with_reducible rfl
          try simp only [qq]
          refine tk (i := 4) (oi := ⟨some 19, .load 129 (.tmp 18), 129, _, _, none⟩) (v := ?_) rfl (by kernel_rfl) rfl ?e hHeld ?_
          case e => intro wq hSw; (try dsimp only at hSw); go_simp; try with_reducible rfl
          try simp only [qq]
          refine rd (i := 5) (o := ⟨some 20, .call ⟨.value (.func 66), #[.tmp 19], #[129]⟩, 4, _, _, none⟩) rfl (by kernel_rfl) (fun K hK => ?_)
          go_simp
          refine (c66v hx _ hsx.out).mono ?_
          rintro e w1 ⟨rfl, hb1⟩
          have HB1 : Hid (Below wr.heap.size wr w1) := ((Below.refl _ _).drew).trans hb1
          have p0 := (HB1.out.cell (p := ⟨w.heap.size, 0, none⟩) (by show w.heap.size < wr.heap.size; omega)).trans t0
          have p1 := (HB1.out.cell (p := ⟨b, off, none⟩) hbr).trans g0
          have p2 := (HB1.out.cell (p := ⟨b, off + 1, none⟩) hbr).trans g1
          go_wp2_with fail
          clear hHeld
          refine hK.out _ _ ?_ (fun hHeld => ?_)
          · ((try dsimp only); go_keep)
          clear hK K
          try simp only [qq]
          refine tk (i := 6) (oi := ⟨some 21, .unOp .not 4 (.tmp 20), 4, _, _, none⟩) (v := ?_) rfl (by kernel_rfl) rfl ?e hHeld ?_
          case e => intro wq hSw; (try dsimp only at hSw); go_simp; try with_reducible rfl
          try simp only [qq]
          refine tk (i := 7) (oi := ⟨some 22, .move (.tmp 21), 4, _, _, none⟩) (v := ?_) rfl (by kernel_rfl) rfl ?e hHeld ?_
          case e => intro wq hSw; (try dsimp only at hSw); go_simp; try with_reducible rfl
          try simp only [qq]
          refine tk (i := 8) (oi := ⟨some 23, .move (.tmp 3), 3, _, _, some (7, false)⟩) (v := ?_) rfl (by kernel_rfl) rfl ?e hHeld ?_
          case e => intro wq hSw; (try dsimp only at hSw); go_simp; try with_reducible rfl
          try simp only [qq]
          refine tk (i := 9) (oi := ⟨some 24, .binOp .gtr 3 (.tmp 23) (.const (.int .i64 0)) 3, 4, _, _, some (7, false)⟩) (v := ?_) rfl (by kernel_rfl) rfl ?e hHeld ?_
          case e => intro wq hSw; (try dsimp only at hSw); go_simp; try with_reducible rfl
          try simp only [qq]
          refine tk (i := 10) (oi := ⟨some 25, .move (.tmp 24), 4, _, _, some (7, false)⟩) (v := ?_) rfl (by kernel_rfl) rfl ?e hHeld ?_
          case e => intro wq hSw; (try dsimp only at hSw); go_simp; try with_reducible rfl
          try simp only [qq]
          refine tu (i := 11) (oi := ⟨some 26, .fieldAddr 49 (.tmp 1) 0, 0, _, _, some (10, true)⟩) rfl (by kernel_rfl) rfl hHeld ?_
          try simp only [qq]
          refine tu (i := 12) (oi := ⟨some 27, .load 47 (.tmp 26), 47, _, _, some (10, true)⟩) rfl (by kernel_rfl) rfl hHeld ?_
          try simp only [qq]
          refine tu (i := 13) (oi := ⟨some 28, .move (.tmp 3), 3, _, _, some (10, true)⟩) rfl (by kernel_rfl) rfl hHeld ?_
          try simp only [qq]
          refine tu (i := 14) (oi := ⟨some 29, .binOp .sub 3 (.tmp 28) (.const (.int .i64 1)) 3, 3, _, _, some (10, true)⟩) rfl (by kernel_rfl) rfl hHeld ?_
          try simp only [qq]
          refine tu (i := 15) (oi := ⟨some 30, .indexAddr 47 (.tmp 27) (.tmp 29), 0, _, _, some (10, true)⟩) rfl (by kernel_rfl) rfl hHeld ?_
          try simp only [qq]
          refine tu (i := 16) (oi := ⟨some 31, .fieldAddr 129 (.tmp 30) 0, 0, _, _, some (10, true)⟩) rfl (by kernel_rfl) rfl hHeld ?_
          try simp only [qq]
          refine tu (i := 17) (oi := ⟨some 32, .load 9 (.tmp 31), 9, _, _, some (10, true)⟩) rfl (by kernel_rfl) rfl hHeld ?_
          try simp only [qq]
          refine tu (i := 18) (oi := ⟨some 33, .fieldAddr 49 (.tmp 1) 0, 0, _, _, some (10, true)⟩) rfl (by kernel_rfl) rfl hHeld ?_
          try simp only [qq]
          refine tu (i := 19) (oi := ⟨some 34, .load 47 (.tmp 33), 47, _, _, some (10, true)⟩) rfl (by kernel_rfl) rfl hHeld ?_
          try simp only [qq]
          refine tu (i := 20) (oi := ⟨some 35, .move (.tmp 3), 3, _, _, some (10, true)⟩) rfl (by kernel_rfl) rfl hHeld ?_
          try simp only [qq]
          refine tu (i := 21) (oi := ⟨some 36, .indexAddr 47 (.tmp 34) (.tmp 35), 0, _, _, some (10, true)⟩) rfl (by kernel_rfl) rfl hHeld ?_
          try simp only [qq]
          refine tu (i := 22) (oi := ⟨some 37, .fieldAddr 129 (.tmp 36) 0, 0, _, _, some (10, true)⟩) rfl (by kernel_rfl) rfl hHeld ?_
          try simp only [qq]
          refine tu (i := 23) (oi := ⟨some 38, .load 9 (.tmp 37), 9, _, _, some (10, true)⟩) rfl (by kernel_rfl) rfl hHeld ?_
          try simp only [qq]
          refine tu (i := 24) (oi := ⟨some 39, .binOp .geq 9 (.tmp 32) (.tmp 38) 9, 4, _, _, some (10, true)⟩) rfl (by kernel_rfl) rfl hHeld ?_
          try simp only [qq]
          refine tk (i := 25) (oi := ⟨some 40, .pick (.tmp 25) (.tmp 39) (.const (.bool false)), 4, _, _, some (7, false)⟩) (v := ?_) rfl (by kernel_rfl) rfl ?e hHeld ?_
          case e => intro wq hSw; (try dsimp only at hSw); go_simp; try with_reducible rfl
          try simp only [qq]
          refine tk (i := 26) (oi := ⟨some 41, .pick (.tmp 22) (.const (.bool true)) (.tmp 40), 4, _, _, none⟩) (v := ?_) rfl (by kernel_rfl) rfl ?e hHeld ?_
          case e => intro wq hSw; (try dsimp only at hSw); go_simp; try with_reducible rfl
          try simp only [qq]
          refine wpAnyH_done (by kernel_rfl) ?_ _
          have hB1 : Below w.heap.size w w1 := HB.out.trans (HB1.out.mono HB.out.size)
          have hz1 : w.heap.size + 1 ≤ w1.heap.size := Nat.le_trans hz HB1.out.size
          rw [hx] at HS
          have hd' : Hid (∀ j, j < 0 + 1 → stepOk fs j = true) := fun j hj => by
           rcases Nat.lt_or_ge j 0 with h | h
           · exact hdone.out j h
           · obtain rfl : j = 0 := by omega
             exact HS.out
          clear hHeld
          go_wp2
          go_roundw
          case rel => exact ⟨0 + 1, by omega, by go_num, hB1, p0, hz1, hd'⟩
          case measure => simp [intOf]; omega
      · obtain ⟨q, hq⟩ : ∃ q, q + 1 = k := ⟨k - 1, by omega⟩
        have g2 := (hb.cell (p := ⟨b, off + q * 2, none⟩) hbw).trans (hcell q (by omega)).1
        have HS : Hid (stepOk fs k = (fileOk (fs.getD k f2z) && Op.bytesLess (fs.getD q f2z).nm.toList (fs.getD k f2z).nm.toList)) := by
         have e1 : decide (k = 0) = false := decide_eq_false (by omega)
         have e2 : k - 1 = q := by omega
         unfold stepOk; rw [e1, e2]; rfl
        have hm0 : (0 : Int) < (k : Int) := by omega
        have hm1 : decide ((0 : Int) < (k : Int)) = true := decide_eq_true hm0
        generalize fs.getD k f2z = x at *
        generalize fs.getD q f2z = y at *
        have hwr : IntKind.i64.wrap ((k : Int) - 1) = (q : Int) := by rw [show (k : Int) - 1 = (q : Int) by omega]; exact wrap_nat q (by omega)
        have hql : (q : Int) < (fs.length : Int) := by omega
        clear hq
        clear hcell hb
        cases hx : fileOk x
        · cases hy : Op.bytesLess y.nm.toList x.nm.toList
          · go_wp2_with fail
            refine wp_region_held_drew (S := (fun u => u.cell? ⟨w.heap.size, 0, none⟩ = some (.slice (some ⟨b, off, none⟩) fs.length cap) ∧ u.cell? ⟨b, off + k * 2, none⟩ = some (.string x.nm) ∧ u.cell? ⟨b, off + k * 2 + 1, none⟩ = some (.string x.tx) ∧ u.cell? ⟨b, off + q * 2, none⟩ = some (.string y.nm))) (by kernel_rfl) ?_ (fun hHeld => ?_)
            · ((try dsimp only); go_keep)
            refine tk (i := 0) (oi := ⟨some 15, .fieldAddr 49 (.tmp 1) 0, 0, _, _, none⟩) (v := ?_) rfl (by kernel_rfl) rfl ?e hHeld ?_
            case e => intro wq hSw; (try dsimp only at hSw); go_simp; try with_reducible rfl
            try simp only [qq]
            refine tk (i := 1) (oi := ⟨some 16, .load 47 (.tmp 15), 47, _, _, none⟩) (v := ?_) rfl (by kernel_rfl) rfl ?e hHeld ?_
            case e => intro wq hSw; (try dsimp only at hSw); go_simp; try with_reducible rfl
            try simp only [qq]
            refine tk (i := 2) (oi := ⟨some 17, .move (.tmp 3), 3, _, _, none⟩) (v := ?_) rfl (by kernel_rfl) rfl ?e hHeld ?_
            case e => intro wq hSw; (try dsimp only at hSw); go_simp; try with_reducible rfl
            try simp only [qq]
            refine tk (i := 3) (oi := ⟨some 18, .indexAddr 47 (.tmp 16) (.tmp 17), 0, _, _, none⟩) (v := ?_) rfl (by kernel_rfl) rfl ?e hHeld ?_
            case e => intro wq hSw; (try dsimp only at hSw); go_simp; try with_reducible rfl
            try simp only [qq]
            refine tk (i := 4) (oi := ⟨some 19, .load 129 (.tmp 18), 129, _, _, none⟩) (v := ?_) rfl (by kernel_rfl) rfl ?e hHeld ?_
            case e => intro wq hSw; (try dsimp only at hSw); go_simp; try with_reducible rfl
            try simp only [qq]
            refine rd (i := 5) (o := ⟨some 20, .call ⟨.value (.func 66), #[.tmp 19], #[129]⟩, 4, _, _, none⟩) rfl (by kernel_rfl) (fun K hK => ?_)
            go_simp
            refine (c66v hx _ hsx.out).mono ?_
            rintro e w1 ⟨rfl, hb1⟩
            have HB1 : Hid (Below wr.heap.size wr w1) := ((Below.refl _ _).drew).trans hb1
            have p0 := (HB1.out.cell (p := ⟨w.heap.size, 0, none⟩) (by show w.heap.size < wr.heap.size; omega)).trans t0
            have p1 := (HB1.out.cell (p := ⟨b, off + k * 2, none⟩) hbr).trans g0
            have p2 := (HB1.out.cell (p := ⟨b, off + k * 2 + 1, none⟩) hbr).trans g1
            have p3 := (HB1.out.cell (p := ⟨b, off + q * 2, none⟩) hbr).trans g2
            go_wp2_with fail
            clear hHeld
            refine hK.out _ _ ?_ (fun hHeld => ?_)
            · ((try dsimp only); go_keep)
            clear hK K
            try simp only [qq]
            refine tk (i := 6) (oi := ⟨some 21, .unOp .not 4 (.tmp 20), 4, _, _, none⟩) (v := ?_) rfl (by kernel_rfl) rfl ?e hHeld ?_
            case e => intro wq hSw; (try dsimp only at hSw); go_simp; try with_reducible rfl
            try simp only [qq]
            refine tk (i := 7) (oi := ⟨some 22, .move (.tmp 21), 4, _, _, none⟩) (v := ?_) rfl (by kernel_rfl) rfl ?e hHeld ?_
            case e => intro wq hSw; (try dsimp only at hSw); go_simp; try with_reducible rfl
            try simp only [qq]
            refine tu (i := 8) (oi := ⟨some 23, .move (.tmp 3), 3, _, _, some (7, false)⟩) rfl (by kernel_rfl) rfl hHeld ?_
            try simp only [qq]
            refine tu (i := 9) (oi := ⟨some 24, .binOp .gtr 3 (.tmp 23) (.const (.int .i64 0)) 3, 4, _, _, some (7, false)⟩) rfl (by kernel_rfl) rfl hHeld ?_
            try simp only [qq]
            refine tu (i := 10) (oi := ⟨some 25, .move (.tmp 24), 4, _, _, some (7, false)⟩) rfl (by kernel_rfl) rfl hHeld ?_
            try simp only [qq]
            refine tu (i := 11) (oi := ⟨some 26, .fieldAddr 49 (.tmp 1) 0, 0, _, _, some (10, true)⟩) rfl (by kernel_rfl) rfl hHeld ?_
            try simp only [qq]
            refine tu (i := 12) (oi := ⟨some 27, .load 47 (.tmp 26), 47, _, _, some (10, true)⟩) rfl (by kernel_rfl) rfl hHeld ?_
            try simp only [qq]
            refine tu (i := 13) (oi := ⟨some 28, .move (.tmp 3), 3, _, _, some (10, true)⟩) rfl (by kernel_rfl) rfl hHeld ?_
            try simp only [qq]
            refine tu (i := 14) (oi := ⟨some 29, .binOp .sub 3 (.tmp 28) (.const (.int .i64 1)) 3, 3, _, _, some (10, true)⟩) rfl (by kernel_rfl) rfl hHeld ?_
            try simp only [qq]
            refine tu (i := 15) (oi := ⟨some 30, .indexAddr 47 (.tmp 27) (.tmp 29), 0, _, _, some (10, true)⟩) rfl (by kernel_rfl) rfl hHeld ?_
            try simp only [qq]
            refine tu (i := 16) (oi := ⟨some 31, .fieldAddr 129 (.tmp 30) 0, 0, _, _, some (10, true)⟩) rfl (by kernel_rfl) rfl hHeld ?_
            try simp only [qq]
            refine tu (i := 17) (oi := ⟨some 32, .load 9 (.tmp 31), 9, _, _, some (10, true)⟩) rfl (by kernel_rfl) rfl hHeld ?_
            try simp only [qq]
            refine tu (i := 18) (oi := ⟨some 33, .fieldAddr 49 (.tmp 1) 0, 0, _, _, some (10, true)⟩) rfl (by kernel_rfl) rfl hHeld ?_
            try simp only [qq]
            refine tu (i := 19) (oi := ⟨some 34, .load 47 (.tmp 33), 47, _, _, some (10, true)⟩) rfl (by kernel_rfl) rfl hHeld ?_
            try simp only [qq]
            refine tu (i := 20) (oi := ⟨some 35, .move (.tmp 3), 3, _, _, some (10, true)⟩) rfl (by kernel_rfl) rfl hHeld ?_
            try simp only [qq]
            refine tu (i := 21) (oi := ⟨some 36, .indexAddr 47 (.tmp 34) (.tmp 35), 0, _, _, some (10, true)⟩) rfl (by kernel_rfl) rfl hHeld ?_
            try simp only [qq]
            refine tu (i := 22) (oi := ⟨some 37, .fieldAddr 129 (.tmp 36) 0, 0, _, _, some (10, true)⟩) rfl (by kernel_rfl) rfl hHeld ?_
            try simp only [qq]
            refine tu (i := 23) (oi := ⟨some 38, .load 9 (.tmp 37), 9, _, _, some (10, true)⟩) rfl (by kernel_rfl) rfl hHeld ?_
            try simp only [qq]
            refine tu (i := 24) (oi := ⟨some 39, .binOp .geq 9 (.tmp 32) (.tmp 38) 9, 4, _, _, some (10, true)⟩) rfl (by kernel_rfl) rfl hHeld ?_
            try simp only [qq]
            refine tu (i := 25) (oi := ⟨some 40, .pick (.tmp 25) (.tmp 39) (.const (.bool false)), 4, _, _, some (7, false)⟩) rfl (by kernel_rfl) rfl hHeld ?_
            try simp only [qq]
            refine tk (i := 26) (oi := ⟨some 41, .pick (.tmp 22) (.const (.bool true)) (.tmp 40), 4, _, _, none⟩) (v := ?_) rfl (by kernel_rfl) rfl ?e hHeld ?_
            case e => intro wq hSw; (try dsimp only at hSw); go_simp; try with_reducible rfl
            try simp only [qq]
            refine wpAnyH_done (by kernel_rfl) ?_ _
            have hB1 : Below w.heap.size w w1 := HB.out.trans (HB1.out.mono HB.out.size)
            rw [hx, hy] at HS
            clear hHeld
            go_wp2
            go_ret
            exact ⟨⟨false, rfl, by simp only [Bool.false_eq_true, false_iff]; intro h; have := h.2 _ hlt; rw [HS.out] at this; cases this⟩, hB1⟩
          · go_wp2_with fail
            refine wp_region_held_drew (S := (fun u => u.cell? ⟨w.heap.size, 0, none⟩ = some (.slice (some ⟨b, off, none⟩) fs.length cap) ∧ u.cell? ⟨b, off + k * 2, none⟩ = some (.string x.nm) ∧ u.cell? ⟨b, off + k * 2 + 1, none⟩ = some (.string x.tx) ∧ u.cell? ⟨b, off + q * 2, none⟩ = some (.string y.nm))) (by kernel_rfl) ?_ (fun hHeld => ?_)
            · ((try dsimp only); go_keep)
            refine tk (i := 0) (oi := ⟨some 15, .fieldAddr 49 (.tmp 1) 0, 0, _, _, none⟩) (v := ?_) rfl (by kernel_rfl) rfl ?e hHeld ?_
            case e => intro wq hSw; (try dsimp only at hSw); go_simp; try with_reducible rfl
            try simp only [qq]
            refine tk (i := 1) (oi := ⟨some 16, .load 47 (.tmp 15), 47, _, _, none⟩) (v := ?_) rfl (by kernel_rfl) rfl ?e hHeld ?_
            case e => intro wq hSw; (try dsimp only at hSw); go_simp; try with_reducible rfl
            try simp only [qq]
            refine tk (i := 2) (oi := ⟨some 17, .move (.tmp 3), 3, _, _, none⟩) (v := ?_) rfl (by kernel_rfl) rfl ?e hHeld ?_
            case e => intro wq hSw; (try dsimp only at hSw); go_simp; try with_reducible rfl
            try simp only [qq]
            refine tk (i := 3) (oi := ⟨some 18, .indexAddr 47 (.tmp 16) (.tmp 17), 0, _, _, none⟩) (v := ?_) rfl (by kernel_rfl) rfl ?e hHeld ?_
            case e => intro wq hSw; (try dsimp only at hSw); go_simp; try with_reducible rfl
            try simp only [qq]
            refine tk (i := 4) (oi := ⟨some 19, .load 129 (.tmp 18), 129, _, _, none⟩) (v := ?_) rfl (by kernel_rfl) rfl ?e hHeld ?_
            case e => intro wq hSw; (try dsimp only at hSw); go_simp; try with_reducible rfl
            try simp only [qq]
            refine rd (i := 5) (o := ⟨some 20, .call ⟨.value (.func 66), #[.tmp 19], #[129]⟩, 4, _, _, none⟩) rfl (by kernel_rfl) (fun K hK => ?_)
            go_simp
            refine (c66v hx _ hsx.out).mono ?_
            rintro e w1 ⟨rfl, hb1⟩
            have HB1 : Hid (Below wr.heap.size wr w1) := ((Below.refl _ _).drew).trans hb1
            have p0 := (HB1.out.cell (p := ⟨w.heap.size, 0, none⟩) (by show w.heap.size < wr.heap.size; omega)).trans t0
            have p1 := (HB1.out.cell (p := ⟨b, off + k * 2, none⟩) hbr).trans g0
            have p2 := (HB1.out.cell (p := ⟨b, off + k * 2 + 1, none⟩) hbr).trans g1
            have p3 := (HB1.out.cell (p := ⟨b, off + q * 2, none⟩) hbr).trans g2
            go_wp2_with fail
            clear hHeld
            refine hK.out _ _ ?_ (fun hHeld => ?_)
            · ((try dsimp only); go_keep)
            clear hK K
            try simp only [qq]
            refine tk (i := 6) (oi := ⟨some 21, .unOp .not 4 (.tmp 20), 4, _, _, none⟩) (v := ?_) rfl (by kernel_rfl) rfl ?e hHeld ?_
            case e => intro wq hSw; (try dsimp only at hSw); go_simp; try with_reducible rfl
            try simp only [qq]
            refine tk (i := 7) (oi := ⟨some 22, .move (.tmp 21), 4, _, _, none⟩) (v := ?_) rfl (by kernel_rfl) rfl ?e hHeld ?_
            case e => intro wq hSw; (try dsimp only at hSw); go_simp; try with_reducible rfl
            try simp only [qq]
            refine tu (i := 8) (oi := ⟨some 23, .move (.tmp 3), 3, _, _, some (7, false)⟩) rfl (by kernel_rfl) rfl hHeld ?_
            try simp only [qq]
            refine tu (i := 9) (oi := ⟨some 24, .binOp .gtr 3 (.tmp 23) (.const (.int .i64 0)) 3, 4, _, _, some (7, false)⟩) rfl (by kernel_rfl) rfl hHeld ?_
            try simp only [qq]
            refine tu (i := 10) (oi := ⟨some 25, .move (.tmp 24), 4, _, _, some (7, false)⟩) rfl (by kernel_rfl) rfl hHeld ?_
            try simp only [qq]
            refine tu (i := 11) (oi := ⟨some 26, .fieldAddr 49 (.tmp 1) 0, 0, _, _, some (10, true)⟩) rfl (by kernel_rfl) rfl hHeld ?_
            try simp only [qq]
            refine tu (i := 12) (oi := ⟨some 27, .load 47 (.tmp 26), 47, _, _, some (10, true)⟩) rfl (by kernel_rfl) rfl hHeld ?_
            try simp only [qq]
            refine tu (i := 13) (oi := ⟨some 28, .move (.tmp 3), 3, _, _, some (10, true)⟩) rfl (by kernel_rfl) rfl hHeld ?_
            try simp only [qq]
            refine tu (i := 14) (oi := ⟨some 29, .binOp .sub 3 (.tmp 28) (.const (.int .i64 1)) 3, 3, _, _, some (10, true)⟩) rfl (by kernel_rfl) rfl hHeld ?_
            try simp only [qq]
            refine tu (i := 15) (oi := ⟨some 30, .indexAddr 47 (.tmp 27) (.tmp 29), 0, _, _, some (10, true)⟩) rfl (by kernel_rfl) rfl hHeld ?_
            try simp only [qq]
            refine tu (i := 16) (oi := ⟨some 31, .fieldAddr 129 (.tmp 30) 0, 0, _, _, some (10, true)⟩) rfl (by kernel_rfl) rfl hHeld ?_
            try simp only [qq]
            refine tu (i := 17) (oi := ⟨some 32, .load 9 (.tmp 31), 9, _, _, some (10, true)⟩) rfl (by kernel_rfl) rfl hHeld ?_
            try simp only [qq]
            refine tu (i := 18) (oi := ⟨some 33, .fieldAddr 49 (.tmp 1) 0, 0, _, _, some (10, true)⟩) rfl (by kernel_rfl) rfl hHeld ?_
            try simp only [qq]
            refine tu (i := 19) (oi := ⟨some 34, .load 47 (.tmp 33), 47, _, _, some (10, true)⟩) rfl (by kernel_rfl) rfl hHeld ?_
            try simp only [qq]
            refine tu (i := 20) (oi := ⟨some 35, .move (.tmp 3), 3, _, _, some (10, true)⟩) rfl (by kernel_rfl) rfl hHeld ?_
            try simp only [qq]
            refine tu (i := 21) (oi := ⟨some 36, .indexAddr 47 (.tmp 34) (.tmp 35), 0, _, _, some (10, true)⟩) rfl (by kernel_rfl) rfl hHeld ?_
            try simp only [qq]
            refine tu (i := 22) (oi := ⟨some 37, .fieldAddr 129 (.tmp 36) 0, 0, _, _, some (10, true)⟩) rfl (by kernel_rfl) rfl hHeld ?_
            try simp only [qq]
            refine tu (i := 23) (oi := ⟨some 38, .load 9 (.tmp 37), 9, _, _, some (10, true)⟩) rfl (by kernel_rfl) rfl hHeld ?_
            try simp only [qq]
            refine tu (i := 24) (oi := ⟨some 39, .binOp .geq 9 (.tmp 32) (.tmp 38) 9, 4, _, _, some (10, true)⟩) rfl (by kernel_rfl) rfl hHeld ?_
            try simp only [qq]
            refine tu (i := 25) (oi := ⟨some 40, .pick (.tmp 25) (.tmp 39) (.const (.bool false)), 4, _, _, some (7, false)⟩) rfl (by kernel_rfl) rfl hHeld ?_
            try simp only [qq]
            refine tk (i := 26) (oi := ⟨some 41, .pick (.tmp 22) (.const (.bool true)) (.tmp 40), 4, _, _, none⟩) (v := ?_) rfl (by kernel_rfl) rfl ?e hHeld ?_
            case e => intro wq hSw; (try dsimp only at hSw); go_simp; try with_reducible rfl
            try simp only [qq]
            refine wpAnyH_done (by kernel_rfl) ?_ _
            have hB1 : Below w.heap.size w w1 := HB.out.trans (HB1.out.mono HB.out.size)
            rw [hx, hy] at HS
            clear hHeld
            go_wp2
            go_ret
            exact ⟨⟨false, rfl, by simp only [Bool.false_eq_true, false_iff]; intro h; have := h.2 _ hlt; rw [HS.out] at this; cases this⟩, hB1⟩
        · cases hy : Op.bytesLess y.nm.toList x.nm.toList
          · go_wp2_with fail
            refine wp_region_held_drew (S := (fun u => u.cell? ⟨w.heap.size, 0, none⟩ = some (.slice (some ⟨b, off, none⟩) fs.length cap) ∧ u.cell? ⟨b, off + k * 2, none⟩ = some (.string x.nm) ∧ u.cell? ⟨b, off + k * 2 + 1, none⟩ = some (.string x.tx) ∧ u.cell? ⟨b, off + q * 2, none⟩ = some (.string y.nm))) (by kernel_rfl) ?_ (fun hHeld => ?_)
            · ((try dsimp only); go_keep)
            refine tk (i := 0) (oi := ⟨some 15, .fieldAddr 49 (.tmp 1) 0, 0, _, _, none⟩) (v := ?_) rfl (by kernel_rfl) rfl ?e hHeld ?_
            case e => intro wq hSw; (try dsimp only at hSw); go_simp; try with_reducible rfl
            try simp only [qq]
            refine tk (i := 1) (oi := ⟨some 16, .load 47 (.tmp 15), 47, _, _, none⟩) (v := ?_) rfl (by kernel_rfl) rfl ?e hHeld ?_
            case e => intro wq hSw; (try dsimp only at hSw); go_simp; try with_reducible rfl
            try simp only [qq]
            refine tk (i := 2) (oi := ⟨some 17, .move (.tmp 3), 3, _, _, none⟩) (v := ?_) rfl (by kernel_rfl) rfl ?e hHeld ?_
            case e => intro wq hSw; (try dsimp only at hSw); go_simp; try with_reducible rfl
            try simp only [qq]
            refine tk (i := 3) (oi := ⟨some 18, .indexAddr 47 (.tmp 16) (.tmp 17), 0, _, _, none⟩) (v := ?_) rfl (by kernel_rfl) rfl ?e hHeld ?_
            case e => intro wq hSw; (try dsimp only at hSw); go_simp; try with_reducible rfl
            try simp only [qq]
            refine tk (i := 4) (oi := ⟨some 19, .load 129 (.tmp 18), 129, _, _, none⟩) (v := ?_) rfl (by kernel_rfl) rfl ?e hHeld ?_
            case e => intro wq hSw; (try dsimp only at hSw); go_simp; try with_reducible rfl
            try simp only [qq]
            refine rd (i := 5) (o := ⟨some 20, .call ⟨.value (.func 66), #[.tmp 19], #[129]⟩, 4, _, _, none⟩) rfl (by kernel_rfl) (fun K hK => ?_)
            go_simp
            refine (c66v hx _ hsx.out).mono ?_
            rintro e w1 ⟨rfl, hb1⟩
            have HB1 : Hid (Below wr.heap.size wr w1) := ((Below.refl _ _).drew).trans hb1
            have p0 := (HB1.out.cell (p := ⟨w.heap.size, 0, none⟩) (by show w.heap.size < wr.heap.size; omega)).trans t0
            have p1 := (HB1.out.cell (p := ⟨b, off + k * 2, none⟩) hbr).trans g0
            have p2 := (HB1.out.cell (p := ⟨b, off + k * 2 + 1, none⟩) hbr).trans g1
            have p3 := (HB1.out.cell (p := ⟨b, off + q * 2, none⟩) hbr).trans g2
            go_wp2_with fail
            clear hHeld
            refine hK.out _ _ ?_ (fun hHeld => ?_)
            · ((try dsimp only); go_keep)
            clear hK K
            try simp only [qq]
            refine tk (i := 6) (oi := ⟨some 21, .unOp .not 4 (.tmp 20), 4, _, _, none⟩) (v := ?_) rfl (by kernel_rfl) rfl ?e hHeld ?_
            case e => intro wq hSw; (try dsimp only at hSw); go_simp; try with_reducible rfl
            try simp only [qq]
            refine tk (i := 7) (oi := ⟨some 22, .move (.tmp 21), 4, _, _, none⟩) (v := ?_) rfl (by kernel_rfl) rfl ?e hHeld ?_
            case e => intro wq hSw; (try dsimp only at hSw); go_simp; try with_reducible rfl
            try simp only [qq]
            refine tk (i := 8) (oi := ⟨some 23, .move (.tmp 3), 3, _, _, some (7, false)⟩) (v := ?_) rfl (by kernel_rfl) rfl ?e hHeld ?_
            case e => intro wq hSw; (try dsimp only at hSw); go_simp; try with_reducible rfl
            try simp only [qq]
            refine tk (i := 9) (oi := ⟨some 24, .binOp .gtr 3 (.tmp 23) (.const (.int .i64 0)) 3, 4, _, _, some (7, false)⟩) (v := ?_) rfl (by kernel_rfl) rfl ?e hHeld ?_
            case e => intro wq hSw; (try dsimp only at hSw); go_simp; try with_reducible rfl
            try simp only [qq]
            refine tk (i := 10) (oi := ⟨some 25, .move (.tmp 24), 4, _, _, some (7, false)⟩) (v := ?_) rfl (by kernel_rfl) rfl ?e hHeld ?_
            case e => intro wq hSw; (try dsimp only at hSw); go_simp; try with_reducible rfl
            try simp only [qq]
            refine tk (i := 11) (oi := ⟨some 26, .fieldAddr 49 (.tmp 1) 0, 0, _, _, some (10, true)⟩) (v := ?_) rfl (by kernel_rfl) rfl ?e hHeld ?_
            case e => intro wq hSw; (try dsimp only at hSw); go_simp; try with_reducible rfl
            try simp only [qq]
            refine tk (i := 12) (oi := ⟨some 27, .load 47 (.tmp 26), 47, _, _, some (10, true)⟩) (v := ?_) rfl (by kernel_rfl) rfl ?e hHeld ?_
            case e => intro wq hSw; (try dsimp only at hSw); go_simp; try with_reducible rfl
            try simp only [qq]
            refine tk (i := 13) (oi := ⟨some 28, .move (.tmp 3), 3, _, _, some (10, true)⟩) (v := ?_) rfl (by kernel_rfl) rfl ?e hHeld ?_
            case e => intro wq hSw; (try dsimp only at hSw); go_simp; try with_reducible rfl
            try simp only [qq]
            refine tk (i := 14) (oi := ⟨some 29, .binOp .sub 3 (.tmp 28) (.const (.int .i64 1)) 3, 3, _, _, some (10, true)⟩) (v := ?_) rfl (by kernel_rfl) rfl ?e hHeld ?_
            case e => intro wq hSw; (try dsimp only at hSw); go_simp; try with_reducible rfl
            try simp only [qq]
            refine tk (i := 15) (oi := ⟨some 30, .indexAddr 47 (.tmp 27) (.tmp 29), 0, _, _, some (10, true)⟩) (v := ?_) rfl (by kernel_rfl) rfl ?e hHeld ?_
            case e => intro wq hSw; (try dsimp only at hSw); go_simp; try with_reducible rfl
            try simp only [qq]
            refine tk (i := 16) (oi := ⟨some 31, .fieldAddr 129 (.tmp 30) 0, 0, _, _, some (10, true)⟩) (v := ?_) rfl (by kernel_rfl) rfl ?e hHeld ?_
            case e => intro wq hSw; (try dsimp only at hSw); go_simp; try with_reducible rfl
            try simp only [qq]
            refine tk (i := 17) (oi := ⟨some 32, .load 9 (.tmp 31), 9, _, _, some (10, true)⟩) (v := ?_) rfl (by kernel_rfl) rfl ?e hHeld ?_
            case e => intro wq hSw; (try dsimp only at hSw); go_simp; try with_reducible rfl
            try simp only [qq]
            refine tk (i := 18) (oi := ⟨some 33, .fieldAddr 49 (.tmp 1) 0, 0, _, _, some (10, true)⟩) (v := ?_) rfl (by kernel_rfl) rfl ?e hHeld ?_
            case e => intro wq hSw; (try dsimp only at hSw); go_simp; try with_reducible rfl
            try simp only [qq]
            refine tk (i := 19) (oi := ⟨some 34, .load 47 (.tmp 33), 47, _, _, some (10, true)⟩) (v := ?_) rfl (by kernel_rfl) rfl ?e hHeld ?_
            case e => intro wq hSw; (try dsimp only at hSw); go_simp; try with_reducible rfl
            try simp only [qq]
            refine tk (i := 20) (oi := ⟨some 35, .move (.tmp 3), 3, _, _, some (10, true)⟩) (v := ?_) rfl (by kernel_rfl) rfl ?e hHeld ?_
            case e => intro wq hSw; (try dsimp only at hSw); go_simp; try with_reducible rfl
            try simp only [qq]
            refine tk (i := 21) (oi := ⟨some 36, .indexAddr 47 (.tmp 34) (.tmp 35), 0, _, _, some (10, true)⟩) (v := ?_) rfl (by kernel_rfl) rfl ?e hHeld ?_
            case e => intro wq hSw; (try dsimp only at hSw); go_simp; try with_reducible rfl
            try simp only [qq]
            refine tk (i := 22) (oi := ⟨some 37, .fieldAddr 129 (.tmp 36) 0, 0, _, _, some (10, true)⟩) (v := ?_) rfl (by kernel_rfl) rfl ?e hHeld ?_
            case e => intro wq hSw; (try dsimp only at hSw); go_simp; try with_reducible rfl
            try simp only [qq]
            refine tk (i := 23) (oi := ⟨some 38, .load 9 (.tmp 37), 9, _, _, some (10, true)⟩) (v := ?_) rfl (by kernel_rfl) rfl ?e hHeld ?_
            case e => intro wq hSw; (try dsimp only at hSw); go_simp; try with_reducible rfl
            try simp only [qq]
            refine tk (i := 24) (oi := ⟨some 39, .binOp .geq 9 (.tmp 32) (.tmp 38) 9, 4, _, _, some (10, true)⟩) (v := ?_) rfl (by kernel_rfl) rfl ?e hHeld ?_
            case e => intro wq hSw; (try dsimp only at hSw); go_simp; try with_reducible rfl
            try simp only [qq]
            refine tk (i := 25) (oi := ⟨some 40, .pick (.tmp 25) (.tmp 39) (.const (.bool false)), 4, _, _, some (7, false)⟩) (v := ?_) rfl (by kernel_rfl) rfl ?e hHeld ?_
            case e => intro wq hSw; (try dsimp only at hSw); go_simp; try with_reducible rfl
            try simp only [qq]
            refine tk (i := 26) (oi := ⟨some 41, .pick (.tmp 22) (.const (.bool true)) (.tmp 40), 4, _, _, none⟩) (v := ?_) rfl (by kernel_rfl) rfl ?e hHeld ?_
            case e => intro wq hSw; (try dsimp only at hSw); go_simp; try with_reducible rfl
            try simp only [qq]
            refine wpAnyH_done (by kernel_rfl) ?_ _
            have hB1 : Below w.heap.size w w1 := HB.out.trans (HB1.out.mono HB.out.size)
            rw [hx, hy] at HS
            clear hHeld
            go_wp2
            go_ret
            exact ⟨⟨false, rfl, by simp only [Bool.false_eq_true, false_iff]; intro h; have := h.2 _ hlt; rw [HS.out] at this; cases this⟩, hB1⟩
          · go_wp2_with fail
            refine wp_region_held_drew (S := (fun u => u.cell? ⟨w.heap.size, 0, none⟩ = some (.slice (some ⟨b, off, none⟩) fs.length cap) ∧ u.cell? ⟨b, off + k * 2, none⟩ = some (.string x.nm) ∧ u.cell? ⟨b, off + k * 2 + 1, none⟩ = some (.string x.tx) ∧ u.cell? ⟨b, off + q * 2, none⟩ = some (.string y.nm))) (by kernel_rfl) ?_ (fun hHeld => ?_)
            · ((try dsimp only); go_keep)
            refine tk (i := 0) (oi := ⟨some 15, .fieldAddr 49 (.tmp 1) 0, 0, _, _, none⟩) (v := ?_) rfl (by kernel_rfl) rfl ?e hHeld ?_
            case e => intro wq hSw; (try dsimp only at hSw); go_simp; try with_reducible rfl
            try simp only [qq]
            refine tk (i := 1) (oi := ⟨some 16, .load 47 (.tmp 15), 47, _, _, none⟩) (v := ?_) rfl (by kernel_rfl) rfl ?e hHeld ?_
            case e => intro wq hSw; (try dsimp only at hSw); go_simp; try with_reducible rfl
            try simp only [qq]
            refine tk (i := 2) (oi := ⟨some 17, .move (.tmp 3), 3, _, _, none⟩) (v := ?_) rfl (by kernel_rfl) rfl ?e hHeld ?_
            case e => intro wq hSw; (try dsimp only at hSw); go_simp; try with_reducible rfl
            try simp only [qq]
            refine tk (i := 3) (oi := ⟨some 18, .indexAddr 47 (.tmp 16) (.tmp 17), 0, _, _, none⟩) (v := ?_) rfl (by kernel_rfl) rfl ?e hHeld ?_
            case e => intro wq hSw; (try dsimp only at hSw); go_simp; try with_reducible rfl
            try simp only [qq]
            refine tk (i := 4) (oi := ⟨some 19, .load 129 (.tmp 18), 129, _, _, none⟩) (v := ?_) rfl (by kernel_rfl) rfl ?e hHeld ?_
            case e => intro wq hSw; (try dsimp only at hSw); go_simp; try with_reducible rfl
            try simp only [qq]
            refine rd (i := 5) (o := ⟨some 20, .call ⟨.value (.func 66), #[.tmp 19], #[129]⟩, 4, _, _, none⟩) rfl (by kernel_rfl) (fun K hK => ?_)
            go_simp
            refine (c66v hx _ hsx.out).mono ?_
            rintro e w1 ⟨rfl, hb1⟩
            have HB1 : Hid (Below wr.heap.size wr w1) := ((Below.refl _ _).drew).trans hb1
            have p0 := (HB1.out.cell (p := ⟨w.heap.size, 0, none⟩) (by show w.heap.size < wr.heap.size; omega)).trans t0
            have p1 := (HB1.out.cell (p := ⟨b, off + k * 2, none⟩) hbr).trans g0
            have p2 := (HB1.out.cell (p := ⟨b, off + k * 2 + 1, none⟩) hbr).trans g1
            have p3 := (HB1.out.cell (p := ⟨b, off + q * 2, none⟩) hbr).trans g2
            go_wp2_with fail
            clear hHeld
            refine hK.out _ _ ?_ (fun hHeld => ?_)
            · ((try dsimp only); go_keep)
            clear hK K
            try simp only [qq]
            refine tk (i := 6) (oi := ⟨some 21, .unOp .not 4 (.tmp 20), 4, _, _, none⟩) (v := ?_) rfl (by kernel_rfl) rfl ?e hHeld ?_
            case e => intro wq hSw; (try dsimp only at hSw); go_simp; try with_reducible rfl
            try simp only [qq]
            refine tk (i := 7) (oi := ⟨some 22, .move (.tmp 21), 4, _, _, none⟩) (v := ?_) rfl (by kernel_rfl) rfl ?e hHeld ?_
            case e => intro wq hSw; (try dsimp only at hSw); go_simp; try with_reducible rfl
            try simp only [qq]
            refine tk (i := 8) (oi := ⟨some 23, .move (.tmp 3), 3, _, _, some (7, false)⟩) (v := ?_) rfl (by kernel_rfl) rfl ?e hHeld ?_
            case e => intro wq hSw; (try dsimp only at hSw); go_simp; try with_reducible rfl
            try simp only [qq]
            refine tk (i := 9) (oi := ⟨some 24, .binOp .gtr 3 (.tmp 23) (.const (.int .i64 0)) 3, 4, _, _, some (7, false)⟩) (v := ?_) rfl (by kernel_rfl) rfl ?e hHeld ?_
            case e => intro wq hSw; (try dsimp only at hSw); go_simp; try with_reducible rfl
            try simp only [qq]
            refine tk (i := 10) (oi := ⟨some 25, .move (.tmp 24), 4, _, _, some (7, false)⟩) (v := ?_) rfl (by kernel_rfl) rfl ?e hHeld ?_
            case e => intro wq hSw; (try dsimp only at hSw); go_simp; try with_reducible rfl
            try simp only [qq]
            refine tk (i := 11) (oi := ⟨some 26, .fieldAddr 49 (.tmp 1) 0, 0, _, _, some (10, true)⟩) (v := ?_) rfl (by kernel_rfl) rfl ?e hHeld ?_
            case e => intro wq hSw; (try dsimp only at hSw); go_simp; try with_reducible rfl
            try simp only [qq]
            refine tk (i := 12) (oi := ⟨some 27, .load 47 (.tmp 26), 47, _, _, some (10, true)⟩) (v := ?_) rfl (by kernel_rfl) rfl ?e hHeld ?_
            case e => intro wq hSw; (try dsimp only at hSw); go_simp; try with_reducible rfl
            try simp only [qq]
            refine tk (i := 13) (oi := ⟨some 28, .move (.tmp 3), 3, _, _, some (10, true)⟩) (v := ?_) rfl (by kernel_rfl) rfl ?e hHeld ?_
            case e => intro wq hSw; (try dsimp only at hSw); go_simp; try with_reducible rfl
            try simp only [qq]
            refine tk (i := 14) (oi := ⟨some 29, .binOp .sub 3 (.tmp 28) (.const (.int .i64 1)) 3, 3, _, _, some (10, true)⟩) (v := ?_) rfl (by kernel_rfl) rfl ?e hHeld ?_
            case e => intro wq hSw; (try dsimp only at hSw); go_simp; try with_reducible rfl
            try simp only [qq]
            refine tk (i := 15) (oi := ⟨some 30, .indexAddr 47 (.tmp 27) (.tmp 29), 0, _, _, some (10, true)⟩) (v := ?_) rfl (by kernel_rfl) rfl ?e hHeld ?_
            case e => intro wq hSw; (try dsimp only at hSw); go_simp; try with_reducible rfl
            try simp only [qq]
            refine tk (i := 16) (oi := ⟨some 31, .fieldAddr 129 (.tmp 30) 0, 0, _, _, some (10, true)⟩) (v := ?_) rfl (by kernel_rfl) rfl ?e hHeld ?_
            case e => intro wq hSw; (try dsimp only at hSw); go_simp; try with_reducible rfl
            try simp only [qq]
            refine tk (i := 17) (oi := ⟨some 32, .load 9 (.tmp 31), 9, _, _, some (10, true)⟩) (v := ?_) rfl (by kernel_rfl) rfl ?e hHeld ?_
            case e => intro wq hSw; (try dsimp only at hSw); go_simp; try with_reducible rfl
            try simp only [qq]
            refine tk (i := 18) (oi := ⟨some 33, .fieldAddr 49 (.tmp 1) 0, 0, _, _, some (10, true)⟩) (v := ?_) rfl (by kernel_rfl) rfl ?e hHeld ?_
            case e => intro wq hSw; (try dsimp only at hSw); go_simp; try with_reducible rfl
            try simp only [qq]
            refine tk (i := 19) (oi := ⟨some 34, .load 47 (.tmp 33), 47, _, _, some (10, true)⟩) (v := ?_) rfl (by kernel_rfl) rfl ?e hHeld ?_
            case e => intro wq hSw; (try dsimp only at hSw); go_simp; try with_reducible rfl
            try simp only [qq]
            refine tk (i := 20) (oi := ⟨some 35, .move (.tmp 3), 3, _, _, some (10, true)⟩) (v := ?_) rfl (by kernel_rfl) rfl ?e hHeld ?_
            case e => intro wq hSw; (try dsimp only at hSw); go_simp; try with_reducible rfl
            try simp only [qq]
            refine tk (i := 21) (oi := ⟨some 36, .indexAddr 47 (.tmp 34) (.tmp 35), 0, _, _, some (10, true)⟩) (v := ?_) rfl (by kernel_rfl) rfl ?e hHeld ?_
            case e => intro wq hSw; (try dsimp only at hSw); go_simp; try with_reducible rfl
            try simp only [qq]
            refine tk (i := 22) (oi := ⟨some 37, .fieldAddr 129 (.tmp 36) 0, 0, _, _, some (10, true)⟩) (v := ?_) rfl (by kernel_rfl) rfl ?e hHeld ?_
            case e => intro wq hSw; (try dsimp only at hSw); go_simp; try with_reducible rfl
            try simp only [qq]
            refine tk (i := 23) (oi := ⟨some 38, .load 9 (.tmp 37), 9, _, _, some (10, true)⟩) (v := ?_) rfl (by kernel_rfl) rfl ?e hHeld ?_
            case e => intro wq hSw; (try dsimp only at hSw); go_simp; try with_reducible rfl
            try simp only [qq]
            refine tk (i := 24) (oi := ⟨some 39, .binOp .geq 9 (.tmp 32) (.tmp 38) 9, 4, _, _, some (10, true)⟩) (v := ?_) rfl (by kernel_rfl) rfl ?e hHeld ?_
            case e => intro wq hSw; (try dsimp only at hSw); go_simp; try with_reducible rfl
            try simp only [qq]
            refine tk (i := 25) (oi := ⟨some 40, .pick (.tmp 25) (.tmp 39) (.const (.bool false)), 4, _, _, some (7, false)⟩) (v := ?_) rfl (by kernel_rfl) rfl ?e hHeld ?_
            case e => intro wq hSw; (try dsimp only at hSw); go_simp; try with_reducible rfl
            try simp only [qq]
            refine tk (i := 26) (oi := ⟨some 41, .pick (.tmp 22) (.const (.bool true)) (.tmp 40), 4, _, _, none⟩) (v := ?_) rfl (by kernel_rfl) rfl ?e hHeld ?_
            case e => intro wq hSw; (try dsimp only at hSw); go_simp; try with_reducible rfl
            try simp only [qq]
            refine wpAnyH_done (by kernel_rfl) ?_ _
            have hB1 : Below w.heap.size w w1 := HB.out.trans (HB1.out.mono HB.out.size)
            have hz1 : w.heap.size + 1 ≤ w1.heap.size := Nat.le_trans hz HB1.out.size
            rw [hx, hy] at HS
            have hd' : Hid (∀ j, j < k + 1 → stepOk fs j = true) := fun j hj => by
             rcases Nat.lt_or_ge j k with h | h
             · exact hdone.out j h
             · obtain rfl : j = k := by omega
               exact HS.out
            clear hHeld
            go_wp2
            go_roundw
            case rel => exact ⟨k + 1, by omega, by go_num, hB1, p0, hz1, hd'⟩
            case measure => simp [intOf]; omega
    · have hd' : Hid (treeOk fs) := ⟨by omega, fun j hj => hdone.out j (by omega)⟩
      go_wp2
      go_ret
      exact ⟨⟨true, rfl, by simp only [true_iff]; exact hd'.out⟩, hb⟩
end Go.Proofs.YtboojefodbjbcaaGreatDoor.G.T

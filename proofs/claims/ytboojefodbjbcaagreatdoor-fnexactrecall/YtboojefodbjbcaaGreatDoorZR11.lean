import Derived.Test.YtboojefodbjbcaaGreatDoorZR00
import Derived.Test.YtboojefodbjbcaaGreatDoorGP7
import Derived.Test.YtboojefodbjbcaaGreatDoorGPE
import Derived.Test.YtboojefodbjbcaaGreatDoorGQG
import Derived.Lib.CountLaws
namespace Go.Proofs.YtboojefodbjbcaaGreatDoor.G
set_option linter.unusedSimpArgs false
open Go.RowKit
def CkEnd (is : List M3) (e : Ending) : Prop :=
 (planOk is = true ∧ e = .returned .nilIface) ∨ (planOk is = false ∧ ∃ n ty va, e = .returned (.iface 190 (.agg #[.int .i64 n, .iface ty va])))
set_option maxHeartbeats 4000000 in
theorem c125 (a : Option Addr) (cap : Nat) (is : List M3) (w : World) (hs : ∀ i, (is.getD i m3z).le 1048576) (hl : is.length ≤ 1048576) (hat : MksAt w a is) (t0 t1 t2 : TypeId) (v0 v1 v2 : Value) (h0g : w.cell? ⟨6, 0, none⟩ = some (.iface t0 v0)) (h1g : w.cell? ⟨7, 0, none⟩ = some (.iface t1 v1)) (h2g : w.cell? ⟨8, 0, none⟩ = some (.iface t2 v2)) :
 Calls Tryz.prog 125 #[.slice a is.length cap] w fun e w' => CkEnd is e ∧ Below w.heap.size w w' := by
 have h3z : 8 < w.heap.size := by
  rcases Nat.lt_or_ge 8 w.heap.size with h | h
  · exact h
  · simp [World.cell?, Array.getElem?_eq_none h] at h2g
 obtain ⟨b, off, hc⟩ := mks_some hat
 have HC : Hid (is = [] ∨ (a = some ⟨b, off, none⟩ ∧ b < w.heap.size ∧ ∀ i, i < is.length → w.cell? ⟨b, off + i * 3, none⟩ = some (.string (is.getD i m3z).nm) ∧ w.cell? ⟨b, off + i * 3 + 1, none⟩ = some (.string (is.getD i m3z).tl) ∧ w.cell? ⟨b, off + i * 3 + 2, none⟩ = some (.string (is.getD i m3z).ar))) := hc
 clear hc hat
 go_enter Tryz.func125, Tryz.ntmps125
 go_wp2_with fail
 go_loopw [7] (fun i wr => ∃ (k : Nat), k ≤ is.length ∧ k ≤ 30 ∧ i = .int .i64 k ∧ Below w.heap.size w wr ∧ Hid (∀ j, j < k → stepM is j = true)) (fun i _ => is.length - (intOf i).toNat)
 case atStart => exact ⟨0, Nat.zero_le _, Nat.zero_le _, rfl, Below.refl _ _, fun j h => absurd h (Nat.not_lt_zero _)⟩
 case round =>
  obtain ⟨k, hk, hk30, rfl, hb, hdone⟩ := hrel
  by_cases hlt : k < is.length
  · rcases HC.out with hss | ⟨ha, hbw, hcell⟩
    · rw [hss] at hlt; exact absurd hlt (Nat.not_lt_zero _)
    subst ha
    have HB : Hid (Below w.heap.size w wr) := hb
    have g0 := (hb.cell (p := ⟨b, off + k * 3, none⟩) hbw).trans (hcell k hlt).1
    have g1 := (hb.cell (p := ⟨b, off + k * 3 + 1, none⟩) hbw).trans (hcell k hlt).2.1
    have g2 := (hb.cell (p := ⟨b, off + k * 3 + 2, none⟩) hbw).trans (hcell k hlt).2.2
    have hsx : Hid ((is.getD k m3z).le 1048700) := ⟨Nat.le_trans (hs k).1 (by omega), Nat.le_trans (hs k).2.1 (by omega), Nat.le_trans (hs k).2.2 (by omega)⟩
    have hbr0 : b < wr.heap.size := Nat.lt_of_lt_of_le hbw hb.size
    by_cases h30 : k = 30
    · have HN : Hid (planOk is = false) := by
       cases hp : planOk is
       · rfl
       · have := ((plan_iff is).1 hp).1
         omega
      subst h30
      have q0 := (World.cell?_alloc_lt wr (.cells #[.string (is.getD 30 m3z).nm, .string (is.getD 30 m3z).tl, .string (is.getD 30 m3z).ar] 51) ⟨6, 0, none⟩ (Nat.lt_of_lt_of_le (by show 6 < w.heap.size; omega) hb.size)).trans ((hb.cell (p := ⟨6, 0, none⟩) (by show 6 < w.heap.size; omega)).trans h0g)
      clear hcell
      generalize is.getD 30 m3z = x at *
      go_wp2
      go_ret
      exact ⟨.inr ⟨HN.out, _, _, _, rfl⟩, HB.out.alloc HB.out.size _⟩
    rcases Nat.eq_zero_or_pos k with h0 | h0
    · subst h0
      have HS : Hid (stepM is 0 = okM (is.getD 0 m3z)) := by simp [stepM, Hid]
      simp only [Nat.zero_mul, Nat.add_zero] at g0 g1 g2
      generalize is.getD 0 m3z = x at *
      clear hcell hb
      go_wp2_with fail
      refine (c43 x _ hsx.out).mono ?_
      rintro e w1 ⟨rfl, hb1⟩
      have HB2 : Hid (Below w.heap.size w w1) := (HB.out.alloc HB.out.size _).trans (hb1.mono (by simp; exact Nat.le_succ_of_le HB.out.size))
      have m0 := (hb1.cell (p := ⟨wr.heap.size, 0, none⟩) (by simp)).trans (show (wr.alloc (.cells #[.string x.nm, .string x.tl, .string x.ar] 51)).cell? ⟨wr.heap.size, 0, none⟩ = some (.string x.nm) by simp)
      have q0 := (HB2.out.cell (p := ⟨6, 0, none⟩) (by show 6 < w.heap.size; omega)).trans h0g
      have q1 := (HB2.out.cell (p := ⟨7, 0, none⟩) (by show 7 < w.heap.size; omega)).trans h1g
      have q2 := (HB2.out.cell (p := ⟨8, 0, none⟩) (by show 8 < w.heap.size; omega)).trans h2g
      clear hb1 g0 g1 g2
      cases hx : okM x
      · rw [hx] at HS
        go_wp2
        go_ret
        exact ⟨.inr ⟨plan_bad hlt HS.out, _, _, _, rfl⟩, HB2.out⟩
      · go_wp2_with fail
        refine wp_region_held_drew (S := (fun u => u.cell? ⟨wr.heap.size, 0, none⟩ = some (.string x.nm))) (by kernel_rfl) ?_ (fun hHeld => ?_)
        · ((try dsimp only); go_keep)
        refine tk (i := 0) (oi := ⟨some 28, .move (.tmp 3), 3, _, _, none⟩) (v := ?_) rfl (by kernel_rfl) rfl ?e hHeld ?_
        case e => intro wq hSw; (try dsimp only at hSw); go_simp; try with_reducible rfl
        try simp only [qq]
        refine tk (i := 1) (oi := ⟨some 29, .binOp .gtr 3 (.tmp 28) (.const (.int .i64 0)) 3, 4, _, _, none⟩) (v := ?_) rfl (by kernel_rfl) rfl ?e hHeld ?_
        case e => intro wq hSw; (try dsimp only at hSw); go_simp; try with_reducible rfl
        try simp only [qq]
        refine tk (i := 2) (oi := ⟨some 30, .move (.tmp 29), 4, _, _, none⟩) (v := ?_) rfl (by kernel_rfl) rfl ?e hHeld ?_
        case e => intro wq hSw; (try dsimp only at hSw); go_simp; try with_reducible rfl
        try simp only [qq]
        refine tu (i := 3) (oi := ⟨some 31, .move (.tmp 0), 95, _, _, some (2, true)⟩) rfl (by kernel_rfl) rfl hHeld ?_
        try simp only [qq]
        refine tu (i := 4) (oi := ⟨some 32, .move (.tmp 3), 3, _, _, some (2, true)⟩) rfl (by kernel_rfl) rfl hHeld ?_
        try simp only [qq]
        refine tu (i := 5) (oi := ⟨some 33, .binOp .sub 3 (.tmp 32) (.const (.int .i64 1)) 3, 3, _, _, some (2, true)⟩) rfl (by kernel_rfl) rfl hHeld ?_
        try simp only [qq]
        refine tu (i := 6) (oi := ⟨some 34, .indexAddr 95 (.tmp 31) (.tmp 33), 0, _, _, some (2, true)⟩) rfl (by kernel_rfl) rfl hHeld ?_
        try simp only [qq]
        refine tu (i := 7) (oi := ⟨some 35, .fieldAddr 51 (.tmp 34) 0, 0, _, _, some (2, true)⟩) rfl (by kernel_rfl) rfl hHeld ?_
        try simp only [qq]
        refine tu (i := 8) (oi := ⟨some 36, .load 9 (.tmp 35), 9, _, _, some (2, true)⟩) rfl (by kernel_rfl) rfl hHeld ?_
        try simp only [qq]
        refine tu (i := 9) (oi := ⟨some 37, .fieldAddr 51 (.tmp 4) 0, 0, _, _, some (2, true)⟩) rfl (by kernel_rfl) rfl hHeld ?_
        try simp only [qq]
        refine tu (i := 10) (oi := ⟨some 38, .load 9 (.tmp 37), 9, _, _, some (2, true)⟩) rfl (by kernel_rfl) rfl hHeld ?_
        try simp only [qq]
        refine tu (i := 11) (oi := ⟨some 39, .binOp .geq 9 (.tmp 36) (.tmp 38) 9, 4, _, _, some (2, true)⟩) rfl (by kernel_rfl) rfl hHeld ?_
        try simp only [qq]
        refine tk (i := 12) (oi := ⟨some 40, .pick (.tmp 30) (.tmp 39) (.const (.bool false)), 4, _, _, none⟩) (v := ?_) rfl (by kernel_rfl) rfl ?e hHeld ?_
        case e => intro wq hSw; (try dsimp only at hSw); go_simp; try with_reducible rfl
        try simp only [qq]
        refine tk (i := 13) (oi := ⟨some 27, .assign (.tmp 40), 4, _, _, none⟩) (v := ?_) rfl (by kernel_rfl) rfl ?e hHeld ?_
        case e => intro wq hSw; (try dsimp only at hSw); go_simp; try with_reducible rfl
        try simp only [qq]
        refine wpAnyH_done (by kernel_rfl) ?_ _
        rw [hx] at HS
        clear hHeld
        have hd' : Hid (∀ j, j < 0 + 1 → stepM is j = true) := fun j hj => by
         rcases Nat.lt_or_ge j 0 with h | h
         · exact hdone.out j h
         · obtain rfl : j = 0 := by omega
           exact HS.out
        go_wp2
        go_roundw
        case rel => exact ⟨0 + 1, by omega, by omega, by go_num, HB2.out.drew, hd'⟩
        case measure => simp [intOf]; omega
    · obtain ⟨q, hq⟩ : ∃ q, q + 1 = k := ⟨k - 1, by omega⟩
      have g3' := (hb.cell (p := ⟨b, off + q * 3, none⟩) hbw).trans (hcell q (by omega)).1
      have HS : Hid (stepM is k = (okM (is.getD k m3z) && Op.bytesLess (is.getD q m3z).nm.toList (is.getD k m3z).nm.toList)) := by
       have e1 : decide (k = 0) = false := decide_eq_false (by omega)
       have e2 : k - 1 = q := by omega
       unfold stepM; rw [e1, e2]; rfl
      have hm0 : (0 : Int) < (k : Int) := by omega
      have hm1 : decide ((0 : Int) < (k : Int)) = true := decide_eq_true hm0
      generalize is.getD k m3z = x at *
      generalize is.getD q m3z = y at *
      have hwr : IntKind.i64.wrap ((k : Int) - 1) = (q : Int) := by rw [show (k : Int) - 1 = (q : Int) by omega]; exact wrap_nat q (by omega)
      have hql : (q : Int) < (is.length : Int) := by omega
      clear hq
      clear hcell hb
      go_wp2_with fail
      refine (c43 x _ hsx.out).mono ?_
      rintro e w1 ⟨rfl, hb1⟩
      have HB2 : Hid (Below w.heap.size w w1) := (HB.out.alloc HB.out.size _).trans (hb1.mono (by simp; exact Nat.le_succ_of_le HB.out.size))
      have m0 := (hb1.cell (p := ⟨wr.heap.size, 0, none⟩) (by simp)).trans (show (wr.alloc (.cells #[.string x.nm, .string x.tl, .string x.ar] 51)).cell? ⟨wr.heap.size, 0, none⟩ = some (.string x.nm) by simp)
      have g3 := (hb1.cell (p := ⟨b, off + q * 3, none⟩) (by simp; omega)).trans ((World.cell?_alloc_lt _ _ ⟨b, off + q * 3, none⟩ hbr0).trans g3')
      clear g3'
      have q0 := (HB2.out.cell (p := ⟨6, 0, none⟩) (by show 6 < w.heap.size; omega)).trans h0g
      have q1 := (HB2.out.cell (p := ⟨7, 0, none⟩) (by show 7 < w.heap.size; omega)).trans h1g
      have q2 := (HB2.out.cell (p := ⟨8, 0, none⟩) (by show 8 < w.heap.size; omega)).trans h2g
      clear hb1 g0 g1 g2
      cases hx : okM x
      · have HS : Hid (stepM is k = false) := by rw [HS.out, hx]; rfl
        go_wp2
        go_ret
        exact ⟨.inr ⟨plan_bad hlt HS.out, _, _, _, rfl⟩, HB2.out⟩
      · cases hy : Op.bytesLess y.nm.toList x.nm.toList
        · go_wp2_with fail
          refine wp_region_held_drew (S := (fun u => u.cell? ⟨wr.heap.size, 0, none⟩ = some (.string x.nm) ∧ u.cell? ⟨b, off + q * 3, none⟩ = some (.string y.nm))) (by kernel_rfl) ?_ (fun hHeld => ?_)
          · ((try dsimp only); go_keep)
          refine tk (i := 0) (oi := ⟨some 28, .move (.tmp 3), 3, _, _, none⟩) (v := ?_) rfl (by kernel_rfl) rfl ?e hHeld ?_
          case e => intro wq hSw; (try dsimp only at hSw); go_simp; try with_reducible rfl
          try simp only [qq]
          refine tk (i := 1) (oi := ⟨some 29, .binOp .gtr 3 (.tmp 28) (.const (.int .i64 0)) 3, 4, _, _, none⟩) (v := ?_) rfl (by kernel_rfl) rfl ?e hHeld ?_
          case e => intro wq hSw; (try dsimp only at hSw); go_simp; try with_reducible rfl
          try simp only [qq]
          refine tk (i := 2) (oi := ⟨some 30, .move (.tmp 29), 4, _, _, none⟩) (v := ?_) rfl (by kernel_rfl) rfl ?e hHeld ?_
          case e => intro wq hSw; (try dsimp only at hSw); go_simp; try with_reducible rfl
          try simp only [qq]
          refine tk (i := 3) (oi := ⟨some 31, .move (.tmp 0), 95, _, _, some (2, true)⟩) (v := ?_) rfl (by kernel_rfl) rfl ?e hHeld ?_
          case e => intro wq hSw; (try dsimp only at hSw); go_simp; try with_reducible rfl
          try simp only [qq]
          refine tk (i := 4) (oi := ⟨some 32, .move (.tmp 3), 3, _, _, some (2, true)⟩) (v := ?_) rfl (by kernel_rfl) rfl ?e hHeld ?_
          case e => intro wq hSw; (try dsimp only at hSw); go_simp; try with_reducible rfl
          try simp only [qq]
          refine tk (i := 5) (oi := ⟨some 33, .binOp .sub 3 (.tmp 32) (.const (.int .i64 1)) 3, 3, _, _, some (2, true)⟩) (v := ?_) rfl (by kernel_rfl) rfl ?e hHeld ?_
          case e => intro wq hSw; (try dsimp only at hSw); go_simp; try with_reducible rfl
          try simp only [qq]
          refine tk (i := 6) (oi := ⟨some 34, .indexAddr 95 (.tmp 31) (.tmp 33), 0, _, _, some (2, true)⟩) (v := ?_) rfl (by kernel_rfl) rfl ?e hHeld ?_
          case e => intro wq hSw; (try dsimp only at hSw); go_simp; try with_reducible rfl
          try simp only [qq]
          refine tk (i := 7) (oi := ⟨some 35, .fieldAddr 51 (.tmp 34) 0, 0, _, _, some (2, true)⟩) (v := ?_) rfl (by kernel_rfl) rfl ?e hHeld ?_
          case e => intro wq hSw; (try dsimp only at hSw); go_simp; try with_reducible rfl
          try simp only [qq]
          refine tk (i := 8) (oi := ⟨some 36, .load 9 (.tmp 35), 9, _, _, some (2, true)⟩) (v := ?_) rfl (by kernel_rfl) rfl ?e hHeld ?_
          case e => intro wq hSw; (try dsimp only at hSw); go_simp; try with_reducible rfl
          try simp only [qq]
          refine tk (i := 9) (oi := ⟨some 37, .fieldAddr 51 (.tmp 4) 0, 0, _, _, some (2, true)⟩) (v := ?_) rfl (by kernel_rfl) rfl ?e hHeld ?_
          case e => intro wq hSw; (try dsimp only at hSw); go_simp; try with_reducible rfl
          try simp only [qq]
          refine tk (i := 10) (oi := ⟨some 38, .load 9 (.tmp 37), 9, _, _, some (2, true)⟩) (v := ?_) rfl (by kernel_rfl) rfl ?e hHeld ?_
          case e => intro wq hSw; (try dsimp only at hSw); go_simp; try with_reducible rfl
          try simp only [qq]
          refine tk (i := 11) (oi := ⟨some 39, .binOp .geq 9 (.tmp 36) (.tmp 38) 9, 4, _, _, some (2, true)⟩) (v := ?_) rfl (by kernel_rfl) rfl ?e hHeld ?_
          case e => intro wq hSw; (try dsimp only at hSw); go_simp; try with_reducible rfl
          try simp only [qq]
          refine tk (i := 12) (oi := ⟨some 40, .pick (.tmp 30) (.tmp 39) (.const (.bool false)), 4, _, _, none⟩) (v := ?_) rfl (by kernel_rfl) rfl ?e hHeld ?_
          case e => intro wq hSw; (try dsimp only at hSw); go_simp; try with_reducible rfl
          try simp only [qq]
          refine tk (i := 13) (oi := ⟨some 27, .assign (.tmp 40), 4, _, _, none⟩) (v := ?_) rfl (by kernel_rfl) rfl ?e hHeld ?_
          case e => intro wq hSw; (try dsimp only at hSw); go_simp; try with_reducible rfl
          try simp only [qq]
          refine wpAnyH_done (by kernel_rfl) ?_ _
          rw [hx, hy] at HS
          clear hHeld
          go_wp2
          go_ret
          exact ⟨.inr ⟨plan_bad hlt HS.out, _, _, _, rfl⟩, HB2.out.drew⟩
        · go_wp2_with fail
          refine wp_region_held_drew (S := (fun u => u.cell? ⟨wr.heap.size, 0, none⟩ = some (.string x.nm) ∧ u.cell? ⟨b, off + q * 3, none⟩ = some (.string y.nm))) (by kernel_rfl) ?_ (fun hHeld => ?_)
          · ((try dsimp only); go_keep)
          refine tk (i := 0) (oi := ⟨some 28, .move (.tmp 3), 3, _, _, none⟩) (v := ?_) rfl (by kernel_rfl) rfl ?e hHeld ?_
          case e => intro wq hSw; (try dsimp only at hSw); go_simp; try with_reducible rfl
          try simp only [qq]
          refine tk (i := 1) (oi := ⟨some 29, .binOp .gtr 3 (.tmp 28) (.const (.int .i64 0)) 3, 4, _, _, none⟩) (v := ?_) rfl (by kernel_rfl) rfl ?e hHeld ?_
          case e => intro wq hSw; (try dsimp only at hSw); go_simp; try with_reducible rfl
          try simp only [qq]
          refine tk (i := 2) (oi := ⟨some 30, .move (.tmp 29), 4, _, _, none⟩) (v := ?_) rfl (by kernel_rfl) rfl ?e hHeld ?_
          case e => intro wq hSw; (try dsimp only at hSw); go_simp; try with_reducible rfl
          try simp only [qq]
          refine tk (i := 3) (oi := ⟨some 31, .move (.tmp 0), 95, _, _, some (2, true)⟩) (v := ?_) rfl (by kernel_rfl) rfl ?e hHeld ?_
          case e => intro wq hSw; (try dsimp only at hSw); go_simp; try with_reducible rfl
          try simp only [qq]
          refine tk (i := 4) (oi := ⟨some 32, .move (.tmp 3), 3, _, _, some (2, true)⟩) (v := ?_) rfl (by kernel_rfl) rfl ?e hHeld ?_
          case e => intro wq hSw; (try dsimp only at hSw); go_simp; try with_reducible rfl
          try simp only [qq]
          refine tk (i := 5) (oi := ⟨some 33, .binOp .sub 3 (.tmp 32) (.const (.int .i64 1)) 3, 3, _, _, some (2, true)⟩) (v := ?_) rfl (by kernel_rfl) rfl ?e hHeld ?_
          case e => intro wq hSw; (try dsimp only at hSw); go_simp; try with_reducible rfl
          try simp only [qq]
          refine tk (i := 6) (oi := ⟨some 34, .indexAddr 95 (.tmp 31) (.tmp 33), 0, _, _, some (2, true)⟩) (v := ?_) rfl (by kernel_rfl) rfl ?e hHeld ?_
          case e => intro wq hSw; (try dsimp only at hSw); go_simp; try with_reducible rfl
          try simp only [qq]
          refine tk (i := 7) (oi := ⟨some 35, .fieldAddr 51 (.tmp 34) 0, 0, _, _, some (2, true)⟩) (v := ?_) rfl (by kernel_rfl) rfl ?e hHeld ?_
          case e => intro wq hSw; (try dsimp only at hSw); go_simp; try with_reducible rfl
          try simp only [qq]
          refine tk (i := 8) (oi := ⟨some 36, .load 9 (.tmp 35), 9, _, _, some (2, true)⟩) (v := ?_) rfl (by kernel_rfl) rfl ?e hHeld ?_
          case e => intro wq hSw; (try dsimp only at hSw); go_simp; try with_reducible rfl
          try simp only [qq]
          refine tk (i := 9) (oi := ⟨some 37, .fieldAddr 51 (.tmp 4) 0, 0, _, _, some (2, true)⟩) (v := ?_) rfl (by kernel_rfl) rfl ?e hHeld ?_
          case e => intro wq hSw; (try dsimp only at hSw); go_simp; try with_reducible rfl
          try simp only [qq]
          refine tk (i := 10) (oi := ⟨some 38, .load 9 (.tmp 37), 9, _, _, some (2, true)⟩) (v := ?_) rfl (by kernel_rfl) rfl ?e hHeld ?_
          case e => intro wq hSw; (try dsimp only at hSw); go_simp; try with_reducible rfl
          try simp only [qq]
          refine tk (i := 11) (oi := ⟨some 39, .binOp .geq 9 (.tmp 36) (.tmp 38) 9, 4, _, _, some (2, true)⟩) (v := ?_) rfl (by kernel_rfl) rfl ?e hHeld ?_
          case e => intro wq hSw; (try dsimp only at hSw); go_simp; try with_reducible rfl
          try simp only [qq]
          refine tk (i := 12) (oi := ⟨some 40, .pick (.tmp 30) (.tmp 39) (.const (.bool false)), 4, _, _, none⟩) (v := ?_) rfl (by kernel_rfl) rfl ?e hHeld ?_
          case e => intro wq hSw; (try dsimp only at hSw); go_simp; try with_reducible rfl
          try simp only [qq]
          refine tk (i := 13) (oi := ⟨some 27, .assign (.tmp 40), 4, _, _, none⟩) (v := ?_) rfl (by kernel_rfl) rfl ?e hHeld ?_
          case e => intro wq hSw; (try dsimp only at hSw); go_simp; try with_reducible rfl
          try simp only [qq]
          refine wpAnyH_done (by kernel_rfl) ?_ _
          rw [hx, hy] at HS
          clear hHeld
          have hd' : Hid (∀ j, j < k + 1 → stepM is j = true) := fun j hj => by
           rcases Nat.lt_or_ge j k with h | h
           · exact hdone.out j h
           · obtain rfl : j = k := by omega
             exact HS.out
          go_wp2
          go_roundw
          case rel => exact ⟨k + 1, by omega, by omega, by go_num, HB2.out.drew, hd'⟩
          case measure => simp [intOf]; omega
  · have hp : Hid (∀ _ : is.length ≤ 30, planOk is = true) := fun h => (plan_iff is).2 ⟨h, fun j hj => hdone.out j (by omega)⟩
    have h31 : Hid (is.length ≤ 30) := by show is.length ≤ 30; omega
    go_wp2
    go_ret
    exact ⟨.inl ⟨hp.out h31.out, rfl⟩, hb⟩
end Go.Proofs.YtboojefodbjbcaaGreatDoor.G
namespace Go.Proofs.YtboojefodbjbcaaGreatDoor.G
open Go.RowKit
structure VarsAt (w : World) : Prop where
 g0 : ∃ t v, w.cell? ⟨6, 0, none⟩ = some (.iface t v)
 g1 : ∃ t v, w.cell? ⟨7, 0, none⟩ = some (.iface t v)
 g2 : ∃ t v, w.cell? ⟨8, 0, none⟩ = some (.iface t v)
 g6 : w.cell? ⟨4, 0, none⟩ = some (.iface 230 (.agg #[.pointer (some ⟨14, 147, none⟩)]))
theorem VarsAt.pos {w : World} (h : VarsAt w) : 8 < w.heap.size := by
 obtain ⟨t, v, h6⟩ := h.g2
 rcases Nat.lt_or_ge 8 w.heap.size with h | h
 · exact h
 · simp [World.cell?, Array.getElem?_eq_none h] at h6
theorem VarsAt.below {w w' : World} (h : VarsAt w) (hb : Below w.heap.size w w') : VarsAt w' := by
 have hp := h.pos
 obtain ⟨t0, v0, h0⟩ := h.g0
 obtain ⟨t1, v1, h1⟩ := h.g1
 obtain ⟨t2, v2, h2⟩ := h.g2
 exact ⟨⟨t0, v0, (hb.cell (p := ⟨6, 0, none⟩) (by show 6 < w.heap.size; omega)).trans h0⟩, ⟨t1, v1, (hb.cell (p := ⟨7, 0, none⟩) (by show 7 < w.heap.size; omega)).trans h1⟩, ⟨t2, v2, (hb.cell (p := ⟨8, 0, none⟩) (by show 8 < w.heap.size; omega)).trans h2⟩, (hb.cell (p := ⟨4, 0, none⟩) (by show 4 < w.heap.size; omega)).trans h.g6⟩
end Go.Proofs.YtboojefodbjbcaaGreatDoor.G
namespace Go.Proofs.YtboojefodbjbcaaGreatDoor.G
open Go.RowKit
set_option maxHeartbeats 2000000 in
set_option maxRecDepth 100000 in
theorem c123 (s : ByteArray) (w : World) :
 Calls Tryz.prog 123 #[.string s, .string ⟨#[10]⟩] w fun e w' => (∃ n, e = .returned (.int .i64 n)) ∧ w' = w := by
 go_enter Tryz.func123, Tryz.ntmps123
 go_wp2
 rw [run_callFunc_extern Tryz.func139 (by kernel_rfl) (by kernel_rfl) (by kernel_rfl) (e := Extern.BytealgCount.count) (by kernel_rfl), Lib.run_countString]
 simp only [Result.andThen]
 rw [Oper.upon_value]
 go_wp2
 go_ret
 exact ⟨⟨_, rfl⟩, rfl⟩
structure VarsR (w : World) : Prop where
 va : VarsAt w
 g3 : ∃ t v, w.cell? ⟨1, 0, none⟩ = some (.iface t v)
 g4 : ∃ t v, w.cell? ⟨2, 0, none⟩ = some (.iface t v)
 g5 : ∃ t v, w.cell? ⟨3, 0, none⟩ = some (.iface t v)
 mx : MaxAt w
theorem VarsR.below {w w' : World} (h : VarsR w) (hb : Below w.heap.size w w') : VarsR w' := by
 have hp := h.mx.1
 obtain ⟨t3, v3, h3⟩ := h.g3
 obtain ⟨t4, v4, h4⟩ := h.g4
 obtain ⟨t5, v5, h5⟩ := h.g5
 exact ⟨h.va.below hb, ⟨t3, v3, (hb.cell (p := ⟨1, 0, none⟩) (by show 1 < w.heap.size; omega)).trans h3⟩, ⟨t4, v4, (hb.cell (p := ⟨2, 0, none⟩) (by show 2 < w.heap.size; omega)).trans h4⟩, ⟨t5, v5, (hb.cell (p := ⟨3, 0, none⟩) (by show 3 < w.heap.size; omega)).trans h5⟩, max_below h.mx hb⟩
theorem row3n (w : World) (x y z : Value) (t : TypeId) : ∀ j u, [x, y, z][j]? = some u → (w.alloc (.cells #[x, y, z] t)).cell? ((⟨w.heap.size, 0, none⟩ : Addr).add j) = some u := by
 intro j u h
 match j, h with
 | 0, h => simp at h; subst h; simp [Addr.add]
 | 1, h => simp at h; subst h; simp [Addr.add]
 | 2, h => simp at h; subst h; simp [Addr.add]
theorem row3g {w : World} {g : Nat} (hg : g = w.heap.size) (x y z : Value) (t : TypeId) : ∀ j u, [x, y, z][j]? = some u → (w.alloc (.cells #[x, y, z] t)).cell? ((⟨g, 0, none⟩ : Addr).add j) = some u := by
 subst hg; exact row3n w x y z t
theorem row_form3 {w : World} {B : Nat} {e : TypeId} {v : Value} {n : Nat} {xs : List Value} (h : w.ownsRow B e 3 v n xs) : ∃ ao c, v = .slice ao n c := by
 rcases h.2 with ⟨hv, h0⟩ | ⟨g, cap, cur, hv, _⟩
 · exact ⟨none, 0, by rw [hv, h0]⟩
 · exact ⟨_, _, hv⟩
theorem owns_mono {w : World} {B B' : Nat} {e : TypeId} {size : Nat} {v : Value} {n : Nat} {xs : List Value} (h : w.ownsRow B e size v n xs) (hB : B' ≤ B) : w.ownsRow B' e size v n xs := by
 refine ⟨h.1, ?_⟩
 rcases h.2 with h2 | ⟨g, cap, cur, hv, hg, r⟩
 · exact .inl h2
 · exact .inr ⟨g, cap, cur, hv, by omega, r⟩
def strOf : Value → Nat | .string s => s.size | _ => 0
theorem ofL_self (s : ByteArray) : ofL s.data.toList = s := (ext_ofL rfl).symm
def Is28 (w : World) (l : List UInt8) (e : Ending) (w' : World) : Prop := ∃ (ms : List M3) (v er : Value), e = .returned (.tuple #[v, er]) ∧ w'.ownsRow w.heap.size 51 3 v ms.length (mkCells ms) ∧ ((er = .nilIface ∧ IsPlan l ms true) ∨ ((∃ n ty va, er = .iface 190 (.agg #[.int .i64 n, .iface ty va])) ∧ IsPlan l [] false))
theorem is28_no {w w' : World} {l : List UInt8} (n : Int) (ty : TypeId) (va : Value) (h : IsPlan l [] false) : Is28 w l (.returned (.tuple #[.slice none 0 0, .iface 190 (.agg #[.int .i64 n, .iface ty va])])) w' := ⟨[], _, _, rfl, World.ownsRow_nil _ _ _ _, .inr ⟨⟨n, ty, va, rfl⟩, h⟩⟩
set_option maxHeartbeats 4000000 in
set_option maxRecDepth 100000 in
theorem c112_long (s : ByteArray) (w : World) (hs : s.size ≤ 1048576) (h300 : 300 < s.size) (hv : VarsR w) :
 Calls Tryz.prog 112 #[.string s] w fun e w' => Is28 w s.data.toList e w' ∧ Below w.heap.size w w' := by
 have HR : Hid (IsPlan s.data.toList [] false) := read_long (by simpa using h300)
 obtain ⟨t3, v3, g3⟩ := hv.g3
 go_enter Tryz.func112, Tryz.ntmps112
 go_wp2_with fail
 go_region_with (go_at_call 123; refine (c123 _ _).mono ?_; rintro e w' ⟨⟨n, rfl⟩, rfl⟩)
 all_goals go_wp2
 all_goals go_ret2
 all_goals exact ⟨is28_no _ _ _ HR.out, by first | exact Below.refl _ _ | exact (Below.refl _ _).drew⟩
end Go.Proofs.YtboojefodbjbcaaGreatDoor.G

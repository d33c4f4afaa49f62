import Derived.Test.YtboojefodbjbcaaGreatDoorZR00
import Derived.Test.YtboojefodbjbcaaGreatDoorZR05
namespace Go.Proofs.YtboojefodbjbcaaGreatDoor.G
set_option linter.unusedSimpArgs false
open Go.RowKit
def stepM (ms : List M3) (k : Nat) : Bool := okM (ms.getD k m3z) && (decide (k = 0) || Op.bytesLess (ms.getD (k - 1) m3z).nm.toList (ms.getD k m3z).nm.toList)
def planOk (ms : List M3) : Bool := decide (ms.length ≤ 30) && (List.range ms.length).all (stepM ms)
theorem plan_iff (ms : List M3) : planOk ms = true ↔ ms.length ≤ 30 ∧ ∀ k, k < ms.length → stepM ms k = true := by simp [planOk]
def formP (ms : List M3) : List UInt8 := if planOk ms = true ∧ (ms.flatMap makeL).length ≤ 300 then ms.flatMap makeL else []
theorem plan_bad {ms : List M3} {k : Nat} (h : k < ms.length) (hs : stepM ms k = false) : planOk ms = false := by
 cases hp : planOk ms
 · rfl
 · have := ((plan_iff ms).1 hp).2 k h
   rw [hs] at this; cases this
theorem form_bad {ms : List M3} {k : Nat} (h : k < ms.length) (hs : stepM ms k = false) : formP ms = [] := by
 unfold formP; rw [if_neg (by simp [plan_bad h hs])]
theorem form_long {ms : List M3} (h : 30 < ms.length) : formP ms = [] := by
 unfold formP; rw [if_neg (by rw [plan_iff]; omega)]
theorem ok_sizes {x : M3} (h : okM x = true) : x.nm.size ≤ 20 ∧ x.tl.size ≤ 20 ∧ x.ar.size ≤ 300 := by
 simp [okM, nameOk] at h
 exact ⟨h.1.1.1.2, h.1.2.1.2, by omega⟩
theorem quote_size {s : ByteArray} (h : s.size ≤ 300) : (ofL (quoteL s.data.toList)).size ≤ 902 := by
 have := quote_len s.data.toList
 have e : s.data.toList.length = s.size := by simp
 rw [ofL_size]; omega
theorem step_ok {ms : List M3} {k : Nat} (h : stepM ms k = true) : okM (ms.getD k m3z) = true := by
 unfold stepM at h
 cases hx : okM (ms.getD k m3z)
 · rw [hx] at h; cases h
 · rfl
theorem make_len {x : M3} (h : okM x = true) : (makeL x).length ≤ 950 := by
 obtain ⟨h1, h2, h3⟩ := ok_sizes h
 have s3 := quote_size h3
 rw [ofL_size] at s3
 have e1 : x.nm.data.toList.length = x.nm.size := by simp
 have e2 : x.tl.data.toList.length = x.tl.size := by simp
 simp only [makeL, bodyL, List.length_append, List.length_cons, List.length_nil, e1, e2]
 omega
theorem flat_snocM {ms : List M3} {k : Nat} (hk : k < ms.length) : (ms.take (k + 1)).flatMap makeL = (ms.take k).flatMap makeL ++ makeL (ms.getD k m3z) := by
 have e : ms.getD k m3z = ms[k] := by simp [hk]
 rw [List.take_succ_eq_append_getElem hk, List.flatMap_append, e]; simp
theorem flat_lenM {ms : List M3} : ∀ k, k ≤ ms.length → (∀ j, j < k → stepM ms j = true) → ((ms.take k).flatMap makeL).length ≤ 950 * k := by
 intro k
 induction k with
 | zero => intro _ _; simp
 | succ k ih =>
  intro hk hd
  rw [flat_snocM (by omega), List.length_append]
  have := ih (by omega) (fun j hj => hd j (by omega))
  have := make_len (step_ok (hd k (by omega)))
  omega
theorem ret_strv {a b : ByteArray} (h : a = b) : Value.string a = .string b := by rw [h]
theorem line_eq (l : List UInt8) (x : M3) : ofL l ++ (⟨#[109, 97, 107, 101, 32]⟩ : ByteArray) ++ x.nm ++ (⟨#[32]⟩ : ByteArray) ++ x.tl ++ (⟨#[32]⟩ : ByteArray) ++ ofL (quoteL x.ar.data.toList) ++ (⟨#[10]⟩ : ByteArray) = ofL (l ++ makeL x) := by
 apply ByteArray.ext
 simp [ofL, makeL, bodyL]
theorem wrap_nat (q : Nat) (h : q < 1048577) : IntKind.i64.wrap (q : Int) = (q : Int) := by
 have h1 : (q : Int) % 2 ^ 64 = q := by omega
 simp only [IntKind.wrap, IntKind.bits, IntKind.signed, h1]
 rw [if_neg (by simp; omega)]
set_option maxHeartbeats 4000000 in
theorem c151 (a : Option Addr) (cap : Nat) (is : List M3) (w : World) (hs : ∀ i, (is.getD i m3z).le 1048576) (hl : is.length ≤ 1048576) (hat : MksAt w a is) :
 Calls Tryz.prog 151 #[.slice a is.length cap] w fun e w' => e = .returned (.string (ofL (formP is))) ∧ Below w.heap.size w w' := by
 obtain ⟨b, off, hc⟩ := mks_some hat
 have HC : Hid (is = [] ∨ (a = some ⟨b, off, none⟩ ∧ b < w.heap.size ∧ ∀ i, i < is.length → w.cell? ⟨b, off + i * 3, none⟩ = some (.string (is.getD i m3z).nm) ∧ w.cell? ⟨b, off + i * 3 + 1, none⟩ = some (.string (is.getD i m3z).tl) ∧ w.cell? ⟨b, off + i * 3 + 2, none⟩ = some (.string (is.getD i m3z).ar))) := hc
 clear hc hat
 by_cases hbig : 30 < is.length
 · go_enter Tryz.func151, Tryz.ntmps151
   go_wp2
   go_ret
   exact ⟨ret_str (by rw [form_long hbig]; rfl), Below.refl _ _⟩
 · go_enter Tryz.func151, Tryz.ntmps151
   go_wp2_with fail
   go_loopw [3, 4] (fun o i wr => ∃ (k : Nat), k ≤ is.length ∧ i = .int .i64 k ∧ o = .string (ofL ((is.take k).flatMap makeL)) ∧ Below w.heap.size w wr ∧ Hid (∀ j, j < k → stepM is j = true)) (fun _ i _ => is.length - (intOf i).toNat)
   case atStart => exact ⟨0, Nat.zero_le _, rfl, rfl, Below.refl _ _, fun j h => absurd h (Nat.not_lt_zero _)⟩
   case round =>
    obtain ⟨k, hk, rfl, rfl, hb, hdone⟩ := hrel
    have hL : (ofL ((is.take k).flatMap makeL)).size ≤ 950 * 30 := by
     have := flat_lenM k hk hdone.out
     rw [ofL_size]; omega
    by_cases hlt : k < is.length
    · rcases HC.out with hss | ⟨ha, hbw, hcell⟩
      · rw [hss] at hlt; exact absurd hlt (Nat.not_lt_zero _)
      subst ha
      have HB : Hid (Below w.heap.size w wr) := hb
      have g0 := (hb.cell (p := ⟨b, off + k * 3, none⟩) hbw).trans (hcell k hlt).1
      have g1 := (hb.cell (p := ⟨b, off + k * 3 + 1, none⟩) hbw).trans (hcell k hlt).2.1
      have g2 := (hb.cell (p := ⟨b, off + k * 3 + 2, none⟩) hbw).trans (hcell k hlt).2.2
      have hsx : Hid ((is.getD k m3z).le 1048700) := ⟨Nat.le_trans (hs k).1 (by omega), Nat.le_trans (hs k).2.1 (by omega), Nat.le_trans (hs k).2.2 (by omega)⟩
      have HT : Hid ((is.take (k + 1)).flatMap makeL = (is.take k).flatMap makeL ++ makeL (is.getD k m3z)) := flat_snocM hlt
      generalize (is.take k).flatMap makeL = l at *
      rcases Nat.eq_zero_or_pos k with h0 | h0
      · subst h0
        have HS : Hid (stepM is 0 = okM (is.getD 0 m3z)) := by simp [stepM, Hid]
        simp only [Nat.zero_mul, Nat.add_zero] at g0 g1 g2
        generalize is.getD 0 m3z = x at *
        clear hcell hb
        go_wp2_with fail
        have HBW : Hid (Below w.heap.size w (wr.alloc (.cells #[.string x.nm, .string x.tl, .string x.ar] 51))) := HB.out.alloc HB.out.size _
        have m0 : (wr.alloc (.cells #[.string x.nm, .string x.tl, .string x.ar] 51)).cell? ⟨wr.heap.size, 0, none⟩ = some (.string x.nm) := by simp
        have m1 : (wr.alloc (.cells #[.string x.nm, .string x.tl, .string x.ar] 51)).cell? ⟨wr.heap.size, 1, none⟩ = some (.string x.tl) := by simp
        have m2 : (wr.alloc (.cells #[.string x.nm, .string x.tl, .string x.ar] 51)).cell? ⟨wr.heap.size, 2, none⟩ = some (.string x.ar) := by simp
        have hmz : wr.heap.size < (wr.alloc (.cells #[.string x.nm, .string x.tl, .string x.ar] 51)).heap.size := by simp
        clear g0 g1 g2
        generalize (wr.alloc (.cells #[.string x.nm, .string x.tl, .string x.ar] 51)) = W at *
        cases hx : okM x
        · refine wp_region_held_drew (S := (fun u => u.cell? ⟨wr.heap.size, 0, none⟩ = some (.string x.nm) ∧ u.cell? ⟨wr.heap.size, 1, none⟩ = some (.string x.tl) ∧ u.cell? ⟨wr.heap.size, 2, none⟩ = some (.string x.ar))) (by kernel_rfl) ?_ (fun hHeld => ?_)
          · ((try dsimp only); go_keep)
          refine tk (i := 0) (oi := ⟨some 19, .load 51 (.tmp 5), 51, _, _, none⟩) (v := ?_) rfl (by kernel_rfl) rfl ?e hHeld ?_
          case e => intro wq hSw; (try dsimp only at hSw); go_simp; try with_reducible rfl
          try simp only [qq]
          refine rd (i := 1) (o := ⟨some 20, .call ⟨.value (.func 30), #[.tmp 19], #[51]⟩, 4, _, _, none⟩) rfl (by kernel_rfl) (fun K hK => ?_)
          go_simp
          refine (c30v hx _ hsx.out).mono ?_
          rintro e w1 ⟨rfl, hb1⟩
          have HB1 : Hid (Below W.heap.size W w1) := ((Below.refl _ _).drew).trans hb1
          have p0 := (HB1.out.cell (p := ⟨wr.heap.size, 0, none⟩) hmz).trans m0
          have p1 := (HB1.out.cell (p := ⟨wr.heap.size, 1, none⟩) hmz).trans m1
          have p2 := (HB1.out.cell (p := ⟨wr.heap.size, 2, none⟩) hmz).trans m2
          go_wp2_with fail
          clear hHeld
          refine hK.out _ _ ?_ (fun hHeld => ?_)
          · ((try dsimp only); go_keep)
          clear hK K
          try simp only [qq]
          refine tk (i := 2) (oi := ⟨some 21, .unOp .not 4 (.tmp 20), 4, _, _, none⟩) (v := ?_) rfl (by kernel_rfl) rfl ?e hHeld ?_
          case e => intro wq hSw; (try dsimp only at hSw); go_simp; try with_reducible rfl
          try simp only [qq]
          refine tk (i := 3) (oi := ⟨some 22, .move (.tmp 21), 4, _, _, none⟩) (v := ?_) rfl (by kernel_rfl) rfl ?e hHeld ?_
          case e => intro wq hSw; (try dsimp only at hSw); go_simp; try with_reducible rfl
          try simp only [qq]
          refine tu (i := 4) (oi := ⟨some 23, .move (.tmp 4), 3, _, _, some (3, false)⟩) rfl (by kernel_rfl) rfl hHeld ?_
          try simp only [qq]
          refine tu (i := 5) (oi := ⟨some 24, .binOp .gtr 3 (.tmp 23) (.const (.int .i64 0)) 3, 4, _, _, some (3, false)⟩) rfl (by kernel_rfl) rfl hHeld ?_
          try simp only [qq]
          refine tu (i := 6) (oi := ⟨some 25, .move (.tmp 24), 4, _, _, some (3, false)⟩) rfl (by kernel_rfl) rfl hHeld ?_
          try simp only [qq]
          refine tu (i := 7) (oi := ⟨some 26, .move (.tmp 0), 95, _, _, some (6, true)⟩) rfl (by kernel_rfl) rfl hHeld ?_
          try simp only [qq]
          refine tu (i := 8) (oi := ⟨some 27, .move (.tmp 4), 3, _, _, some (6, true)⟩) rfl (by kernel_rfl) rfl hHeld ?_
          try simp only [qq]
          refine tu (i := 9) (oi := ⟨some 28, .binOp .sub 3 (.tmp 27) (.const (.int .i64 1)) 3, 3, _, _, some (6, true)⟩) rfl (by kernel_rfl) rfl hHeld ?_
          try simp only [qq]
          refine tu (i := 10) (oi := ⟨some 29, .indexAddr 95 (.tmp 26) (.tmp 28), 0, _, _, some (6, true)⟩) rfl (by kernel_rfl) rfl hHeld ?_
          try simp only [qq]
          refine tu (i := 11) (oi := ⟨some 30, .fieldAddr 51 (.tmp 29) 0, 0, _, _, some (6, true)⟩) rfl (by kernel_rfl) rfl hHeld ?_
          try simp only [qq]
          refine tu (i := 12) (oi := ⟨some 31, .load 9 (.tmp 30), 9, _, _, some (6, true)⟩) rfl (by kernel_rfl) rfl hHeld ?_
          try simp only [qq]
          refine tu (i := 13) (oi := ⟨some 32, .fieldAddr 51 (.tmp 5) 0, 0, _, _, some (6, true)⟩) rfl (by kernel_rfl) rfl hHeld ?_
          try simp only [qq]
          refine tu (i := 14) (oi := ⟨some 33, .load 9 (.tmp 32), 9, _, _, some (6, true)⟩) rfl (by kernel_rfl) rfl hHeld ?_
          try simp only [qq]
          refine tu (i := 15) (oi := ⟨some 34, .binOp .geq 9 (.tmp 31) (.tmp 33) 9, 4, _, _, some (6, true)⟩) rfl (by kernel_rfl) rfl hHeld ?_
          try simp only [qq]
          refine tu (i := 16) (oi := ⟨some 35, .pick (.tmp 25) (.tmp 34) (.const (.bool false)), 4, _, _, some (3, false)⟩) rfl (by kernel_rfl) rfl hHeld ?_
          try simp only [qq]
          refine tk (i := 17) (oi := ⟨some 36, .pick (.tmp 22) (.const (.bool true)) (.tmp 35), 4, _, _, none⟩) (v := ?_) rfl (by kernel_rfl) rfl ?e hHeld ?_
          case e => intro wq hSw; (try dsimp only at hSw); go_simp; try with_reducible rfl
          try simp only [qq]
          refine wpAnyH_done (by kernel_rfl) ?_ _
          have hB1 : Below w.heap.size w w1 := HBW.out.trans (HB1.out.mono HBW.out.size)
          rw [hx] at HS
          clear hHeld
          go_wp2
          go_ret
          exact ⟨ret_str (by rw [form_bad hlt HS.out]; rfl), hB1⟩
        · refine wp_region_held_drew (S := (fun u => u.cell? ⟨wr.heap.size, 0, none⟩ = some (.string x.nm) ∧ u.cell? ⟨wr.heap.size, 1, none⟩ = some (.string x.tl) ∧ u.cell? ⟨wr.heap.size, 2, none⟩ = some (.string x.ar))) (by kernel_rfl) ?_ (fun hHeld => ?_)
          · ((try dsimp only); go_keep)
          refine tk (i := 0) (oi := ⟨some 19, .load 51 (.tmp 5), 51, _, _, none⟩) (v := ?_) rfl (by kernel_rfl) rfl ?e hHeld ?_
          case e => intro wq hSw; (try dsimp only at hSw); go_simp; try with_reducible rfl
          try simp only [qq]
          refine rd (i := 1) (o := ⟨some 20, .call ⟨.value (.func 30), #[.tmp 19], #[51]⟩, 4, _, _, none⟩) rfl (by kernel_rfl) (fun K hK => ?_)
          go_simp
          refine (c30v hx _ hsx.out).mono ?_
          rintro e w1 ⟨rfl, hb1⟩
          have HB1 : Hid (Below W.heap.size W w1) := ((Below.refl _ _).drew).trans hb1
          have p0 := (HB1.out.cell (p := ⟨wr.heap.size, 0, none⟩) hmz).trans m0
          have p1 := (HB1.out.cell (p := ⟨wr.heap.size, 1, none⟩) hmz).trans m1
          have p2 := (HB1.out.cell (p := ⟨wr.heap.size, 2, none⟩) hmz).trans m2
          go_wp2_with fail
          clear hHeld
          refine hK.out _ _ ?_ (fun hHeld => ?_)
          · ((try dsimp only); go_keep)
          clear hK K
          try simp only [qq]
          refine tk (i := 2) (oi := ⟨some 21, .unOp .not 4 (.tmp 20), 4, _, _, none⟩) (v := ?_) rfl (by kernel_rfl) rfl ?e hHeld ?_
          case e => intro wq hSw; (try dsimp only at hSw); go_simp; try with_reducible rfl
          try simp only [qq]
          refine tk (i := 3) (oi := ⟨some 22, .move (.tmp 21), 4, _, _, none⟩) (v := ?_) rfl (by kernel_rfl) rfl ?e hHeld ?_
          case e => intro wq hSw; (try dsimp only at hSw); go_simp; try with_reducible rfl
          try simp only [qq]
          refine tk (i := 4) (oi := ⟨some 23, .move (.tmp 4), 3, _, _, some (3, false)⟩) (v := ?_) rfl (by kernel_rfl) rfl ?e hHeld ?_
          case e => intro wq hSw; (try dsimp only at hSw); go_simp; try with_reducible rfl
          try simp only [qq]
          refine tk (i := 5) (oi := ⟨some 24, .binOp .gtr 3 (.tmp 23) (.const (.int .i64 0)) 3, 4, _, _, some (3, false)⟩) (v := ?_) rfl (by kernel_rfl) rfl ?e hHeld ?_
          case e => intro wq hSw; (try dsimp only at hSw); go_simp; try with_reducible rfl
          try simp only [qq]
          refine tk (i := 6) (oi := ⟨some 25, .move (.tmp 24), 4, _, _, some (3, false)⟩) (v := ?_) rfl (by kernel_rfl) rfl ?e hHeld ?_
          case e => intro wq hSw; (try dsimp only at hSw); go_simp; try with_reducible rfl
          try simp only [qq]
          refine tu (i := 7) (oi := ⟨some 26, .move (.tmp 0), 95, _, _, some (6, true)⟩) rfl (by kernel_rfl) rfl hHeld ?_
          try simp only [qq]
          refine tu (i := 8) (oi := ⟨some 27, .move (.tmp 4), 3, _, _, some (6, true)⟩) rfl (by kernel_rfl) rfl hHeld ?_
          try simp only [qq]
          refine tu (i := 9) (oi := ⟨some 28, .binOp .sub 3 (.tmp 27) (.const (.int .i64 1)) 3, 3, _, _, some (6, true)⟩) rfl (by kernel_rfl) rfl hHeld ?_
          try simp only [qq]
          refine tu (i := 10) (oi := ⟨some 29, .indexAddr 95 (.tmp 26) (.tmp 28), 0, _, _, some (6, true)⟩) rfl (by kernel_rfl) rfl hHeld ?_
          try simp only [qq]
          refine tu (i := 11) (oi := ⟨some 30, .fieldAddr 51 (.tmp 29) 0, 0, _, _, some (6, true)⟩) rfl (by kernel_rfl) rfl hHeld ?_
          try simp only [qq]
          refine tu (i := 12) (oi := ⟨some 31, .load 9 (.tmp 30), 9, _, _, some (6, true)⟩) rfl (by kernel_rfl) rfl hHeld ?_
          try simp only [qq]
          refine tu (i := 13) (oi := ⟨some 32, .fieldAddr 51 (.tmp 5) 0, 0, _, _, some (6, true)⟩) rfl (by kernel_rfl) rfl hHeld ?_
          try simp only [qq]
          refine tu (i := 14) (oi := ⟨some 33, .load 9 (.tmp 32), 9, _, _, some (6, true)⟩) rfl (by kernel_rfl) rfl hHeld ?_
          try simp only [qq]
          refine tu (i := 15) (oi := ⟨some 34, .binOp .geq 9 (.tmp 31) (.tmp 33) 9, 4, _, _, some (6, true)⟩) rfl (by kernel_rfl) rfl hHeld ?_
          try simp only [qq]
          refine tk (i := 16) (oi := ⟨some 35, .pick (.tmp 25) (.tmp 34) (.const (.bool false)), 4, _, _, some (3, false)⟩) (v := ?_) rfl (by kernel_rfl) rfl ?e hHeld ?_
          case e => intro wq hSw; (try dsimp only at hSw); go_simp; try with_reducible rfl
          try simp only [qq]
          refine tk (i := 17) (oi := ⟨some 36, .pick (.tmp 22) (.const (.bool true)) (.tmp 35), 4, _, _, none⟩) (v := ?_) rfl (by kernel_rfl) rfl ?e hHeld ?_
          case e => intro wq hSw; (try dsimp only at hSw); go_simp; try with_reducible rfl
          try simp only [qq]
          refine wpAnyH_done (by kernel_rfl) ?_ _
          have hB1 : Below w.heap.size w w1 := HBW.out.trans (HB1.out.mono HBW.out.size)
          rw [hx] at HS
          clear hHeld
          have hd' : Hid (∀ j, j < 0 + 1 → stepM is j = true) := fun j hj => by
           rcases Nat.lt_or_ge j 0 with h | h
           · exact hdone.out j h
           · obtain rfl : j = 0 := by omega
             exact HS.out
          have hwz : wr.heap.size < w1.heap.size := Nat.lt_of_lt_of_le hmz HB1.out.size
          obtain ⟨j1, j2, j3⟩ := ok_sizes hx
          have s3 := quote_size j3
          have k0 : ¬ 9223372036854775807 < (ofL l).size + 5 := by omega
          have k1 : ¬ 9223372036854775807 < (ofL l).size + 5 + x.nm.size := by omega
          have k2 : ¬ 9223372036854775807 < (ofL l).size + 5 + x.nm.size + 1 := by omega
          have k2' : ¬ 9223372036854775807 ≤ (ofL l).size + 5 + x.nm.size := by omega
          have k3 : ¬ 9223372036854775807 < (ofL l).size + 5 + x.nm.size + 1 + x.tl.size := by omega
          have k4 : ¬ 9223372036854775807 < (ofL l).size + 5 + x.nm.size + 1 + x.tl.size + 1 := by omega
          have k4' : ¬ 9223372036854775807 ≤ (ofL l).size + 5 + x.nm.size + 1 + x.tl.size := by omega
          have k5 : ¬ 9223372036854775807 < (ofL l).size + 5 + x.nm.size + 1 + x.tl.size + 1 + (ofL (quoteL x.ar.data.toList)).size := by omega
          have k6 : ¬ 9223372036854775807 < (ofL l).size + 5 + x.nm.size + 1 + x.tl.size + 1 + (ofL (quoteL x.ar.data.toList)).size + 1 := by omega
          have k6' : ¬ 9223372036854775807 ≤ (ofL l).size + 5 + x.nm.size + 1 + x.tl.size + 1 + (ofL (quoteL x.ar.data.toList)).size := by omega
          have hxar : x.ar.size ≤ 1048700 := by omega
          go_wp2_with fail
          go_region_held3 (fun u => u.cell? ⟨wr.heap.size, 0, none⟩ = some (.string x.nm) ∧ u.cell? ⟨wr.heap.size, 1, none⟩ = some (.string x.tl) ∧ u.cell? ⟨wr.heap.size, 2, none⟩ = some (.string x.ar)) (go_keep) (first | (go_at_call 163; refine (c163' x.ar _ hxar).mono ?_; rintro e w2 ⟨rfl, hb2⟩; have HB2 : Hid (Below w.heap.size w w2) := hB1.trans (((Below.refl _ _).drew.trans hb2).mono hB1.size); have e0 := (hb2.cell (p := ⟨wr.heap.size, 0, none⟩) (by simpa using hwz)).trans p0; have e1 := (hb2.cell (p := ⟨wr.heap.size, 1, none⟩) (by simpa using hwz)).trans p1; have e2 := (hb2.cell (p := ⟨wr.heap.size, 2, none⟩) (by simpa using hwz)).trans p2))
          all_goals go_wp2
          all_goals go_roundw
          all_goals first
           | exact ⟨0 + 1, by omega, by go_num, ret_strv (by rw [HT.out]; exact line_eq l x), HB2.out, hd'⟩
           | (simp [intOf]; omega)
      · obtain ⟨q, hq⟩ : ∃ q, q + 1 = k := ⟨k - 1, by omega⟩
        have g3' := (hb.cell (p := ⟨b, off + q * 3, none⟩) hbw).trans (hcell q (by omega)).1
        have hbr0 : b < wr.heap.size := Nat.lt_of_lt_of_le hbw hb.size
        have HS : Hid (stepM is k = (okM (is.getD k m3z) && Op.bytesLess (is.getD q m3z).nm.toList (is.getD k m3z).nm.toList)) := by
         have e1 : decide (k = 0) = false := decide_eq_false (by omega)
         have e2 : k - 1 = q := by omega
         unfold stepM; rw [e1, e2]; rfl
        have hm0 : (0 : Int) < (k : Int) := by omega
        have hm1 : decide ((0 : Int) < (k : Int)) = true := decide_eq_true hm0
        generalize is.getD k m3z = x at *
        generalize is.getD q m3z = y at *
        have hwr : IntKind.i64.wrap ((k : Int) - 1) = (q : Int) := by rw [show (k : Int) - 1 = (q : Int) by omega]; exact wrap_nat q (by omega)
        have hql : (q : Int) < (is.length : Int) := by omega
        clear hq
        clear hcell hb
        go_wp2_with fail
        have HBW : Hid (Below w.heap.size w (wr.alloc (.cells #[.string x.nm, .string x.tl, .string x.ar] 51))) := HB.out.alloc HB.out.size _
        have m0 : (wr.alloc (.cells #[.string x.nm, .string x.tl, .string x.ar] 51)).cell? ⟨wr.heap.size, 0, none⟩ = some (.string x.nm) := by simp
        have m1 : (wr.alloc (.cells #[.string x.nm, .string x.tl, .string x.ar] 51)).cell? ⟨wr.heap.size, 1, none⟩ = some (.string x.tl) := by simp
        have m2 : (wr.alloc (.cells #[.string x.nm, .string x.tl, .string x.ar] 51)).cell? ⟨wr.heap.size, 2, none⟩ = some (.string x.ar) := by simp
        have hmz : wr.heap.size < (wr.alloc (.cells #[.string x.nm, .string x.tl, .string x.ar] 51)).heap.size := by simp
        have hbr : b < (wr.alloc (.cells #[.string x.nm, .string x.tl, .string x.ar] 51)).heap.size := Nat.lt_trans hbr0 hmz
        have g3 : (wr.alloc (.cells #[.string x.nm, .string x.tl, .string x.ar] 51)).cell? ⟨b, off + q * 3, none⟩ = some (.string y.nm) := (World.cell?_alloc_lt _ _ ⟨b, off + q * 3, none⟩ hbr0).trans g3'
        clear g3'
        clear g0 g1 g2
        generalize (wr.alloc (.cells #[.string x.nm, .string x.tl, .string x.ar] 51)) = W at *
        cases hx : okM x
        · cases hy : Op.bytesLess y.nm.toList x.nm.toList
          · refine wp_region_held_drew (S := (fun u => u.cell? ⟨wr.heap.size, 0, none⟩ = some (.string x.nm) ∧ u.cell? ⟨wr.heap.size, 1, none⟩ = some (.string x.tl) ∧ u.cell? ⟨wr.heap.size, 2, none⟩ = some (.string x.ar) ∧ u.cell? ⟨b, off + q * 3, none⟩ = some (.string y.nm))) (by kernel_rfl) ?_ (fun hHeld => ?_)
            · ((try dsimp only); go_keep)
            refine tk (i := 0) (oi := ⟨some 19, .load 51 (.tmp 5), 51, _, _, none⟩) (v := ?_) rfl (by kernel_rfl) rfl ?e hHeld ?_
            case e => intro wq hSw; (try dsimp only at hSw); go_simp; try with_reducible rfl
            try simp only [qq]
            refine rd (i := 1) (o := ⟨some 20, .call ⟨.value (.func 30), #[.tmp 19], #[51]⟩, 4, _, _, none⟩) rfl (by kernel_rfl) (fun K hK => ?_)
            go_simp
            refine (c30v hx _ hsx.out).mono ?_
            rintro e w1 ⟨rfl, hb1⟩
            have HB1 : Hid (Below W.heap.size W w1) := ((Below.refl _ _).drew).trans hb1
            have p0 := (HB1.out.cell (p := ⟨wr.heap.size, 0, none⟩) hmz).trans m0
            have p1 := (HB1.out.cell (p := ⟨wr.heap.size, 1, none⟩) hmz).trans m1
            have p2 := (HB1.out.cell (p := ⟨wr.heap.size, 2, none⟩) hmz).trans m2
            have p3 := (HB1.out.cell (p := ⟨b, off + q * 3, none⟩) hbr).trans g3
            go_wp2_with fail
            clear hHeld
            refine hK.out _ _ ?_ (fun hHeld => ?_)
            · ((try dsimp only); go_keep)
            clear hK K
            try simp only [qq]
            refine tk (i := 2) (oi := ⟨some 21, .unOp .not 4 (.tmp 20), 4, _, _, none⟩) (v := ?_) rfl (by kernel_rfl) rfl ?e hHeld ?_
            case e => intro wq hSw; (try dsimp only at hSw); go_simp; try with_reducible rfl
            try simp only [qq]
            refine tk (i := 3) (oi := ⟨some 22, .move (.tmp 21), 4, _, _, none⟩) (v := ?_) rfl (by kernel_rfl) rfl ?e hHeld ?_
            case e => intro wq hSw; (try dsimp only at hSw); go_simp; try with_reducible rfl
            try simp only [qq]
            refine tu (i := 4) (oi := ⟨some 23, .move (.tmp 4), 3, _, _, some (3, false)⟩) rfl (by kernel_rfl) rfl hHeld ?_
            try simp only [qq]
            refine tu (i := 5) (oi := ⟨some 24, .binOp .gtr 3 (.tmp 23) (.const (.int .i64 0)) 3, 4, _, _, some (3, false)⟩) rfl (by kernel_rfl) rfl hHeld ?_
            try simp only [qq]
            refine tu (i := 6) (oi := ⟨some 25, .move (.tmp 24), 4, _, _, some (3, false)⟩) rfl (by kernel_rfl) rfl hHeld ?_
            try simp only [qq]
            refine tu (i := 7) (oi := ⟨some 26, .move (.tmp 0), 95, _, _, some (6, true)⟩) rfl (by kernel_rfl) rfl hHeld ?_
            try simp only [qq]
            refine tu (i := 8) (oi := ⟨some 27, .move (.tmp 4), 3, _, _, some (6, true)⟩) rfl (by kernel_rfl) rfl hHeld ?_
            try simp only [qq]
            refine tu (i := 9) (oi := ⟨some 28, .binOp .sub 3 (.tmp 27) (.const (.int .i64 1)) 3, 3, _, _, some (6, true)⟩) rfl (by kernel_rfl) rfl hHeld ?_
            try simp only [qq]
            refine tu (i := 10) (oi := ⟨some 29, .indexAddr 95 (.tmp 26) (.tmp 28), 0, _, _, some (6, true)⟩) rfl (by kernel_rfl) rfl hHeld ?_
            try simp only [qq]
            refine tu (i := 11) (oi := ⟨some 30, .fieldAddr 51 (.tmp 29) 0, 0, _, _, some (6, true)⟩) rfl (by kernel_rfl) rfl hHeld ?_
            try simp only [qq]
            refine tu (i := 12) (oi := ⟨some 31, .load 9 (.tmp 30), 9, _, _, some (6, true)⟩) rfl (by kernel_rfl) rfl hHeld ?_
            try simp only [qq]
            refine tu (i := 13) (oi := ⟨some 32, .fieldAddr 51 (.tmp 5) 0, 0, _, _, some (6, true)⟩) rfl (by kernel_rfl) rfl hHeld ?_
            try simp only [qq]
            refine tu (i := 14) (oi := ⟨some 33, .load 9 (.tmp 32), 9, _, _, some (6, true)⟩) rfl (by kernel_rfl) rfl hHeld ?_
            try simp only [qq]
            refine tu (i := 15) (oi := ⟨some 34, .binOp .geq 9 (.tmp 31) (.tmp 33) 9, 4, _, _, some (6, true)⟩) rfl (by kernel_rfl) rfl hHeld ?_
            try simp only [qq]
            refine tu (i := 16) (oi := ⟨some 35, .pick (.tmp 25) (.tmp 34) (.const (.bool false)), 4, _, _, some (3, false)⟩) rfl (by kernel_rfl) rfl hHeld ?_
            try simp only [qq]
            refine tk (i := 17) (oi := ⟨some 36, .pick (.tmp 22) (.const (.bool true)) (.tmp 35), 4, _, _, none⟩) (v := ?_) rfl (by kernel_rfl) rfl ?e hHeld ?_
            case e => intro wq hSw; (try dsimp only at hSw); go_simp; try with_reducible rfl
            try simp only [qq]
            refine wpAnyH_done (by kernel_rfl) ?_ _
            have hB1 : Below w.heap.size w w1 := HBW.out.trans (HB1.out.mono HBW.out.size)
            rw [hx, hy] at HS
            clear hHeld
            go_wp2
            go_ret
            exact ⟨ret_str (by rw [form_bad hlt HS.out]; rfl), hB1⟩
          · refine wp_region_held_drew (S := (fun u => u.cell? ⟨wr.heap.size, 0, none⟩ = some (.string x.nm) ∧ u.cell? ⟨wr.heap.size, 1, none⟩ = some (.string x.tl) ∧ u.cell? ⟨wr.heap.size, 2, none⟩ = some (.string x.ar) ∧ u.cell? ⟨b, off + q * 3, none⟩ = some (.string y.nm))) (by kernel_rfl) ?_ (fun hHeld => ?_)
            · ((try dsimp only); go_keep)
            refine tk (i := 0) (oi := ⟨some 19, .load 51 (.tmp 5), 51, _, _, none⟩) (v := ?_) rfl (by kernel_rfl) rfl ?e hHeld ?_
            case e => intro wq hSw; (try dsimp only at hSw); go_simp; try with_reducible rfl
            try simp only [qq]
            refine rd (i := 1) (o := ⟨some 20, .call ⟨.value (.func 30), #[.tmp 19], #[51]⟩, 4, _, _, none⟩) rfl (by kernel_rfl) (fun K hK => ?_)
            go_simp
            refine (c30v hx _ hsx.out).mono ?_
            rintro e w1 ⟨rfl, hb1⟩
            have HB1 : Hid (Below W.heap.size W w1) := ((Below.refl _ _).drew).trans hb1
            have p0 := (HB1.out.cell (p := ⟨wr.heap.size, 0, none⟩) hmz).trans m0
            have p1 := (HB1.out.cell (p := ⟨wr.heap.size, 1, none⟩) hmz).trans m1
            have p2 := (HB1.out.cell (p := ⟨wr.heap.size, 2, none⟩) hmz).trans m2
            have p3 := (HB1.out.cell (p := ⟨b, off + q * 3, none⟩) hbr).trans g3
            go_wp2_with fail
            clear hHeld
            refine hK.out _ _ ?_ (fun hHeld => ?_)
            · ((try dsimp only); go_keep)
            clear hK K
            try simp only [qq]
            refine tk (i := 2) (oi := ⟨some 21, .unOp .not 4 (.tmp 20), 4, _, _, none⟩) (v := ?_) rfl (by kernel_rfl) rfl ?e hHeld ?_
            case e => intro wq hSw; (try dsimp only at hSw); go_simp; try with_reducible rfl
            try simp only [qq]
            refine tk (i := 3) (oi := ⟨some 22, .move (.tmp 21), 4, _, _, none⟩) (v := ?_) rfl (by kernel_rfl) rfl ?e hHeld ?_
            case e => intro wq hSw; (try dsimp only at hSw); go_simp; try with_reducible rfl
            try simp only [qq]
            refine tu (i := 4) (oi := ⟨some 23, .move (.tmp 4), 3, _, _, some (3, false)⟩) rfl (by kernel_rfl) rfl hHeld ?_
            try simp only [qq]
            refine tu (i := 5) (oi := ⟨some 24, .binOp .gtr 3 (.tmp 23) (.const (.int .i64 0)) 3, 4, _, _, some (3, false)⟩) rfl (by kernel_rfl) rfl hHeld ?_
            try simp only [qq]
            refine tu (i := 6) (oi := ⟨some 25, .move (.tmp 24), 4, _, _, some (3, false)⟩) rfl (by kernel_rfl) rfl hHeld ?_
            try simp only [qq]
            refine tu (i := 7) (oi := ⟨some 26, .move (.tmp 0), 95, _, _, some (6, true)⟩) rfl (by kernel_rfl) rfl hHeld ?_
            try simp only [qq]
            refine tu (i := 8) (oi := ⟨some 27, .move (.tmp 4), 3, _, _, some (6, true)⟩) rfl (by kernel_rfl) rfl hHeld ?_
            try simp only [qq]
            refine tu (i := 9) (oi := ⟨some 28, .binOp .sub 3 (.tmp 27) (.const (.int .i64 1)) 3, 3, _, _, some (6, true)⟩) rfl (by kernel_rfl) rfl hHeld ?_
            try simp only [qq]
            refine tu (i := 10) (oi := ⟨some 29, .indexAddr 95 (.tmp 26) (.tmp 28), 0, _, _, some (6, true)⟩) rfl (by kernel_rfl) rfl hHeld ?_
            try simp only [qq]
            refine tu (i := 11) (oi := ⟨some 30, .fieldAddr 51 (.tmp 29) 0, 0, _, _, some (6, true)⟩) rfl (by kernel_rfl) rfl hHeld ?_
            try simp only [qq]
            refine tu (i := 12) (oi := ⟨some 31, .load 9 (.tmp 30), 9, _, _, some (6, true)⟩) rfl (by kernel_rfl) rfl hHeld ?_
            try simp only [qq]
            refine tu (i := 13) (oi := ⟨some 32, .fieldAddr 51 (.tmp 5) 0, 0, _, _, some (6, true)⟩) rfl (by kernel_rfl) rfl hHeld ?_
            try simp only [qq]
            refine tu (i := 14) (oi := ⟨some 33, .load 9 (.tmp 32), 9, _, _, some (6, true)⟩) rfl (by kernel_rfl) rfl hHeld ?_
            try simp only [qq]
            refine tu (i := 15) (oi := ⟨some 34, .binOp .geq 9 (.tmp 31) (.tmp 33) 9, 4, _, _, some (6, true)⟩) rfl (by kernel_rfl) rfl hHeld ?_
            try simp only [qq]
            refine tu (i := 16) (oi := ⟨some 35, .pick (.tmp 25) (.tmp 34) (.const (.bool false)), 4, _, _, some (3, false)⟩) rfl (by kernel_rfl) rfl hHeld ?_
            try simp only [qq]
            refine tk (i := 17) (oi := ⟨some 36, .pick (.tmp 22) (.const (.bool true)) (.tmp 35), 4, _, _, none⟩) (v := ?_) rfl (by kernel_rfl) rfl ?e hHeld ?_
            case e => intro wq hSw; (try dsimp only at hSw); go_simp; try with_reducible rfl
            try simp only [qq]
            refine wpAnyH_done (by kernel_rfl) ?_ _
            have hB1 : Below w.heap.size w w1 := HBW.out.trans (HB1.out.mono HBW.out.size)
            rw [hx, hy] at HS
            clear hHeld
            go_wp2
            go_ret
            exact ⟨ret_str (by rw [form_bad hlt HS.out]; rfl), hB1⟩
        · cases hy : Op.bytesLess y.nm.toList x.nm.toList
          · refine wp_region_held_drew (S := (fun u => u.cell? ⟨wr.heap.size, 0, none⟩ = some (.string x.nm) ∧ u.cell? ⟨wr.heap.size, 1, none⟩ = some (.string x.tl) ∧ u.cell? ⟨wr.heap.size, 2, none⟩ = some (.string x.ar) ∧ u.cell? ⟨b, off + q * 3, none⟩ = some (.string y.nm))) (by kernel_rfl) ?_ (fun hHeld => ?_)
            · ((try dsimp only); go_keep)
            refine tk (i := 0) (oi := ⟨some 19, .load 51 (.tmp 5), 51, _, _, none⟩) (v := ?_) rfl (by kernel_rfl) rfl ?e hHeld ?_
            case e => intro wq hSw; (try dsimp only at hSw); go_simp; try with_reducible rfl
            try simp only [qq]
            refine rd (i := 1) (o := ⟨some 20, .call ⟨.value (.func 30), #[.tmp 19], #[51]⟩, 4, _, _, none⟩) rfl (by kernel_rfl) (fun K hK => ?_)
            go_simp
            refine (c30v hx _ hsx.out).mono ?_
            rintro e w1 ⟨rfl, hb1⟩
            have HB1 : Hid (Below W.heap.size W w1) := ((Below.refl _ _).drew).trans hb1
            have p0 := (HB1.out.cell (p := ⟨wr.heap.size, 0, none⟩) hmz).trans m0
            have p1 := (HB1.out.cell (p := ⟨wr.heap.size, 1, none⟩) hmz).trans m1
            have p2 := (HB1.out.cell (p := ⟨wr.heap.size, 2, none⟩) hmz).trans m2
            have p3 := (HB1.out.cell (p := ⟨b, off + q * 3, none⟩) hbr).trans g3
            go_wp2_with fail
            clear hHeld
            refine hK.out _ _ ?_ (fun hHeld => ?_)
            · ((try dsimp only); go_keep)
            clear hK K
            try simp only [qq]
            refine tk (i := 2) (oi := ⟨some 21, .unOp .not 4 (.tmp 20), 4, _, _, none⟩) (v := ?_) rfl (by kernel_rfl) rfl ?e hHeld ?_
            case e => intro wq hSw; (try dsimp only at hSw); go_simp; try with_reducible rfl
            try simp only [qq]
            refine tk (i := 3) (oi := ⟨some 22, .move (.tmp 21), 4, _, _, none⟩) (v := ?_) rfl (by kernel_rfl) rfl ?e hHeld ?_
            case e => intro wq hSw; (try dsimp only at hSw); go_simp; try with_reducible rfl
            try simp only [qq]
            refine tk (i := 4) (oi := ⟨some 23, .move (.tmp 4), 3, _, _, some (3, false)⟩) (v := ?_) rfl (by kernel_rfl) rfl ?e hHeld ?_
            case e => intro wq hSw; (try dsimp only at hSw); go_simp; try with_reducible rfl
            try simp only [qq]
            refine tk (i := 5) (oi := ⟨some 24, .binOp .gtr 3 (.tmp 23) (.const (.int .i64 0)) 3, 4, _, _, some (3, false)⟩) (v := ?_) rfl (by kernel_rfl) rfl ?e hHeld ?_
            case e => intro wq hSw; (try dsimp only at hSw); go_simp; try with_reducible rfl
            try simp only [qq]
            refine tk (i := 6) (oi := ⟨some 25, .move (.tmp 24), 4, _, _, some (3, false)⟩) (v := ?_) rfl (by kernel_rfl) rfl ?e hHeld ?_
            case e => intro wq hSw; (try dsimp only at hSw); go_simp; try with_reducible rfl
            try simp only [qq]
            refine tk (i := 7) (oi := ⟨some 26, .move (.tmp 0), 95, _, _, some (6, true)⟩) (v := ?_) rfl (by kernel_rfl) rfl ?e hHeld ?_
            case e => intro wq hSw; (try dsimp only at hSw); go_simp; try with_reducible rfl
            try simp only [qq]
            refine tk (i := 8) (oi := ⟨some 27, .move (.tmp 4), 3, _, _, some (6, true)⟩) (v := ?_) rfl (by kernel_rfl) rfl ?e hHeld ?_
            case e => intro wq hSw; (try dsimp only at hSw); go_simp; try with_reducible rfl
            try simp only [qq]
            refine tk (i := 9) (oi := ⟨some 28, .binOp .sub 3 (.tmp 27) (.const (.int .i64 1)) 3, 3, _, _, some (6, true)⟩) (v := ?_) rfl (by kernel_rfl) rfl ?e hHeld ?_
            case e => intro wq hSw; (try dsimp only at hSw); go_simp; try with_reducible rfl
            try simp only [qq]
            refine tk (i := 10) (oi := ⟨some 29, .indexAddr 95 (.tmp 26) (.tmp 28), 0, _, _, some (6, true)⟩) (v := ?_) rfl (by kernel_rfl) rfl ?e hHeld ?_
            case e => intro wq hSw; (try dsimp only at hSw); go_simp; try with_reducible rfl
            try simp only [qq]
            refine tk (i := 11) (oi := ⟨some 30, .fieldAddr 51 (.tmp 29) 0, 0, _, _, some (6, true)⟩) (v := ?_) rfl (by kernel_rfl) rfl ?e hHeld ?_
            case e => intro wq hSw; (try dsimp only at hSw); go_simp; try with_reducible rfl
            try simp only [qq]
            refine tk (i := 12) (oi := ⟨some 31, .load 9 (.tmp 30), 9, _, _, some (6, true)⟩) (v := ?_) rfl (by kernel_rfl) rfl ?e hHeld ?_
            case e => intro wq hSw; (try dsimp only at hSw); go_simp; try with_reducible rfl
            try simp only [qq]
            refine tk (i := 13) (oi := ⟨some 32, .fieldAddr 51 (.tmp 5) 0, 0, _, _, some (6, true)⟩) (v := ?_) rfl (by kernel_rfl) rfl ?e hHeld ?_
            case e => intro wq hSw; (try dsimp only at hSw); go_simp; try with_reducible rfl
            try simp only [qq]
            refine tk (i := 14) (oi := ⟨some 33, .load 9 (.tmp 32), 9, _, _, some (6, true)⟩) (v := ?_) rfl (by kernel_rfl) rfl ?e hHeld ?_
            case e => intro wq hSw; (try dsimp only at hSw); go_simp; try with_reducible rfl
            try simp only [qq]
            refine tk (i := 15) (oi := ⟨some 34, .binOp .geq 9 (.tmp 31) (.tmp 33) 9, 4, _, _, some (6, true)⟩) (v := ?_) rfl (by kernel_rfl) rfl ?e hHeld ?_
            case e => intro wq hSw; (try dsimp only at hSw); go_simp; try with_reducible rfl
            try simp only [qq]
            refine tk (i := 16) (oi := ⟨some 35, .pick (.tmp 25) (.tmp 34) (.const (.bool false)), 4, _, _, some (3, false)⟩) (v := ?_) rfl (by kernel_rfl) rfl ?e hHeld ?_
            case e => intro wq hSw; (try dsimp only at hSw); go_simp; try with_reducible rfl
            try simp only [qq]
            refine tk (i := 17) (oi := ⟨some 36, .pick (.tmp 22) (.const (.bool true)) (.tmp 35), 4, _, _, none⟩) (v := ?_) rfl (by kernel_rfl) rfl ?e hHeld ?_
            case e => intro wq hSw; (try dsimp only at hSw); go_simp; try with_reducible rfl
            try simp only [qq]
            refine wpAnyH_done (by kernel_rfl) ?_ _
            have hB1 : Below w.heap.size w w1 := HBW.out.trans (HB1.out.mono HBW.out.size)
            rw [hx, hy] at HS
            clear hHeld
            go_wp2
            go_ret
            exact ⟨ret_str (by rw [form_bad hlt HS.out]; rfl), hB1⟩
          · refine wp_region_held_drew (S := (fun u => u.cell? ⟨wr.heap.size, 0, none⟩ = some (.string x.nm) ∧ u.cell? ⟨wr.heap.size, 1, none⟩ = some (.string x.tl) ∧ u.cell? ⟨wr.heap.size, 2, none⟩ = some (.string x.ar) ∧ u.cell? ⟨b, off + q * 3, none⟩ = some (.string y.nm))) (by kernel_rfl) ?_ (fun hHeld => ?_)
            · ((try dsimp only); go_keep)
            refine tk (i := 0) (oi := ⟨some 19, .load 51 (.tmp 5), 51, _, _, none⟩) (v := ?_) rfl (by kernel_rfl) rfl ?e hHeld ?_
            case e => intro wq hSw; (try dsimp only at hSw); go_simp; try with_reducible rfl
            try simp only [qq]
            refine rd (i := 1) (o := ⟨some 20, .call ⟨.value (.func 30), #[.tmp 19], #[51]⟩, 4, _, _, none⟩) rfl (by kernel_rfl) (fun K hK => ?_)
            go_simp
            refine (c30v hx _ hsx.out).mono ?_
            rintro e w1 ⟨rfl, hb1⟩
            have HB1 : Hid (Below W.heap.size W w1) := ((Below.refl _ _).drew).trans hb1
            have p0 := (HB1.out.cell (p := ⟨wr.heap.size, 0, none⟩) hmz).trans m0
            have p1 := (HB1.out.cell (p := ⟨wr.heap.size, 1, none⟩) hmz).trans m1
            have p2 := (HB1.out.cell (p := ⟨wr.heap.size, 2, none⟩) hmz).trans m2
            have p3 := (HB1.out.cell (p := ⟨b, off + q * 3, none⟩) hbr).trans g3
            go_wp2_with fail
            clear hHeld
            refine hK.out _ _ ?_ (fun hHeld => ?_)
            · ((try dsimp only); go_keep)
            clear hK K
            try simp only [qq]
            refine tk (i := 2) (oi := ⟨some 21, .unOp .not 4 (.tmp 20), 4, _, _, none⟩) (v := ?_) rfl (by kernel_rfl) rfl ?e hHeld ?_
            case e => intro wq hSw; (try dsimp only at hSw); go_simp; try with_reducible rfl
            try simp only [qq]
            refine tk (i := 3) (oi := ⟨some 22, .move (.tmp 21), 4, _, _, none⟩) (v := ?_) rfl (by kernel_rfl) rfl ?e hHeld ?_
            case e => intro wq hSw; (try dsimp only at hSw); go_simp; try with_reducible rfl
            try simp only [qq]
            refine tk (i := 4) (oi := ⟨some 23, .move (.tmp 4), 3, _, _, some (3, false)⟩) (v := ?_) rfl (by kernel_rfl) rfl ?e hHeld ?_
            case e => intro wq hSw; (try dsimp only at hSw); go_simp; try with_reducible rfl
            try simp only [qq]
            refine tk (i := 5) (oi := ⟨some 24, .binOp .gtr 3 (.tmp 23) (.const (.int .i64 0)) 3, 4, _, _, some (3, false)⟩) (v := ?_) rfl (by kernel_rfl) rfl ?e hHeld ?_
            case e => intro wq hSw; (try dsimp only at hSw); go_simp; try with_reducible rfl
            try simp only [qq]
            refine tk (i := 6) (oi := ⟨some 25, .move (.tmp 24), 4, _, _, some (3, false)⟩) (v := ?_) rfl (by kernel_rfl) rfl ?e hHeld ?_
            case e => intro wq hSw; (try dsimp only at hSw); go_simp; try with_reducible rfl
            try simp only [qq]
            refine tk (i := 7) (oi := ⟨some 26, .move (.tmp 0), 95, _, _, some (6, true)⟩) (v := ?_) rfl (by kernel_rfl) rfl ?e hHeld ?_
            case e => intro wq hSw; (try dsimp only at hSw); go_simp; try with_reducible rfl
            try simp only [qq]
            refine tk (i := 8) (oi := ⟨some 27, .move (.tmp 4), 3, _, _, some (6, true)⟩) (v := ?_) rfl (by kernel_rfl) rfl ?e hHeld ?_
            case e => intro wq hSw; (try dsimp only at hSw); go_simp; try with_reducible rfl
            try simp only [qq]
            refine tk (i := 9) (oi := ⟨some 28, .binOp .sub 3 (.tmp 27) (.const (.int .i64 1)) 3, 3, _, _, some (6, true)⟩) (v := ?_) rfl (by kernel_rfl) rfl ?e hHeld ?_
            case e => intro wq hSw; (try dsimp only at hSw); go_simp; try with_reducible rfl
            try simp only [qq]
            refine tk (i := 10) (oi := ⟨some 29, .indexAddr 95 (.tmp 26) (.tmp 28), 0, _, _, some (6, true)⟩) (v := ?_) rfl (by kernel_rfl) rfl ?e hHeld ?_
            case e => intro wq hSw; (try dsimp only at hSw); go_simp; try with_reducible rfl
            try simp only [qq]
            refine tk (i := 11) (oi := ⟨some 30, .fieldAddr 51 (.tmp 29) 0, 0, _, _, some (6, true)⟩) (v := ?_) rfl (by kernel_rfl) rfl ?e hHeld ?_
            case e => intro wq hSw; (try dsimp only at hSw); go_simp; try with_reducible rfl
            try simp only [qq]
            refine tk (i := 12) (oi := ⟨some 31, .load 9 (.tmp 30), 9, _, _, some (6, true)⟩) (v := ?_) rfl (by kernel_rfl) rfl ?e hHeld ?_
            case e => intro wq hSw; (try dsimp only at hSw); go_simp; try with_reducible rfl
            try simp only [qq]
            refine tk (i := 13) (oi := ⟨some 32, .fieldAddr 51 (.tmp 5) 0, 0, _, _, some (6, true)⟩) (v := ?_) rfl (by kernel_rfl) rfl ?e hHeld ?_
            case e => intro wq hSw; (try dsimp only at hSw); go_simp; try with_reducible rfl
            try simp only [qq]
            refine tk (i := 14) (oi := ⟨some 33, .load 9 (.tmp 32), 9, _, _, some (6, true)⟩) (v := ?_) rfl (by kernel_rfl) rfl ?e hHeld ?_
            case e => intro wq hSw; (try dsimp only at hSw); go_simp; try with_reducible rfl
            try simp only [qq]
            refine tk (i := 15) (oi := ⟨some 34, .binOp .geq 9 (.tmp 31) (.tmp 33) 9, 4, _, _, some (6, true)⟩) (v := ?_) rfl (by kernel_rfl) rfl ?e hHeld ?_
            case e => intro wq hSw; (try dsimp only at hSw); go_simp; try with_reducible rfl
            try simp only [qq]
            refine tk (i := 16) (oi := ⟨some 35, .pick (.tmp 25) (.tmp 34) (.const (.bool false)), 4, _, _, some (3, false)⟩) (v := ?_) rfl (by kernel_rfl) rfl ?e hHeld ?_
            case e => intro wq hSw; (try dsimp only at hSw); go_simp; try with_reducible rfl
            try simp only [qq]
            refine tk (i := 17) (oi := ⟨some 36, .pick (.tmp 22) (.const (.bool true)) (.tmp 35), 4, _, _, none⟩) (v := ?_) rfl (by kernel_rfl) rfl ?e hHeld ?_
            case e => intro wq hSw; (try dsimp only at hSw); go_simp; try with_reducible rfl
            try simp only [qq]
            refine wpAnyH_done (by kernel_rfl) ?_ _
            have hB1 : Below w.heap.size w w1 := HBW.out.trans (HB1.out.mono HBW.out.size)
            rw [hx, hy] at HS
            clear hHeld
            have hd' : Hid (∀ j, j < k + 1 → stepM is j = true) := fun j hj => by
             rcases Nat.lt_or_ge j k with h | h
             · exact hdone.out j h
             · obtain rfl : j = k := by omega
               exact HS.out
            have hwz : wr.heap.size < w1.heap.size := Nat.lt_of_lt_of_le hmz HB1.out.size
            obtain ⟨j1, j2, j3⟩ := ok_sizes hx
            have s3 := quote_size j3
            have k0 : ¬ 9223372036854775807 < (ofL l).size + 5 := by omega
            have k1 : ¬ 9223372036854775807 < (ofL l).size + 5 + x.nm.size := by omega
            have k2 : ¬ 9223372036854775807 < (ofL l).size + 5 + x.nm.size + 1 := by omega
            have k2' : ¬ 9223372036854775807 ≤ (ofL l).size + 5 + x.nm.size := by omega
            have k3 : ¬ 9223372036854775807 < (ofL l).size + 5 + x.nm.size + 1 + x.tl.size := by omega
            have k4 : ¬ 9223372036854775807 < (ofL l).size + 5 + x.nm.size + 1 + x.tl.size + 1 := by omega
            have k4' : ¬ 9223372036854775807 ≤ (ofL l).size + 5 + x.nm.size + 1 + x.tl.size := by omega
            have k5 : ¬ 9223372036854775807 < (ofL l).size + 5 + x.nm.size + 1 + x.tl.size + 1 + (ofL (quoteL x.ar.data.toList)).size := by omega
            have k6 : ¬ 9223372036854775807 < (ofL l).size + 5 + x.nm.size + 1 + x.tl.size + 1 + (ofL (quoteL x.ar.data.toList)).size + 1 := by omega
            have k6' : ¬ 9223372036854775807 ≤ (ofL l).size + 5 + x.nm.size + 1 + x.tl.size + 1 + (ofL (quoteL x.ar.data.toList)).size := by omega
            have hxar : x.ar.size ≤ 1048700 := by omega
            go_wp2_with fail
            go_region_held3 (fun u => u.cell? ⟨wr.heap.size, 0, none⟩ = some (.string x.nm) ∧ u.cell? ⟨wr.heap.size, 1, none⟩ = some (.string x.tl) ∧ u.cell? ⟨wr.heap.size, 2, none⟩ = some (.string x.ar)) (go_keep) (first | (go_at_call 163; refine (c163' x.ar _ hxar).mono ?_; rintro e w2 ⟨rfl, hb2⟩; have HB2 : Hid (Below w.heap.size w w2) := hB1.trans (((Below.refl _ _).drew.trans hb2).mono hB1.size); have e0 := (hb2.cell (p := ⟨wr.heap.size, 0, none⟩) (by simpa using hwz)).trans p0; have e1 := (hb2.cell (p := ⟨wr.heap.size, 1, none⟩) (by simpa using hwz)).trans p1; have e2 := (hb2.cell (p := ⟨wr.heap.size, 2, none⟩) (by simpa using hwz)).trans p2))
            all_goals go_wp2
            all_goals go_roundw
            all_goals first
             | exact ⟨k + 1, by omega, by go_num, ret_strv (by rw [HT.out]; exact line_eq l x), HB2.out, hd'⟩
             | (simp [intOf]; omega)
    · have hp : planOk is = true := (plan_iff is).2 ⟨by omega, fun j hj => hdone.out j (by omega)⟩
      have HT : Hid ((is.take k).flatMap makeL = is.flatMap makeL) := by rw [List.take_of_length_le (by omega)]; rfl
      have HV : Hid (formP is = if (is.flatMap makeL).length ≤ 300 then is.flatMap makeL else []) := by unfold formP; simp only [hp, true_and]; trivial
      clear hp
      rw [HT.out] at hL ⊢
      generalize is.flatMap makeL = l at *
      by_cases h300 : 300 < (ofL l).size
      · go_wp2
        go_ret
        exact ⟨ret_str (by rw [HV.out, if_neg (by rw [ofL_size] at h300; omega)]; rfl), hb⟩
      · go_wp2
        go_ret
        exact ⟨ret_str (by rw [HV.out, if_pos (by rw [ofL_size] at h300; omega)]), hb⟩
end Go.Proofs.YtboojefodbjbcaaGreatDoor.G

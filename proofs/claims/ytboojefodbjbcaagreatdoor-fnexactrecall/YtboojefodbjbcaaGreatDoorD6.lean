import Derived.Test.YtboojefodbjbcaaGreatDoorZR23
namespace Go.Proofs.YtboojefodbjbcaaGreatDoor
open Go.RowKit
set_option maxRecDepth 100000
def lastS (ts : List ByteArray) (W : Int) (k : Nat) : ByteArray := if k = 0 then ⟨#[]⟩ else sumS (ts.getD (k - 1) ByteArray.empty) W
theorem step_last {ts : List ByteArray} {W : Int} {k : Nat} (hW : 1 ≤ W ∧ W ≤ 8) : (k = 0 ∨ Op.bytesLess (sumS (ts.getD (k - 1) ByteArray.empty) W).toList (sumS (ts.getD k ByteArray.empty) W).toList = true) ↔ Op.bytesLess (lastS ts W k).toList (sumS (ts.getD k ByteArray.empty) W).toList = true := by
 unfold lastS
 by_cases h : k = 0
 · rw [if_pos h]
   exact ⟨fun _ => less_nil (by rw [sumS_size hW]; omega), fun _ => .inl h⟩
 · rw [if_neg h]
   exact ⟨fun h' => h'.resolve_left h, .inr⟩
theorem lastS_succ (ts : List ByteArray) (W : Int) (k : Nat) : lastS ts W (k + 1) = sumS (ts.getD k ByteArray.empty) W := by
 unfold lastS; rw [if_neg (by omega)]; rfl
set_option maxHeartbeats 2000000 in
theorem c83 (a : Option Addr) (cap : Nat) (ts : List ByteArray) (W : Int) (w : World) (hW : 1 ≤ W ∧ W ≤ 8) (hl : ts.length ≤ 1048576) (hs : ∀ i, (ts.getD i ByteArray.empty).size ≤ 1048576) (hat : StrsAt w a ts) (hm : MaxAt w) :
 Calls Tryz.prog 83 #[.slice a ts.length cap, .int .i64 W] w fun e w' => Rb (TextsOk ts W) e ∧ Below w.heap.size w w' := by
 obtain ⟨b, off, hc⟩ := strs_some hat
 have HC : Hid (ts = [] ∨ (a = some ⟨b, off, none⟩ ∧ b < w.heap.size ∧ ∀ i, i < ts.length → w.cell? ⟨b, off + i, none⟩ = some (.string (ts.getD i ByteArray.empty)))) := hc
 have HS : Hid (∀ i, (ts.getD i ByteArray.empty).size ≤ 1048576) := hs
 have HM : Hid (MaxAt w) := hm
 have HW : Hid (1 ≤ W ∧ W ≤ 8) := hW
 clear hc hat hs hm hW
 by_cases hbig : 300 < ts.length
 · have HR : Hid (¬ TextsOk ts W) := fun h => by have := h.1; omega
   go_enter Tryz.func83, Tryz.ntmps83
   go_wp2
   go_ret
   exact ⟨rb_no HR.out, Below.refl _ _⟩
 · go_enter Tryz.func83, Tryz.ntmps83
   go_wp2_with fail
   go_loopw [5, 16] (fun l i wr => ∃ (k : Nat), k ≤ ts.length ∧ i = .int .i64 k ∧ l = .string (lastS ts W k) ∧ Hid (∀ j, j < k → StepT ts W j) ∧ Below w.heap.size w wr) (fun _ i _ => ts.length - (intOf i).toNat)
   case atStart => exact ⟨0, Nat.zero_le _, rfl, rfl, fun j h => absurd h (Nat.not_lt_zero _), Below.refl _ _⟩
   case round =>
    obtain ⟨k, hk, rfl, rfl, hdone, hb⟩ := hrel
    by_cases hlt : k < ts.length
    · rcases HC.out with hss | ⟨ha, hbw, hcell⟩
      · rw [hss] at hlt; exact absurd hlt (Nat.not_lt_zero _)
      subst ha
      have g0 := (hb.cell (p := ⟨b, off + k, none⟩) hbw).trans (hcell k hlt)
      have hxs := HS.out k
      have HST : Hid (StepT ts W k ↔ (∃ c t, IsR (ts.getD k ByteArray.empty).data.toList c t true) ∧ Op.bytesLess (lastS ts W k).toList (sumS (ts.getD k ByteArray.empty) W).toList = true) := by
       unfold StepT
       rw [step_last HW.out]
       exact Iff.rfl
      have HLS : Hid (lastS ts W (k + 1) = sumS (ts.getD k ByteArray.empty) W) := lastS_succ ts W k
      generalize hx : ts.getD k ByteArray.empty = x at *
      clear hx hcell
      generalize hL : lastS ts W k = L at *
      clear hL
      go_wp2_with fail
      refine (c89 x W _ (by omega)).mono ?_
      rintro e w1 ⟨rfl, hb1⟩
      have hB1 : Below w.heap.size w w1 := hb.trans (hb1.mono hb.size)
      have h6 := c88 x.data.toList w1 (by simp; omega) (max_below HM.out hB1)
      rw [ofL_self] at h6
      go_wp2_with fail
      refine h6.mono ?_
      rintro e w2 ⟨⟨c, t, ok, rfl, hr, _⟩, hb2⟩
      have hB2 : Below w.heap.size w w2 := hB1.trans (hb2.mono hB1.size)
      have hA2 : Below w.heap.size w (w2.alloc (.cells #[.int .i64 c, .string (ofL t)] 37)) := hB2.alloc hB2.size _
      have hfl := isR_flag hr
      clear h6 hr
      cases ok
      · have HR : Hid (¬ TextsOk ts W) := fun h => by have := hfl.2 ((HST.out.1 (h.2 k hlt)).1); cases this
        clear hfl
        go_wp2
        go_ret
        exact ⟨rb_no HR.out, hA2⟩
      · cases hy : Op.bytesLess L.toList (sumS x W).toList
        · have HR : Hid (¬ TextsOk ts W) := fun h => by have := (HST.out.1 (h.2 k hlt)).2; rw [hy] at this; cases this
          clear hfl
          go_wp2
          go_ret
          exact ⟨rb_no HR.out, hA2⟩
        · have hd' : Hid (∀ j, j < k + 1 → StepT ts W j) := fun j hj => by
           rcases Nat.lt_or_ge j k with h | h
           · exact hdone.out j h
           · obtain rfl : j = k := by omega
             exact HST.out.2 ⟨hfl.1 rfl, hy⟩
          clear hfl
          go_wp2
          go_roundw
          case rel => exact ⟨k + 1, by omega, by go_num, by rw [HLS.out], hd', hA2⟩
          case measure => simp [intOf]; omega
    · have HR : Hid (TextsOk ts W) := ⟨by omega, fun i hi => hdone.out i (by omega)⟩
      go_wp2
      go_ret
      exact ⟨rb_yes HR.out, hb⟩
set_option maxHeartbeats 2000000 in
theorem c41 (ta ra : Option Addr) (tc rc : Nat) (s : St) (w : World) (hs : s.le 1048576) (hat : StAt w ta ra s) (hm : MaxAt w) :
 Calls Tryz.prog 41 #[.agg #[.int .i64 s.wd, .slice ta s.ts.length tc, .slice ra s.rs.length rc]] w fun e w' => Rb (StOk s) e ∧ Below w.heap.size w w' := by
 have HS : Hid (s.le 1048576) := hs
 have HA : Hid (StAt w ta ra s) := hat
 have HM : Hid (MaxAt w) := hm
 clear hs hat hm
 have hB0 : Below w.heap.size w (w.alloc (.cells #[.int .i64 s.wd, .slice ta s.ts.length tc, .slice ra s.rs.length rc] 45)) := (Below.refl _ _).alloc (Nat.le_refl _) _
 by_cases hW : 1 ≤ s.wd ∧ s.wd ≤ 8
 · have hd : decide (1 ≤ s.wd ∧ s.wd ≤ 8) = true := by simpa using hW
   have h25 := c83 ta tc s.ts s.wd _ hW HS.out.1.1 HS.out.1.2 (strs_below HA.out.1 hB0) (max_below HM.out hB0)
   have HWW : Hid (1 ≤ s.wd ∧ s.wd ≤ 8) := hW
   go_enter Tryz.func41, Tryz.ntmps41
   go_wp2_with fail
   refine (c82 _ _).mono ?_
   rintro e w' ⟨rfl, rfl⟩
   rw [hd]
   go_wp2_with fail
   refine h25.mono ?_
   rintro e w1 ⟨⟨b1, rfl, hb1'⟩, hb1⟩
   have hB1 : Below w.heap.size w w1 := hB0.trans (hb1.mono (by simp))
   have g0 : w1.cell? ⟨w.heap.size, 0, none⟩ = some (.int .i64 s.wd) := by rw [hb1.cell (by simp)]; simp
   have g2 : w1.cell? ⟨w.heap.size, 2, none⟩ = some (.slice ra s.rs.length rc) := by rw [hb1.cell (by simp)]; simp
   clear h25
   cases b1
   · have HR : Hid (¬ StOk s) := fun h => by have := hb1'.2 h.2.1; cases this
     clear hb1'
     go_wp2
     go_ret
     exact ⟨rb_no HR.out, hB1⟩
   · have h26 := c84 ra rc s.rs s.wd w1 HS.out.2.1 HS.out.2.2 (recs_below HA.out.2 hB1)
     have HT : Hid (TextsOk s.ts s.wd) := hb1'.1 rfl
     clear hb1'
     go_wp2_with fail
     refine h26.mono ?_
     rintro e w2 ⟨⟨b2, rfl, hb2'⟩, hb2⟩
     have hB2 : Below w.heap.size w w2 := hB1.trans (hb2.mono hB1.size)
     have HR : Hid (Rb (StOk s) (.returned (.bool b2))) := ⟨b2, rfl, fun h => ⟨HWW.out, HT.out, hb2'.1 h⟩, fun h => hb2'.2 h.2.2⟩
     clear h26 hb2'
     go_wp2
     all_goals go_ret
     all_goals exact ⟨HR.out, hB2⟩
 · have hd : decide (1 ≤ s.wd ∧ s.wd ≤ 8) = false := by simpa using hW
   have HR : Hid (¬ StOk s) := fun h => hW h.1
   go_enter Tryz.func41, Tryz.ntmps41
   go_wp2_with fail
   refine (c82 _ _).mono ?_
   rintro e w' ⟨rfl, rfl⟩
   rw [hd]
   go_wp2
   go_ret
   exact ⟨rb_no HR.out, hB0⟩
end Go.Proofs.YtboojefodbjbcaaGreatDoor

import Derived.Test.YtlfokigiejcfoaaGreatDoorW9
namespace Go.Proofs.YtlfokigiejcfoaaGreatDoor
open Go.RowKit
set_option maxHeartbeats 8000000 in
set_option maxRecDepth 100000 in
theorem c3v (d : Int) (n : Nat) (key : ByteArray) (w : World) (hd : btw d 1 8 = true) (hn : btw (n : Int) 1 4 = true) (hk : key.size ≤ 30) :
    Calls Tryz.prog 3 #[.int .i64 d, .int .i64 n, .string key] w fun e w' => e = .returned (.bool true) ∧ Below w.heap.size w w' := by
  have hn1 : 1 ≤ n ∧ n ≤ 4 := by simp [btw] at hn; omega
  have hq1 : ¬ 2 + (n : Int) + 18 * (n : Int) < 0 := by omega
  have hk1 : ¬ 1048576 < (key.size : Int) := by omega
  go_enter Tryz.func3, Tryz.ntmps3
  go_wp2_with fail
  refine (c4w d n key w hd hn hk).mono ?_
  rintro e w1 ⟨⟨b, lc, g, hc, h, wc, rfl, hX⟩, hB1⟩
  have hz1 := hB1.size
  have lb : b < w1.heap.size := hX.nb.b2
  have lg : g < w1.heap.size := hX.nb.g2
  have lh : h < w1.heap.size := hX.rw.lt
  have N1 := hidI hX
  clear hX
  have hmark : True := trivial
  go_wp2_with (refine M.wpList_store_blk rfl 40 (.tmp 7) (.tmp 18) rfl w1.heap.size 0 rfl (worldL d n key b lc g hc h wc) rfl (M.st_some w1 [.string ⟨#[]⟩, .int .i64 0, .bool false, .int .i64 0, .int .i64 0, .int .i64 0, .slice none 0 0, .slice none 0 0, .slice none 0 0, .int .i64 0, .slice none 0 0, .slice none 0 0, .slice none 0 0, .slice none 0 0, .slice none 0 0, .slice none 0 0, .slice none 0 0, .slice none 0 0, .string ⟨#[]⟩, .slice none 0 0] _ 40 rfl) (M.opn_new w1 _ 40) (by simp [worldL, bossL, Value.oneCell']) (by kernel_rfl) rfl ?_; revert hmark)
  intro hmark
  clear hmark
  refine M.st_gen rfl ?_
  intro w1' hbw1' HY _ hltHY
  replace HY := hidI HY
  have hzw1' := Nat.le_of_lt hltHY
  have N1 := hidI (N1.out.below hbw1' ⟨lb, lg, lh⟩)
  have hB1 := hB1.trans (hbw1'.mono hz1)
  clear hbw1'
  go_wp2_with fail
  refine (c5w d n key w1' hd hn hk).mono ?_
  rintro e w2 ⟨⟨b2, lc2, g2, hc2, h2, wc2, rfl, hX⟩, hB2⟩
  have hz2 := hB2.size
  have lb2 : b2 < w2.heap.size := hX.nb.b2
  have lg2 : g2 < w2.heap.size := hX.nb.g2
  have lh2 : h2 < w2.heap.size := hX.rw.lt
  have N2 := hidI hX
  clear hX
  have hmark : True := trivial
  go_wp2_with (refine M.wpList_store_blk rfl 40 (.tmp 8) (.tmp 22) rfl w2.heap.size 0 rfl (worldL d n key b2 lc2 g2 hc2 h2 wc2) rfl (M.st_some w2 [.string ⟨#[]⟩, .int .i64 0, .bool false, .int .i64 0, .int .i64 0, .int .i64 0, .slice none 0 0, .slice none 0 0, .slice none 0 0, .int .i64 0, .slice none 0 0, .slice none 0 0, .slice none 0 0, .slice none 0 0, .slice none 0 0, .slice none 0 0, .slice none 0 0, .slice none 0 0, .string ⟨#[]⟩, .slice none 0 0] _ 40 rfl) (M.opn_new w2 _ 40) (by simp [worldL, bossL, Value.oneCell']) (by kernel_rfl) rfl ?_; revert hmark)
  intro hmark
  clear hmark
  refine M.st_gen rfl ?_
  intro w2' hbw2' HX _ hltHX
  replace HX := hidI HX
  have hzw2' := Nat.le_of_lt hltHX
  have N2 := hidI (N2.out.below hbw2' ⟨lb2, lg2, lh2⟩)
  have h12 := hB2.trans (hbw2'.mono hz2)
  have N1 := hidI (N1.out.below h12 ⟨by omega, by omega, by omega⟩)
  have HY := hidI (HY.out.below h12 (by omega))
  have hB2 := hB1.trans (h12.mono (by omega))
  clear hbw2' h12 hB1
  go_wp2_with (first | refine M.wpList_load_blk rfl 40 (.tmp 8) rfl w2.heap.size rfl _ _ HX.out Tryz.underlying40 rfl (by kernel_rfl) ?_ | refine M.wpList_load_blk rfl 40 (.tmp 7) rfl w1.heap.size rfl _ _ HY.out Tryz.underlying40 rfl (by kernel_rfl) ?_)
  refine (c6w d n key b2 lc2 g2 hc2 h2 wc2 b lc g hc h wc w1'.heap.size w.heap.size w2' hn1.2 N2.out N1.out).mono ?_
  rintro e w3 ⟨rfl, hb3⟩
  have hz3 := hb3.size
  have HY := hidI (HY.out.below hb3 (by omega))
  have HX := hidI (HX.out.below hb3 (by omega))
  have N1 := hidI (N1.out.below hb3 ⟨by omega, by omega, by omega⟩)
  have N2 := hidI (N2.out.below hb3 ⟨by omega, by omega, by omega⟩)
  have hB3 := hB2.trans (hb3.mono (by omega))
  clear hb3 hB2
  go_wp2_with (refine M.wpList_load_blk rfl 40 (.tmp 8) rfl w2.heap.size rfl _ _ HX.out Tryz.underlying40 rfl (by kernel_rfl) ?_)
  refine (c7w d n key b2 lc2 g2 hc2 h2 wc2 w1'.heap.size w3 hn1.2 N2.out).mono ?_
  rintro e w4 ⟨rfl, hT, hD, hl4, hM⟩
  have hz4 := hT.size
  have g1 := N2.out.nb.b1
  have g2' := N2.out.nb.g1
  have g3 := N2.out.h1
  have hb4 : Below w1'.heap.size w3 w4 := hT.below g1 g2' g3 (by omega)
  have HX : Hid (M.BlkAt w4 w2.heap.size (worldL d n key b2 lc2 g2 hc2 h2 wc2)) := fun j v e => (hT.cell (p := ⟨w2.heap.size, j, none⟩) (show w2.heap.size < w3.heap.size by omega) (show w2.heap.size ≠ b2 by omega) (show w2.heap.size ≠ g2 by omega) (show w2.heap.size ≠ h2 by omega)).trans (HX.out j v e)
  have HY := hidI (HY.out.below hb4 (by omega))
  have N1 := hidI (N1.out.below hb4 ⟨by omega, by omega, by omega⟩)
  have hB4 := hB3.trans (hb4.mono (by omega))
  have HD := hidI hD
  have HM := hidI hM
  clear hT hD hM hb4 hB3 N2
  go_wp2_with (refine M.wpList_load_blk rfl 40 (.tmp 8) rfl w2.heap.size rfl _ _ HX.out Tryz.underlying40 rfl (by kernel_rfl) ?_)
  refine (c8w d n key b2 lc2 g2 hc2 h2 wc2 w4 hn1.2 HD.out hl4 HM.out).mono ?_
  rintro e w5 ⟨rfl, hb5⟩
  have hz5 := hb5.size
  have HX := hidI (HX.out.below hb5 (by omega))
  have HY := hidI (HY.out.below hb5 (by omega))
  have N1 := hidI (N1.out.below hb5 ⟨by omega, by omega, by omega⟩)
  have HD := hidI (mkd_below HD.out hb5 trivial trivial)
  have HM : Hid (∀ i, i < n * 19 → w5.cell? ⟨h2, i, none⟩ = mkc (2 + (n : Int)) i) := fun i hi => (hb5.cell (p := ⟨h2, i, none⟩) hl4).trans (HM.out i hi)
  have hl5 : h2 < w5.heap.size := by omega
  have hB5 := hB4.trans (hb5.mono (by omega))
  clear hb5 hB4 hl4
  go_wp2_with fail
  refine (c5w d n key w5 hd hn hk).mono ?_
  rintro e w6 ⟨⟨b3, lc3, g3_, hc3, h3, wc3, rfl, hX⟩, hB6⟩
  have hz6 := hB6.size
  have lb3 : b3 < w6.heap.size := hX.nb.b2
  have lg3 : g3_ < w6.heap.size := hX.nb.g2
  have lh3 : h3 < w6.heap.size := hX.rw.lt
  have N3 := hidI hX
  clear hX
  have hmark : True := trivial
  go_wp2_with (refine M.wpList_store_blk rfl 40 (.tmp 11) (.tmp 41) rfl w6.heap.size 0 rfl (worldL d n key b3 lc3 g3_ hc3 h3 wc3) rfl (M.st_some w6 [.string ⟨#[]⟩, .int .i64 0, .bool false, .int .i64 0, .int .i64 0, .int .i64 0, .slice none 0 0, .slice none 0 0, .slice none 0 0, .int .i64 0, .slice none 0 0, .slice none 0 0, .slice none 0 0, .slice none 0 0, .slice none 0 0, .slice none 0 0, .slice none 0 0, .slice none 0 0, .string ⟨#[]⟩, .slice none 0 0] _ 40 rfl) (M.opn_new w6 _ 40) (by simp [worldL, bossL, Value.oneCell']) (by kernel_rfl) rfl ?_; revert hmark)
  intro hmark
  clear hmark
  refine M.st_gen rfl ?_
  intro w6' hbw6' HH _ hltHH
  replace HH := hidI HH
  have hzw6' := Nat.le_of_lt hltHH
  have N3 := hidI (N3.out.below hbw6' ⟨lb3, lg3, lh3⟩)
  have h56 := hB6.trans (hbw6'.mono hz6)
  have N1 := hidI (N1.out.below h56 ⟨by omega, by omega, by omega⟩)
  have HY := hidI (HY.out.below h56 (by omega))
  have HX := hidI (HX.out.below h56 (by omega))
  have HD := hidI (mkd_below HD.out h56 trivial trivial)
  have HM : Hid (∀ i, i < n * 19 → w6'.cell? ⟨h2, i, none⟩ = mkc (2 + (n : Int)) i) := fun i hi => (h56.cell (p := ⟨h2, i, none⟩) hl5).trans (HM.out i hi)
  have hB6 := hB5.trans (h56.mono (by omega))
  clear hbw6' h56 hB5
  go_wp2_with (first | refine M.wpList_load_blk rfl 40 (.tmp 11) rfl w6.heap.size rfl _ _ HH.out Tryz.underlying40 rfl (by kernel_rfl) ?_ | refine M.wpList_load_blk rfl 40 (.tmp 7) rfl w1.heap.size rfl _ _ HY.out Tryz.underlying40 rfl (by kernel_rfl) ?_)
  refine (c6w d n key b3 lc3 g3_ hc3 h3 wc3 b lc g hc h wc w5.heap.size w.heap.size w6' hn1.2 N3.out N1.out).mono ?_
  rintro e w7 ⟨rfl, hb7⟩
  have hz7 := hb7.size
  have HX := hidI (HX.out.below hb7 (by omega))
  have HD := hidI (mkd_below HD.out hb7 trivial trivial)
  have HM : Hid (∀ i, i < n * 19 → w7.cell? ⟨h2, i, none⟩ = mkc (2 + (n : Int)) i) := fun i hi => (hb7.cell (p := ⟨h2, i, none⟩) (show h2 < w6'.heap.size by omega)).trans (HM.out i hi)
  have hB7 := hB6.trans (hb7.mono (by omega))
  clear hb7 hB6 N1 N3 HY HH
  go_wp2_with (refine M.wpList_load_blk rfl 40 (.tmp 8) rfl w2.heap.size rfl _ _ HX.out Tryz.underlying40 rfl (by kernel_rfl) ?_)
  refine (c8w d n key b2 lc2 g2 hc2 h2 wc2 w7 hn1.2 HD.out (by omega) HM.out).mono ?_
  rintro e w8 ⟨rfl, hb8⟩
  have hB8 := hB7.trans (hb8.mono (by omega))
  clear HX HD HM
  go_wp2
  go_ret
  exact ⟨rfl, hB8⟩
set_option maxHeartbeats 8000000 in
set_option maxRecDepth 100000 in
theorem c3z (d n : Int) (key : ByteArray) (w : World) (hk : key.size ≤ 1048576) (hv : ¬ (btw d 1 8 = true ∧ btw n 1 4 = true ∧ key.size ≤ 30)) :
    Calls Tryz.prog 3 #[.int .i64 d, .int .i64 n, .string key] w fun e w' => e = .returned (.bool true) ∧ Below w.heap.size w w' := by
  have hk1 : ¬ 1048576 < (key.size : Int) := by omega
  go_enter Tryz.func3, Tryz.ntmps3
  go_wp2_with fail
  refine (c4wz d n key w hk hv).mono ?_
  rintro e w1 ⟨rfl, hB1⟩
  have hz1 := hB1.size
  have hmark : True := trivial
  go_wp2_with (refine M.wpList_store_blk rfl 40 (.tmp 7) (.tmp 18) rfl w1.heap.size 0 rfl worldZ rfl (M.st_some w1 [.string ⟨#[]⟩, .int .i64 0, .bool false, .int .i64 0, .int .i64 0, .int .i64 0, .slice none 0 0, .slice none 0 0, .slice none 0 0, .int .i64 0, .slice none 0 0, .slice none 0 0, .slice none 0 0, .slice none 0 0, .slice none 0 0, .slice none 0 0, .slice none 0 0, .slice none 0 0, .string ⟨#[]⟩, .slice none 0 0] _ 40 rfl) (M.opn_new w1 _ 40) (by simp [worldZ, bossZ, Value.oneCell']) (by kernel_rfl) rfl ?_; revert hmark)
  intro hmark
  clear hmark
  refine M.st_gen rfl ?_
  intro w1' hbw1' HY _ hltHY
  replace HY := hidI HY
  have hzw1' := Nat.le_of_lt hltHY
  have hB1 := hB1.trans (hbw1'.mono hz1)
  clear hbw1'
  go_wp2_with fail
  refine (c5wz d n key w1' hk hv).mono ?_
  rintro e w2 ⟨rfl, hB2⟩
  have hz2 := hB2.size
  have hmark : True := trivial
  go_wp2_with (refine M.wpList_store_blk rfl 40 (.tmp 8) (.tmp 22) rfl w2.heap.size 0 rfl worldZ rfl (M.st_some w2 [.string ⟨#[]⟩, .int .i64 0, .bool false, .int .i64 0, .int .i64 0, .int .i64 0, .slice none 0 0, .slice none 0 0, .slice none 0 0, .int .i64 0, .slice none 0 0, .slice none 0 0, .slice none 0 0, .slice none 0 0, .slice none 0 0, .slice none 0 0, .slice none 0 0, .slice none 0 0, .string ⟨#[]⟩, .slice none 0 0] _ 40 rfl) (M.opn_new w2 _ 40) (by simp [worldZ, bossZ, Value.oneCell']) (by kernel_rfl) rfl ?_; revert hmark)
  intro hmark
  clear hmark
  refine M.st_gen rfl ?_
  intro w2' hbw2' HX _ hltHX
  replace HX := hidI HX
  have hzw2' := Nat.le_of_lt hltHX
  have h12 := hB2.trans (hbw2'.mono hz2)
  have HY := hidI (HY.out.below h12 (by omega))
  have hB2 := hB1.trans (h12.mono (by omega))
  clear hbw2' h12 hB1
  go_wp2_with (first | refine M.wpList_load_blk rfl 40 (.tmp 8) rfl w2.heap.size rfl _ _ HX.out Tryz.underlying40 rfl (by kernel_rfl) ?_ | refine M.wpList_load_blk rfl 40 (.tmp 7) rfl w1.heap.size rfl _ _ HY.out Tryz.underlying40 rfl (by kernel_rfl) ?_)
  refine (c6wz w2').mono ?_
  rintro e w3 ⟨rfl, hb3⟩
  have hz3 := hb3.size
  have HY := hidI (HY.out.below hb3 (by omega))
  have HX := hidI (HX.out.below hb3 (by omega))
  have hB3 := hB2.trans (hb3.mono (by omega))
  clear hb3 hB2
  go_wp2_with (refine M.wpList_load_blk rfl 40 (.tmp 8) rfl w2.heap.size rfl _ _ HX.out Tryz.underlying40 rfl (by kernel_rfl) ?_)
  refine (c7wz w3).mono ?_
  rintro e w4 ⟨rfl, hb4⟩
  have hz4 := hb4.size
  have HY := hidI (HY.out.below hb4 (by omega))
  have HX := hidI (HX.out.below hb4 (by omega))
  have hB4 := hB3.trans (hb4.mono (by omega))
  clear hb4 hB3
  go_wp2_with (refine M.wpList_load_blk rfl 40 (.tmp 8) rfl w2.heap.size rfl _ _ HX.out Tryz.underlying40 rfl (by kernel_rfl) ?_)
  refine (c8wz w4).mono ?_
  rintro e w5 ⟨rfl, hb5⟩
  have hz5 := hb5.size
  have HX := hidI (HX.out.below hb5 (by omega))
  have HY := hidI (HY.out.below hb5 (by omega))
  have hB5 := hB4.trans (hb5.mono (by omega))
  clear hb5 hB4
  go_wp2_with fail
  refine (c5wz d n key w5 hk hv).mono ?_
  rintro e w6 ⟨rfl, hB6⟩
  have hz6 := hB6.size
  have hmark : True := trivial
  go_wp2_with (refine M.wpList_store_blk rfl 40 (.tmp 11) (.tmp 41) rfl w6.heap.size 0 rfl worldZ rfl (M.st_some w6 [.string ⟨#[]⟩, .int .i64 0, .bool false, .int .i64 0, .int .i64 0, .int .i64 0, .slice none 0 0, .slice none 0 0, .slice none 0 0, .int .i64 0, .slice none 0 0, .slice none 0 0, .slice none 0 0, .slice none 0 0, .slice none 0 0, .slice none 0 0, .slice none 0 0, .slice none 0 0, .string ⟨#[]⟩, .slice none 0 0] _ 40 rfl) (M.opn_new w6 _ 40) (by simp [worldZ, bossZ, Value.oneCell']) (by kernel_rfl) rfl ?_; revert hmark)
  intro hmark
  clear hmark
  refine M.st_gen rfl ?_
  intro w6' hbw6' HH _ hltHH
  replace HH := hidI HH
  have hzw6' := Nat.le_of_lt hltHH
  have h56 := hB6.trans (hbw6'.mono hz6)
  have HY := hidI (HY.out.below h56 (by omega))
  have HX := hidI (HX.out.below h56 (by omega))
  have hB6 := hB5.trans (h56.mono (by omega))
  clear hbw6' h56 hB5
  go_wp2_with (first | refine M.wpList_load_blk rfl 40 (.tmp 11) rfl w6.heap.size rfl _ _ HH.out Tryz.underlying40 rfl (by kernel_rfl) ?_ | refine M.wpList_load_blk rfl 40 (.tmp 7) rfl w1.heap.size rfl _ _ HY.out Tryz.underlying40 rfl (by kernel_rfl) ?_)
  refine (c6wz w6').mono ?_
  rintro e w7 ⟨rfl, hb7⟩
  have hz7 := hb7.size
  have HX := hidI (HX.out.below hb7 (by omega))
  have hB7 := hB6.trans (hb7.mono (by omega))
  clear hb7 hB6 HY HH
  go_wp2_with (refine M.wpList_load_blk rfl 40 (.tmp 8) rfl w2.heap.size rfl _ _ HX.out Tryz.underlying40 rfl (by kernel_rfl) ?_)
  refine (c8wz w7).mono ?_
  rintro e w8 ⟨rfl, hb8⟩
  have hB8 := hB7.trans (hb8.mono (by omega))
  clear HX
  go_wp2
  go_ret
  exact ⟨rfl, hB8⟩
set_option maxHeartbeats 8000000 in
set_option maxRecDepth 100000 in
theorem c3l (d n : Int) (key : ByteArray) (w : World) (hk : 1048576 < key.size) (hk2 : key.size ≤ 9223372036854775807) :
    Calls Tryz.prog 3 #[.int .i64 d, .int .i64 n, .string key] w fun e w' => e = .returned (.bool true) ∧ Below w.heap.size w w' := by
  have hk1 : 1048576 < (key.size : Int) := by omega
  go_enter Tryz.func3, Tryz.ntmps3
  go_wp2
  go_ret
  exact ⟨rfl, Below.refl _ _⟩
theorem c3 (d n : Int) (key : ByteArray) (w : World) (hk2 : key.size ≤ 9223372036854775807) :
    Calls Tryz.prog 3 #[.int .i64 d, .int .i64 n, .string key] w fun e w' => e = .returned (.bool true) ∧ Below w.heap.size w w' := by
  rcases Nat.lt_or_ge 1048576 key.size with hl | hl
  · exact c3l d n key w hl hk2
  · by_cases h : btw d 1 8 = true ∧ btw n 1 4 = true ∧ key.size ≤ 30
    · obtain ⟨m, rfl⟩ : ∃ m : Nat, n = (m : Int) := by
        have := h.2.1
        simp [btw] at this
        exact ⟨n.toNat, by omega⟩
      exact c3v d m key w h.1 h.2.1 h.2.2
    · exact c3z d n key w hl h
end Go.Proofs.YtlfokigiejcfoaaGreatDoor

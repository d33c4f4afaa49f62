import Derived.Test.YtopoaccekhmcaaaGreatDoorB3
namespace Go.Proofs.YtopoaccekhmcaaaGreatDoor
open Go.RowKit
set_option maxHeartbeats 8000000 in
set_option maxRecDepth 100000 in
/-- The law where the arguments don't fit. -/
theorem c3z (d n : Int) (w : World) (hv : btw d 1 8 = false ∨ btw n 1 4 = false) :
    Calls Tryz.prog 3 #[.int .i64 d, .int .i64 n] w fun e w' => e = .returned (.bool true) ∧ Below w.heap.size w w' := by
  go_enter Tryz.func3, Tryz.ntmps3
  go_wp2_with fail
  refine (c4z d n w hv).mono ?_
  rintro e w1 ⟨rfl, hBc⟩
  have hz0 := hBc.size
  have hmark : True := trivial
  go_wp2_with (refine M.wpList_store_blk rfl 35 (.tmp 5) (.tmp 12) rfl w1.heap.size 0 rfl _ rfl (M.st_some w1 [.int .i64 0, .bool false, .int .i64 0, .int .i64 0, .int .i64 0, .slice none 0 0, .slice none 0 0, .slice none 0 0, .int .i64 0, .slice none 0 0, .slice none 0 0, .slice none 0 0, .slice none 0 0, .slice none 0 0, .slice none 0 0] _ 35 rfl) (M.opn_new w1 _ 35) (by simp [Value.oneCell']) (by kernel_rfl) rfl ?_; revert hmark)
  intro hmark
  clear hmark
  refine M.st_gen rfl ?_
  intro w1' hWF HY _ hltHY
  replace HY := hidI HY
  have hzw1 := Nat.le_of_lt hltHY
  have hBc := hBc.trans (hWF.mono hBc.size)
  clear hWF
  go_wp2_with fail
  refine (c5z d n w1' hv).mono ?_
  rintro e w2 ⟨rfl, hbn⟩
  have hBc := hBc.trans (hbn.mono hBc.size)
  have HY := hidI (HY.out.below hbn (by omega))
  have hltHY := Nat.lt_of_lt_of_le hltHY hbn.size
  clear hbn
  have hmark : True := trivial
  go_wp2_with (refine M.wpList_store_blk rfl 35 (.tmp 6) (.tmp 15) rfl w2.heap.size 0 rfl _ rfl (M.st_some w2 [.int .i64 0, .bool false, .int .i64 0, .int .i64 0, .int .i64 0, .slice none 0 0, .slice none 0 0, .slice none 0 0, .int .i64 0, .slice none 0 0, .slice none 0 0, .slice none 0 0, .slice none 0 0, .slice none 0 0, .slice none 0 0] _ 35 rfl) (M.opn_new w2 _ 35) (by simp [Value.oneCell']) (by kernel_rfl) rfl ?_; revert hmark)
  intro hmark
  clear hmark
  refine M.st_gen rfl ?_
  intro w2' hWF HX _ hltHX
  replace HX := hidI HX
  have hzw2 := Nat.le_of_lt hltHX
  have hBc := hBc.trans (hWF.mono hBc.size)
  have HY := hidI (HY.out.below hWF (by omega))
  have hltHY := Nat.lt_of_lt_of_le hltHY hWF.size
  clear hWF
  go_wp2_with (first | refine M.wpList_load_blk rfl 35 (.tmp 6) rfl w2.heap.size rfl _ _ HX.out Tryz.underlying35 rfl (by kernel_rfl) ?_ | refine M.wpList_load_blk rfl 35 (.tmp 5) rfl w1.heap.size rfl _ _ HY.out Tryz.underlying35 rfl (by kernel_rfl) ?_)
  refine (c6 0 0 0 false [] [] none none none none 0 0 0 0 w2' (by decide) (by decide) (.inl rfl) (.inl rfl) (.inl rfl) (.inl rfl)).mono ?_
  rintro e w3 ⟨rfl, hbn⟩
  have hBc := hBc.trans (hbn.mono hBc.size)
  have HY := hidI (HY.out.below hbn (by omega))
  have hltHY := Nat.lt_of_lt_of_le hltHY hbn.size
  have HX := hidI (HX.out.below hbn (by omega))
  have hltHX := Nat.lt_of_lt_of_le hltHX hbn.size
  clear hbn
  go_wp2_with (refine M.wpList_load_blk rfl 35 (.tmp 6) rfl w2.heap.size rfl _ _ HX.out Tryz.underlying35 rfl (by kernel_rfl) ?_)
  refine (c7z 1 0 0 0 false w3).mono ?_
  rintro e w4 ⟨rfl, hbn⟩
  have hBc := hBc.trans (hbn.mono hBc.size)
  have HY := hidI (HY.out.below hbn (by omega))
  have hltHY := Nat.lt_of_lt_of_le hltHY hbn.size
  have HX := hidI (HX.out.below hbn (by omega))
  have hltHX := Nat.lt_of_lt_of_le hltHX hbn.size
  clear hbn
  go_wp2_with (refine M.wpList_load_blk rfl 35 (.tmp 6) rfl w2.heap.size rfl _ _ HX.out Tryz.underlying35 rfl (by kernel_rfl) ?_)
  refine (c8z 1 0 0 0 false w4 (by omega)).mono ?_
  rintro e w5 ⟨rfl, hbn⟩
  have hBc := hBc.trans (hbn.mono hBc.size)
  have HY := hidI (HY.out.below hbn (by omega))
  have hltHY := Nat.lt_of_lt_of_le hltHY hbn.size
  have HX := hidI (HX.out.below hbn (by omega))
  have hltHX := Nat.lt_of_lt_of_le hltHX hbn.size
  clear hbn
  go_wp2_with fail
  refine (c5z d n w5 hv).mono ?_
  rintro e w6 ⟨rfl, hbn⟩
  have hBc := hBc.trans (hbn.mono hBc.size)
  have HY := hidI (HY.out.below hbn (by omega))
  have hltHY := Nat.lt_of_lt_of_le hltHY hbn.size
  have HX := hidI (HX.out.below hbn (by omega))
  have hltHX := Nat.lt_of_lt_of_le hltHX hbn.size
  clear hbn
  have hmark : True := trivial
  go_wp2_with (refine M.wpList_store_blk rfl 35 (.tmp 9) (.tmp 33) rfl w6.heap.size 0 rfl _ rfl (M.st_some w6 [.int .i64 0, .bool false, .int .i64 0, .int .i64 0, .int .i64 0, .slice none 0 0, .slice none 0 0, .slice none 0 0, .int .i64 0, .slice none 0 0, .slice none 0 0, .slice none 0 0, .slice none 0 0, .slice none 0 0, .slice none 0 0] _ 35 rfl) (M.opn_new w6 _ 35) (by simp [Value.oneCell']) (by kernel_rfl) rfl ?_; revert hmark)
  intro hmark
  clear hmark
  refine M.st_gen rfl ?_
  intro w6' hWF HH _ hltHH
  replace HH := hidI HH
  have hzw6 := Nat.le_of_lt hltHH
  have hBc := hBc.trans (hWF.mono hBc.size)
  have HY := hidI (HY.out.below hWF (by omega))
  have hltHY := Nat.lt_of_lt_of_le hltHY hWF.size
  have HX := hidI (HX.out.below hWF (by omega))
  have hltHX := Nat.lt_of_lt_of_le hltHX hWF.size
  clear hWF
  go_wp2_with (first | refine M.wpList_load_blk rfl 35 (.tmp 9) rfl w6.heap.size rfl _ _ HH.out Tryz.underlying35 rfl (by kernel_rfl) ?_ | refine M.wpList_load_blk rfl 35 (.tmp 5) rfl w1.heap.size rfl _ _ HY.out Tryz.underlying35 rfl (by kernel_rfl) ?_)
  refine (c6 0 0 0 false [] [] none none none none 0 0 0 0 w6' (by decide) (by decide) (.inl rfl) (.inl rfl) (.inl rfl) (.inl rfl)).mono ?_
  rintro e w7 ⟨rfl, hbn⟩
  have hBc := hBc.trans (hbn.mono hBc.size)
  have HY := hidI (HY.out.below hbn (by omega))
  have hltHY := Nat.lt_of_lt_of_le hltHY hbn.size
  have HX := hidI (HX.out.below hbn (by omega))
  have hltHX := Nat.lt_of_lt_of_le hltHX hbn.size
  have HH := hidI (HH.out.below hbn (by omega))
  have hltHH := Nat.lt_of_lt_of_le hltHH hbn.size
  clear hbn
  go_wp2_with (refine M.wpList_load_blk rfl 35 (.tmp 6) rfl w2.heap.size rfl _ _ HX.out Tryz.underlying35 rfl (by kernel_rfl) ?_)
  refine (c8z 1 0 0 0 false w7 (by omega)).mono ?_
  rintro e w8 ⟨rfl, hbn⟩
  have hBc := hBc.trans (hbn.mono hBc.size)
  have HY := hidI (HY.out.below hbn (by omega))
  have hltHY := Nat.lt_of_lt_of_le hltHY hbn.size
  have HX := hidI (HX.out.below hbn (by omega))
  have hltHX := Nat.lt_of_lt_of_le hltHX hbn.size
  have HH := hidI (HH.out.below hbn (by omega))
  have hltHH := Nat.lt_of_lt_of_le hltHH hbn.size
  clear hbn
  go_wp2
  go_ret
  exact ⟨rfl, hBc⟩
end Go.Proofs.YtopoaccekhmcaaaGreatDoor

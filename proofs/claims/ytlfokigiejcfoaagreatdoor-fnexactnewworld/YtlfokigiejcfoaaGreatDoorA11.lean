import Derived.Test.YtlfokigiejcfoaaGreatDoorA10
namespace Go.Proofs.YtlfokigiejcfoaaGreatDoor
open Go.RowKit
set_option maxHeartbeats 4000000 in
set_option maxRecDepth 100000 in
theorem c9 (d : Int) (n : Nat) (w : World) (hd : btw d 1 8 = true) (hn : btw (n : Int) 1 4 = true) :
    Calls Tryz.prog 9 #[.int .i64 d, .int .i64 n] w fun e w' => (∃ b lc g hc, e = .returned (.agg #[.int .i64 d, .bool true, .int .i64 0, .int .i64 1, .int .i64 0, .slice none 0 0, .slice (some ⟨b, 0, none⟩) 1 lc, .slice none 0 0, .int .i64 d, .slice none 0 0, .slice none 0 0, .slice (some ⟨g, 0, none⟩) n hc, .slice none 0 0, .slice none 0 0, .slice none 0 0]) ∧ NB w' w.heap.size n b g) ∧ Below w.heap.size w w' := by
  have hn1 : 1 ≤ n ∧ n ≤ 4 := by simp [btw] at hn; omega
  have hB0 : ∀ o, Below w.heap.size w (w.alloc o) := fun o => (Below.refl _ _).alloc (Nat.le_refl _) _
  have Z0 : M.BlkAt (w.alloc (.cells #[.int .i64 0, .bool false, .int .i64 0, .int .i64 0, .int .i64 0, .slice none 0 0, .slice none 0 0, .slice none 0 0, .int .i64 0, .slice none 0 0, .slice none 0 0, .slice none 0 0, .slice none 0 0, .slice none 0 0, .slice none 0 0] 35)) w.heap.size [.int .i64 0, .bool false, .int .i64 0, .int .i64 0, .int .i64 0, .slice none 0 0, .slice none 0 0, .slice none 0 0, .int .i64 0, .slice none 0 0, .slice none 0 0, .slice none 0 0, .slice none 0 0, .slice none 0 0, .slice none 0 0] := M.blk_new w [.int .i64 0, .bool false, .int .i64 0, .int .i64 0, .int .i64 0, .slice none 0 0, .slice none 0 0, .slice none 0 0, .int .i64 0, .slice none 0 0, .slice none 0 0, .slice none 0 0, .slice none 0 0, .slice none 0 0, .slice none 0 0] 35
  have F0 : M.OpnAt (w.alloc (.cells #[.int .i64 0, .bool false, .int .i64 0, .int .i64 0, .int .i64 0, .slice none 0 0, .slice none 0 0, .slice none 0 0, .int .i64 0, .slice none 0 0, .slice none 0 0, .slice none 0 0, .slice none 0 0, .slice none 0 0, .slice none 0 0] 35)) w.heap.size := M.opn_new w _ 35
  have hz0 : w.heap.size < (w.alloc (.cells #[.int .i64 0, .bool false, .int .i64 0, .int .i64 0, .int .i64 0, .slice none 0 0, .slice none 0 0, .slice none 0 0, .int .i64 0, .slice none 0 0, .slice none 0 0, .slice none 0 0, .slice none 0 0, .slice none 0 0, .slice none 0 0] 35)).heap.size := by simp
  have hB1 := hB0 (.cells #[.int .i64 0, .bool false, .int .i64 0, .int .i64 0, .int .i64 0, .slice none 0 0, .slice none 0 0, .slice none 0 0, .int .i64 0, .slice none 0 0, .slice none 0 0, .slice none 0 0, .slice none 0 0, .slice none 0 0, .slice none 0 0] 35)
  go_enter Tryz.func9, Tryz.ntmps9
  go_wp2_with fail
  generalize (w.alloc (.cells #[.int .i64 0, .bool false, .int .i64 0, .int .i64 0, .int .i64 0, .slice none 0 0, .slice none 0 0, .slice none 0 0, .int .i64 0, .slice none 0 0, .slice none 0 0, .slice none 0 0, .slice none 0 0, .slice none 0 0, .slice none 0 0] 35)) = u at *
  refine (c24 d u).mono ?_
  rintro e w1 ⟨rfl, hb1⟩
  rw [hd]
  have hB2 := hB1.trans (hb1.mono hB1.size)
  have hz1 := Nat.lt_of_lt_of_le hz0 hb1.size
  have Z1 := hidI (Z0.below hb1 hz0)
  have F1 := hidI (F0.below hb1 hz0)
  clear hb1 Z0 F0 hB1
  go_wp2_with fail
  refine (c25 n 1 4 w1).mono ?_
  rintro e w2 ⟨rfl, hb2⟩
  rw [hn]
  have hB3 := hB2.trans (hb2.mono hB2.size)
  have hz2 := Nat.lt_of_lt_of_le hz1 hb2.size
  have Z2 := hidI (Z1.out.below hb2 hz1)
  have F2 := hidI (F1.out.below hb2 hz1)
  clear hb2 Z1 F1 hB2
  go_wp2_with fail
  refine (c26 n w2 hn1.2).mono ?_
  rintro e w3 ⟨⟨v, rfl, hown⟩, hb3⟩
  obtain ⟨g, hc, rfl, hg1, hg2, hgc, hgf⟩ := own_ints hown (by omega)
  have hB4 := hB3.trans (hb3.mono hB3.size)
  have hz3 := Nat.lt_of_lt_of_le hz2 hb3.size
  have Z3 := hidI (Z2.out.below hb3 hz2)
  have F3 := hidI (F2.out.below hb3 hz2)
  have HGC := hidI hgc
  have HGF := hidI hgf
  clear hb3 Z2 F2 hB3 hown hgc hgf
  have hmark : True := trivial
  go_wp2_with (refine M.wpList_store_blk rfl 35 (.tmp 5) (.tmp 20) rfl w3.heap.size 0 rfl _ rfl (M.st_some w3 [.int .i64 0, .bool false, .int .i64 0, .int .i64 0, .int .i64 0, .slice none 0 0, .slice none 0 0, .slice none 0 0, .int .i64 0, .slice none 0 0, .slice none 0 0, .slice none 0 0, .slice none 0 0, .slice none 0 0, .slice none 0 0] _ 35 rfl) (M.opn_new w3 _ 35) (by simp [Value.oneCell']) (by kernel_rfl) rfl ?_; revert hmark)
  intro hmark
  clear hmark
  refine M.st_gen rfl ?_
  intro w4 hb4 ZX FX hzx
  have HZX := hidI ZX
  have HFX := hidI FX
  have hB5 := hB4.trans (hb4.mono hB4.size)
  have hz4 := Nat.lt_of_lt_of_le hz3 hb4.size
  have Z4 := hidI (Z3.out.below hb4 hz3)
  have F4 := hidI (F3.out.below hb4 hz3)
  have HGC4 : Hid (∀ i, i < n → w4.cell? ⟨g, i, none⟩ = some (.int .i64 (-1))) := fun i hi => (hb4.cell (p := ⟨g, i, none⟩) hg2).trans (HGC.out i hi)
  have HGF4 : Hid (∀ i, w4.frozen? ⟨g, i, none⟩ = false) := fun i => (hb4.frozen (p := ⟨g, i, none⟩) hg2).trans (HGF.out i)
  clear hb4 ZX FX Z3 F3 HGC HGF hB4
  go_wp2_with fail
  refine (c27 w4).mono ?_
  rintro e w5 ⟨rfl, hb5⟩
  have hB6 := hB5.trans (hb5.mono hB5.size)
  have hz5 := Nat.lt_of_lt_of_le hz4 hb5.size
  have hx5 := Nat.lt_of_lt_of_le hzx hb5.size
  have Z5 := hidI (Z4.out.below hb5 hz4)
  have F5 := hidI (F4.out.below hb5 hz4)
  have ZX5 := hidI (HZX.out.below hb5 hzx)
  have FX5 := hidI (HFX.out.below hb5 hzx)
  have HGC5 : Hid (∀ i, i < n → w5.cell? ⟨g, i, none⟩ = some (.int .i64 (-1))) := fun i hi => (hb5.cell (p := ⟨g, i, none⟩) (show g < w4.heap.size by omega)).trans (HGC4.out i hi)
  have HGF5 : Hid (∀ i, w5.frozen? ⟨g, i, none⟩ = false) := fun i => (hb5.frozen (p := ⟨g, i, none⟩) (show g < w4.heap.size by omega)).trans (HGF4.out i)
  clear hb5 Z4 F4 HZX HFX HGC4 HGF4 hB5
  have x6 := ZX5.out 6 _ rfl
  have xf6 := FX5.out 6
  have hs5 : (w5.setCell ⟨w3.heap.size, 6, none⟩ (.slice (some ⟨w5.heap.size, 0, none⟩) 1 1)).heap.size = w5.heap.size := by simp
  have hAl : Below w5.heap.size (w5.setCell ⟨w3.heap.size, 6, none⟩ (.slice (some ⟨w5.heap.size, 0, none⟩) 1 1)) ((w5.setCell ⟨w3.heap.size, 6, none⟩ (.slice (some ⟨w5.heap.size, 0, none⟩) 1 1)).alloc (.cells #[.string epL] 9)) := (Below.refl _ _).alloc (by rw [hs5]; exact Nat.le_refl _) _
  have Z6 : Hid (M.BlkAt ((w5.setCell ⟨w3.heap.size, 6, none⟩ (.slice (some ⟨w5.heap.size, 0, none⟩) 1 1)).alloc (.cells #[.string epL] 9)) w3.heap.size [.int .i64 d, .bool true, .int .i64 0, .int .i64 1, .int .i64 0, .slice none 0 0, .slice (some ⟨w5.heap.size, 0, none⟩) 1 1, .slice none 0 0, .int .i64 d, .slice none 0 0, .slice none 0 0, .slice (some ⟨g, 0, none⟩) n hc, .slice none 0 0, .slice none 0 0, .slice none 0 0]) := (ZX5.out.set 6 (.slice (some ⟨w5.heap.size, 0, none⟩) 1 1) (by simp)).below hAl hx5
  have R6 : Hid (M.BlkAt ((w5.setCell ⟨w3.heap.size, 6, none⟩ (.slice (some ⟨w5.heap.size, 0, none⟩) 1 1)).alloc (.cells #[.string epL] 9)) w.heap.size [.int .i64 0, .bool false, .int .i64 0, .int .i64 0, .int .i64 0, .slice none 0 0, .slice none 0 0, .slice none 0 0, .int .i64 0, .slice none 0 0, .slice none 0 0, .slice none 0 0, .slice none 0 0, .slice none 0 0, .slice none 0 0]) := (Z5.out.other ⟨w3.heap.size, 6, none⟩ _ (by show w3.heap.size ≠ w.heap.size; have := hB6.size; omega)).below hAl hz5
  have FR6 : Hid (M.OpnAt ((w5.setCell ⟨w3.heap.size, 6, none⟩ (.slice (some ⟨w5.heap.size, 0, none⟩) 1 1)).alloc (.cells #[.string epL] 9)) w.heap.size) := (F5.out.set _ _).below hAl hz5
  have hB7 : Below w.heap.size w ((w5.setCell ⟨w3.heap.size, 6, none⟩ (.slice (some ⟨w5.heap.size, 0, none⟩) 1 1)).alloc (.cells #[.string epL] 9)) := (hB6.setCell (by show w.heap.size ≤ w3.heap.size; omega) _).alloc (by rw [hs5]; exact hB6.size) _
  have hbk : ∀ k, k ≠ w3.heap.size → (w5.setCell ⟨w3.heap.size, 6, none⟩ (.slice (some ⟨w5.heap.size, 0, none⟩) 1 1)).heap[k]? = w5.heap[k]? := fun k hk => Below.heap_setCell _ _ _ _ hk
  have cb6 : Hid (((w5.setCell ⟨w3.heap.size, 6, none⟩ (.slice (some ⟨w5.heap.size, 0, none⟩) 1 1)).alloc (.cells #[.string epL] 9)).cell? ⟨w5.heap.size, 0, none⟩ = some (.string epL)) := by unfold Hid; rw [← hs5]; simp [go_sem]
  have fb6 : Hid (((w5.setCell ⟨w3.heap.size, 6, none⟩ (.slice (some ⟨w5.heap.size, 0, none⟩) 1 1)).alloc (.cells #[.string epL] 9)).frozen? ⟨w5.heap.size, 0, none⟩ = false) := by unfold Hid; rw [← hs5]; simp [go_sem]
  have cg6 : Hid (∀ i, i < n → ((w5.setCell ⟨w3.heap.size, 6, none⟩ (.slice (some ⟨w5.heap.size, 0, none⟩) 1 1)).alloc (.cells #[.string epL] 9)).cell? ⟨g, i, none⟩ = some (.int .i64 (-1))) := fun i hi => (hAl.cell (p := ⟨g, i, none⟩) (show g < w5.heap.size by omega)).trans ((World.cell?_of_block (a := ⟨g, i, none⟩) (hbk g (by omega))).trans (HGC5.out i hi))
  have fg6 : Hid (∀ i, ((w5.setCell ⟨w3.heap.size, 6, none⟩ (.slice (some ⟨w5.heap.size, 0, none⟩) 1 1)).alloc (.cells #[.string epL] 9)).frozen? ⟨g, i, none⟩ = false) := fun i => (hAl.frozen (p := ⟨g, i, none⟩) (show g < w5.heap.size by omega)).trans ((World.frozen?_of_block (a := ⟨g, i, none⟩) (hbk g (by omega))).trans (HGF5.out i))
  have hs6 : ((w5.setCell ⟨w3.heap.size, 6, none⟩ (.slice (some ⟨w5.heap.size, 0, none⟩) 1 1)).alloc (.cells #[.string epL] 9)).heap.size = w5.heap.size + 1 := by simp
  clear hbk hAl hs5 Z5 F5 ZX5 FX5 HGC5 HGF5
  have hso := M.blk_some R6.out (vs := [.int .i64 d, .bool true, .int .i64 0, .int .i64 1, .int .i64 0, .slice none 0 0, .slice (some ⟨w5.heap.size, 0, none⟩) 1 1, .slice none 0 0, .int .i64 d, .slice none 0 0, .slice none 0 0, .slice (some ⟨g, 0, none⟩) n hc, .slice none 0 0, .slice none 0 0, .slice none 0 0]) rfl
  go_wp2_with (first | refine M.wpList_load_blk rfl 35 (.tmp 5) rfl w3.heap.size rfl _ _ Z6.out Tryz.underlying35 rfl (by kernel_rfl) ?_ | (refine M.wpList_store_blk rfl 35 (.tmp 4) (.tmp 26) rfl w.heap.size 0 rfl [.int .i64 d, .bool true, .int .i64 0, .int .i64 1, .int .i64 0, .slice none 0 0, .slice (some ⟨w5.heap.size, 0, none⟩) 1 1, .slice none 0 0, .int .i64 d, .slice none 0 0, .slice none 0 0, .slice (some ⟨g, 0, none⟩) n hc, .slice none 0 0, .slice none 0 0, .slice none 0 0] rfl hso FR6.out (by simp [Value.oneCell']) (by kernel_rfl) rfl ?_))
  clear hso
  refine M.st_over (N := w.heap.size) (old := [.int .i64 0, .bool false, .int .i64 0, .int .i64 0, .int .i64 0, .slice none 0 0, .slice none 0 0, .slice none 0 0, .int .i64 0, .slice none 0 0, .slice none 0 0, .slice none 0 0, .slice none 0 0, .slice none 0 0, .slice none 0 0]) rfl R6.out FR6.out (Nat.le_refl _) ?_
  intro E hbE ZE FE hsE hkE
  have hBE := hidI (hB7.trans hbE)
  have HZE := hidI ZE
  have hw0 := hB6.size
  have HNB : Hid (NB E w.heap.size n w5.heap.size g) := ⟨by omega, by omega, by omega, by omega, by omega,
    (World.cell?_of_block (a := ⟨w5.heap.size, 0, none⟩) (hkE w5.heap.size (by omega) (by omega))).trans cb6.out,
    (World.frozen?_of_block (a := ⟨w5.heap.size, 0, none⟩) (hkE w5.heap.size (by omega) (by omega))).trans fb6.out,
    fun i hi => (World.cell?_of_block (a := ⟨g, i, none⟩) (hkE g (by omega) (by omega))).trans (cg6.out i hi),
    fun i => (World.frozen?_of_block (a := ⟨g, i, none⟩) (hkE g (by omega) (by omega))).trans (fg6.out i)⟩
  clear hbE ZE FE hkE Z6 R6 FR6 cb6 fb6 cg6 fg6
  refine bodyPost_ret (v := .agg ([.int .i64 d, .bool true, .int .i64 0, .int .i64 1, .int .i64 0, .slice none 0 0, .slice (some ⟨w5.heap.size, 0, none⟩) 1 1, .slice none 0 0, .int .i64 d, .slice none 0 0, .slice none 0 0, .slice (some ⟨g, 0, none⟩) n hc, .slice none 0 0, .slice none 0 0, .slice none 0 0] : List Value).toArray) (M.results_blk (P := Tryz.prog) (ty := 35) rfl _ E w.heap.size [.int .i64 d, .bool true, .int .i64 0, .int .i64 1, .int .i64 0, .slice none 0 0, .slice (some ⟨w5.heap.size, 0, none⟩) 1 1, .slice none 0 0, .int .i64 d, .slice none 0 0, .slice none 0 0, .slice (some ⟨g, 0, none⟩) n hc, .slice none 0 0, .slice none 0 0, .slice none 0 0] _ rfl HZE.out Tryz.underlying35 rfl (by kernel_rfl)) rfl ⟨⟨w5.heap.size, 1, g, hc, rfl, HNB.out⟩, hBE.out⟩
end Go.Proofs.YtlfokigiejcfoaaGreatDoor

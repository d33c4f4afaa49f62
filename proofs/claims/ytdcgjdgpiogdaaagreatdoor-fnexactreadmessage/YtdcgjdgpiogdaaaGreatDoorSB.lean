import Derived.Test.YtdcgjdgpiogdaaaGreatDoorG47
namespace Go.Proofs.YtdcgjdgpiogdaaaGreatDoor
open Go.RowKit
set_option maxHeartbeats 16000000 in
set_option maxRecDepth 100000 in
theorem c5 (s key : ByteArray) (w : World) (hmx : MaxAt w) (hs0 : s.size ≤ 9223372036854775807) (hk0 : key.size ≤ 9223372036854775807) :
    Calls Tryz.prog 5 #[.string s, .string key] w fun e w' => e = .returned (.bool true) ∧ Below w.heap.size w w' := by
  by_cases hs : s.size ≤ 1048576
  · by_cases hk : key.size ≤ 1048576
    · have h1 : decide (1048576 < (s.size : Int)) = false := by simp; omega
      have h2 : decide (1048576 < (key.size : Int)) = false := by simp; omega
      have HM : Hid (MaxAt w) := hmx
      clear hmx
      go_enter Tryz.func5, Tryz.ntmps5
      go_wp2_with fail
      refine (c17 s key _ hs hk).mono ?_
      rintro e w1 ⟨⟨x, a, ai, ci, rfl, hx, hz, hle, hlk⟩, hb1⟩
      have HX : Hid (RMS s.data.toList key x a) := hx
      have HZ : Hid (a = false → x = g16z) := fun h => (hz h).1
      have hn : x.ls.length ≤ 1048576 := hle.2.1.1
      clear hx hz
      have hF1 : BlkAt (fill (w1.alloc (.cells #[.int .i64 0, .int .i64 0, .int .i64 0, .int .i64 0, .int .i64 0, .string ⟨#[]⟩, .string ⟨#[]⟩, .string ⟨#[]⟩, .slice none 0 0, .int .i64 0, .bool false, .int .i64 0, .string ⟨#[]⟩, .bool false, .string ⟨#[]⟩, .int .i64 0] 41)) w1.heap.size 0 (x.c ai ci)) w1.heap.size (x.c ai ci) := BlkAt.fill (B := w1.heap.size) (x.c ai ci) [] zG [] 0 (blk_new w1 zG 41) rfl rfl
      have hbF1 : Below w1.heap.size w1 (fill (w1.alloc (.cells #[.int .i64 0, .int .i64 0, .int .i64 0, .int .i64 0, .int .i64 0, .string ⟨#[]⟩, .string ⟨#[]⟩, .string ⟨#[]⟩, .slice none 0 0, .int .i64 0, .bool false, .int .i64 0, .string ⟨#[]⟩, .bool false, .string ⟨#[]⟩, .int .i64 0] 41)) w1.heap.size 0 (x.c ai ci)) := below_fill (Nat.le_refl _) _ 0 ((Below.refl _ _).alloc (Nat.le_refl _) _)
      have hzF1 : w1.heap.size < (fill (w1.alloc (.cells #[.int .i64 0, .int .i64 0, .int .i64 0, .int .i64 0, .int .i64 0, .string ⟨#[]⟩, .string ⟨#[]⟩, .string ⟨#[]⟩, .slice none 0 0, .int .i64 0, .bool false, .int .i64 0, .string ⟨#[]⟩, .bool false, .string ⟨#[]⟩, .int .i64 0] 41)) w1.heap.size 0 (x.c ai ci)).heap.size := by rw [size_fill]; simp
      have hB1 : Below w.heap.size w (fill (w1.alloc (.cells #[.int .i64 0, .int .i64 0, .int .i64 0, .int .i64 0, .int .i64 0, .string ⟨#[]⟩, .string ⟨#[]⟩, .string ⟨#[]⟩, .slice none 0 0, .int .i64 0, .bool false, .int .i64 0, .string ⟨#[]⟩, .bool false, .string ⟨#[]⟩, .int .i64 0] 41)) w1.heap.size 0 (x.c ai ci)) := hb1.trans (hbF1.mono hb1.size)
      have hL1 : LksAt (fill (w1.alloc (.cells #[.int .i64 0, .int .i64 0, .int .i64 0, .int .i64 0, .int .i64 0, .string ⟨#[]⟩, .string ⟨#[]⟩, .string ⟨#[]⟩, .slice none 0 0, .int .i64 0, .bool false, .int .i64 0, .string ⟨#[]⟩, .bool false, .string ⟨#[]⟩, .int .i64 0] 41)) w1.heap.size 0 (x.c ai ci)) ai x.ls := lks_below hlk hbF1
      clear hlk
      have hmark : True := trivial
      go_wp2_with (refine wpList_store_blk rfl 41 (.tmp 5) (.tmp 23) rfl w1.heap.size 0 rfl (x.c ai ci) rfl (blk_some (blk_new w1 zG 41) _ rfl) (opn_new w1 _ 41) (G16.c_one _ _ _) (by kernel_rfl) rfl ?_; revert hmark)
      intro _
      generalize (fill (w1.alloc (.cells #[.int .i64 0, .int .i64 0, .int .i64 0, .int .i64 0, .int .i64 0, .string ⟨#[]⟩, .string ⟨#[]⟩, .string ⟨#[]⟩, .slice none 0 0, .int .i64 0, .bool false, .int .i64 0, .string ⟨#[]⟩, .bool false, .string ⟨#[]⟩, .int .i64 0] 41)) w1.heap.size 0 (x.c ai ci)) = U1 at *
      generalize w1.heap.size = B5 at *
      clear hbF1 hb1
      go_wp2_with fail
      refine (c18 s key _ hs hk (max_below HM.out hB1)).mono ?_
      rintro e w2 ⟨⟨y, b, bi, di, rfl, hy, hzy, _, hown⟩, hb2⟩
      obtain ⟨hab, hxy⟩ := rm_same HX.out hy HZ.out (fun h => (hzy h).1)
      subst hab hxy
      clear hy hzy
      have hF2 : BlkAt (fill (w2.alloc (.cells #[.int .i64 0, .int .i64 0, .int .i64 0, .int .i64 0, .int .i64 0, .string ⟨#[]⟩, .string ⟨#[]⟩, .string ⟨#[]⟩, .slice none 0 0, .int .i64 0, .bool false, .int .i64 0, .string ⟨#[]⟩, .bool false, .string ⟨#[]⟩, .int .i64 0] 41)) w2.heap.size 0 (x.c bi di)) w2.heap.size (x.c bi di) := BlkAt.fill (B := w2.heap.size) (x.c bi di) [] zG [] 0 (blk_new w2 zG 41) rfl rfl
      have hbF2 : Below w2.heap.size w2 (fill (w2.alloc (.cells #[.int .i64 0, .int .i64 0, .int .i64 0, .int .i64 0, .int .i64 0, .string ⟨#[]⟩, .string ⟨#[]⟩, .string ⟨#[]⟩, .slice none 0 0, .int .i64 0, .bool false, .int .i64 0, .string ⟨#[]⟩, .bool false, .string ⟨#[]⟩, .int .i64 0] 41)) w2.heap.size 0 (x.c bi di)) := below_fill (Nat.le_refl _) _ 0 ((Below.refl _ _).alloc (Nat.le_refl _) _)
      have hzF2 : w2.heap.size < (fill (w2.alloc (.cells #[.int .i64 0, .int .i64 0, .int .i64 0, .int .i64 0, .int .i64 0, .string ⟨#[]⟩, .string ⟨#[]⟩, .string ⟨#[]⟩, .slice none 0 0, .int .i64 0, .bool false, .int .i64 0, .string ⟨#[]⟩, .bool false, .string ⟨#[]⟩, .int .i64 0] 41)) w2.heap.size 0 (x.c bi di)).heap.size := by rw [size_fill]; simp
      have hb12 : Below U1.heap.size U1 (fill (w2.alloc (.cells #[.int .i64 0, .int .i64 0, .int .i64 0, .int .i64 0, .int .i64 0, .string ⟨#[]⟩, .string ⟨#[]⟩, .string ⟨#[]⟩, .slice none 0 0, .int .i64 0, .bool false, .int .i64 0, .string ⟨#[]⟩, .bool false, .string ⟨#[]⟩, .int .i64 0] 41)) w2.heap.size 0 (x.c bi di)) := hb2.trans (hbF2.mono hb2.size)
      have hO2 : LkOwn (fill (w2.alloc (.cells #[.int .i64 0, .int .i64 0, .int .i64 0, .int .i64 0, .int .i64 0, .string ⟨#[]⟩, .string ⟨#[]⟩, .string ⟨#[]⟩, .slice none 0 0, .int .i64 0, .bool false, .int .i64 0, .string ⟨#[]⟩, .bool false, .string ⟨#[]⟩, .int .i64 0] 41)) w2.heap.size 0 (x.c bi di)) U1.heap.size bi x.ls := lkown_bel hown hbF2
      have hz12 : U1.heap.size ≤ w2.heap.size := hb2.size
      have hgx : ∃ g, (x.ls = [] ∨ (bi = some ⟨g, 0, none⟩ ∧ Open4 (fill (w2.alloc (.cells #[.int .i64 0, .int .i64 0, .int .i64 0, .int .i64 0, .int .i64 0, .string ⟨#[]⟩, .string ⟨#[]⟩, .string ⟨#[]⟩, .slice none 0 0, .int .i64 0, .bool false, .int .i64 0, .string ⟨#[]⟩, .bool false, .string ⟨#[]⟩, .int .i64 0] 41)) w2.heap.size 0 (x.c bi di)) g x.ls.length)) ∧ U1.heap.size ≤ g ∧ g ≠ w2.heap.size := by
        rcases hown.own with h | ⟨g, h1, h2, h3⟩
        · exact ⟨w2.heap.size + 1, .inl h, by omega, by omega⟩
        · exact ⟨g, .inr ⟨h1, h3.below hbF2⟩, h2, by have := h3.1; omega⟩
      clear hown hb2 hbF2
      have hmark : True := trivial
      go_wp2_with (refine wpList_store_blk rfl 41 (.tmp 7) (.tmp 29) rfl w2.heap.size 0 rfl (x.c bi di) rfl (blk_some (blk_new w2 zG 41) _ rfl) (opn_new w2 _ 41) (G16.c_one _ _ _) (by kernel_rfl) rfl ?_; revert hmark)
      intro _
      generalize (fill (w2.alloc (.cells #[.int .i64 0, .int .i64 0, .int .i64 0, .int .i64 0, .int .i64 0, .string ⟨#[]⟩, .string ⟨#[]⟩, .string ⟨#[]⟩, .slice none 0 0, .int .i64 0, .bool false, .int .i64 0, .string ⟨#[]⟩, .bool false, .string ⟨#[]⟩, .int .i64 0] 41)) w2.heap.size 0 (x.c bi di)) = U2 at *
      generalize w2.heap.size = B7 at *
      obtain ⟨g, hg, hg1, hg2⟩ := hgx
      have hL2 : LksAt U2 ai x.ls := lks_below hL1 hb12
      have h5 : BlkAt U2 B5 (x.c ai ci) := hF1.below hb12 hzF1
      have hB2 : Below w.heap.size w U2 := hB1.trans (hb12.mono hB1.size)
      go_wp2_with (first | refine wpList_load_blk rfl 41 (.tmp 7) rfl B7 rfl (x.c bi di) _ hF2 Tryz.underlying41 rfl (by kernel_rfl) ?_ | refine wpList_load_blk rfl 41 (.tmp 5) rfl B5 rfl (x.c ai ci) _ h5 Tryz.underlying41 rfl (by kernel_rfl) ?_)
      refine (c16v x bi ai di ci _ hn hO2.at' hL2).mono ?_
      rintro e w3 ⟨rfl, hb3⟩
      have hb13 : Below U1.heap.size U1 w3 := hb12.trans (hb3.mono hb12.size)
      have h73 : BlkAt w3 B7 (x.c bi di) := hF2.below hb3 hzF2
      have hz23 : U2.heap.size ≤ w3.heap.size := hb3.size
      have hg3 : x.ls = [] ∨ (bi = some ⟨g, 0, none⟩ ∧ Open4 w3 g x.ls.length) := hg.imp id (fun h => ⟨h.1, h.2.below hb3⟩)
      clear hb3 hg h5 hF2 hL2 hO2
      go_wp2_with (refine wpList_load_blk rfl 41 (.tmp 7) rfl B7 rfl (x.c bi di) _ h73 Tryz.underlying41 rfl (by kernel_rfl) ?_)
      refine (c19v 1 x bi g di _ (by omega) (by omega) hn hg3).mono ?_
      rintro e w4 ⟨rfl, hbu, hmk⟩
      have hb34 : Below U1.heap.size w3 w4 := hbu.below hg1 (by have h := hb13.size; omega)
      have hb14 : Below U1.heap.size U1 w4 := hb13.trans hb34
      have h74 : BlkAt w4 B7 (x.c bi di) := fun j v hv => (hbu.cell (p := ⟨B7, j, none⟩) (by show B7 < w3.heap.size; omega) (by show B7 ≠ g; omega)).trans (h73 j v hv)
      have hz34 : w3.heap.size ≤ w4.heap.size := hbu.size
      have HMK : Hid (x.ls = [] ∨ (bi = some ⟨g, 0, none⟩ ∧ g < w4.heap.size ∧ MarksAt 1 w4 g x.ls.length)) := by
        rcases hmk with h | ⟨h1, h2⟩
        · exact .inl h
        · rcases hg3 with h | ⟨h3, _⟩
          · exact .inl h
          · exact .inr ⟨h3, h1.1, h2⟩
      have hB4 : Below w.heap.size w w4 := hB1.trans (hb14.mono hB1.size)
      clear hbu hmk hg3 h73 hb34 hb13
      generalize hq : (1 : Int) + 4 * (x.ls.length : Int) = Q at *
      have hQ0 : 0 ≤ Q := by omega
      go_wp2_with (refine wpList_load_blk rfl 41 (.tmp 7) rfl B7 rfl (x.c bi di) _ h74 Tryz.underlying41 rfl (by kernel_rfl) ?_)
      refine (c20v 1 x bi g di _ (by omega) (by omega) hn HMK.out).mono ?_
      rintro e w5 ⟨rfl, hb5⟩
      rw [hq]
      have hb15 : Below U1.heap.size U1 w5 := hb14.trans (hb5.mono hb14.size)
      have hz45 : w4.heap.size ≤ w5.heap.size := hb5.size
      have h75 : BlkAt w5 B7 (x.c bi di) := h74.below hb5 (by omega)
      have HMK5 : Hid (x.ls = [] ∨ (bi = some ⟨g, 0, none⟩ ∧ g < w5.heap.size ∧ MarksAt 1 w5 g x.ls.length)) := HMK.out.imp id (fun h => ⟨h.1, by have := h.2.1; omega, marks_below h.2.2 h.2.1 hb5⟩)
      have hB5 : Below w.heap.size w w5 := hB1.trans (hb15.mono hB1.size)
      clear hb5 h74 HMK hb14 hB4
      have hq1 : decide (Q < 0) = false := by simp; omega
      go_wp2_with fail
      refine (c18 s key _ hs hk (max_below HM.out hB5)).mono ?_
      rintro e w6 ⟨⟨y, b, zi, ei, rfl, hy, hzy, _, hown⟩, hb6⟩
      obtain ⟨hab, hxy⟩ := rm_same HX.out hy HZ.out (fun h => (hzy h).1)
      subst hab hxy
      clear hy hzy
      have hF6 : BlkAt (fill (w6.alloc (.cells #[.int .i64 0, .int .i64 0, .int .i64 0, .int .i64 0, .int .i64 0, .string ⟨#[]⟩, .string ⟨#[]⟩, .string ⟨#[]⟩, .slice none 0 0, .int .i64 0, .bool false, .int .i64 0, .string ⟨#[]⟩, .bool false, .string ⟨#[]⟩, .int .i64 0] 41)) w6.heap.size 0 (x.c zi ei)) w6.heap.size (x.c zi ei) := BlkAt.fill (B := w6.heap.size) (x.c zi ei) [] zG [] 0 (blk_new w6 zG 41) rfl rfl
      have hbF6 : Below w6.heap.size w6 (fill (w6.alloc (.cells #[.int .i64 0, .int .i64 0, .int .i64 0, .int .i64 0, .int .i64 0, .string ⟨#[]⟩, .string ⟨#[]⟩, .string ⟨#[]⟩, .slice none 0 0, .int .i64 0, .bool false, .int .i64 0, .string ⟨#[]⟩, .bool false, .string ⟨#[]⟩, .int .i64 0] 41)) w6.heap.size 0 (x.c zi ei)) := below_fill (Nat.le_refl _) _ 0 ((Below.refl _ _).alloc (Nat.le_refl _) _)
      have hzF6 : w6.heap.size < (fill (w6.alloc (.cells #[.int .i64 0, .int .i64 0, .int .i64 0, .int .i64 0, .int .i64 0, .string ⟨#[]⟩, .string ⟨#[]⟩, .string ⟨#[]⟩, .slice none 0 0, .int .i64 0, .bool false, .int .i64 0, .string ⟨#[]⟩, .bool false, .string ⟨#[]⟩, .int .i64 0] 41)) w6.heap.size 0 (x.c zi ei)).heap.size := by rw [size_fill]; simp
      have hb56 : Below w5.heap.size w5 (fill (w6.alloc (.cells #[.int .i64 0, .int .i64 0, .int .i64 0, .int .i64 0, .int .i64 0, .string ⟨#[]⟩, .string ⟨#[]⟩, .string ⟨#[]⟩, .slice none 0 0, .int .i64 0, .bool false, .int .i64 0, .string ⟨#[]⟩, .bool false, .string ⟨#[]⟩, .int .i64 0] 41)) w6.heap.size 0 (x.c zi ei)) := hb6.trans (hbF6.mono hb6.size)
      have hO6 : LksAt (fill (w6.alloc (.cells #[.int .i64 0, .int .i64 0, .int .i64 0, .int .i64 0, .int .i64 0, .string ⟨#[]⟩, .string ⟨#[]⟩, .string ⟨#[]⟩, .slice none 0 0, .int .i64 0, .bool false, .int .i64 0, .string ⟨#[]⟩, .bool false, .string ⟨#[]⟩, .int .i64 0] 41)) w6.heap.size 0 (x.c zi ei)) zi x.ls := lks_below hown.at' hbF6
      have hz56 : w5.heap.size ≤ w6.heap.size := hb6.size
      clear hown hb6 hbF6
      have hmark : True := trivial
      go_wp2_with (refine wpList_store_blk rfl 41 (.tmp 11) (.tmp 55) rfl w6.heap.size 0 rfl (x.c zi ei) rfl (blk_some (blk_new w6 zG 41) _ rfl) (opn_new w6 _ 41) (G16.c_one _ _ _) (by kernel_rfl) rfl ?_; revert hmark)
      intro _
      generalize (fill (w6.alloc (.cells #[.int .i64 0, .int .i64 0, .int .i64 0, .int .i64 0, .int .i64 0, .string ⟨#[]⟩, .string ⟨#[]⟩, .string ⟨#[]⟩, .slice none 0 0, .int .i64 0, .bool false, .int .i64 0, .string ⟨#[]⟩, .bool false, .string ⟨#[]⟩, .int .i64 0] 41)) w6.heap.size 0 (x.c zi ei)) = U6 at *
      generalize w6.heap.size = B11 at *
      have hb16 : Below U1.heap.size U1 U6 := hb15.trans (hb56.mono hb15.size)
      have hL6 : LksAt U6 ai x.ls := lks_below hL1 hb16
      have h56 : BlkAt U6 B5 (x.c ai ci) := hF1.below hb16 hzF1
      have h76 : BlkAt U6 B7 (x.c bi di) := h75.below hb56 (by omega)
      have HMK6 : Hid (x.ls = [] ∨ (bi = some ⟨g, 0, none⟩ ∧ g < U6.heap.size ∧ MarksAt 1 U6 g x.ls.length)) := HMK5.out.imp id (fun h => ⟨h.1, by have h1 := h.2.1; have h2 := hb56.size; omega, marks_below h.2.2 h.2.1 hb56⟩)
      have hB6 : Below w.heap.size w U6 := hB1.trans (hb16.mono hB1.size)
      go_wp2_with (first | refine wpList_load_blk rfl 41 (.tmp 11) rfl B11 rfl (x.c zi ei) _ hF6 Tryz.underlying41 rfl (by kernel_rfl) ?_ | refine wpList_load_blk rfl 41 (.tmp 5) rfl B5 rfl (x.c ai ci) _ h56 Tryz.underlying41 rfl (by kernel_rfl) ?_)
      refine (c16v x zi ai ei ci _ hn hO6 hL6).mono ?_
      rintro e w7 ⟨rfl, hb7⟩
      have h77 : BlkAt w7 B7 (x.c bi di) := h76.below hb7 (by have h1 := hb56.size; omega)
      have HMK7 : Hid (x.ls = [] ∨ (bi = some ⟨g, 0, none⟩ ∧ g < w7.heap.size ∧ MarksAt 1 w7 g x.ls.length)) := HMK6.out.imp id (fun h => ⟨h.1, by have h1 := h.2.1; have h2 := hb7.size; omega, marks_below h.2.2 h.2.1 hb7⟩)
      have hB7 : Below w.heap.size w w7 := hB6.trans (hb7.mono hB6.size)
      clear hb7 h76 h56 hL6 HMK6 HMK5 hB6 hb16 hb56 hF6 hO6
      go_wp2_with (refine wpList_load_blk rfl 41 (.tmp 7) rfl B7 rfl (x.c bi di) _ h77 Tryz.underlying41 rfl (by kernel_rfl) ?_)
      refine (c20v 1 x bi g di _ (by omega) (by omega) hn HMK7.out).mono ?_
      rintro e w8 ⟨rfl, hb8⟩
      rw [hq]
      have hB8 : Below w.heap.size w w8 := hB7.trans (hb8.mono hB7.size)
      go_wp2
      go_ret
      exact ⟨rfl, hB8⟩
    · have h1 : decide (1048576 < (s.size : Int)) = false := by simp; omega
      have h2 : decide (1048576 < (key.size : Int)) = true := by simp; omega
      go_enter Tryz.func5, Tryz.ntmps5
      go_wp2
      go_ret
      exact ⟨rfl, Below.refl _ _⟩
  · have h1 : decide (1048576 < (s.size : Int)) = true := by simp; omega
    go_enter Tryz.func5, Tryz.ntmps5
    go_wp2
    go_ret
    exact ⟨rfl, Below.refl _ _⟩
end Go.Proofs.YtdcgjdgpiogdaaaGreatDoor

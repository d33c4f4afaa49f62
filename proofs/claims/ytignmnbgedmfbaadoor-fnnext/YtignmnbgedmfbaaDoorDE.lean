import Derived.Test.YtignmnbgedmfbaaDoorDD
namespace Go.Proofs.YtignmnbgedmfbaaDoor
open Go.RowKit
/-- The block of a result, and a variable that holds one. -/
structure RX (u : World) (R X : Nat) (c : Int) (t : ByteArray) : Prop where
  r : (∃ c0, u.cell? ⟨R, 0, none⟩ = some (.int .i64 c0)) ∧ ∃ t0, u.cell? ⟨R, 1, none⟩ = some (.string t0)
  rf : u.frozen? ⟨R, 0, none⟩ = false ∧ u.frozen? ⟨R, 1, none⟩ = false
  x : u.cell? ⟨X, 0, none⟩ = some (.int .i64 c) ∧ u.cell? ⟨X, 1, none⟩ = some (.string t)
  xf : u.frozen? ⟨X, 0, none⟩ = false ∧ u.frozen? ⟨X, 1, none⟩ = false
  lt : R < u.heap.size ∧ X < u.heap.size ∧ R ≠ X
theorem RX.but {u u' : World} {q R X : Nat} {c : Int} {t : ByteArray} (h : RX u R X c t) (hk : But q u u') (hR : R ≠ q) (hX : X ≠ q) : RX u' R X c t := by
  obtain ⟨r, rf, x, xf, l1, l2, l3⟩ := h
  refine ⟨?_, ?_, ?_, ?_, Nat.lt_of_lt_of_le l1 hk.size, Nat.lt_of_lt_of_le l2 hk.size, l3⟩
  · rw [hk.cell (by exact l1) (by exact hR), hk.cell (by exact l1) (by exact hR)]; exact r
  · rw [hk.free (by exact l1) (by exact hR), hk.free (by exact l1) (by exact hR)]; exact rf
  · rw [hk.cell (by exact l2) (by exact hX), hk.cell (by exact l2) (by exact hX)]; exact x
  · rw [hk.free (by exact l2) (by exact hX), hk.free (by exact l2) (by exact hX)]; exact xf
theorem RX.set0 {u : World} {R X : Nat} {c c' : Int} {t : ByteArray} (h : RX u R X c t) : RX (u.setCell ⟨X, 0, none⟩ (.int .i64 c')) R X c' t := by
  obtain ⟨⟨⟨c0, r0⟩, t0, r1⟩, ⟨f0, f1⟩, ⟨x0, x1⟩, ⟨y0, y1⟩, l1, l2, l3⟩ := h
  have hn : ∀ j, (⟨X, 0, none⟩ : Addr) ≠ ⟨R, j, none⟩ := fun j e => l3 (by injection e with e _; exact e.symm)
  refine ⟨⟨⟨c0, ?_⟩, t0, ?_⟩, ⟨by simpa using f0, by simpa using f1⟩, ⟨World.cell?_setCell_same _ _ _ x0, ?_⟩, ⟨by simpa using y0, by simpa using y1⟩, by simpa using l1, by simpa using l2, l3⟩
  · rw [World.cell?_setCell_other _ _ _ _ (hn _)]; exact r0
  · rw [World.cell?_setCell_other _ _ _ _ (hn _)]; exact r1
  · rw [World.cell?_setCell_other _ _ _ _ (adr_ne (by omega))]; exact x1
theorem RX.set1 {u : World} {R X : Nat} {c : Int} {t t' : ByteArray} (h : RX u R X c t) : RX (u.setCell ⟨X, 1, none⟩ (.string t')) R X c t' := by
  obtain ⟨⟨⟨c0, r0⟩, t0, r1⟩, ⟨f0, f1⟩, ⟨x0, x1⟩, ⟨y0, y1⟩, l1, l2, l3⟩ := h
  have hn : ∀ j, (⟨X, 1, none⟩ : Addr) ≠ ⟨R, j, none⟩ := fun j e => l3 (by injection e with e _; exact e.symm)
  refine ⟨⟨⟨c0, ?_⟩, t0, ?_⟩, ⟨by simpa using f0, by simpa using f1⟩, ⟨?_, World.cell?_setCell_same _ _ _ x1⟩, ⟨by simpa using y0, by simpa using y1⟩, by simpa using l1, by simpa using l2, l3⟩
  · rw [World.cell?_setCell_other _ _ _ _ (hn _)]; exact r0
  · rw [World.cell?_setCell_other _ _ _ _ (hn _)]; exact r1
  · rw [World.cell?_setCell_other _ _ _ _ (adr_ne (by omega))]; exact x0
theorem str_pick7 (s5 s6 : ByteArray) (h5 : s5.size ≤ 4000) (h6 : s6.size ≤ 4000) (r : Int) (h0 : 0 ≤ r) (h7 : r < 7) : ∃ z : ByteArray, z.size ≤ 4000 ∧ (#[Value.string ⟨#[]⟩, .string ⟨#[120, 32, 121]⟩, .string ⟨#[48, 49]⟩, .string ⟨#[52, 48]⟩, .string ⟨#[52, 49]⟩, .string s5, .string s6] : Array Value)[r.toNat]? = some (.string z) := by
  obtain rfl | rfl | rfl | rfl | rfl | rfl | rfl : r = 0 ∨ r = 1 ∨ r = 2 ∨ r = 3 ∨ r = 4 ∨ r = 5 ∨ r = 6 := by omega
  all_goals first
    | exact ⟨_, by decide, rfl⟩
    | exact ⟨_, h5, rfl⟩
    | exact ⟨_, h6, rfl⟩
set_option maxHeartbeats 4000000 in
set_option maxRecDepth 100000 in
theorem c51 (a : Option Addr) (L cap : Nat) (w : World) (hL : L ≤ 1048576) (hcap : L ≤ cap) (h : BytesAt w a L) :
    Calls Tryd.prog 51 #[.slice a L cap] w fun e w' => (∃ x : R2, e = .returned (.agg #[.int .i64 x.code, .string x.tx]) ∧ x.tx.size ≤ 4021) ∧ Below w.heap.size w w' := by
  have HBY : Hid (BytesAt (w.alloc z42) a L) := by
    rcases h with h | ⟨b, off, ha, hc⟩
    · exact .inl h
    · exact .inr ⟨b, off, ha, fun i hi => by
        obtain ⟨z, hz, hcz⟩ := hc i hi
        exact ⟨z, hz, by rw [((Below.refl w.heap.size w).alloc (Nat.le_refl _) _).cell (cell_block hcz)]; exact hcz⟩⟩
  clear h
  go_enter Tryd.func51, Tryd.ntmps51
  go_wp2_with fail
  refine (c44 a L cap (w.alloc z42) hL hcap HBY.out).mono ?_
  rintro e w1 ⟨rfl, hr1, hb1, hs1⟩
  have hsz : (w.alloc z42).heap.size = w.heap.size + 1 := by simp
  rw [hsz] at hr1 hb1 hs1
  have H1 : Hid (RdTo w1 (w.heap.size + 1) 0) := ⟨0, Nat.le_refl _, hr1⟩
  have HB1 : Hid (Below (w.heap.size + 1) (w.alloc z42) w1) := hb1
  clear hr1 hb1 HBY
  simp only [hsz]
  go_wp2_with fail
  refine (c50 (w.heap.size + 1) 0 w1 (by omega) H1.out).mono ?_
  rintro e w2 ⟨⟨x, rfl, hx⟩, h2, hb2⟩
  obtain ⟨xc, xt⟩ := x
  simp only at hx
  have H2 : Hid (RdTo (w2.alloc (.cells #[.int .i64 xc, .string xt] 42)) (w.heap.size + 1) 3) := (RdTo.later h2 ((Below.refl _ _).alloc (Nat.le_refl _) _)).mono (by omega)
  have hz2 : w.heap.size + 2 ≤ w2.heap.size := by have := hb2.size; omega
  have HX2 : Hid (RX (w2.alloc (.cells #[.int .i64 xc, .string xt] 42)) w.heap.size w2.heap.size xc xt) := by
    have hR : ∀ j, w2.cell? ⟨w.heap.size, j, none⟩ = (w.alloc z42).cell? ⟨w.heap.size, j, none⟩ := fun j => by
      rw [hb2.cell (by show w.heap.size < w1.heap.size; omega) (by show w.heap.size ≠ w.heap.size + 1; omega), HB1.out.cell (by simp)]
    have hF : ∀ j, w2.frozen? ⟨w.heap.size, j, none⟩ = (w.alloc z42).frozen? ⟨w.heap.size, j, none⟩ := fun j => by
      rw [hb2.free (by show w.heap.size < w1.heap.size; omega) (by show w.heap.size ≠ w.heap.size + 1; omega), HB1.out.frozen (by simp)]
    have hp : ∀ j, (w2.alloc (.cells #[.int .i64 xc, .string xt] 42)).cell? ⟨w.heap.size, j, none⟩ = w2.cell? ⟨w.heap.size, j, none⟩ := fun j => ((Below.refl w2.heap.size w2).alloc (Nat.le_refl _) _).cell (by show w.heap.size < w2.heap.size; omega)
    have hpf : ∀ j, (w2.alloc (.cells #[.int .i64 xc, .string xt] 42)).frozen? ⟨w.heap.size, j, none⟩ = w2.frozen? ⟨w.heap.size, j, none⟩ := fun j => ((Below.refl w2.heap.size w2).alloc (Nat.le_refl _) _).frozen (by show w.heap.size < w2.heap.size; omega)
    refine ⟨⟨⟨0, ?_⟩, ⟨⟨#[]⟩, ?_⟩⟩, ⟨?_, ?_⟩, ?_, ?_, by simp; omega⟩
    · rw [hp, hR]; simp [z42]
    · rw [hp, hR]; simp [z42]
    · rw [hpf, hF]; simp [z42]
    · rw [hpf, hF]; simp [z42]
    · simp
    · simp
  have HBA : Hid (Below w.heap.size w (w2.alloc (.cells #[.int .i64 xc, .string xt] 42))) := ((((Below.refl _ _).alloc (Nat.le_refl _) _).trans (HB1.out.mono (by omega))).trans (hb2.below (by omega) (by omega))).alloc (by omega) _
  have hneX : w2.heap.size ≠ w.heap.size + 1 := by omega
  clear h2 hb2 H1 HB1 hs1 hsz
  go_wp2_with fail
  generalize hW2 : (w2.alloc (.cells #[.int .i64 xc, .string xt] 42)) = W at *
  clear hW2
  have hneR : w.heap.size ≠ w.heap.size + 1 := by omega
  have hqw : w.heap.size ≤ w.heap.size + 1 := by omega
  have hXw : w.heap.size ≤ w2.heap.size := by omega
  clear hz2
  generalize w2.heap.size = X at *
  generalize w.heap.size + 1 = q at *
  refine (pickT W q 3 2 (by omega) (by omega) (by omega) H2.out).mono ?_
  rintro e w3 ⟨⟨r3, rfl, r30, r32⟩, h3, ho3⟩
  have H3 : Hid (RdTo w3 q 4) := h3
  have HX3 : Hid (RX w3 w.heap.size X xc xt) := HX2.out.but ho3.but hneR hneX
  have HB3 : Hid (Below w.heap.size w w3) := HBA.out.trans (ho3.below hqw)
  clear h3 ho3 H2 HX2 HBA
  by_cases e3 : r3 = 0
  · subst e3
    obtain ⟨⟨⟨c0, q0⟩, t0, q1⟩, ⟨f0, f1⟩, ⟨x0, x1⟩, ⟨y0, y1⟩, l1, l2, l3⟩ := HX3.out
    go_wp2
    have e00 := World.cell?_setCell_same w3 ⟨w.heap.size, 0, none⟩ (.int .i64 xc) q0
    have e1 := (set2_at w3 w.heap.size 0 (.int .i64 xc) (.string xt) _ _ q0 q1).2
    refine bodyPost_ret (v := .agg #[.int .i64 xc, .string xt]) (by simp [results, Tryd.results51, go_sem, e00, e1]) rfl ⟨⟨⟨xc, xt⟩, rfl, by show xt.size ≤ 4021; omega⟩, ?_⟩
    exact ((HB3.out).setCell (by simp) _).setCell (by simp) _
  obtain rfl : r3 = 1 := by omega
  go_wp2_with fail
  refine (pickT w3 q 4 3 (by omega) (by omega) (by omega) H3.out).mono ?_
  rintro e w4 ⟨⟨r4, rfl, r40, r43⟩, h4, ho4⟩
  have H4 : Hid (RdTo w4 q 5) := h4
  have HX4 : Hid (RX w4 w.heap.size X xc xt) := HX3.out.but ho4.but hneR hneX
  have HB4 : Hid (Below w.heap.size w w4) := HB3.out.trans (ho4.below hqw)
  clear h4 ho4 H3 HX3 HB3
  obtain rfl | rfl | rfl : r4 = 0 ∨ r4 = 1 ∨ r4 = 2 := by omega
  · go_wp2_with fail
    refine (pickT w4 q 5 10 (by omega) (by omega) (by omega) H4.out).mono ?_
    rintro e w5 ⟨⟨r5, rfl, r50, r510⟩, h5, ho5⟩
    have HX5 : Hid (RX w5 w.heap.size X xc xt) := HX4.out.but ho5.but hneR hneX
    have HX6 : Hid (RX (w5.setCell ⟨X, 0, none⟩ (.int .i64 (r5 - 1))) w.heap.size X (r5 - 1) xt) := HX5.out.set0
    have HB5 : Hid (Below w.heap.size w w5) := HB4.out.trans (ho5.below hqw)
    clear h5 ho5 H4 HX4 HB4
    obtain ⟨⟨⟨c0, q0⟩, t0, q1⟩, ⟨f0, f1⟩, ⟨x0, x1⟩, ⟨y0, y1⟩, l1, l2, l3⟩ := HX5.out
    obtain ⟨⟨⟨c0', q0'⟩, t0', q1'⟩, ⟨f0', f1'⟩, ⟨x0', x1'⟩, ⟨y0', y1'⟩, l1', l2', l3'⟩ := HX6.out
    go_wp2
    have e00 := World.cell?_setCell_same (w5.setCell ⟨X, 0, none⟩ (.int .i64 (r5 - 1))) ⟨w.heap.size, 0, none⟩ (.int .i64 (r5 - 1)) q0'
    have e1 := (set2_at (w5.setCell ⟨X, 0, none⟩ (.int .i64 (r5 - 1))) w.heap.size 0 (.int .i64 (r5 - 1)) (.string xt) _ _ q0' q1').2
    refine bodyPost_ret (v := .agg #[.int .i64 (r5 - 1), .string xt]) (by simp [results, Tryd.results51, go_sem, e00, e1]) rfl ⟨⟨⟨(r5 - 1), xt⟩, rfl, by show xt.size ≤ 4021; omega⟩, ?_⟩
    exact ((HB5.out.setCell (by show w.heap.size ≤ X; omega) _).setCell (by simp) _).setCell (by simp) _
  · go_wp2_with fail
    refine (pickT w4 q 5 2 (by omega) (by omega) (by omega) H4.out).mono ?_
    rintro e w5 ⟨⟨r5, rfl, r50, r52⟩, h5, ho5⟩
    have H5 : Hid (RdTo w5 q 6) := h5
    have HX5 : Hid (RX w5 w.heap.size X xc xt) := HX4.out.but ho5.but hneR hneX
    have HB5 : Hid (Below w.heap.size w w5) := HB4.out.trans (ho5.below hqw)
    clear h5 ho5 H4 HX4 HB4
    obtain ⟨n5, rfl⟩ := Int.eq_ofNat_of_zero_le r50
    go_wp2_with fail
    refine (c49 ⟨#[116]⟩ (300 + n5) w5 (by decide) (by omega)).mono ?_
    rintro e w6 ⟨⟨s6, rfl, hs6⟩, hw6⟩
    obtain rfl := hw6.symm
    go_wp2_with fail
    refine (pickT w5 q 6 2 (by omega) (by omega) (by omega) H5.out).mono ?_
    rintro e w7 ⟨⟨r7, rfl, r70, r72⟩, h7, ho7⟩
    have H7 : Hid (RdTo w7 q 7) := h7
    have HX7 : Hid (RX w7 w.heap.size X xc xt) := HX5.out.but ho7.but hneR hneX
    have HB7 : Hid (Below w.heap.size w w7) := HB5.out.trans (ho7.below hqw)
    clear h7 ho7 H5 HX5 HB5
    obtain ⟨n7, rfl⟩ := Int.eq_ofNat_of_zero_le r70
    go_wp2_with fail
    refine (c49 ⟨#[110]⟩ (20 + n7) w7 (by decide) (by omega)).mono ?_
    rintro e w8 ⟨⟨s8, rfl, hs8⟩, hw8⟩
    obtain rfl := hw8.symm
    have hA7 : Below w7.heap.size w7 (w7.alloc (.cells #[.string ⟨#[]⟩, .string ⟨#[120, 32, 121]⟩, .string ⟨#[48, 49]⟩, .string ⟨#[52, 48]⟩, .string ⟨#[52, 49]⟩, .string s6, .string s8] 9)) := (Below.refl _ _).alloc (Nat.le_refl _) _
    have hq7 : q < w7.heap.size := H7.out.lt
    go_wp2_with fail
    refine (pickT (w7.alloc (.cells #[.string ⟨#[]⟩, .string ⟨#[120, 32, 121]⟩, .string ⟨#[48, 49]⟩, .string ⟨#[52, 48]⟩, .string ⟨#[52, 49]⟩, .string s6, .string s8] 9)) q 7 7 (by omega) (by omega) (by omega) (H7.out.later hA7)).mono ?_
    rintro e w9 ⟨⟨r9, rfl, r90, r97⟩, h9, ho9⟩
    have HX9 : Hid (RX w9 w.heap.size X xc xt) := (HX7.out.but (But.of_below hA7) hneR hneX).but ho9.but hneR hneX
    have HB9 : Hid (Below w.heap.size w w9) := (HB7.out.alloc HB7.out.size _).trans (ho9.below hqw)
    obtain ⟨z9, hz9, hc9⟩ := str_pick7 s6 s8 hs6 hs8 r9 r90 r97
    have k9 : w9.cell? ⟨w7.heap.size, r9.toNat, none⟩ = some (.string z9) := by rw [ho9.cell (by show w7.heap.size ≠ q; omega), ← hc9]; simp
    have HX10 : Hid (RX (w9.setCell ⟨X, 1, none⟩ (.string z9)) w.heap.size X xc z9) := HX9.out.set1
    clear h9 ho9 H7 HX7 HB7 hc9 hA7
    obtain ⟨⟨⟨c0, q0⟩, t0, q1⟩, ⟨f0, f1⟩, ⟨x0, x1⟩, ⟨y0, y1⟩, l1, l2, l3⟩ := HX9.out
    obtain ⟨⟨⟨c0', q0'⟩, t0', q1'⟩, ⟨f0', f1'⟩, ⟨x0', x1'⟩, ⟨y0', y1'⟩, l1', l2', l3'⟩ := HX10.out
    go_wp2
    have e00 := World.cell?_setCell_same (w9.setCell ⟨X, 1, none⟩ (.string z9)) ⟨w.heap.size, 0, none⟩ (.int .i64 xc) q0'
    have e1 := (set2_at (w9.setCell ⟨X, 1, none⟩ (.string z9)) w.heap.size 0 (.int .i64 xc) (.string z9) _ _ q0' q1').2
    refine bodyPost_ret (v := .agg #[.int .i64 xc, .string z9]) (by simp [results, Tryd.results51, go_sem, e00, e1]) rfl ⟨⟨⟨xc, z9⟩, rfl, by show z9.size ≤ 4021; omega⟩, ?_⟩
    exact ((HB9.out.setCell (by show w.heap.size ≤ X; omega) _).setCell (by simp) _).setCell (by simp) _
  · have HX6 : Hid (RX (w4.setCell ⟨X, 1, none⟩ (.string (xt ++ ⟨#[32]⟩))) w.heap.size X xc (xt ++ ⟨#[32]⟩)) := HX4.out.set1
    have hcs : (xt ++ (⟨#[32]⟩ : ByteArray)).size ≤ 4021 := by rw [ByteArray.size_append]; have e1 : (⟨#[32]⟩ : ByteArray).size = 1 := rfl; omega
    obtain ⟨⟨⟨c0, q0⟩, t0, q1⟩, ⟨f0, f1⟩, ⟨x0, x1⟩, ⟨y0, y1⟩, l1, l2, l3⟩ := HX4.out
    obtain ⟨⟨⟨c0', q0'⟩, t0', q1'⟩, ⟨f0', f1'⟩, ⟨x0', x1'⟩, ⟨y0', y1'⟩, l1', l2', l3'⟩ := HX6.out
    go_wp2
    have e00 := World.cell?_setCell_same (w4.setCell ⟨X, 1, none⟩ (.string (xt ++ ⟨#[32]⟩))) ⟨w.heap.size, 0, none⟩ (.int .i64 xc) q0'
    have e1 := (set2_at (w4.setCell ⟨X, 1, none⟩ (.string (xt ++ ⟨#[32]⟩))) w.heap.size 0 (.int .i64 xc) (.string (xt ++ ⟨#[32]⟩)) _ _ q0' q1').2
    refine bodyPost_ret (v := .agg #[.int .i64 xc, .string (xt ++ ⟨#[32]⟩)]) (by simp [results, Tryd.results51, go_sem, e00, e1]) rfl ⟨⟨⟨xc, (xt ++ ⟨#[32]⟩)⟩, rfl, hcs⟩, ?_⟩
    exact ((HB4.out.setCell (by show w.heap.size ≤ X; omega) _).setCell (by simp) _).setCell (by simp) _
end Go.Proofs.YtignmnbgedmfbaaDoor

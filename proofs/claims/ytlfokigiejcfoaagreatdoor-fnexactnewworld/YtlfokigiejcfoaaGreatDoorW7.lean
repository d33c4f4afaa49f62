import Derived.Test.YtlfokigiejcfoaaGreatDoorW6
import Derived.Test.YtlfokigiejcfoaaGreatDoorA6
namespace Go.Proofs.YtlfokigiejcfoaaGreatDoor
open Go.RowKit
/-- All that is there stays, but for three blocks. -/
structure But3 (b g h : Nat) (w w' : World) : Prop where
  os : w'.os = w.os
  tape : w'.tape = w.tape
  output : w'.output = w.output
  size : w.heap.size ≤ w'.heap.size
  block : ∀ k, k < w.heap.size → k ≠ b → k ≠ g → k ≠ h → w'.heap[k]? = w.heap[k]?
theorem But3.below {b g h B : Nat} {w w' : World} (x : But3 b g h w w') (h1 : B ≤ b) (h2 : B ≤ g) (h3 : B ≤ h) (hz : B ≤ w.heap.size) : Below B w w' := ⟨x.os, x.tape, x.output, x.size, fun k hk => x.block k (by omega) (by omega) (by omega) (by omega)⟩
theorem but3_of {b g h : Nat} {t u v w : World} (k : Below t.heap.size t u) (x : But2 b g u v) (y : But h v w) : But3 b g h t w :=
  ⟨y.os.trans (x.os.trans k.os), y.tape.trans (x.tape.trans k.tape), y.output.trans (x.output.trans k.output), Nat.le_trans k.size (Nat.le_trans x.size y.size), fun i hi h1 h2 h3 => by
    rw [y.block i (Nat.lt_of_lt_of_le hi (Nat.le_trans k.size x.size)) h3, x.block i (Nat.lt_of_lt_of_le hi k.size) h1 h2, k.block i hi]⟩
theorem but3_below {b g h : Nat} {u v w : World} (x : But3 b g h u v) (y : Below v.heap.size v w) : But3 b g h u w :=
  ⟨y.os.trans x.os, y.tape.trans x.tape, y.output.trans x.output, Nat.le_trans x.size y.size, fun i hi h1 h2 h3 => (y.block i (Nat.lt_of_lt_of_le hi x.size)).trans (x.block i hi h1 h2 h3)⟩
theorem But3.cell {b g h : Nat} {w w' : World} (x : But3 b g h w w') {p : Addr} (hp : p.block < w.heap.size) (h1 : p.block ≠ b) (h2 : p.block ≠ g) (h3 : p.block ≠ h) : w'.cell? p = w.cell? p := World.cell?_of_block (x.block p.block hp h1 h2 h3)
theorem rw_but2 {b g h n : Nat} {u v : World} (x : RW u h n) (k : But2 b g u v) (h1 : h ≠ b) (h2 : h ≠ g) : RW v h n :=
  ⟨Nat.lt_of_lt_of_le x.lt k.size, fun i hi j v hv => (k.cell (p := ⟨h, i * 19 + j, none⟩) x.lt h1 h2).trans (x.cell i hi j v hv)⟩
theorem mki_start {K : Int} {w : World} {h n : Nat} (x : RW w h n) (f : ∀ i, w.frozen? ⟨h, i, none⟩ = false) : MkI K w w h n 0 := by
  refine ⟨But.refl _ _, x.lt, fun i hi => ?_, f, fun i hi => x.cell i hi 11 _ rfl, fun i hi => by omega⟩
  have hr : i % 19 < (wkL (i / 19)).length := by rw [wkL_len]; omega
  have := x.cell (i / 19) (by omega) (i % 19) _ (List.getElem?_eq_getElem hr)
  rw [show i / 19 * 19 + i % 19 = i by omega] at this
  exact ⟨_, this⟩
set_option maxHeartbeats 8000000 in
set_option maxRecDepth 100000 in
theorem c7w (d : Int) (n : Nat) (key : ByteArray) (b lc g hc h wc base : Nat) (w : World) (hn : n ≤ 4) (hx : NW w base n b g h) : Calls Tryz.prog 7 #[.agg (worldL d n key b lc g hc h wc).toArray, .int .i64 1] w fun e w' => e = .returned (.int .i64 (2 + (n : Int) + 18 * (n : Int))) ∧ But3 b g h w w' ∧ MkD n w' b g ∧ h < w'.heap.size ∧ ∀ i, i < n * 19 → w'.cell? ⟨h, i, none⟩ = mkc (2 + (n : Int)) i := by
  have hB0 : Below w.heap.size w (w.alloc (.cells (worldL d n key b lc g hc h wc).toArray 40)) := (Below.refl _ _).alloc (Nat.le_refl _) _
  have hz0 : (w.alloc (.cells (worldL d n key b lc g hc h wc).toArray 40)).heap.size = w.heap.size + 1 := by simp
  have ZA := hidI (M.blk_new w (worldL d n key b lc g hc h wc) 40)
  have lb := hx.nb.b2
  have lg := hx.nb.g2
  have lh := hx.rw.lt
  have NX := hidI (hx.below hB0 ⟨lb, lg, lh⟩)
  have hne := hx.nb.ne
  have hhb := hx.hb
  have hhg := hx.hg
  clear hx
  go_enter Tryz.func7, Tryz.ntmps7
  go_wp2_with (refine wpList_load_at rfl 35 (.tmp 5) rfl ⟨w.heap.size, 1, none⟩ rfl (bossL d n b lc g hc) _ (blk_sub [.string key] (bossL d n b lc g hc) _ ZA.out rfl) Tryz.underlying35 rfl (by kernel_rfl) ?_)
  generalize (w.alloc (.cells (worldL d n key b lc g hc h wc).toArray 40)) = u at *
  refine (c16 d 1 d true b lc g n hc (.string epL) u NX.out.nb.b2 NX.out.nb.g2 hne (by omega) NX.out.nb.cb NX.out.nb.fb (fun i hi => ⟨_, NX.out.nb.cg i hi⟩) NX.out.nb.fg).mono ?_
  rintro e w1 ⟨rfl, hT, hm1, hm2⟩
  have hs1 := hT.size
  have HT := hidI hT
  have H1 := hidI hm1
  have H2 := hidI hm2
  have ZA1 : Hid (M.BlkAt w1 w.heap.size (worldL d n key b lc g hc h wc)) := fun j v e => (hT.cell (p := ⟨w.heap.size, j, none⟩) (show w.heap.size < u.heap.size by omega) (show w.heap.size ≠ b by omega) (show w.heap.size ≠ g by omega)).trans (ZA.out j v e)
  have HR := hidI (mki_start (K := 2 + (n : Int)) (rw_but2 NX.out.rw hT hhb hhg) (fun i => (World.frozen?_of_block (a := ⟨h, i, none⟩) (hT.block h NX.out.rw.lt hhb hhg)).trans (NX.out.fh i)))
  clear hT hm1 hm2 ZA NX
  have a16 := ZA1.out 16 _ rfl
  go_wp2_with fail
  clear a16
  refine (c17 (2 + (n : Int)) (some ⟨h, 0, none⟩) h n wc w1 (by omega) (by omega) (.inr rfl) (by omega) HR.out).mono ?_
  rintro e w2 ⟨rfl, hI⟩
  have hs2 := hI.but.size
  have ZA2 : Hid (M.BlkAt w2 w.heap.size (worldL d n key b lc g hc h wc)) := fun j v e => (hI.but.cell (p := ⟨w.heap.size, j, none⟩) (show w.heap.size < w1.heap.size by omega) (show w.heap.size ≠ h by omega)).trans (ZA1.out j v e)
  have T2 := hidI (but3_of hB0 HT.out hI.but)
  have D2 : Hid (MkD n w2 b g) := ⟨by omega, by omega, (hI.but.cell (p := ⟨b, 0, none⟩) (show b < w1.heap.size by omega) (show b ≠ h by omega)).trans H1.out, fun i hi => (hI.but.cell (p := ⟨g, i, none⟩) (show g < w1.heap.size by omega) (show g ≠ h by omega)).trans (H2.out i hi)⟩
  have M2 := hidI hI.done
  have hl2 := hI.lt
  clear hI ZA1 HT H1 H2 HR
  have a17 := ZA2.out 17 _ rfl
  go_wp2_with fail
  clear a17
  refine (c18z _ none 0 w2).mono ?_
  rintro e w3 ⟨rfl, hb3⟩
  have hs3 := hb3.size
  have a19 := (ZA2.out.below hb3 (by omega)) 19 _ rfl
  go_wp2_with fail
  clear a19
  refine (c19z _ none 0 w3).mono ?_
  rintro e w4 ⟨rfl, hb4⟩
  have h4 := hb3.trans (hb4.mono hb3.size)
  have R1 := hidI (but3_below T2.out h4)
  have R2 := hidI (mkd_below D2.out h4 trivial trivial)
  have R3 : Hid (∀ i, i < n * 19 → w4.cell? ⟨h, i, none⟩ = mkc (2 + (n : Int)) i) := fun i hi => (h4.cell (p := ⟨h, i, none⟩) hl2).trans (M2.out i hi)
  have hl4 : h < w4.heap.size := Nat.lt_of_lt_of_le hl2 h4.size
  clear T2 D2 M2 ZA2 hb3 hb4
  go_wp2
  go_ret
  exact ⟨rfl, R1.out, R2.out, hl4, R3.out⟩
set_option maxHeartbeats 8000000 in
set_option maxRecDepth 100000 in
theorem c8w (d : Int) (n : Nat) (key : ByteArray) (b lc g hc h wc : Nat) (w : World) (hn : n ≤ 4) (hD : MkD n w b g) (hl : h < w.heap.size) (hM : ∀ i, i < n * 19 → w.cell? ⟨h, i, none⟩ = mkc (2 + (n : Int)) i) : Calls Tryz.prog 8 #[.agg (worldL d n key b lc g hc h wc).toArray, .int .i64 1] w fun e w' => e = .returned (.int .i64 (2 + (n : Int) + 18 * (n : Int))) ∧ Below w.heap.size w w' := by
  have hB0 : Below w.heap.size w (w.alloc (.cells (worldL d n key b lc g hc h wc).toArray 40)) := (Below.refl _ _).alloc (Nat.le_refl _) _
  have hz0 : (w.alloc (.cells (worldL d n key b lc g hc h wc).toArray 40)).heap.size = w.heap.size + 1 := by simp
  have ZA := hidI (M.blk_new w (worldL d n key b lc g hc h wc) 40)
  have D0 := hidI (mkd_below hD hB0 trivial trivial)
  have M0 : Hid (∀ i, i < n * 19 → (w.alloc (.cells (worldL d n key b lc g hc h wc).toArray 40)).cell? ⟨h, i, none⟩ = mkc (2 + (n : Int)) i) := fun i hi => (hB0.cell (p := ⟨h, i, none⟩) hl).trans (hM i hi)
  clear hD hM
  have p1 : ¬ 2 + (n : Int) < 0 := by omega
  have p2 : ¬ 2 + (n : Int) + 18 * (n : Int) < 0 := by omega
  go_enter Tryz.func8, Tryz.ntmps8
  go_wp2_with (refine wpList_load_at rfl 35 (.tmp 5) rfl ⟨w.heap.size, 1, none⟩ rfl (bossL d n b lc g hc) _ (blk_sub [.string key] (bossL d n b lc g hc) _ ZA.out rfl) Tryz.underlying35 rfl (by kernel_rfl) ?_)
  generalize (w.alloc (.cells (worldL d n key b lc g hc h wc).toArray 40)) = u at *
  refine (c20 d 1 d true b lc g n hc u D0.out.lb D0.out.lg (by omega) D0.out.cb D0.out.cg).mono ?_
  rintro e w1 ⟨rfl, hb1⟩
  have a16 := (ZA.out.below hb1 (by omega)) 16 _ rfl
  go_wp2_with fail
  clear a16
  have hs1 := hb1.size
  refine (c21 (2 + (n : Int)) (some ⟨h, 0, none⟩) h n wc w1 (by omega) (by omega) (.inr rfl) (by omega) (.inr (by omega)) (fun i hi => (hb1.cell (p := ⟨h, i, none⟩) (show h < u.heap.size by omega)).trans (M0.out i hi))).mono ?_
  rintro e w2 ⟨rfl, hb2⟩
  have h2 := hb1.trans (hb2.mono hb1.size)
  have a17 := (ZA.out.below h2 (by omega)) 17 _ rfl
  go_wp2_with fail
  clear a17
  refine (c22z _ none 0 w2).mono ?_
  rintro e w3 ⟨rfl, hb3⟩
  have h3 := h2.trans (hb3.mono h2.size)
  have a19 := (ZA.out.below h3 (by omega)) 19 _ rfl
  go_wp2_with fail
  clear a19
  refine (c23z _ none 0 w3).mono ?_
  rintro e w4 ⟨rfl, hb4⟩
  have h4 := h3.trans (hb4.mono h3.size)
  have hB4 := hB0.trans (h4.mono hB0.size)
  go_wp2
  go_ret
  exact ⟨rfl, hB4⟩
set_option maxHeartbeats 8000000 in
set_option maxRecDepth 100000 in
theorem c7wz (w : World) : Calls Tryz.prog 7 #[.agg worldZ.toArray, .int .i64 1] w fun e w' => e = .returned (.int .i64 1) ∧ Below w.heap.size w w' := by
  have hB0 : Below w.heap.size w (w.alloc (.cells worldZ.toArray 40)) := (Below.refl _ _).alloc (Nat.le_refl _) _
  have hz0 : (w.alloc (.cells worldZ.toArray 40)).heap.size = w.heap.size + 1 := by simp
  have ZA := hidI (M.blk_new w worldZ 40)
  go_enter Tryz.func7, Tryz.ntmps7
  go_wp2_with (refine wpList_load_at rfl 35 (.tmp 5) rfl ⟨w.heap.size, 1, none⟩ rfl bossZ _ (blk_sub [.string ⟨#[]⟩] bossZ _ ZA.out rfl) Tryz.underlying35 rfl (by kernel_rfl) ?_)
  generalize (w.alloc (.cells worldZ.toArray 40)) = u at *
  refine (c16z 1 0 0 0 false u).mono ?_
  rintro e w1 ⟨rfl, h1⟩
  have a16 := (ZA.out.below h1 (by omega)) 16 _ rfl
  go_wp2_with fail
  clear a16
  refine (c17z 1 none 0 w1).mono ?_
  rintro e w2 ⟨rfl, hb2⟩
  have h2 := h1.trans (hb2.mono h1.size)
  have a17 := (ZA.out.below h2 (by omega)) 17 _ rfl
  go_wp2_with fail
  clear a17
  refine (c18z 1 none 0 w2).mono ?_
  rintro e w3 ⟨rfl, hb3⟩
  have h3 := h2.trans (hb3.mono h2.size)
  have a19 := (ZA.out.below h3 (by omega)) 19 _ rfl
  go_wp2_with fail
  clear a19
  refine (c19z 1 none 0 w3).mono ?_
  rintro e w4 ⟨rfl, hb4⟩
  have h4 := h3.trans (hb4.mono h3.size)
  have hB4 := hB0.trans (h4.mono hB0.size)
  go_wp2
  go_ret
  exact ⟨rfl, hB4⟩
set_option maxHeartbeats 8000000 in
set_option maxRecDepth 100000 in
theorem c8wz (w : World) : Calls Tryz.prog 8 #[.agg worldZ.toArray, .int .i64 1] w fun e w' => e = .returned (.int .i64 1) ∧ Below w.heap.size w w' := by
  have hB0 : Below w.heap.size w (w.alloc (.cells worldZ.toArray 40)) := (Below.refl _ _).alloc (Nat.le_refl _) _
  have hz0 : (w.alloc (.cells worldZ.toArray 40)).heap.size = w.heap.size + 1 := by simp
  have ZA := hidI (M.blk_new w worldZ 40)
  go_enter Tryz.func8, Tryz.ntmps8
  go_wp2_with (refine wpList_load_at rfl 35 (.tmp 5) rfl ⟨w.heap.size, 1, none⟩ rfl bossZ _ (blk_sub [.string ⟨#[]⟩] bossZ _ ZA.out rfl) Tryz.underlying35 rfl (by kernel_rfl) ?_)
  generalize (w.alloc (.cells worldZ.toArray 40)) = u at *
  refine (c20z 1 0 0 0 false u (by decide)).mono ?_
  rintro e w1 ⟨rfl, h1⟩
  have a16 := (ZA.out.below h1 (by omega)) 16 _ rfl
  go_wp2_with fail
  clear a16
  refine (c21z 1 none 0 w1).mono ?_
  rintro e w2 ⟨rfl, hb2⟩
  have h2 := h1.trans (hb2.mono h1.size)
  have a17 := (ZA.out.below h2 (by omega)) 17 _ rfl
  go_wp2_with fail
  clear a17
  refine (c22z 1 none 0 w2).mono ?_
  rintro e w3 ⟨rfl, hb3⟩
  have h3 := h2.trans (hb3.mono h2.size)
  have a19 := (ZA.out.below h3 (by omega)) 19 _ rfl
  go_wp2_with fail
  clear a19
  refine (c23z 1 none 0 w3).mono ?_
  rintro e w4 ⟨rfl, hb4⟩
  have h4 := h3.trans (hb4.mono h3.size)
  have hB4 := hB0.trans (h4.mono hB0.size)
  go_wp2
  go_ret
  exact ⟨rfl, hB4⟩
end Go.Proofs.YtlfokigiejcfoaaGreatDoor

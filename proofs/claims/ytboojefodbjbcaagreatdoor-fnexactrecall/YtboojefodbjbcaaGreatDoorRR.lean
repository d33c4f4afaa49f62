import Derived.Test.YtboojefodbjbcaaGreatDoorZR00
import Derived.Test.YtboojefodbjbcaaGreatDoorZR44
import Derived.Test.YtboojefodbjbcaaGreatDoorRN
import Derived.Test.YtboojefodbjbcaaGreatDoorRP
import Derived.Test.YtboojefodbjbcaaGreatDoorRQ
import Derived.Test.YtboojefodbjbcaaGreatDoorGJ9
namespace Go.Proofs.YtboojefodbjbcaaGreatDoor
open Go.RowKit Go.Maps
set_option maxRecDepth 100000
set_option linter.unusedVariables false
set_option linter.unusedSimpArgs false
set_option maxHeartbeats 16000000 in
theorem c3 (s : St) (ta ra : Option Addr) (tc rc : Nat) (a : Option Addr) (cap : Nat) (fs : List G.T.F2) (m : M3) (da : Option Addr) (dc : Nat) (ds : List G.D8) (w : World) (hs : s.le 9223372036854775807) (hat : StAt w ta ra s) (hfl : fs.length ≤ 9223372036854775807) (hfs : ∀ i, (fs.getD i G.T.f2z).le 9223372036854775807) (hft : G.T.FilesAt w a fs) (hm : m.le 9223372036854775807) (hdl : ds.length ≤ 9223372036854775807) (hds : ∀ i, (ds.getD i G.d8z).le 9223372036854775807) (hdt : G.DeedsAt w da ds) (hv : G.VarsZ w) :
 Calls Tryz.prog 3 #[.agg #[.int .i64 s.wd, .slice ta s.ts.length tc, .slice ra s.rs.length rc], .agg #[.slice a fs.length cap], .agg #[.string m.nm, .string m.tl, .string m.ar], .slice da ds.length dc] w fun e w' => e = .returned (.bool true) ∧ Below w.heap.size w w' := by
 have BW0 : Below w.heap.size w (((w.alloc (.cells #[.int .i64 s.wd, .slice ta s.ts.length tc, .slice ra s.rs.length rc] 25)).alloc (.cells #[.slice a fs.length cap] 28)).alloc (.cells #[.string m.nm, .string m.tl, .string m.ar] 30)) := (((Below.refl _ _).alloc (Nat.le_refl _) _).alloc (by simp) _).alloc (by simp; omega) _
 have s0 : (((w.alloc (.cells #[.int .i64 s.wd, .slice ta s.ts.length tc, .slice ra s.rs.length rc] 25)).alloc (.cells #[.slice a fs.length cap] 28)).alloc (.cells #[.string m.nm, .string m.tl, .string m.ar] 30)).heap.size = w.heap.size + 3 := by simp
 have H4 : Hid (BlkAt (((w.alloc (.cells #[.int .i64 s.wd, .slice ta s.ts.length tc, .slice ra s.rs.length rc] 25)).alloc (.cells #[.slice a fs.length cap] 28)).alloc (.cells #[.string m.nm, .string m.tl, .string m.ar] 30)) w.heap.size [.int .i64 s.wd, .slice ta s.ts.length tc, .slice ra s.rs.length rc]) := hidI (fun j v h => by simp [go_sem, h])
 have H5 : Hid (BlkAt (((w.alloc (.cells #[.int .i64 s.wd, .slice ta s.ts.length tc, .slice ra s.rs.length rc] 25)).alloc (.cells #[.slice a fs.length cap] 28)).alloc (.cells #[.string m.nm, .string m.tl, .string m.ar] 30)) (w.heap.size + 1) [.slice a fs.length cap]) := hidI (fun j v h => by simp [go_sem, h])
 have H6 : Hid (BlkAt (((w.alloc (.cells #[.int .i64 s.wd, .slice ta s.ts.length tc, .slice ra s.rs.length rc] 25)).alloc (.cells #[.slice a fs.length cap] 28)).alloc (.cells #[.string m.nm, .string m.tl, .string m.ar] 30)) (w.heap.size + 1 + 1) [.string m.nm, .string m.tl, .string m.ar]) := hidI (fun j v h => by simp [go_sem, h])
 have HA := hidI hat
 have HF := hidI hft
 have HD := hidI hdt
 have HV := hidI hv
 have p0 := H4.out 0 _ rfl
 have p1 := H4.out 1 _ rfl
 have p2 := H4.out 2 _ rfl
 have h4 := c4 ta ra tc rc s _ hs (HA.out.below BW0)
 have S0 := hidI s0
 clear hat hft hdt hv s0
 go_enter Tryz.func3, Tryz.ntmps3
 go_wp2_with fail
 refine h4.mono ?_
 rintro e w1 ⟨⟨r, rfl, hr⟩, hb1⟩
 clear h4
 generalize (((w.alloc (.cells #[.int .i64 s.wd, .slice ta s.ts.length tc, .slice ra s.rs.length rc] 25)).alloc (.cells #[.slice a fs.length cap] 28)).alloc (.cells #[.string m.nm, .string m.tl, .string m.ar] 30)) = U at *
 rw [S0.out] at hb1
 have k1 : Below (w.heap.size + 3) U w1 := hb1
 have BW1 : Below w.heap.size w w1 := BW0.trans (k1.mono (by omega))
 clear p0 p1 p2
 by_cases hr0 : r < 0
 · clear hr
   go_wp2
   go_ret
   exact ⟨rfl, BW1⟩
 obtain ⟨⟨hs1, hsum⟩, hr1⟩ := hr (by omega)
 have s1 : w.heap.size + 3 ≤ w1.heap.size := by have := k1.size; rw [S0.out] at this; exact this
 clear hr hb1
 have m0 := (H5.out.below k1 (by omega)) 0 _ rfl
 have h5 := G.T.c5l r a cap fs w1 hfs hfl (G.T.files_below HF.out BW1) (by omega) hr1
 go_wp2_with fail
 refine h5.mono ?_
 rintro e w2 ⟨⟨r2, rfl, hr2⟩, hb2⟩
 have k2 : Below (w.heap.size + 3) U w2 := k1.trans (hb2.mono s1)
 have BW2 : Below w.heap.size w w2 := BW0.trans (k2.mono (by omega))
 clear m0 h5
 by_cases hr20 : r2 < 0
 · clear hr2
   go_wp2
   go_ret
   exact ⟨rfl, BW2⟩
 obtain ⟨hf1, hfs1, hr2a⟩ := hr2 (by omega)
 have s2 : w.heap.size + 3 ≤ w2.heap.size := by have := k2.size; rw [S0.out] at this; exact this
 clear hr2 hb2 hfs hfl
 have m0 := (H6.out.below k2 (by omega)) 0 _ rfl
 have m1 := (H6.out.below k2 (by omega)) 1 _ rfl
 have m2 := (H6.out.below k2 (by omega)) 2 _ rfl
 go_wp2_with fail
 refine (c6 m r2 w2 hm (by omega) hr2a).mono ?_
 rintro e w3 ⟨⟨r3, rfl, hr3⟩, hb3⟩
 have k3 : Below (w.heap.size + 3) U w3 := k2.trans (hb3.mono s2)
 have BW3 : Below w.heap.size w w3 := BW0.trans (k3.mono (by omega))
 clear m0 m1 m2
 by_cases hr30 : r3 < 0
 · clear hr3
   go_wp2
   go_ret
   exact ⟨rfl, BW3⟩
 obtain ⟨hm1, hr3a⟩ := hr3 (by omega)
 have s3 : w.heap.size + 3 ≤ w3.heap.size := by have := k3.size; rw [S0.out] at this; exact this
 clear hr3 hb3
 have h7 := G.c7 da dc ds r3 w3 (by omega) hr3a hds hdl (G.deeds_below HD.out BW3)
 go_wp2_with fail
 refine h7.mono ?_
 rintro e w4 ⟨⟨r4, rfl, hr4⟩, hb4⟩
 have k4 : Below (w.heap.size + 3) U w4 := k3.trans (hb4.mono s3)
 have BW4 : Below w.heap.size w w4 := BW0.trans (k4.mono (by omega))
 clear h7
 by_cases hr40 : r4 < 0
 · clear hr4
   go_wp2
   go_ret
   exact ⟨rfl, BW4⟩
 obtain ⟨hd1, hds1, hr4a⟩ := hr4 (by omega)
 have s4 : w.heap.size + 3 ≤ w4.heap.size := by have := k4.size; rw [S0.out] at this; exact this
 clear hr4 hb4 hm hs hds hdl
 obtain ⟨A, hA⟩ : ∃ A, anF s fs m ds = A := ⟨_, rfl⟩
 have hAl : A.ls.length ≤ 1048576 := by rw [← hA]; exact an_len (fun i => (hs1.2.2 i).2.1)
 have HAN := hidI hA
 have HS1 := hidI hs1
 have HFS := hidI hfs1
 have HDS := hidI hds1
 clear hA hs1 hfs1 hds1 k1 k2 k3 BW1 BW2 BW3
 have H9 : Hid (∀ v, Below w4.heap.size w4 v → Calls Tryz.prog 9 #[.agg #[.int .i64 s.wd, .slice ta s.ts.length tc, .slice ra s.rs.length rc]] v fun e w' => (∃ tb rb, e = .returned (.agg #[.int .i64 s.wd, .slice (some ⟨tb, 0, none⟩) s.ts.length s.ts.length, .slice (some ⟨rb, 0, none⟩) s.rs.length s.rs.length]) ∧ StAt w' (some ⟨tb, 0, none⟩) (some ⟨rb, 0, none⟩) s) ∧ Below v.heap.size v w') := fun v hv => (c9o ta ra tc rc s v HS1.out (HA.out.below (BW4.trans (hv.mono BW4.size)))).mono (fun e w' h => by
  obtain ⟨⟨tb, rb, vs, e1, e2, e3, e4⟩, hb⟩ := h
  exact ⟨⟨tb, rb, e1, strs_row e2, recs_own e3⟩, hb⟩)
 have H10 : Hid (∀ v, Below w4.heap.size w4 v → Calls Tryz.prog 10 #[.agg #[.slice a fs.length cap]] v fun e w' => (∃ g, e = .returned (.agg #[.slice (some ⟨g, 0, none⟩) fs.length fs.length]) ∧ G.T.FilesAt w' (some ⟨g, 0, none⟩) fs) ∧ Below v.heap.size v w') := fun v hv => (G.T.c10o a cap fs v hf1 (G.T.files_below HF.out (BW4.trans (hv.mono BW4.size)))).mono (fun e w' h => ⟨⟨_, h.1.choose_spec.2.1, h.1.choose_spec.2.2.1⟩, h.2⟩)
 have H12 : Hid (∀ v, Below w4.heap.size w4 v → Calls Tryz.prog 12 #[.slice da ds.length dc] v fun e w' => (∃ q, e = .returned (.slice (some ⟨q, 0, none⟩) ds.length ds.length) ∧ G.DeedsAt w' (some ⟨q, 0, none⟩) ds) ∧ Below v.heap.size v w') := fun v hv => (G.c12o da dc ds v hd1 HDS.out (G.deeds_below HD.out (BW4.trans (hv.mono BW4.size)))).mono (fun e w' h => ⟨⟨_, h.1.1, h.1.2.deeds⟩, h.2⟩)
 have z4_0 := (H4.out.below k4 (by omega)) 0 _ rfl
 have z4_1 := (H4.out.below k4 (by omega)) 1 _ rfl
 have z4_2 := (H4.out.below k4 (by omega)) 2 _ rfl
 have z5_0 := (H5.out.below k4 (by omega)) 0 _ rfl
 have z6_0 := (H6.out.below k4 (by omega)) 0 _ rfl
 have z6_1 := (H6.out.below k4 (by omega)) 1 _ rfl
 have z6_2 := (H6.out.below k4 (by omega)) 2 _ rfl
 go_wp2_with fail
 refine rl14 (s := s) (fs := fs) (m := m) (ds := ds) (A := A) (b4 := w.heap.size) (b5 := w.heap.size + 1) (b6 := w.heap.size + 1 + 1) (by omega) (by omega) (by omega) z4_0 z4_1 z4_2 z5_0 z6_0 z6_1 z6_2 H9.out H10.out H12.out (fun tb rb g q v hv SA FA DA => (c8 s (some ⟨tb, 0, none⟩) (some ⟨rb, 0, none⟩) s.ts.length s.rs.length (some ⟨g, 0, none⟩) fs.length fs m (some ⟨q, 0, none⟩) ds.length ds v HS1.out SA hf1 HFS.out FA hm1 hd1 HDS.out DA).mono (fun e w' h => ⟨is46_un (HAN.out ▸ h.1), h.2⟩)) (fun _ _ _ _ _ h => h) ?_
 intro y0 y1 y2 y3 y4 y5 y6 y7 y8 y9 y10 y11 av1 cv1 B1 E1 kE1 hB1a hB1b ZE1 TE1 RE1
 have s5 : w.heap.size + 3 ≤ E1.heap.size := by have := kE1.size; omega
 have BW5 : Below w.heap.size w E1 := BW4.trans (kE1.mono BW4.size)
 have j4 := hidI ((H4.out.below k4 (by omega)).below kE1 (by omega))
 have j5 := hidI ((H5.out.below k4 (by omega)).below kE1 (by omega))
 have j6 := hidI ((H6.out.below k4 (by omega)).below kE1 (by omega))
 have G1 := hidI ZE1
 have R1 := hidI (lks_own RE1)
 clear ZE1 RE1 TE1 kE1 H4 H5 H6 k4 H9 H10 H12 hB1a z4_0 z4_1 z4_2 z5_0 z6_0 z6_1 z6_2 BW0 S0 s1 s2 s3
 have i4_0 := j4.out 0 _ rfl
 have i4_1 := j4.out 1 _ rfl
 have i4_2 := j4.out 2 _ rfl
 go_wp2_with fail
 refine (c9o ta ra tc rc s E1 HS1.out (HA.out.below BW5)).mono ?_
 rintro e w6 ⟨⟨tb, rb, vsx, rfl, hx1, hx2, hx3⟩, hb6⟩
 have X1 := hidI hx1
 have X2 := hidI hx2
 have XS := hidI (show StAt w6 (some ⟨tb, 0, none⟩) (some ⟨rb, 0, none⟩) s from ⟨strs_row hx1, recs_own hx2⟩)
 have e6 : E1.heap.size ≤ w6.heap.size := hb6.size
 clear hx1 hx2 hx3 i4_0 i4_1 i4_2
 have bU6 : Below w6.heap.size w6 (w6.alloc (.cells #[.int .i64 s.wd, .slice (some ⟨tb, 0, none⟩) s.ts.length s.ts.length, .slice (some ⟨rb, 0, none⟩) s.rs.length s.rs.length] 45)) := (Below.refl _ _).alloc (Nat.le_refl _) _
 have sU6 : (w6.alloc (.cells #[.int .i64 s.wd, .slice (some ⟨tb, 0, none⟩) s.ts.length s.ts.length, .slice (some ⟨rb, 0, none⟩) s.rs.length s.rs.length] 45)).heap.size = w6.heap.size + 1 := by simp
 have BX := hidI (blk_new w6 [.int .i64 s.wd, .slice (some ⟨tb, 0, none⟩) s.ts.length s.ts.length, .slice (some ⟨rb, 0, none⟩) s.rs.length s.rs.length] 45)
 have OX := hidI (opn_new w6 #[.int .i64 s.wd, .slice (some ⟨tb, 0, none⟩) s.ts.length s.ts.length, .slice (some ⟨rb, 0, none⟩) s.rs.length s.rs.length] 45)
 have dU6 : Below E1.heap.size E1 (w6.alloc (.cells #[.int .i64 s.wd, .slice (some ⟨tb, 0, none⟩) s.ts.length s.ts.length, .slice (some ⟨rb, 0, none⟩) s.rs.length s.rs.length] 45)) := hb6.trans (bU6.mono e6)
 have BWU6 : Below w.heap.size w (w6.alloc (.cells #[.int .i64 s.wd, .slice (some ⟨tb, 0, none⟩) s.ts.length s.ts.length, .slice (some ⟨rb, 0, none⟩) s.rs.length s.rs.length] 45)) := BW5.trans (dU6.mono BW5.size)
 have i5_0 := (j5.out.below dU6 (by omega)) 0 _ rfl
 have h10 := G.T.c10o a cap fs (w6.alloc (.cells #[.int .i64 s.wd, .slice (some ⟨tb, 0, none⟩) s.ts.length s.ts.length, .slice (some ⟨rb, 0, none⟩) s.rs.length s.rs.length] 45)) hf1 (G.T.files_below HF.out BWU6)
 go_wp2_with fail
 generalize (w6.alloc (.cells #[.int .i64 s.wd, .slice (some ⟨tb, 0, none⟩) s.ts.length s.ts.length, .slice (some ⟨rb, 0, none⟩) s.rs.length s.rs.length] 45)) = U6 at *
 refine h10.mono ?_
 rintro e w7 ⟨⟨g, hg6, rfl, hFA, hUf⟩, hb7⟩
 have e7 : U6.heap.size ≤ w7.heap.size := hb7.size
 have FA := hidI hFA
 have FO := hidI (files_opn hFA hUf)
 have hg7 : g < w7.heap.size := hUf.1
 have c7w : Below w6.heap.size w6 w7 := bU6.trans (hb7.mono (by omega))
 have BX7 := hidI (BX.out.below hb7 (by omega))
 have OX7 := hidI (OX.out.below hb7 (by omega))
 clear h10 hFA hUf i5_0 BX OX
 have bU7 : Below w7.heap.size w7 (w7.alloc (.cells #[.slice (some ⟨g, 0, none⟩) fs.length fs.length] 49)) := (Below.refl _ _).alloc (Nat.le_refl _) _
 have sU7 : (w7.alloc (.cells #[.slice (some ⟨g, 0, none⟩) fs.length fs.length] 49)).heap.size = w7.heap.size + 1 := by simp
 have BT := hidI (blk_new w7 [.slice (some ⟨g, 0, none⟩) fs.length fs.length] 49)
 have cU7 : Below w6.heap.size w6 (w7.alloc (.cells #[.slice (some ⟨g, 0, none⟩) fs.length fs.length] 49)) := c7w.trans (bU7.mono (by omega))
 have dU7 : Below E1.heap.size E1 (w7.alloc (.cells #[.slice (some ⟨g, 0, none⟩) fs.length fs.length] 49)) := hb6.trans (cU7.mono e6)
 have BWU7 : Below w.heap.size w (w7.alloc (.cells #[.slice (some ⟨g, 0, none⟩) fs.length fs.length] 49)) := BW5.trans (dU7.mono BW5.size)
 have h12 := G.c12o da dc ds (w7.alloc (.cells #[.slice (some ⟨g, 0, none⟩) fs.length fs.length] 49)) hd1 HDS.out (G.deeds_below HD.out BWU7)
 go_wp2_with fail
 generalize (w7.alloc (.cells #[.slice (some ⟨g, 0, none⟩) fs.length fs.length] 49)) = U7 at *
 refine h12.mono ?_
 rintro e w8 ⟨⟨rfl, hDO⟩, hb8⟩
 have e8 : U7.heap.size ≤ w8.heap.size := hb8.size
 rw [sU7] at hDO e8 hb8
 have DOq := hidI hDO
 have DA := hidI hDO.deeds
 have hq8 : w7.heap.size + 1 < w8.heap.size := hDO.1.1
 have b78 : Below w7.heap.size w7 w8 := bU7.trans (hb8.mono (by omega))
 have c8w : Below w6.heap.size w6 w8 := c7w.trans (b78.mono (by omega))
 have d8 : Below E1.heap.size E1 w8 := hb6.trans (c8w.mono e6)
 have BX8 := hidI (BX7.out.below b78 (by omega))
 have OX8 := hidI (OX7.out.below b78 (by omega))
 have BT8 := hidI (BT.out.below hb8 (by omega))
 have XS8 := hidI (XS.out.below c8w)
 have FA8 := hidI (G.T.files_below FA.out b78)
 have FO8 := hidI (FO.out.below b78)
 clear h12 hDO BX7 OX7 BT XS FA FO bU7 bU6 cU7 c7w hb7 hb8 BWU7 dU7 dU6 BWU6
 have BW8 : Below w.heap.size w w8 := BW5.trans (d8.mono BW5.size)
 have z12_0 := BX8.out 0 _ rfl
 have z12_1 := BX8.out 1 _ rfl
 have z12_2 := BX8.out 2 _ rfl
 have z13_0 := BT8.out 0 _ rfl
 have z6_0 := (j6.out.below d8 (by omega)) 0 _ rfl
 have z6_1 := (j6.out.below d8 (by omega)) 1 _ rfl
 have z6_2 := (j6.out.below d8 (by omega)) 2 _ rfl
 go_wp2_with fail
 refine rl18 (s := s) (fs := fs) (m := m) (ds := ds) (A := A) (b12 := w6.heap.size) (b13 := w7.heap.size) (b6 := w.heap.size + 1 + 1) (by omega) (by omega) (by omega) z12_0 z12_1 z12_2 z13_0 z6_0 z6_1 z6_2 XS8 FA8 DA (fun tb rb g q v hv SA FA DA => (c13 s (some ⟨tb, 0, none⟩) (some ⟨rb, 0, none⟩) s.ts.length s.rs.length (some ⟨g, 0, none⟩) fs.length fs m (some ⟨q, 0, none⟩) ds.length ds v HS1.out SA hf1 HFS.out FA hm1 hd1 HDS.out DA (HV.out.below (BW8.trans (hv.mono BW8.size)))).mono (fun e w' h => ⟨is46_un (HAN.out ▸ h.1), h.2⟩)) (fun _ _ _ _ _ h => h) ?_
 intro x0 x1 x2 x3 x4 x5 x6 x7 x8 av3 cv3 B3 E3 kE3 hB3a hB3b ZE3 TE3 RE3
 have e9 : w8.heap.size ≤ E3.heap.size := kE3.size
 have d9 : Below E1.heap.size E1 E3 := d8.trans (kE3.mono d8.size)
 have G3 := hidI ZE3
 have R3 := hidI RE3
 have g0 := G3.out 0 _ rfl
 have g1 := G3.out 1 _ rfl
 have g2 := G3.out 2 _ rfl
 have g3 := G3.out 3 _ rfl
 have g4 := G3.out 4 _ rfl
 have g5 := G3.out 5 _ rfl
 have o0 := (G1.out.below d9 hB1b) 0 _ rfl
 have o1 := (G1.out.below d9 hB1b) 1 _ rfl
 have o2 := (G1.out.below d9 hB1b) 2 _ rfl
 have o3 := (G1.out.below d9 hB1b) 3 _ rfl
 have o4 := (G1.out.below d9 hB1b) 4 _ rfl
 have o5 := (G1.out.below d9 hB1b) 5 _ rfl
 have L3 := hidI (lks_own RE3)
 have L1 := hidI (lks_below R1.out d9)
 clear ZE3 RE3 TE3 z12_0 z12_1 z12_2 z13_0 z6_0 z6_1 z6_2
 go_wp2_with fail
 refine (c14 A.ov A.cd A.tx false A.nm 0 E3).mono ?_
 rintro e w9 ⟨rfl, hb9⟩
 clear g0 g1 g2 g3 g4 g5 o0 o1 o2 o3 o4 o5
 go_wp2_with fail
 refine (c15 av3 av1 cv3 cv1 A.ls w9 hAl (lks_below L3.out hb9) (lks_below L1.out hb9)).mono ?_
 rintro e w10 ⟨rfl, hb10⟩
 have kt : Below E3.heap.size E3 w10 := hb9.trans (hb10.mono hb9.size)
 have f10 : Below w8.heap.size w8 w10 := kE3.trans (kt.mono e9)
 have d10 : Below E1.heap.size E1 w10 := d9.trans (kt.mono d9.size)
 have G10 := hidI (G3.out.below kt hB3b)
 have R10 := hidI (own_below R3.out kt)
 have hB3c : B3 < w10.heap.size := Nat.lt_of_lt_of_le hB3b kt.size
 have e10 : w8.heap.size ≤ w10.heap.size := f10.size
 have BW10 : Below w.heap.size w w10 := BW5.trans (d10.mono BW5.size)
 clear L3 L1 G3 R3 hb9 hb10 kt kE3 d9
 have z0 := (BX8.out.below f10 (by omega)) 0 _ rfl
 have z1 := (BX8.out.below f10 (by omega)) 1 _ rfl
 have z2 := (BX8.out.below f10 (by omega)) 2 _ rfl
 have i4_0 := (j4.out.below d10 (by omega)) 0 _ rfl
 have i4_1 := (j4.out.below d10 (by omega)) 1 _ rfl
 have i4_2 := (j4.out.below d10 (by omega)) 2 _ rfl
 have hx8 : w6.heap.size < w10.heap.size := by omega
 have hz8 : w.heap.size < w10.heap.size := by omega
 have h9 := c9o ta ra tc rc s w10.drew HS1.out (HA.out.below (BW10.trans ((Below.refl w10.heap.size w10).drew.mono BW10.size)))
 have XS10 := hidI (XS8.out.below f10)
 go_wp2_with fail
 refine wp_region_held_drew (S := (fun u => (u.cell? ⟨w6.heap.size, 0, none⟩ = some (.int .i64 s.wd) ∧ u.cell? ⟨w6.heap.size, 1, none⟩ = some (.slice (some ⟨tb, 0, none⟩) s.ts.length s.ts.length) ∧ u.cell? ⟨w6.heap.size, 2, none⟩ = some (.slice (some ⟨rb, 0, none⟩) s.rs.length s.rs.length)) ∧ u.cell? ⟨w.heap.size, 0, none⟩ = some (.int .i64 s.wd) ∧ u.cell? ⟨w.heap.size, 1, none⟩ = some (.slice ta s.ts.length tc) ∧ u.cell? ⟨w.heap.size, 2, none⟩ = some (.slice ra s.rs.length rc))) (by kernel_rfl) ?_ (fun hHeld => ?_)
 · ((try dsimp only); first | exact ⟨⟨z0, z1, z2⟩, i4_0, i4_1, i4_2⟩ | (exact ⟨⟨(hbt.cell (p := ⟨w6.heap.size, 0, none⟩) hx8).trans z0, (hbt.cell (p := ⟨w6.heap.size, 1, none⟩) hx8).trans z1, (hbt.cell (p := ⟨w6.heap.size, 2, none⟩) hx8).trans z2⟩, (hbt.cell (p := ⟨w.heap.size, 0, none⟩) hz8).trans i4_0, (hbt.cell (p := ⟨w.heap.size, 1, none⟩) hz8).trans i4_1, (hbt.cell (p := ⟨w.heap.size, 2, none⟩) hz8).trans i4_2⟩) | (exact ⟨⟨(hb11.cell (p := ⟨w6.heap.size, 0, none⟩) hx8).trans z0, (hb11.cell (p := ⟨w6.heap.size, 1, none⟩) hx8).trans z1, (hb11.cell (p := ⟨w6.heap.size, 2, none⟩) hx8).trans z2⟩, (hb11.cell (p := ⟨w.heap.size, 0, none⟩) hz8).trans i4_0, (hb11.cell (p := ⟨w.heap.size, 1, none⟩) hz8).trans i4_1, (hb11.cell (p := ⟨w.heap.size, 2, none⟩) hz8).trans i4_2⟩))
 refine tk (i := 0) (oi := ⟨some 79, .load 45 (.tmp 12), 45, _, _, none⟩) (v := ?_) rfl (by kernel_rfl) rfl ?e hHeld ?_
 case e => intro wq hSw; (try dsimp only at hSw); go_simp; try with_reducible rfl
 try simp only [qq]
 refine tk (i := 1) (oi := ⟨some 80, .load 25 (.tmp 4), 25, _, _, none⟩) (v := ?_) rfl (by kernel_rfl) rfl ?e hHeld ?_
 case e => intro wq hSw; (try dsimp only at hSw); go_simp; try with_reducible rfl
 try simp only [qq]
 refine rd (i := 2) (o := ⟨some 81, .call ⟨.value (.func 9), #[.tmp 80], #[25]⟩, 45, _, _, none⟩) rfl (by kernel_rfl) (fun K hK => ?_)
 go_simp
 refine h9.mono ?_
 rintro e w11 ⟨⟨tb9, rb9, vs9, rfl, hy1, hy2, hy3⟩, hb110⟩
 have hb11 := (Below.refl w10.heap.size w10).drew.trans hb110
 have hst9 := hidI (show StAt w11 (some ⟨tb9, 0, none⟩) (some ⟨rb9, 0, none⟩) s from ⟨strs_row hy1, recs_own hy2⟩)
 clear hy1 hy2 hy3 h9
 go_wp2_with fail
 clear hHeld
 refine hK.out _ _ ?_ (fun hHeld => ?_)
 · ((try dsimp only); first | exact ⟨⟨z0, z1, z2⟩, i4_0, i4_1, i4_2⟩ | (exact ⟨⟨(hbt.cell (p := ⟨w6.heap.size, 0, none⟩) hx8).trans z0, (hbt.cell (p := ⟨w6.heap.size, 1, none⟩) hx8).trans z1, (hbt.cell (p := ⟨w6.heap.size, 2, none⟩) hx8).trans z2⟩, (hbt.cell (p := ⟨w.heap.size, 0, none⟩) hz8).trans i4_0, (hbt.cell (p := ⟨w.heap.size, 1, none⟩) hz8).trans i4_1, (hbt.cell (p := ⟨w.heap.size, 2, none⟩) hz8).trans i4_2⟩) | (exact ⟨⟨(hb11.cell (p := ⟨w6.heap.size, 0, none⟩) hx8).trans z0, (hb11.cell (p := ⟨w6.heap.size, 1, none⟩) hx8).trans z1, (hb11.cell (p := ⟨w6.heap.size, 2, none⟩) hx8).trans z2⟩, (hb11.cell (p := ⟨w.heap.size, 0, none⟩) hz8).trans i4_0, (hb11.cell (p := ⟨w.heap.size, 1, none⟩) hz8).trans i4_1, (hb11.cell (p := ⟨w.heap.size, 2, none⟩) hz8).trans i4_2⟩))
 clear hK K
 try simp only [qq]
 refine rd (i := 3) (o := ⟨some 82, .call ⟨.value (.func 16), #[.tmp 79, .tmp 81], #[45, 45]⟩, 4, _, _, none⟩) rfl (by kernel_rfl) (fun K hK => ?_)
 go_simp
 refine (c16 (some ⟨tb, 0, none⟩) (some ⟨rb, 0, none⟩) (some ⟨tb9, 0, none⟩) (some ⟨rb9, 0, none⟩) s.ts.length s.rs.length s.ts.length s.rs.length s w11 HS1.out (XS10.out.below hb11) hst9.out).mono ?_
 rintro e w12 ⟨rfl, hb12⟩
 have hbt := hb11.trans (hb12.mono hb11.size)
 go_wp2_with fail
 clear hHeld
 refine hK.out _ _ ?_ (fun hHeld => ?_)
 · ((try dsimp only); first | exact ⟨⟨z0, z1, z2⟩, i4_0, i4_1, i4_2⟩ | (exact ⟨⟨(hbt.cell (p := ⟨w6.heap.size, 0, none⟩) hx8).trans z0, (hbt.cell (p := ⟨w6.heap.size, 1, none⟩) hx8).trans z1, (hbt.cell (p := ⟨w6.heap.size, 2, none⟩) hx8).trans z2⟩, (hbt.cell (p := ⟨w.heap.size, 0, none⟩) hz8).trans i4_0, (hbt.cell (p := ⟨w.heap.size, 1, none⟩) hz8).trans i4_1, (hbt.cell (p := ⟨w.heap.size, 2, none⟩) hz8).trans i4_2⟩) | (exact ⟨⟨(hb11.cell (p := ⟨w6.heap.size, 0, none⟩) hx8).trans z0, (hb11.cell (p := ⟨w6.heap.size, 1, none⟩) hx8).trans z1, (hb11.cell (p := ⟨w6.heap.size, 2, none⟩) hx8).trans z2⟩, (hb11.cell (p := ⟨w.heap.size, 0, none⟩) hz8).trans i4_0, (hb11.cell (p := ⟨w.heap.size, 1, none⟩) hz8).trans i4_1, (hb11.cell (p := ⟨w.heap.size, 2, none⟩) hz8).trans i4_2⟩))
 clear hK K
 try simp only [qq]
 refine tk (i := 4) (oi := ⟨some 83, .unOp .not 4 (.tmp 82), 4, _, _, none⟩) (v := ?_) rfl (by kernel_rfl) rfl ?e hHeld ?_
 case e => intro wq hSw; (try dsimp only at hSw); go_simp; try with_reducible rfl
 try simp only [qq]
 refine wpAnyH_done (by kernel_rfl) ?_ _
 have f12 : Below w8.heap.size w8 w12 := f10.trans (hbt.mono e10)
 have d12 : Below E1.heap.size E1 w12 := d10.trans (hbt.mono d10.size)
 have BW12 : Below w.heap.size w w12 := BW5.trans (d12.mono BW5.size)
 have e12 : w8.heap.size ≤ w12.heap.size := f12.size
 have G12 := hidI (G10.out.below hbt hB3c)
 have R12 := hidI (own_below R10.out hbt)
 have hB3d : B3 < w12.heap.size := Nat.lt_of_lt_of_le hB3c hbt.size
 clear z0 z1 z2 i4_0 i4_1 i4_2 hst9 G10 R10 hb110 hb11 hb12 hbt XS10 hx8 hz8
 have z0 := (BT8.out.below f12 (by omega)) 0 _ rfl
 have i5_0 := (j5.out.below d12 (by omega)) 0 _ rfl
 have hx8 : w7.heap.size < w12.heap.size := by omega
 have hz8 : w.heap.size + 1 < w12.heap.size := by omega
 have h10 := G.T.c10o a cap fs w12.drew hf1 (G.T.files_below HF.out (BW12.trans ((Below.refl w12.heap.size w12).drew.mono BW12.size)))
 have FA12 := hidI (G.T.files_below FA8.out f12)
 go_wp2_with fail
 refine wp_region_held_drew (S := (fun u => u.cell? ⟨w7.heap.size, 0, none⟩ = some (.slice (some ⟨g, 0, none⟩) fs.length fs.length) ∧ u.cell? ⟨w.heap.size + 1, 0, none⟩ = some (.slice a fs.length cap))) (by kernel_rfl) ?_ (fun hHeld => ?_)
 · ((try dsimp only); first | exact ⟨z0, i5_0⟩ | (exact ⟨(hbt.cell (p := ⟨w7.heap.size, 0, none⟩) hx8).trans z0, (hbt.cell (p := ⟨w.heap.size + 1, 0, none⟩) hz8).trans i5_0⟩) | (exact ⟨(hb13.cell (p := ⟨w7.heap.size, 0, none⟩) hx8).trans z0, (hb13.cell (p := ⟨w.heap.size + 1, 0, none⟩) hz8).trans i5_0⟩))
 refine tk (i := 0) (oi := ⟨some 84, .load 49 (.tmp 13), 49, _, _, none⟩) (v := ?_) rfl (by kernel_rfl) rfl ?e hHeld ?_
 case e => intro wq hSw; (try dsimp only at hSw); go_simp; try with_reducible rfl
 try simp only [qq]
 refine tk (i := 1) (oi := ⟨some 85, .load 28 (.tmp 5), 28, _, _, none⟩) (v := ?_) rfl (by kernel_rfl) rfl ?e hHeld ?_
 case e => intro wq hSw; (try dsimp only at hSw); go_simp; try with_reducible rfl
 try simp only [qq]
 refine rd (i := 2) (o := ⟨some 86, .call ⟨.value (.func 10), #[.tmp 85], #[28]⟩, 49, _, _, none⟩) rfl (by kernel_rfl) (fun K hK => ?_)
 go_simp
 refine h10.mono ?_
 rintro e w13 ⟨⟨g9, _, rfl, hy1, _⟩, hb130⟩
 have hb13 := (Below.refl w12.heap.size w12).drew.trans hb130
 have hfa9 := hidI hy1
 clear hy1 h10
 go_wp2_with fail
 clear hHeld
 refine hK.out _ _ ?_ (fun hHeld => ?_)
 · ((try dsimp only); first | exact ⟨z0, i5_0⟩ | (exact ⟨(hbt.cell (p := ⟨w7.heap.size, 0, none⟩) hx8).trans z0, (hbt.cell (p := ⟨w.heap.size + 1, 0, none⟩) hz8).trans i5_0⟩) | (exact ⟨(hb13.cell (p := ⟨w7.heap.size, 0, none⟩) hx8).trans z0, (hb13.cell (p := ⟨w.heap.size + 1, 0, none⟩) hz8).trans i5_0⟩))
 clear hK K
 try simp only [qq]
 refine rd (i := 3) (o := ⟨some 87, .call ⟨.value (.func 17), #[.tmp 84, .tmp 86], #[49, 49]⟩, 4, _, _, none⟩) rfl (by kernel_rfl) (fun K hK => ?_)
 go_simp
 refine (G.T.c17 (some ⟨g, 0, none⟩) (some ⟨g9, 0, none⟩) fs.length fs.length fs w13 hf1 (G.T.files_below FA12.out hb13) hfa9.out).mono ?_
 rintro e w14 ⟨rfl, hb14⟩
 have hbt := hb13.trans (hb14.mono hb13.size)
 go_wp2_with fail
 clear hHeld
 refine hK.out _ _ ?_ (fun hHeld => ?_)
 · ((try dsimp only); first | exact ⟨z0, i5_0⟩ | (exact ⟨(hbt.cell (p := ⟨w7.heap.size, 0, none⟩) hx8).trans z0, (hbt.cell (p := ⟨w.heap.size + 1, 0, none⟩) hz8).trans i5_0⟩) | (exact ⟨(hb13.cell (p := ⟨w7.heap.size, 0, none⟩) hx8).trans z0, (hb13.cell (p := ⟨w.heap.size + 1, 0, none⟩) hz8).trans i5_0⟩))
 clear hK K
 try simp only [qq]
 refine tk (i := 4) (oi := ⟨some 88, .unOp .not 4 (.tmp 87), 4, _, _, none⟩) (v := ?_) rfl (by kernel_rfl) rfl ?e hHeld ?_
 case e => intro wq hSw; (try dsimp only at hSw); go_simp; try with_reducible rfl
 try simp only [qq]
 refine wpAnyH_done (by kernel_rfl) ?_ _
 have f14 : Below w8.heap.size w8 w14 := f12.trans (hbt.mono e12)
 have d14 : Below E1.heap.size E1 w14 := d12.trans (hbt.mono d12.size)
 have BW14 : Below w.heap.size w w14 := BW5.trans (d14.mono BW5.size)
 have e14 : w8.heap.size ≤ w14.heap.size := f14.size
 have G14 := hidI (G12.out.below hbt hB3d)
 have R14 := hidI (own_below R12.out hbt)
 have hB3e : B3 < w14.heap.size := Nat.lt_of_lt_of_le hB3d hbt.size
 clear z0 i5_0 hfa9 G12 R12 hb130 hb13 hb14 hbt FA12 hx8 hz8
 have h12 := G.c12o da dc ds w14 hd1 HDS.out (G.deeds_below HD.out BW14)
 go_wp2_with fail
 refine h12.mono ?_
 rintro e w15 ⟨⟨rfl, hD9⟩, hb15⟩
 have DA9 := hidI hD9.deeds
 clear h12 hD9
 go_wp2_with fail
 refine (G.c18 (some ⟨w7.heap.size + 1, 0, none⟩) (some ⟨w14.heap.size, 0, none⟩) ds.length ds.length ds w15 hd1 HDS.out (G.deeds_below DA.out (f14.trans (hb15.mono e14))) DA9.out).mono ?_
 rintro e w16 ⟨rfl, hb16⟩
 have hbt : Below w14.heap.size w14 w16 := hb15.trans (hb16.mono hb15.size)
 have f16 : Below w8.heap.size w8 w16 := f14.trans (hbt.mono e14)
 have d16 : Below E1.heap.size E1 w16 := d14.trans (hbt.mono d14.size)
 have e16 : w8.heap.size ≤ w16.heap.size := f16.size
 have G16 := hidI (G14.out.below hbt hB3e)
 have R16 := hidI (own_below R14.out hbt)
 have hB3f : B3 < w16.heap.size := Nat.lt_of_lt_of_le hB3e hbt.size
 have BX16 := hidI (BX8.out.below f16 (by omega))
 have OX16 := hidI (OX8.out.below f16 (by omega))
 have BT16 := hidI (BT8.out.below f16 (by omega))
 have FO16 := hidI (FO8.out.below f16)
 have c16w : Below w6.heap.size w6 w16 := c8w.trans (f16.mono (by omega))
 clear hb15 hb16 hbt DA9 G14 R14 BX8 OX8 BT8 FO8 XS8 FA8 DA
 have z0 := BX16.out 0 _ rfl
 have z1 := BX16.out 1 _ rfl
 have z2 := BX16.out 2 _ rfl
 have h19 := c19 1 s (some ⟨tb, 0, none⟩) (some ⟨rb, 0, none⟩) s.ts.length s.rs.length E1.heap.size vsx w16 (by omega) (by omega) HS1.out.1.1 HS1.out.2.1 d16.size (own_below X1.out c16w) (X2.out.keep (fun q t hT _ _ => c16w.block q (ofT_lt hT)))
 rw [mkN_eq] at h19
 go_wp2_with fail
 refine h19.mono ?_
 rintro e w17 ⟨rfl, _, hC17⟩
 have NF : Hid (∀ q, w6.heap.size ≤ q → ¬ stF (.slice (some ⟨tb, 0, none⟩) s.ts.length s.ts.length) (.slice (some ⟨rb, 0, none⟩) s.rs.length s.rs.length) vsx s.rs.length q) := fun q hq hf => by have := (stF_lo X1.out X2.out hf).2.1; omega
 have d17 : Below E1.heap.size E1 w17 := d16.trans (hC17.below d16.size (fun q hf => (stF_lo X1.out X2.out hf).1))
 have e17 : w16.heap.size ≤ w17.heap.size := hC17.size
 have SM17 : Hid (∀ q, w6.heap.size ≤ q → q < w16.heap.size → w17.heap[q]? = w16.heap[q]?) := fun q h1 h2 => hC17.block q h2 (NF.out q h1)
 have BT17 := hidI (blk_same BT16.out (SM17.out w7.heap.size (by omega) (by omega)))
 have FO17 := hidI (opnC_same FO16.out e17 (SM17.out g (by omega) (by omega)))
 clear h19 hC17 NF z0 z1 z2 X1 X2 BT16 FO16 BX16
 have z0 := BT17.out 0 _ rfl
 have h20 := c20 (1 + (s.ts.length : Int) + 2 * (s.rs.length : Int) + 3 * (gsum s.rs : Int)) (some ⟨g, 0, none⟩) g fs.length fs.length w17 (by omega) (by omega) (.inr rfl) hf1 FO17.out
 go_wp2_with fail
 refine h20.mono ?_
 rintro e w18 ⟨rfl, hB18⟩
 have d18 : Below E1.heap.size E1 w18 := d17.trans (hB18.below (by omega) (by omega))
 have e18 : w17.heap.size ≤ w18.heap.size := hB18.size
 have SM18 : Hid (∀ q, w7.heap.size ≤ q → q < w16.heap.size → w18.heap[q]? = w16.heap[q]?) := fun q h1 h2 => (hB18.block q (by omega) (by omega)).trans (SM17.out q (by omega) h2)
 have SX18 : w18.heap[w6.heap.size]? = w16.heap[w6.heap.size]? := (hB18.block w6.heap.size (by omega) (by omega)).trans (SM17.out w6.heap.size (by omega) (by omega))
 have DM8 := dm_of hq8 DOq.out (fun i => (HDS.out i).2.2.1.1)
 have DM18 := hidI (DM8.of_same (by omega) (fun k h1 h2 => (SM18.out k (by omega) (by omega)).trans (f16.block k h2)))
 clear h20 hB18 DM8 DOq z0 BT17 FO17 SM17
 have h21 := c21 (1 + (s.ts.length : Int) + 2 * (s.rs.length : Int) + 3 * (gsum s.rs : Int) + 2 * (fs.length : Int)) (some ⟨w7.heap.size + 1, 0, none⟩) (w7.heap.size + 1) w8.heap.size ds.length ds.length w18 (by omega) (by omega) (.inr rfl) hd1 DM18.out
 go_wp2_with fail
 refine h21.mono ?_
 rintro e w19 ⟨⟨r9, rfl, hr9, hr9b⟩, hC19⟩
 have d19 : Below E1.heap.size E1 w19 := d18.trans (hC19.below d18.size (fun k hk => by omega))
 have e19 : w18.heap.size ≤ w19.heap.size := hC19.size
 have SM19 : Hid (∀ k, w8.heap.size ≤ k → k < w16.heap.size → w19.heap[k]? = w16.heap[k]?) := fun k h1 h2 => (hC19.block k (by omega) (by omega)).trans (SM18.out k (by omega) h2)
 have SX19 : w19.heap[w6.heap.size]? = w16.heap[w6.heap.size]? := (hC19.block w6.heap.size (by omega) (by omega)).trans SX18
 have G19 := hidI (blk_same G16.out (SM19.out B3 (by omega) hB3f))
 have OX19 := hidI (opn_same OX16.out SX19)
 have R19 := hidI (own_keep' R16.out (fun k hk => SM19.out k (own_blk R16.out hk) (ofT_lt (own_ofT R16.out hk))))
 have hB3g : B3 < w19.heap.size := by omega
 clear h21 hC19 DM18 G16 R16 OX16 SM18 SX18 SX19 SM19
 have g0 := G19.out 0 _ rfl
 have g1 := G19.out 1 _ rfl
 have g2 := G19.out 2 _ rfl
 have g3 := G19.out 3 _ rfl
 have g4 := G19.out 4 _ rfl
 have g5 := G19.out 5 _ rfl
 have o0 := (G1.out.below d19 hB1b) 0 _ rfl
 have o1 := (G1.out.below d19 hB1b) 1 _ rfl
 have o2 := (G1.out.below d19 hB1b) 2 _ rfl
 have o3 := (G1.out.below d19 hB1b) 3 _ rfl
 have o4 := (G1.out.below d19 hB1b) 4 _ rfl
 have o5 := (G1.out.below d19 hB1b) 5 _ rfl
 go_wp2_with fail
 refine (c14 A.ov A.cd A.tx false A.nm 0 w19).mono ?_
 rintro e w20 ⟨rfl, hb20⟩
 clear g0 g1 g2 g3 g4 g5 o0 o1 o2 o3 o4 o5 G19
 go_wp2_with fail
 refine (c15 av3 av1 cv3 cv1 A.ls w20 hAl (lks_below (lks_own R19.out) hb20) (lks_below (lks_below R1.out d19) hb20)).mono ?_
 rintro e w21 ⟨rfl, hb21⟩
 have kt : Below w19.heap.size w19 w21 := hb20.trans (hb21.mono hb20.size)
 have d21 : Below E1.heap.size E1 w21 := d19.trans (kt.mono d19.size)
 have R21 := hidI (own_below R19.out kt)
 have OX21 := hidI (OX19.out.below kt (by omega))
 have e21 : w19.heap.size ≤ w21.heap.size := kt.size
 clear hb20 hb21 kt R19 OX19
 obtain ⟨bL, hbL1, hbL2, hbL3⟩ : ∃ bL, (A.ls.length = 0 ∨ av3 = some ⟨bL, 0, none⟩) ∧ E1.heap.size ≤ bL ∧ Open4 w21 bL A.ls.length := by
  rcases Nat.eq_zero_or_pos A.ls.length with h0 | hp
  · exact ⟨w6.heap.size, .inl h0, e6, by omega, fun j hj => by omega, OX21.out⟩
  · obtain ⟨gg, hgg, hgl⟩ := row_addr R21.out hp
    have hge := own_blk R21.out (k := gg) (by rw [hgg]; simp [Value.ownBlock])
    exact ⟨gg, .inr hgg, by omega, own_open4 (by rw [← hgg]; exact R21.out) hgl⟩
 have HO4 := hidI hbL3
 clear hbL3 R21 OX21
 have h22 := c22 1 av3 bL A.ls.length cv3 w21 (by omega) (by omega) hbL1 hAl HO4.out
 go_wp2_with fail
 refine h22.mono ?_
 rintro e w22 ⟨rfl, hB22, hO22, hM22, _⟩
 have d22 : Below E1.heap.size E1 w22 := d21.trans (hB22.below hbL2 d21.size)
 have e22 : w21.heap.size ≤ w22.heap.size := hB22.size
 have M22 := hidI hM22
 have hbl22 : bL < w22.heap.size := hO22.1
 clear h22 hB22 hO22 hM22 HO4
 have h23 := fun u (hu : bL < u.heap.size) (hm : MarksAt 1 u bL A.ls.length) => c23 1 av3 bL A.ls.length cv3 u (by omega) (by omega) hbL1 hAl hu hm
 have H23 := hidI h23
 clear h23
 go_wp2_with fail
 refine (H23.out w22 hbl22 M22.out).mono ?_
 rintro e w23 ⟨rfl, hb23⟩
 have d23 : Below E1.heap.size E1 w23 := d22.trans (hb23.mono d22.size)
 have M23 := hidI (marks_below M22.out hbl22 hb23)
 have hbl23 : bL < w23.heap.size := Nat.lt_of_lt_of_le hbl22 hb23.size
 have BW23 : Below w.heap.size w w23 := BW5.trans (d23.mono BW5.size)
 have e23 := d23.size
 clear hb23 M22
 have H9 : Hid (∀ v, Below w23.heap.size w23 v → Calls Tryz.prog 9 #[.agg #[.int .i64 s.wd, .slice ta s.ts.length tc, .slice ra s.rs.length rc]] v fun e w' => (∃ tb rb, e = .returned (.agg #[.int .i64 s.wd, .slice (some ⟨tb, 0, none⟩) s.ts.length s.ts.length, .slice (some ⟨rb, 0, none⟩) s.rs.length s.rs.length]) ∧ StAt w' (some ⟨tb, 0, none⟩) (some ⟨rb, 0, none⟩) s) ∧ Below v.heap.size v w') := fun v hv => (c9o ta ra tc rc s v HS1.out (HA.out.below (BW23.trans (hv.mono BW23.size)))).mono (fun e w' h => by
  obtain ⟨⟨tb, rb, vs, e1, e2, e3, e4⟩, hb⟩ := h
  exact ⟨⟨tb, rb, e1, strs_row e2, recs_own e3⟩, hb⟩)
 have H10 : Hid (∀ v, Below w23.heap.size w23 v → Calls Tryz.prog 10 #[.agg #[.slice a fs.length cap]] v fun e w' => (∃ g, e = .returned (.agg #[.slice (some ⟨g, 0, none⟩) fs.length fs.length]) ∧ G.T.FilesAt w' (some ⟨g, 0, none⟩) fs) ∧ Below v.heap.size v w') := fun v hv => (G.T.c10o a cap fs v hf1 (G.T.files_below HF.out (BW23.trans (hv.mono BW23.size)))).mono (fun e w' h => ⟨⟨_, h.1.choose_spec.2.1, h.1.choose_spec.2.2.1⟩, h.2⟩)
 have H12 : Hid (∀ v, Below w23.heap.size w23 v → Calls Tryz.prog 12 #[.slice da ds.length dc] v fun e w' => (∃ q, e = .returned (.slice (some ⟨q, 0, none⟩) ds.length ds.length) ∧ G.DeedsAt w' (some ⟨q, 0, none⟩) ds) ∧ Below v.heap.size v w') := fun v hv => (G.c12o da dc ds v hd1 HDS.out (G.deeds_below HD.out (BW23.trans (hv.mono BW23.size)))).mono (fun e w' h => ⟨⟨_, h.1.1, h.1.2.deeds⟩, h.2⟩)
 have z4_0 := (j4.out.below d23 (by omega)) 0 _ rfl
 have z4_1 := (j4.out.below d23 (by omega)) 1 _ rfl
 have z4_2 := (j4.out.below d23 (by omega)) 2 _ rfl
 have z5_0 := (j5.out.below d23 (by omega)) 0 _ rfl
 have z6_0 := (j6.out.below d23 (by omega)) 0 _ rfl
 have z6_1 := (j6.out.below d23 (by omega)) 1 _ rfl
 have z6_2 := (j6.out.below d23 (by omega)) 2 _ rfl
 go_wp2_with fail
 refine rl41 (s := s) (fs := fs) (m := m) (ds := ds) (A := A) (b4 := w.heap.size) (b5 := w.heap.size + 1) (b6 := w.heap.size + 1 + 1) (by omega) (by omega) (by omega) z4_0 z4_1 z4_2 z5_0 z6_0 z6_1 z6_2 H9.out H10.out H12.out (fun tb rb g q v hv SA FA DA => (c13 s (some ⟨tb, 0, none⟩) (some ⟨rb, 0, none⟩) s.ts.length s.rs.length (some ⟨g, 0, none⟩) fs.length fs m (some ⟨q, 0, none⟩) ds.length ds v HS1.out SA hf1 HFS.out FA hm1 hd1 HDS.out DA (HV.out.below (BW23.trans (hv.mono BW23.size)))).mono (fun e w' h => ⟨is46_un (HAN.out ▸ h.1), h.2⟩)) (fun _ _ _ _ _ h => h) ?_
 intro v0 v1 v2 v3 v4 v5 v6 v7 v8 v9 v10 v11 av5 cv5 B5 E5 kE5 hB5a hB5b ZE5 TE5 RE5
 have d24 : Below E1.heap.size E1 E5 := d23.trans (kE5.mono d23.size)
 have M24 := hidI (marks_below M23.out hbl23 kE5)
 have hbl24 : bL < E5.heap.size := Nat.lt_of_lt_of_le hbl23 kE5.size
 have G5 := hidI ZE5
 have L5 := hidI (lks_own RE5)
 clear ZE5 RE5 TE5 H9 H10 H12 M23 z4_0 z4_1 z4_2 z5_0 z6_0 z6_1 z6_2
 have g0 := G5.out 0 _ rfl
 have g1 := G5.out 1 _ rfl
 have g2 := G5.out 2 _ rfl
 have g3 := G5.out 3 _ rfl
 have g4 := G5.out 4 _ rfl
 have g5 := G5.out 5 _ rfl
 have o0 := (G1.out.below d24 hB1b) 0 _ rfl
 have o1 := (G1.out.below d24 hB1b) 1 _ rfl
 have o2 := (G1.out.below d24 hB1b) 2 _ rfl
 have o3 := (G1.out.below d24 hB1b) 3 _ rfl
 have o4 := (G1.out.below d24 hB1b) 4 _ rfl
 have o5 := (G1.out.below d24 hB1b) 5 _ rfl
 go_wp2_with fail
 refine (c14 A.ov A.cd A.tx false A.nm 0 E5).mono ?_
 rintro e w25 ⟨rfl, hb25⟩
 clear g0 g1 g2 g3 g4 g5 o0 o1 o2 o3 o4 o5
 go_wp2_with fail
 refine (c15 av5 av1 cv5 cv1 A.ls w25 hAl (lks_below L5.out hb25) (lks_below (lks_below R1.out d24) hb25)).mono ?_
 rintro e w26 ⟨rfl, hb26⟩
 have kt : Below E5.heap.size E5 w26 := hb25.trans (hb26.mono hb25.size)
 have d26 : Below E1.heap.size E1 w26 := d24.trans (kt.mono d24.size)
 have M26 := hidI (marks_below M24.out hbl24 kt)
 have hbl26 : bL < w26.heap.size := Nat.lt_of_lt_of_le hbl24 kt.size
 have BW26 : Below w.heap.size w w26 := BW5.trans (d26.mono BW5.size)
 clear M24 L5 G5
 go_wp2_with fail
 refine (H23.out w26 hbl26 M26.out).mono ?_
 rintro e w27 ⟨rfl, hb27⟩
 go_wp2
 go_ret
 exact ⟨rfl, BW26.trans (hb27.mono BW26.size)⟩
end Go.Proofs.YtboojefodbjbcaaGreatDoor

import Derived.Test.YtkhlekmicpmpkaaGreatDoorMG
import Derived.Test.YtkhlekmicpmpkaaGreatDoorMU
import Derived.Test.YtkhlekmicpmpkaaGreatDoorMR
import Derived.Test.YtkhlekmicpmpkaaGreatDoorMS
import Derived.Test.YtkhlekmicpmpkaaGreatDoorMT
import Derived.Test.YtkhlekmicpmpkaaGreatDoorZK34
namespace Go.Proofs.YtkhlekmicpmpkaaGreatDoor
open Go.RowKit Go.Maps
set_option maxRecDepth 100000
set_option linter.unusedVariables false
set_option linter.unusedSimpArgs false
theorem ofT_same {w w' : World} {b t : Nat} (h : OfT w b t) (e : w'.heap[b]? = w.heap[b]?) : OfT w' b t := by
 obtain ⟨cur, fr, h⟩ := h
 exact ⟨cur, fr, e.trans h⟩
theorem open4_same {w w' : World} {b n : Nat} (h : Open4 w b n) (hz : w.heap.size ≤ w'.heap.size) (e : w'.heap[b]? = w.heap[b]?) : Open4 w' b n :=
 ⟨Nat.lt_of_lt_of_le h.1 hz, fun j hj => by
  obtain ⟨v, hv⟩ := h.2.1 j hj
  exact ⟨v, by simp only [World.cell?, e]; simpa only [World.cell?] using hv⟩, fun j => by
  have := h.2.2 j
  simp only [World.frozen?, e]
  simpa only [World.frozen?] using this⟩
set_option maxHeartbeats 16000000 in
theorem c3 (s : St) (m : M3) (ls : List L4) (c : Int) (t : ByteArray) (ta ra la : Option Addr) (tc rc lc : Nat) (w : World) (hs : s.le 9223372036854775807) (hm : m.le 9223372036854775807) (hl : ls.length ≤ 9223372036854775807) (hls : ∀ i, (ls.getD i l4z).le 9223372036854775807) (ht : t.size ≤ 9223372036854775807) (hat : StAt w ta ra s) (hla : LksAt w la ls) (hmx : MaxAt w) :
 Calls Tryz.prog 3 #[.agg #[.int .i64 s.wd, .slice ta s.ts.length tc, .slice ra s.rs.length rc], .agg #[.string m.nm, .string m.tl, .string m.ar], .slice la ls.length lc, .agg #[.int .i64 c, .string t]] w fun e w' => e = .returned (.bool true) ∧ Below w.heap.size w w' := by
 have BW0 : Below w.heap.size w (((w.alloc (.cells #[.int .i64 s.wd, .slice ta s.ts.length tc, .slice ra s.rs.length rc] 25)).alloc (.cells #[.string m.nm, .string m.tl, .string m.ar] 27)).alloc (.cells #[.int .i64 c, .string t] 30)) := (((Below.refl _ _).alloc (Nat.le_refl _) _).alloc (by simp) _).alloc (by simp; omega) _
 have s0 : (((w.alloc (.cells #[.int .i64 s.wd, .slice ta s.ts.length tc, .slice ra s.rs.length rc] 25)).alloc (.cells #[.string m.nm, .string m.tl, .string m.ar] 27)).alloc (.cells #[.int .i64 c, .string t] 30)).heap.size = w.heap.size + 3 := by simp
 have z1 : (w.alloc (.cells #[.int .i64 s.wd, .slice ta s.ts.length tc, .slice ra s.rs.length rc] 25)).heap.size = w.heap.size + 1 := by simp
 have z2 : ((w.alloc (.cells #[.int .i64 s.wd, .slice ta s.ts.length tc, .slice ra s.rs.length rc] 25)).alloc (.cells #[.string m.nm, .string m.tl, .string m.ar] 27)).heap.size = w.heap.size + 2 := by simp
 have hb1 : Below (w.heap.size + 1) (w.alloc (.cells #[.int .i64 s.wd, .slice ta s.ts.length tc, .slice ra s.rs.length rc] 25)) (((w.alloc (.cells #[.int .i64 s.wd, .slice ta s.ts.length tc, .slice ra s.rs.length rc] 25)).alloc (.cells #[.string m.nm, .string m.tl, .string m.ar] 27)).alloc (.cells #[.int .i64 c, .string t] 30)) := ((Below.refl _ _).alloc (by simp) _).alloc (by simp) _
 have hb2 : Below (w.heap.size + 2) ((w.alloc (.cells #[.int .i64 s.wd, .slice ta s.ts.length tc, .slice ra s.rs.length rc] 25)).alloc (.cells #[.string m.nm, .string m.tl, .string m.ar] 27)) (((w.alloc (.cells #[.int .i64 s.wd, .slice ta s.ts.length tc, .slice ra s.rs.length rc] 25)).alloc (.cells #[.string m.nm, .string m.tl, .string m.ar] 27)).alloc (.cells #[.int .i64 c, .string t] 30)) := (Below.refl _ _).alloc (by simp) _
 have H4 : Hid (BlkAt (((w.alloc (.cells #[.int .i64 s.wd, .slice ta s.ts.length tc, .slice ra s.rs.length rc] 25)).alloc (.cells #[.string m.nm, .string m.tl, .string m.ar] 27)).alloc (.cells #[.int .i64 c, .string t] 30)) w.heap.size [.int .i64 s.wd, .slice ta s.ts.length tc, .slice ra s.rs.length rc]) := hidI ((blk_new w [.int .i64 s.wd, .slice ta s.ts.length tc, .slice ra s.rs.length rc] 25).below hb1 (by omega))
 have H5 : Hid (BlkAt (((w.alloc (.cells #[.int .i64 s.wd, .slice ta s.ts.length tc, .slice ra s.rs.length rc] 25)).alloc (.cells #[.string m.nm, .string m.tl, .string m.ar] 27)).alloc (.cells #[.int .i64 c, .string t] 30)) (w.heap.size + 1) [.string m.nm, .string m.tl, .string m.ar]) := by have h := blk_new (w.alloc (.cells #[.int .i64 s.wd, .slice ta s.ts.length tc, .slice ra s.rs.length rc] 25)) [.string m.nm, .string m.tl, .string m.ar] 27; rw [z1] at h; exact h.below hb2 (by omega)
 have H7 : Hid (BlkAt (((w.alloc (.cells #[.int .i64 s.wd, .slice ta s.ts.length tc, .slice ra s.rs.length rc] 25)).alloc (.cells #[.string m.nm, .string m.tl, .string m.ar] 27)).alloc (.cells #[.int .i64 c, .string t] 30)) (w.heap.size + 2) [.int .i64 c, .string t]) := by have h := blk_new ((w.alloc (.cells #[.int .i64 s.wd, .slice ta s.ts.length tc, .slice ra s.rs.length rc] 25)).alloc (.cells #[.string m.nm, .string m.tl, .string m.ar] 27)) [.int .i64 c, .string t] 30; rw [z2] at h; exact h
 have HA := hidI hat
 have HL := hidI hla
 have HM := hidI hmx
 have p0 := H4.out 0 _ rfl
 have p1 := H4.out 1 _ rfl
 have p2 := H4.out 2 _ rfl
 have h4 := c4 ta ra tc rc s _ hs (HA.out.below BW0)
 have S0 := hidI s0
 clear hat hla hmx hb1 hb2 z1 z2 s0
 go_enter Tryz.func3, Tryz.ntmps3
 go_wp2_with fail
 refine h4.mono ?_
 rintro e w1 ⟨⟨r, rfl, hr⟩, hb1⟩
 clear h4
 generalize (((w.alloc (.cells #[.int .i64 s.wd, .slice ta s.ts.length tc, .slice ra s.rs.length rc] 25)).alloc (.cells #[.string m.nm, .string m.tl, .string m.ar] 27)).alloc (.cells #[.int .i64 c, .string t] 30)) = U at *
 rw [S0.out] at hb1
 have k1 : Below (w.heap.size + 3) U w1 := hb1
 have BW1 : Below w.heap.size w w1 := BW0.trans (k1.mono (by omega))
 clear p0 p1 p2
 by_cases hr0 : r < 0
 · clear hr
   go_wp2
   go_ret
   exact ⟨rfl, BW1⟩
 obtain ⟨⟨hs1, hsum⟩, hr1⟩ := hr (by omega)
 have s1 : w.heap.size + 3 ≤ w1.heap.size := by have := k1.size; rw [S0.out] at this; exact this
 clear hr hb1
 have m0 := (H5.out.below k1 (by omega)) 0 _ rfl
 have m1 := (H5.out.below k1 (by omega)) 1 _ rfl
 have m2 := (H5.out.below k1 (by omega)) 2 _ rfl
 go_wp2_with fail
 refine (c5 m r w1 hm (by omega) hr1).mono ?_
 rintro e w2 ⟨⟨r2, rfl, hr2⟩, hb2⟩
 have k2 : Below (w.heap.size + 3) U w2 := k1.trans (hb2.mono s1)
 have BW2 : Below w.heap.size w w2 := BW0.trans (k2.mono (by omega))
 clear m0 m1 m2
 by_cases hr20 : r2 < 0
 · clear hr2
   go_wp2
   go_ret
   exact ⟨rfl, BW2⟩
 obtain ⟨hm1, hr2a⟩ := hr2 (by omega)
 have s2 : w.heap.size + 3 ≤ w2.heap.size := by have := k2.size; rw [S0.out] at this; exact this
 clear hr2 hb2
 go_wp2_with fail
 refine (c6 la lc ls r2 w2 (by omega) hr2a hls hl (lks_below HL.out BW2)).mono ?_
 rintro e w3 ⟨⟨r3, rfl, hr3⟩, hb3⟩
 have k3 : Below (w.heap.size + 3) U w3 := k2.trans (hb3.mono s2)
 have BW3 : Below w.heap.size w w3 := BW0.trans (k3.mono (by omega))
 by_cases hr30 : r3 < 0
 · clear hr3
   go_wp2
   go_ret
   exact ⟨rfl, BW3⟩
 obtain ⟨hl1, hls1, hr3a⟩ := hr3 (by omega)
 have s3 : w.heap.size + 3 ≤ w3.heap.size := by have := k3.size; rw [S0.out] at this; exact this
 clear hr3 hb3 hls hl
 have n0 := (H7.out.below k3 (by omega)) 0 _ rfl
 have n1 := (H7.out.below k3 (by omega)) 1 _ rfl
 go_wp2_with fail
 refine (c7 c t r3 w3 ht (by omega) hr3a).mono ?_
 rintro e w4 ⟨⟨r4, rfl, hr4⟩, hb4⟩
 have k4 : Below (w.heap.size + 3) U w4 := k3.trans (hb4.mono s3)
 have BW4 : Below w.heap.size w w4 := BW0.trans (k4.mono (by omega))
 clear n0 n1
 by_cases hr40 : r4 < 0
 · clear hr4
   go_wp2
   go_ret
   exact ⟨rfl, BW4⟩
 obtain ⟨ht1, hr4a⟩ := hr4 (by omega)
 have s4 : w.heap.size + 3 ≤ w4.heap.size := by have := k4.size; rw [S0.out] at this; exact this
 clear hr4 hb4 ht hm hs
 obtain ⟨KS, kc, hKP⟩ : ∃ KS kc, keepF s m ls c t = (KS, kc) := ⟨_, _, rfl⟩
 have HKP := hidI hKP
 obtain ⟨kl1, kl2, kl3, kl4⟩ := keep_len hKP hs1
 have HK4 := hidI kl4
 have HS1 := hidI hs1
 have HLS := hidI hls1
 clear hKP kl4 hs1 hls1 k1 k2 k3 BW1 BW2 BW3
 have H9 : Hid (∀ v, Below w4.heap.size w4 v → Calls Tryz.prog 9 #[.agg #[.int .i64 s.wd, .slice ta s.ts.length tc, .slice ra s.rs.length rc]] v fun e w' => (∃ tb rb, e = .returned (.agg #[.int .i64 s.wd, .slice (some ⟨tb, 0, none⟩) s.ts.length s.ts.length, .slice (some ⟨rb, 0, none⟩) s.rs.length s.rs.length]) ∧ StrsAt w' (some ⟨tb, 0, none⟩) s.ts ∧ RecsAtS w' (some ⟨rb, 0, none⟩) s.rs) ∧ Below v.heap.size v w') := fun v hv => (c9o ta ra tc rc s v HS1.out (HA.out.below (BW4.trans (hv.mono BW4.size)))).mono (fun e w' h => by
  obtain ⟨⟨tb, rb, vs, e1, e2, e3, e4⟩, hb⟩ := h
  exact ⟨⟨tb, rb, e1, strs_row e2, recsS_own e3 e4⟩, hb⟩)
 have H11 : Hid (∀ v, Below w4.heap.size w4 v → Calls Tryz.prog 11 #[.slice la ls.length lc] v fun e w' => (∃ q, e = .returned (.slice (some ⟨q, 0, none⟩) ls.length ls.length) ∧ LksAt w' (some ⟨q, 0, none⟩) ls) ∧ Below v.heap.size v w') := fun v hv => (c11 la lc ls v hl1 (lks_below HL.out (BW4.trans (hv.mono BW4.size)))).mono (fun e w' h => ⟨⟨_, h.1.1, h.1.2⟩, h.2⟩)
 have z4_0 := (H4.out.below k4 (by omega)) 0 _ rfl
 have z4_1 := (H4.out.below k4 (by omega)) 1 _ rfl
 have z4_2 := (H4.out.below k4 (by omega)) 2 _ rfl
 have z5_0 := (H5.out.below k4 (by omega)) 0 _ rfl
 have z5_1 := (H5.out.below k4 (by omega)) 1 _ rfl
 have z5_2 := (H5.out.below k4 (by omega)) 2 _ rfl
 have z7_0 := (H7.out.below k4 (by omega)) 0 _ rfl
 have z7_1 := (H7.out.below k4 (by omega)) 1 _ rfl
 go_wp2_with fail
 refine rl14 (s := s) (KS := KS) (m := m) (ls := ls) (c := c) (kc := kc) (t := t) (b4 := w.heap.size) (b5 := w.heap.size + 1) (b7 := w.heap.size + 2) (by omega) (by omega) (by omega) z4_0 z4_1 z4_2 z5_0 z5_1 z5_2 z7_0 z7_1 H9.out H11.out (fun tb rb q v hv SA RA LA => (c8 s m ls c t tb (some ⟨rb, 0, none⟩) (some ⟨q, 0, none⟩) s.ts.length s.rs.length ls.length v HS1.out hm1 hl1 HLS.out ht1 SA RA LA).mono (fun e w' h => ⟨isKeep_un h.1 HKP.out, h.2⟩)) (fun _ _ _ _ _ h => h) ?_
 intro y0 y1 y2 y3 y4 y5 y6 y7 y8 y9 y10 y11 ta1 tc1 ra1 rc1 B1 E1 kE1 hB1a hB1b ZE1 TE1 RE1
 have s5 : w.heap.size + 3 ≤ E1.heap.size := by have := kE1.size; omega
 have BW5 : Below w.heap.size w E1 := BW4.trans (kE1.mono BW4.size)
 have j4 := hidI ((H4.out.below k4 (by omega)).below kE1 (by omega))
 have j5 := hidI ((H5.out.below k4 (by omega)).below kE1 (by omega))
 have j7 := hidI ((H7.out.below k4 (by omega)).below kE1 (by omega))
 have hB1c : w.heap.size + 3 ≤ B1 := by omega
 have G1 := hidI ZE1
 have R1 := hidI RE1
 clear ZE1 RE1 kE1 H4 H5 H7 k4 H9 H11 hB1a z4_0 z4_1 z4_2 z5_0 z5_1 z5_2 z7_0 z7_1 BW0 S0 s1 s2 s3
 have i4_0 := j4.out 0 _ rfl
 have i4_1 := j4.out 1 _ rfl
 have i4_2 := j4.out 2 _ rfl
 go_wp2_with fail
 refine (c9o ta ra tc rc s E1 HS1.out (HA.out.below BW5)).mono ?_
 rintro e w6 ⟨⟨tb, rb, vsx, rfl, hx1, hx2, hx3⟩, hb6⟩
 have X1 := hidI hx1
 have X2 := hidI hx2
 have XS := hidI (strs_row hx1)
 have XR := hidI (recsS_own hx2 hx3)
 have e6 : E1.heap.size ≤ w6.heap.size := hb6.size
 clear hx1 hx2 hx3 i4_0 i4_1 i4_2
 have bE2 : Below w6.heap.size w6 (w6.alloc (.cells #[.int .i64 s.wd, .slice (some ⟨tb, 0, none⟩) s.ts.length s.ts.length, .slice (some ⟨rb, 0, none⟩) s.rs.length s.rs.length] 37)) := (Below.refl _ _).alloc (Nat.le_refl _) _
 have sE2 : (w6.alloc (.cells #[.int .i64 s.wd, .slice (some ⟨tb, 0, none⟩) s.ts.length s.ts.length, .slice (some ⟨rb, 0, none⟩) s.rs.length s.rs.length] 37)).heap.size = w6.heap.size + 1 := by simp
 have BX := hidI (blk_new w6 [.int .i64 s.wd, .slice (some ⟨tb, 0, none⟩) s.ts.length s.ts.length, .slice (some ⟨rb, 0, none⟩) s.rs.length s.rs.length] 37)
 have k7 : Below E1.heap.size E1 (w6.alloc (.cells #[.int .i64 s.wd, .slice (some ⟨tb, 0, none⟩) s.ts.length s.ts.length, .slice (some ⟨rb, 0, none⟩) s.rs.length s.rs.length] 37)) := hb6.trans (bE2.mono e6)
 have h11 := c11o la lc ls (w6.alloc (.cells #[.int .i64 s.wd, .slice (some ⟨tb, 0, none⟩) s.ts.length s.ts.length, .slice (some ⟨rb, 0, none⟩) s.rs.length s.rs.length] 37)) hl1 (lks_below HL.out (BW5.trans (k7.mono BW5.size)))
 go_wp2_with fail
 refine h11.mono ?_
 rintro e w7 ⟨⟨rfl, hk1, hk2⟩, hb7⟩
 rw [sE2] at hb7 hk1 hk2 ⊢
 have LA := hidI hk1
 have LO := hidI hk2
 have s7 : w6.heap.size + 1 ≤ w7.heap.size := by have := hb7.size; rw [sE2] at this; exact this
 have hq7 : w6.heap.size + 1 < w7.heap.size := hk2.1
 have c7w : Below w6.heap.size w6 w7 := bE2.trans (hb7.mono (by omega))
 have d7 : Below E1.heap.size E1 w7 := hb6.trans (c7w.mono e6)
 have BX7 := hidI (BX.out.below hb7 (by omega))
 have XS7 := hidI (strs_below XS.out c7w)
 have XR7 := hidI (recsS_below XR.out c7w)
 clear hk1 hk2 h11 k7 BX hb7 bE2
 have z0 := BX7.out 0 _ rfl
 have z1 := BX7.out 1 _ rfl
 have z2 := BX7.out 2 _ rfl
 have z5_0 := (j5.out.below d7 (by omega)) 0 _ rfl
 have z5_1 := (j5.out.below d7 (by omega)) 1 _ rfl
 have z5_2 := (j5.out.below d7 (by omega)) 2 _ rfl
 have z7_0 := (j7.out.below d7 (by omega)) 0 _ rfl
 have z7_1 := (j7.out.below d7 (by omega)) 1 _ rfl
 have BW7 : Below w.heap.size w w7 := BW5.trans (d7.mono BW5.size)
 go_wp2_with fail
 refine rl17 (s := s) (KS := KS) (m := m) (ls := ls) (c := c) (kc := kc) (t := t) (b12 := w6.heap.size) (b5 := w.heap.size + 1) (b7 := w.heap.size + 2) (by omega) (by omega) (by omega) z0 z1 z2 z5_0 z5_1 z5_2 z7_0 z7_1 XS7 XR7 LA (fun tb rb q v hv SA RA LA => (c13 s m ls c t (some ⟨tb, 0, none⟩) (some ⟨rb, 0, none⟩) (some ⟨q, 0, none⟩) s.ts.length s.rs.length ls.length v HS1.out hm1 hl1 HLS.out ht1 (stAt_of SA RA) LA (max_below HM.out (BW7.trans (hv.mono BW7.size)))).mono (fun e w' h => ⟨isKeep_un h.1 HKP.out, h.2⟩)) (fun _ _ _ _ _ h => h) ?_
 intro x0 x1 x2 x3 x4 x5 x6 x7 x8 x9 ta3 tc3 ra3 rc3 B3 E3 kE3 hB3a hB3b ZE3 TE3 RE3
 have d8 : Below E1.heap.size E1 E3 := d7.trans (kE3.mono (by omega))
 have BX8 := hidI (BX7.out.below kE3 (by omega))
 have g3 := ZE3 0 _ rfl
 have g4 := ZE3 1 _ rfl
 have g5 := ZE3 2 _ rfl
 have G3 := hidI ZE3
 have T3 := hidI TE3
 have R3' := hidI RE3
 have o0 := (G1.out.below d8 (by omega)) 0 _ rfl
 have o1 := (G1.out.below d8 (by omega)) 1 _ rfl
 have o2 := (G1.out.below d8 (by omega)) 2 _ rfl
 have h14 := c14e ta3 ra3 ta1 ra1 tc3 rc3 tc1 rc1 KS E3 ⟨by omega, by omega, HK4.out⟩ (stOwn_at RE3) ((stOwn_at R1.out).below d8)
 clear ZE3 RE3 TE3 z0 z1 z2 z5_0 z5_1 z5_2 z7_0 z7_1
 go_wp2_with fail
 refine h14.mono ?_
 rintro e w8 ⟨rfl, hb8⟩
 have f8 : Below w7.heap.size w7 w8 := kE3.trans (hb8.mono kE3.size)
 have d9 : Below E1.heap.size E1 w8 := d8.trans (hb8.mono d8.size)
 have BX9 := hidI (BX8.out.below hb8 (by have := kE3.size; omega))
 have G9 := hidI (G3.out.below hb8 hB3b)
 have T9 := hidI (T3.out.below hb8 hB3b)
 have R9 := hidI (stOwn_below R3'.out hb8)
 have s8 : w7.heap.size ≤ w8.heap.size := f8.size
 have hB3d : B3 < w8.heap.size := Nat.lt_of_lt_of_le hB3b hb8.size
 clear h14 g3 g4 g5 o0 o1 o2 G3 T3 R3' hb8 d8 kE3 BX8
 have z0 := BX9.out 0 _ rfl
 have z1 := BX9.out 1 _ rfl
 have z2 := BX9.out 2 _ rfl
 have i4_0 := (j4.out.below d9 (by omega)) 0 _ rfl
 have i4_1 := (j4.out.below d9 (by omega)) 1 _ rfl
 have i4_2 := (j4.out.below d9 (by omega)) 2 _ rfl
 have hx8 : w6.heap.size < w8.heap.size := by omega
 have hz8 : w.heap.size < w8.heap.size := by omega
 have BW9 : Below w.heap.size w w8 := BW5.trans (d9.mono BW5.size)
 have h9 := c9o ta ra tc rc s w8.drew HS1.out (HA.out.below (BW9.trans ((Below.refl w8.heap.size w8).drew.mono BW9.size)))
 go_wp2_with fail
 refine wp_region_held_drew (S := (fun u => u.cell? ⟨w6.heap.size, 0, none⟩ = some (.int .i64 s.wd) ∧ u.cell? ⟨w6.heap.size, 1, none⟩ = some (.slice (some ⟨tb, 0, none⟩) s.ts.length s.ts.length) ∧ u.cell? ⟨w6.heap.size, 2, none⟩ = some (.slice (some ⟨rb, 0, none⟩) s.rs.length s.rs.length) ∧ u.cell? ⟨w.heap.size, 0, none⟩ = some (.int .i64 s.wd) ∧ u.cell? ⟨w.heap.size, 1, none⟩ = some (.slice ta s.ts.length tc) ∧ u.cell? ⟨w.heap.size, 2, none⟩ = some (.slice ra s.rs.length rc))) (by kernel_rfl) ?_ (fun hHeld => ?_)
 · ((try dsimp only); first | exact ⟨z0, z1, z2, i4_0, i4_1, i4_2⟩ | (exact ⟨(hb8t.cell (p := ⟨w6.heap.size, 0, none⟩) hx8).trans z0, (hb8t.cell (p := ⟨w6.heap.size, 1, none⟩) hx8).trans z1, (hb8t.cell (p := ⟨w6.heap.size, 2, none⟩) hx8).trans z2, (hb8t.cell (p := ⟨w.heap.size, 0, none⟩) hz8).trans i4_0, (hb8t.cell (p := ⟨w.heap.size, 1, none⟩) hz8).trans i4_1, (hb8t.cell (p := ⟨w.heap.size, 2, none⟩) hz8).trans i4_2⟩) | (exact ⟨(hb9.cell (p := ⟨w6.heap.size, 0, none⟩) hx8).trans z0, (hb9.cell (p := ⟨w6.heap.size, 1, none⟩) hx8).trans z1, (hb9.cell (p := ⟨w6.heap.size, 2, none⟩) hx8).trans z2, (hb9.cell (p := ⟨w.heap.size, 0, none⟩) hz8).trans i4_0, (hb9.cell (p := ⟨w.heap.size, 1, none⟩) hz8).trans i4_1, (hb9.cell (p := ⟨w.heap.size, 2, none⟩) hz8).trans i4_2⟩))
 refine wpAnyH_take (i := 0) (oi := ⟨some 76, .load 37 (.tmp 12), 37, "exact.go:3564", #[], none⟩) (v := ?_) rfl (by kernel_rfl) (by kernel_rfl) (by kernel_rfl) (fun _ _ _ h => h) (Or.inl ⟨by rfl, ?_⟩) (by assumption) ?_
 rotate_left
 · intro wq hSw
   (try dsimp only at hSw)
   go_simp
   try with_reducible rfl
 try simp only [Act.put, qA, qB, qC]
 refine wpAnyH_take (i := 1) (oi := ⟨some 77, .load 25 (.tmp 4), 25, "exact.go:3564", #[], none⟩) (v := ?_) rfl (by kernel_rfl) (by kernel_rfl) (by kernel_rfl) (fun _ _ _ h => h) (Or.inl ⟨by rfl, ?_⟩) (by assumption) ?_
 rotate_left
 · intro wq hSw
   (try dsimp only at hSw)
   go_simp
   try with_reducible rfl
 try simp only [Act.put, qA, qB, qC]
 refine wpAnyH_ready (rs := [2]) (by kernel_rfl) (by simp) ?_
 refine AllReadyH.cons (o := ⟨some 78, .call ⟨.value (.func 9), #[.tmp 77], #[25]⟩, 37, "exact.go:3564", #[⟨1, .data⟩], none⟩) rfl (fun K hK => ?_) AllReadyH.nil
 go_simp
 refine h9.mono ?_
 rintro e w9 ⟨⟨tb9, rb9, vs9, rfl, hy1, hy2, hy3⟩, hb90⟩
 have hb9 := (Below.refl w8.heap.size w8).drew.trans hb90
 have hst9 := hidI (show StAt w9 (some ⟨tb9, 0, none⟩) (some ⟨rb9, 0, none⟩) s from ⟨strs_row hy1, recs_own hy2⟩)
 clear hy1 hy2 hy3 h9
 go_wp2_with fail
 clear hHeld
 refine hK.out _ _ ?_ (fun hHeld => ?_)
 · ((try dsimp only); first | exact ⟨z0, z1, z2, i4_0, i4_1, i4_2⟩ | (exact ⟨(hb8t.cell (p := ⟨w6.heap.size, 0, none⟩) hx8).trans z0, (hb8t.cell (p := ⟨w6.heap.size, 1, none⟩) hx8).trans z1, (hb8t.cell (p := ⟨w6.heap.size, 2, none⟩) hx8).trans z2, (hb8t.cell (p := ⟨w.heap.size, 0, none⟩) hz8).trans i4_0, (hb8t.cell (p := ⟨w.heap.size, 1, none⟩) hz8).trans i4_1, (hb8t.cell (p := ⟨w.heap.size, 2, none⟩) hz8).trans i4_2⟩) | (exact ⟨(hb9.cell (p := ⟨w6.heap.size, 0, none⟩) hx8).trans z0, (hb9.cell (p := ⟨w6.heap.size, 1, none⟩) hx8).trans z1, (hb9.cell (p := ⟨w6.heap.size, 2, none⟩) hx8).trans z2, (hb9.cell (p := ⟨w.heap.size, 0, none⟩) hz8).trans i4_0, (hb9.cell (p := ⟨w.heap.size, 1, none⟩) hz8).trans i4_1, (hb9.cell (p := ⟨w.heap.size, 2, none⟩) hz8).trans i4_2⟩))
 clear hK K
 try simp only [Act.put, qA, qB, qC]
 refine wpAnyH_ready (rs := [3]) (by kernel_rfl) (by simp) ?_
 refine AllReadyH.cons (o := ⟨some 79, .call ⟨.value (.func 14), #[.tmp 76, .tmp 78], #[37, 37]⟩, 4, "exact.go:3564", #[⟨0, .data⟩, ⟨2, .data⟩, ⟨2, .chain⟩], none⟩) rfl (fun K hK => ?_) AllReadyH.nil
 go_simp
 refine (c14e (some ⟨tb, 0, none⟩) (some ⟨rb, 0, none⟩) (some ⟨tb9, 0, none⟩) (some ⟨rb9, 0, none⟩) s.ts.length s.rs.length s.ts.length s.rs.length s w9 ⟨HS1.out.1.1, HS1.out.2.1, fun i => (HS1.out.2.2 i).2.1⟩ ((stAt_of XS7.out XR7.out).below (f8.trans (hb9.mono s8))) hst9.out).mono ?_
 rintro e w10 ⟨rfl, hb10⟩
 have hb8t := hb9.trans (hb10.mono hb9.size)
 go_wp2_with fail
 clear hHeld
 refine hK.out _ _ ?_ (fun hHeld => ?_)
 · ((try dsimp only); first | exact ⟨z0, z1, z2, i4_0, i4_1, i4_2⟩ | (exact ⟨(hb8t.cell (p := ⟨w6.heap.size, 0, none⟩) hx8).trans z0, (hb8t.cell (p := ⟨w6.heap.size, 1, none⟩) hx8).trans z1, (hb8t.cell (p := ⟨w6.heap.size, 2, none⟩) hx8).trans z2, (hb8t.cell (p := ⟨w.heap.size, 0, none⟩) hz8).trans i4_0, (hb8t.cell (p := ⟨w.heap.size, 1, none⟩) hz8).trans i4_1, (hb8t.cell (p := ⟨w.heap.size, 2, none⟩) hz8).trans i4_2⟩) | (exact ⟨(hb9.cell (p := ⟨w6.heap.size, 0, none⟩) hx8).trans z0, (hb9.cell (p := ⟨w6.heap.size, 1, none⟩) hx8).trans z1, (hb9.cell (p := ⟨w6.heap.size, 2, none⟩) hx8).trans z2, (hb9.cell (p := ⟨w.heap.size, 0, none⟩) hz8).trans i4_0, (hb9.cell (p := ⟨w.heap.size, 1, none⟩) hz8).trans i4_1, (hb9.cell (p := ⟨w.heap.size, 2, none⟩) hz8).trans i4_2⟩))
 clear hK K
 try simp only [Act.put, qA, qB, qC]
 refine wpAnyH_take (i := 4) (oi := ⟨some 80, .unOp .not 4 (.tmp 79), 4, "exact.go:3564", #[⟨3, .data⟩], none⟩) (v := ?_) rfl (by kernel_rfl) (by kernel_rfl) (by kernel_rfl) (fun _ _ _ h => h) (Or.inl ⟨by rfl, ?_⟩) (by assumption) ?_
 rotate_left
 · intro wq hSw
   (try dsimp only at hSw)
   go_simp
   try with_reducible rfl
 try simp only [Act.put, qA, qB, qC]
 refine wpAnyH_done (by kernel_rfl) ?_ _
 have d10 : Below E1.heap.size E1 w10 := d9.trans (hb8t.mono d9.size)
 have BW10 : Below w.heap.size w w10 := BW5.trans (d10.mono BW5.size)
 have f10 : Below w7.heap.size w7 w10 := f8.trans (hb8t.mono s8)
 have BX10 := hidI (BX9.out.below hb8t hx8)
 have G10 := hidI (G9.out.below hb8t hB3d)
 have T10 := hidI (T9.out.below hb8t hB3d)
 have R10 := hidI (stOwn_below R9.out hb8t)
 have hB3e : B3 < w10.heap.size := Nat.lt_of_lt_of_le hB3d hb8t.size
 have s10 : w7.heap.size ≤ w10.heap.size := f10.size
 clear z0 z1 z2 i4_0 i4_1 i4_2 hst9 BX9 G9 T9 R9 hb90 hb9 hb10
 go_wp2_with fail
 refine (c11 la lc ls w10 hl1 (lks_below HL.out BW10)).mono ?_
 rintro e w11 ⟨⟨rfl, hk1⟩, hb11⟩
 have LB := hidI hk1
 clear hk1
 go_wp2_with fail
 refine (c15 (some ⟨w6.heap.size + 1, 0, none⟩) (some ⟨w10.heap.size, 0, none⟩) ls.length ls.length ls w11 hl1 (lks_below LA.out (f10.trans (hb11.mono s10))) LB.out).mono ?_
 rintro e w12 ⟨rfl, hb12⟩
 have hbt : Below w10.heap.size w10 w12 := hb11.trans (hb12.mono hb11.size)
 have d12 : Below E1.heap.size E1 w12 := d10.trans (hbt.mono d10.size)
 have f12 : Below w7.heap.size w7 w12 := f10.trans (hbt.mono s10)
 have BX12 := hidI (BX10.out.below hbt (by omega))
 have G12 := hidI (G10.out.below hbt hB3e)
 have T12 := hidI (T10.out.below hbt hB3e)
 have R12 := hidI (stOwn_below R10.out hbt)
 have hB3f : B3 < w12.heap.size := Nat.lt_of_lt_of_le hB3e hbt.size
 have s12 : w7.heap.size ≤ w12.heap.size := f12.size
 have c12w : Below w6.heap.size w6 w12 := c7w.trans (f12.mono (by omega))
 have LO12 : Hid (Open4 w12 (w6.heap.size + 1) ls.length) := LO.out.below f12
 clear BX10 G10 T10 R10 hb11 hb12 hbt LB
 have z0 := BX12.out 0 _ rfl
 have z1 := BX12.out 1 _ rfl
 have z2 := BX12.out 2 _ rfl
 have h16 := c16 1 s (some ⟨tb, 0, none⟩) (some ⟨rb, 0, none⟩) s.ts.length s.rs.length E1.heap.size vsx w12 (by omega) (by omega) HS1.out.1.1 HS1.out.2.1 d12.size (own_below X1.out c12w) (X2.out.keep (fun q t hT _ _ => c12w.block q (ofT_lt hT)))
 rw [mkN_eq] at h16
 go_wp2_with fail
 refine h16.mono ?_
 rintro e w13 ⟨rfl, _, hC13⟩
 have NF : Hid (∀ q, w6.heap.size ≤ q → ¬ stF (.slice (some ⟨tb, 0, none⟩) s.ts.length s.ts.length) (.slice (some ⟨rb, 0, none⟩) s.rs.length s.rs.length) vsx s.rs.length q) := fun q hq hf => by have := (stF_lo X1.out X2.out hf).2.1; omega
 have d13 : Below E1.heap.size E1 w13 := d12.trans (hC13.below d12.size (fun q hf => (stF_lo X1.out X2.out hf).1))
 have s13 : w12.heap.size ≤ w13.heap.size := hC13.size
 have G13 := hidI (blk_same G12.out (hC13.block B3 hB3f (NF.out B3 (by omega))))
 have T13 := hidI (ofT_same T12.out (hC13.block B3 hB3f (NF.out B3 (by omega))))
 have R13 := hidI (stOwn_keepN R12.out (fun q h1 h2 => hC13.block q h2 (NF.out q (by omega))))
 have LO13 : Hid (Open4 w13 (w6.heap.size + 1) ls.length) := open4_same LO12.out s13 (hC13.block _ LO12.out.1 (NF.out _ (by omega)))
 clear h16 hC13 NF G12 T12 R12 LO12 BX12 z0 z1 z2 X1 X2 LO
 have h17 := c17 (1 + (s.ts.length : Int) + 2 * (s.rs.length : Int) + 3 * (gsum s.rs : Int)) (some ⟨w6.heap.size + 1, 0, none⟩) (w6.heap.size + 1) ls.length ls.length w13 (by omega) (by omega) (.inr rfl) hl1 LO13.out
 go_wp2_with fail
 refine h17.mono ?_
 rintro e w14 ⟨rfl, hbu, _, _⟩
 have d14 : Below E1.heap.size E1 w14 := d13.trans ⟨hbu.os, hbu.tape, hbu.output, hbu.size, fun k hk => hbu.block k (by omega) (by omega)⟩
 have G14 := hidI (blk_same G13.out (hbu.block B3 (by omega) (by omega)))
 have T14 := hidI (ofT_same T13.out (hbu.block B3 (by omega) (by omega)))
 have R14 := hidI (stOwn_keepN R13.out (fun q h1 h2 => hbu.block q h2 (by omega)))
 have s14 : w13.heap.size ≤ w14.heap.size := hbu.size
 clear h17 hbu G13 T13 R13 LO13
 have g3 := G14.out 0 _ rfl
 have g4 := G14.out 1 _ rfl
 have g5 := G14.out 2 _ rfl
 have o0 := (G1.out.below d14 (by omega)) 0 _ rfl
 have o1 := (G1.out.below d14 (by omega)) 1 _ rfl
 have o2 := (G1.out.below d14 (by omega)) 2 _ rfl
 have h14 := c14e ta3 ra3 ta1 ra1 tc3 rc3 tc1 rc1 KS w14 ⟨by omega, by omega, HK4.out⟩ (stOwn_at R14.out) ((stOwn_at R1.out).below d14)
 go_wp2_with fail
 refine h14.mono ?_
 rintro e w15 ⟨rfl, hb15⟩
 have d15 : Below E1.heap.size E1 w15 := d14.trans (hb15.mono d14.size)
 have G15 := hidI (G14.out.below hb15 (by omega))
 have T15 := hidI (T14.out.below hb15 (by omega))
 have R15 := hidI (stOwn_below R14.out hb15)
 have s15 : w14.heap.size ≤ w15.heap.size := hb15.size
 clear h14 g3 g4 g5 o0 o1 o2 G14 T14 R14 hb15
 obtain ⟨vsg, R15b⟩ := R15.out.2
 have Y1 := hidI R15.out.1
 have Y2 := hidI R15b
 clear R15 R15b
 have g3 := G15.out 0 _ rfl
 have g4 := G15.out 1 _ rfl
 have g5 := G15.out 2 _ rfl
 have h16 := c16 1 KS ta3 ra3 tc3 rc3 w7.heap.size vsg w15 (by omega) (by omega) (by omega) (by omega) (by omega) Y1.out Y2.out
 go_wp2_with fail
 refine h16.mono ?_
 rintro e w16 ⟨rfl, ⟨T, P, hT, hP, hrt, hrp⟩, hC16⟩
 have d16 : Below E1.heap.size E1 w16 := d15.trans (hC16.below d15.size (fun q hf => by have := (stF_lo Y1.out Y2.out hf).1; omega))
 have s16 : w15.heap.size ≤ w16.heap.size := hC16.size
 have G16 := hidI (blk_same G15.out (hC16.block B3 (by omega) (fun hf => by
  obtain ⟨_, _, t2, hT2, ht2⟩ := stF_lo Y1.out Y2.out hf
  have e2 := ofT_one hT2 T15.out
  rcases ht2 with rfl | rfl | rfl <;> exact absurd e2 (by decide))))
 have hTl : T.length = KS.ts.length := hT.1
 have hPl : P.length = KS.rs.length := hP.1
 rw [← hTl] at hrt
 rw [← hPl] at hrp
 have TA := hidI (strs_row hrt)
 have PA := hidI (recs_own hrp)
 have HT := hidI hT
 have HP := hidI hP
 clear h16 hrt hrp hC16 G15 T15 hT hP g3 g4 g5 Y1 Y2
 have g3 := G16.out 0 _ rfl
 have g4 := G16.out 1 _ rfl
 have g5 := G16.out 2 _ rfl
 have HQ : 0 ≤ mkN 1 KS.ts KS.rs := by rw [mkN_eq]; omega
 have h18 := fun u hat hat' => c18 1 KS T P ta3 ra3 tc3 rc3 u (by omega) (by omega) (by omega) (by omega) HT.out HP.out hat hat'
 generalize mkN 1 KS.ts KS.rs = MN at *
 have H18 := hidI h18
 clear h18
 go_wp2_with fail
 refine (H18.out w16 TA.out PA.out).mono ?_
 rintro e w17 ⟨rfl, hb17⟩
 have d17 : Below E1.heap.size E1 w17 := d16.trans (hb17.mono d16.size)
 have G17 := hidI (G16.out.below hb17 (by omega))
 have TA17 := hidI (strs_below TA.out hb17)
 have PA17 := hidI (recs_below PA.out hb17)
 have s17 : w16.heap.size ≤ w17.heap.size := hb17.size
 have BW17 : Below w.heap.size w w17 := BW5.trans (d17.mono BW5.size)
 clear g3 g4 g5 G16 TA PA hb17
 have H9 : Hid (∀ v, Below w17.heap.size w17 v → Calls Tryz.prog 9 #[.agg #[.int .i64 s.wd, .slice ta s.ts.length tc, .slice ra s.rs.length rc]] v fun e w' => (∃ tb rb, e = .returned (.agg #[.int .i64 s.wd, .slice (some ⟨tb, 0, none⟩) s.ts.length s.ts.length, .slice (some ⟨rb, 0, none⟩) s.rs.length s.rs.length]) ∧ StrsAt w' (some ⟨tb, 0, none⟩) s.ts ∧ RecsAtS w' (some ⟨rb, 0, none⟩) s.rs) ∧ Below v.heap.size v w') := fun v hv => (c9o ta ra tc rc s v HS1.out (HA.out.below (BW17.trans (hv.mono BW17.size)))).mono (fun e w' h => by
  obtain ⟨⟨tb, rb, vs, e1, e2, e3, e4⟩, hb⟩ := h
  exact ⟨⟨tb, rb, e1, strs_row e2, recsS_own e3 e4⟩, hb⟩)
 have H11 : Hid (∀ v, Below w17.heap.size w17 v → Calls Tryz.prog 11 #[.slice la ls.length lc] v fun e w' => (∃ q, e = .returned (.slice (some ⟨q, 0, none⟩) ls.length ls.length) ∧ LksAt w' (some ⟨q, 0, none⟩) ls) ∧ Below v.heap.size v w') := fun v hv => (c11 la lc ls v hl1 (lks_below HL.out (BW17.trans (hv.mono BW17.size)))).mono (fun e w' h => ⟨⟨_, h.1.1, h.1.2⟩, h.2⟩)
 have z4_0 := (j4.out.below d17 (by omega)) 0 _ rfl
 have z4_1 := (j4.out.below d17 (by omega)) 1 _ rfl
 have z4_2 := (j4.out.below d17 (by omega)) 2 _ rfl
 have z5_0 := (j5.out.below d17 (by omega)) 0 _ rfl
 have z5_1 := (j5.out.below d17 (by omega)) 1 _ rfl
 have z5_2 := (j5.out.below d17 (by omega)) 2 _ rfl
 have z7_0 := (j7.out.below d17 (by omega)) 0 _ rfl
 have z7_1 := (j7.out.below d17 (by omega)) 1 _ rfl
 go_wp2_with fail
 refine rl37 (s := s) (KS := KS) (m := m) (ls := ls) (c := c) (kc := kc) (t := t) (b4 := w.heap.size) (b5 := w.heap.size + 1) (b7 := w.heap.size + 2) (by omega) (by omega) (by omega) z4_0 z4_1 z4_2 z5_0 z5_1 z5_2 z7_0 z7_1 H9.out H11.out (fun tb rb q v hv SA RA LA => (c13 s m ls c t (some ⟨tb, 0, none⟩) (some ⟨rb, 0, none⟩) (some ⟨q, 0, none⟩) s.ts.length s.rs.length ls.length v HS1.out hm1 hl1 HLS.out ht1 (stAt_of SA RA) LA (max_below HM.out (BW17.trans (hv.mono BW17.size)))).mono (fun e w' h => ⟨isKeep_un h.1 HKP.out, h.2⟩)) (fun _ _ _ _ _ h => h) ?_
 intro v0 v1 v2 v3 v4 v5 v6 v7 v8 v9 v10 v11 ta5 tc5 ra5 rc5 B5 E5 kE5 hB5a hB5b ZE5 TE5 RE5
 have d18 : Below E1.heap.size E1 E5 := d17.trans (kE5.mono d17.size)
 have G18 := hidI (G17.out.below kE5 (by omega))
 have TA18 := hidI (strs_below TA17.out kE5)
 have PA18 := hidI (recs_below PA17.out kE5)
 have g3 := ZE5 0 _ rfl
 have g4 := ZE5 1 _ rfl
 have g5 := ZE5 2 _ rfl
 have s18 : w17.heap.size ≤ E5.heap.size := kE5.size
 have o0 := (G1.out.below d18 (by omega)) 0 _ rfl
 have o1 := (G1.out.below d18 (by omega)) 1 _ rfl
 have o2 := (G1.out.below d18 (by omega)) 2 _ rfl
 have h14 := c14e ta5 ra5 ta1 ra1 tc5 rc5 tc1 rc1 KS E5 ⟨by omega, by omega, HK4.out⟩ (stOwn_at RE5) ((stOwn_at R1.out).below d18)
 clear ZE5 RE5 H9 H11 G17 TA17 PA17 z4_0 z4_1 z4_2 z5_0 z5_1 z5_2 z7_0 z7_1
 go_wp2_with fail
 refine h14.mono ?_
 rintro e w19 ⟨rfl, hb19⟩
 have d19 : Below E1.heap.size E1 w19 := d18.trans (hb19.mono d18.size)
 have BW19 : Below w.heap.size w w19 := BW5.trans (d19.mono BW5.size)
 have TA19 := hidI (strs_below TA18.out hb19)
 have PA19 := hidI (recs_below PA18.out hb19)
 have G19 := hidI (G18.out.below hb19 (by omega))
 clear h14 g3 g4 g5 o0 o1 o2 TA18 PA18 G18
 have g3 := G19.out 0 _ rfl
 have g4 := G19.out 1 _ rfl
 have g5 := G19.out 2 _ rfl
 go_wp2_with fail
 refine (H18.out w19 TA19.out PA19.out).mono ?_
 rintro e w20 ⟨rfl, hb20⟩
 go_wp2
 go_ret
 exact ⟨rfl, BW19.trans (hb20.mono BW19.size)⟩
end Go.Proofs.YtkhlekmicpmpkaaGreatDoor

import Derived.Test.YtboojefodbjbcaaGreatDoorZR00
import Derived.Test.YtboojefodbjbcaaGreatDoorRG
import Derived.Test.YtboojefodbjbcaaGreatDoorD6
import Derived.Test.YtboojefodbjbcaaGreatDoorGV4
namespace Go.Proofs.YtboojefodbjbcaaGreatDoor
open Go.RowKit Go.Maps
set_option maxRecDepth 100000
set_option linter.unusedVariables false
open Classical in
noncomputable def plT (fs : List G.T.F2) : List G.M3 := if h : ∃ ms, G.IsPT fs ms then h.choose else []
theorem plT_of {fs : List G.T.F2} {ms : List G.M3} (h : G.IsPT fs ms) : plT fs = ms := by
 have hx : ∃ ms, G.IsPT fs ms := ⟨ms, h⟩
 unfold plT
 rw [dif_pos hx]
 exact G.isPT_one hx.choose_spec h
def AllOk (s : St) (fs : List G.T.F2) (m : M3) (ds : List G.D8) : Prop := StOk s ∧ G.T.treeOk fs ∧ okM m = true ∧ DsOk ds
open Classical in
noncomputable def anF (s : St) (fs : List G.T.F2) (m : M3) (ds : List G.D8) : An := if AllOk s fs m ds then rclF s.wd s.ts (sightF fs (plT fs) ds) (keyR m) s.rs else an0
theorem anF_no {s : St} {fs : List G.T.F2} {m : M3} {ds : List G.D8} (h : ¬ AllOk s fs m ds) : anF s fs m ds = an0 := by
 unfold anF
 exact if_neg h
theorem anF_yes {s : St} {fs : List G.T.F2} {m : M3} {ds : List G.D8} {ms : List G.M3} (h : AllOk s fs m ds) (hp : G.IsPT fs ms) : anF s fs m ds = rclF s.wd s.ts (sightF fs ms ds) (keyR m) s.rs := by
 unfold anF
 rw [if_pos h, plT_of hp]
theorem knD_size : ∀ (ds : List G.D8) (nm : ByteArray) (r : Int × ByteArray), (∀ d ∈ ds, d.tx.size ≤ 1048576) → G.knD ds nm = some r → r.2.size ≤ 1048576
 | [], nm, r, _, h => by simp [G.knD] at h
 | d :: l, nm, r, hd, h => by
  unfold G.knD at h
  split at h
  · simp only [Option.some.injEq] at h
    rw [← h]
    exact hd d (List.mem_cons_self ..)
  · exact knD_size l nm r (fun d hm => hd d (List.mem_cons_of_mem _ hm)) h
theorem sight_size {fs : List G.T.F2} {ms : List G.M3} {ds : List G.D8} (hf : ∀ i, (fs.getD i G.T.f2z).le 1048576) (hd : ∀ i, (ds.getD i G.d8z).le 1048576) (has : Bool) (nm : ByteArray) (r : Int × ByteArray) (hn : nm.size ≤ 1048576) (h : sightF fs ms ds has nm = some r) : r.2.size ≤ 1048576 := by
 unfold sightF at h
 cases has
 · rw [if_neg (by simp)] at h
   unfold G.knR at h
   cases hq : G.plF fs ms nm with
   | some p =>
    rw [hq] at h
    simp only [Option.some.injEq] at h
    rw [← h]
    unfold G.plF at hq
    split at hq
    · rename_i hx
      simp only [Option.some.injEq] at hq
      rw [← hq]
      exact (hf _).2
    · split at hq
      · simp only [Option.some.injEq] at hq
        rw [← hq]
        exact hn
      · cases hq
   | none =>
    rw [hq] at h
    refine knD_size ds nm r (fun d hm => ?_) h
    obtain ⟨i, hi, he⟩ := List.getElem_of_mem hm
    have := (hd i).2.2.2
    rw [show ds.getD i G.d8z = d by simp [List.getD, List.getElem?_eq_getElem hi, he]] at this
    exact this
 · rw [if_pos rfl] at h
   simp only [Option.some.injEq] at h
   rw [← h]
   unfold seeH
   split
   · exact hn
   · exact Nat.zero_le _
set_option maxHeartbeats 8000000 in
theorem c13 (s : St) (ta ra : Option Addr) (tc rc : Nat) (a : Option Addr) (cap : Nat) (fs : List G.T.F2) (m : M3) (da : Option Addr) (dc : Nat) (ds : List G.D8) (w : World) (hs : s.le 1048576) (hat : StAt w ta ra s) (hfl : fs.length ≤ 1048576) (hfs : ∀ i, (fs.getD i G.T.f2z).le 1048576) (hft : G.T.FilesAt w a fs) (hm : m.le 1048576) (hdl : ds.length ≤ 1048576) (hds : ∀ i, (ds.getD i G.d8z).le 1048576) (hdt : G.DeedsAt w da ds) (hv : G.VarsZ w) :
 Calls Tryz.prog 13 #[.agg #[.int .i64 s.wd, .slice ta s.ts.length tc, .slice ra s.rs.length rc], .agg #[.slice a fs.length cap], .agg #[.string m.nm, .string m.tl, .string m.ar], .slice da ds.length dc] w fun e w' => Is46 w.heap.size (anF s fs m ds) w' e ∧ Below w.heap.size w w' := by
 have hBU0 : Below w.heap.size w ((((w.alloc (.cells #[.int .i64 s.wd, .slice ta s.ts.length tc, .slice ra s.rs.length rc] 45)).alloc (.cells #[.slice a fs.length cap] 49)).alloc (.cells #[.string m.nm, .string m.tl, .string m.ar] 51)).alloc (.cells #[.bool false, .int .i64 0, .string ⟨#[]⟩, .bool false, .string ⟨#[]⟩, .int .i64 0] 39)) := ((((Below.refl _ _).alloc (Nat.le_refl _) _).alloc (by simp) _).alloc (by simp; omega) _).alloc (by simp; omega) _
 have sz0 : ((((w.alloc (.cells #[.int .i64 s.wd, .slice ta s.ts.length tc, .slice ra s.rs.length rc] 45)).alloc (.cells #[.slice a fs.length cap] 49)).alloc (.cells #[.string m.nm, .string m.tl, .string m.ar] 51)).alloc (.cells #[.bool false, .int .i64 0, .string ⟨#[]⟩, .bool false, .string ⟨#[]⟩, .int .i64 0] 39)).heap.size = w.heap.size + 4 := by simp
 have EA : BlkAt ((((w.alloc (.cells #[.int .i64 s.wd, .slice ta s.ts.length tc, .slice ra s.rs.length rc] 45)).alloc (.cells #[.slice a fs.length cap] 49)).alloc (.cells #[.string m.nm, .string m.tl, .string m.ar] 51)).alloc (.cells #[.bool false, .int .i64 0, .string ⟨#[]⟩, .bool false, .string ⟨#[]⟩, .int .i64 0] 39)) w.heap.size [.int .i64 s.wd, .slice ta s.ts.length tc, .slice ra s.rs.length rc] := fun j v h => by simp [go_sem, h]
 have ET : BlkAt ((((w.alloc (.cells #[.int .i64 s.wd, .slice ta s.ts.length tc, .slice ra s.rs.length rc] 45)).alloc (.cells #[.slice a fs.length cap] 49)).alloc (.cells #[.string m.nm, .string m.tl, .string m.ar] 51)).alloc (.cells #[.bool false, .int .i64 0, .string ⟨#[]⟩, .bool false, .string ⟨#[]⟩, .int .i64 0] 39)) (w.heap.size + 1) [.slice a fs.length cap] := fun j v h => by simp [go_sem, h]
 have EM : BlkAt ((((w.alloc (.cells #[.int .i64 s.wd, .slice ta s.ts.length tc, .slice ra s.rs.length rc] 45)).alloc (.cells #[.slice a fs.length cap] 49)).alloc (.cells #[.string m.nm, .string m.tl, .string m.ar] 51)).alloc (.cells #[.bool false, .int .i64 0, .string ⟨#[]⟩, .bool false, .string ⟨#[]⟩, .int .i64 0] 39)) (w.heap.size + 2) [.string m.nm, .string m.tl, .string m.ar] := fun j v h => by simp [go_sem, h]
 have B6 : Hid (BlkAt ((((w.alloc (.cells #[.int .i64 s.wd, .slice ta s.ts.length tc, .slice ra s.rs.length rc] 45)).alloc (.cells #[.slice a fs.length cap] 49)).alloc (.cells #[.string m.nm, .string m.tl, .string m.ar] 51)).alloc (.cells #[.bool false, .int .i64 0, .string ⟨#[]⟩, .bool false, .string ⟨#[]⟩, .int .i64 0] 39)) (w.heap.size + 1 + 1 + 1) [.bool false, .int .i64 0, .string ⟨#[]⟩, .bool false, .string ⟨#[]⟩, .int .i64 0]) := hidI (fun j v h => by simp [go_sem, h])
 have O6 : Hid (OpnAt ((((w.alloc (.cells #[.int .i64 s.wd, .slice ta s.ts.length tc, .slice ra s.rs.length rc] 45)).alloc (.cells #[.slice a fs.length cap] 49)).alloc (.cells #[.string m.nm, .string m.tl, .string m.ar] 51)).alloc (.cells #[.bool false, .int .i64 0, .string ⟨#[]⟩, .bool false, .string ⟨#[]⟩, .int .i64 0] 39)) (w.heap.size + 1 + 1 + 1)) := hidI (fun j => by simp [go_sem])
 have a0 := EA 0 _ rfl
 have a1 := EA 1 _ rfl
 have a2 := EA 2 _ rfl
 have t0 := ET 0 _ rfl
 have m0 := EM 0 _ rfl
 have m1 := EM 1 _ rfl
 have m2 := EM 2 _ rfl
 have HAT := hidI hat
 have HFT := hidI hft
 have HDT := hidI hdt
 have HSL := hidI hs
 have HFS := hidI hfs
 have HDS := hidI hds
 have HV := hidI hv
 have HMX : Hid (MaxAt w) := hidI hv.vr.mx
 have HML : Hid (m.le 1048600) := hidI ⟨Nat.le_trans hm.1 (by omega), Nat.le_trans hm.2.1 (by omega), Nat.le_trans hm.2.2 (by omega)⟩
 have HMK : Hid (m.le 1048700) := hidI ⟨Nat.le_trans hm.1 (by omega), Nat.le_trans hm.2.1 (by omega), Nat.le_trans hm.2.2 (by omega)⟩
 have HRR := hidI (fun ms => @sight_size fs ms ds hfs hds)
 clear EA ET EM hat hft hdt hs hfs hds hv hm
 go_enter Tryz.func13, Tryz.ntmps13
 go_wp2_with fail
 generalize ((((w.alloc (.cells #[.int .i64 s.wd, .slice ta s.ts.length tc, .slice ra s.rs.length rc] 45)).alloc (.cells #[.slice a fs.length cap] 49)).alloc (.cells #[.string m.nm, .string m.tl, .string m.ar] 51)).alloc (.cells #[.bool false, .int .i64 0, .string ⟨#[]⟩, .bool false, .string ⟨#[]⟩, .int .i64 0] 39)) = U0 at *
 have hUU0 : Below U0.heap.size U0 U0 := Below.refl _ _
 refine (c40 da dc ds U0 hdl HDS.out (G.deeds_below HDT.out hBU0)).mono ?_
 rintro e w1 ⟨hk, hb1⟩
 have hBw1 : Below w.heap.size w w1 := hBU0.trans (hb1.mono hBU0.size)
 have hUw1 : Below U0.heap.size U0 w1 := hUU0.trans (hb1.mono hUU0.size)
 have sz1 := hb1.size
 rcases hk with ⟨hok, b, hb, hbl, rfl, hM⟩ | ⟨hno, rfl⟩
 · have HKM := hidI hM
   have HOK := hidI hok
   clear hok hM
   have bU1 : Below w1.heap.size w1 (w1.alloc (.cells #[.map (some b)] 92)) := (Below.refl _ _).alloc (Nat.le_refl _) _
   have E1 := hidI (blk_new w1 [.map (some b)] 92)
   have szU1 : (w1.alloc (.cells #[.map (some b)] 92)).heap.size = w1.heap.size + 1 := by simp
   have KU1 := hidI (HKM.out.below bU1 hbl)
   have hBU1 : Below w.heap.size w (w1.alloc (.cells #[.map (some b)] 92)) := hBw1.trans (bU1.mono hBw1.size)
   have hUU1 : Below U0.heap.size U0 (w1.alloc (.cells #[.map (some b)] 92)) := hUw1.trans (bU1.mono hUw1.size)
   have b0 := (hUU1.cell (p := ⟨w.heap.size, 0, none⟩) (show w.heap.size < U0.heap.size by omega)).trans a0
   have b1 := (hUU1.cell (p := ⟨w.heap.size, 1, none⟩) (show w.heap.size < U0.heap.size by omega)).trans a1
   have b2 := (hUU1.cell (p := ⟨w.heap.size, 2, none⟩) (show w.heap.size < U0.heap.size by omega)).trans a2
   clear HKM hb1
   go_wp2_with fail
   generalize (w1.alloc (.cells #[.map (some b)] 92)) = U1 at *
   refine (c41 ta ra tc rc s U1 HSL.out (HAT.out.below hBU1) (max_below HMX.out hBU1)).mono ?_
   rintro e w2 ⟨⟨q, rfl, hq⟩, hb2⟩
   have hBw2 : Below w.heap.size w w2 := hBU1.trans (hb2.mono hBU1.size)
   have hUw2 : Below U0.heap.size U0 w2 := hUU1.trans (hb2.mono hUU1.size)
   cases q with
   | false =>
    have HNO : Hid (¬ AllOk s fs m ds) := hidI (fun h => by have := hq.2 h.1; cases this)
    clear hq
    have BV := hidI (B6.out.below hUw2 (by omega))
    have OV := hidI (O6.out.below hUw2 (by omega))
    have hBV := hBw2
    have x0 := BV.out 0 _ rfl
    have fx0 := OV.out 0
    have x1 := BV.out 1 _ rfl
    have fx1 := OV.out 1
    have x2 := BV.out 2 _ rfl
    have fx2 := OV.out 2
    have x3 := BV.out 3 _ rfl
    have fx3 := OV.out 3
    have x4 := BV.out 4 _ rfl
    have fx4 := OV.out 4
    have x5 := BV.out 5 _ rfl
    have fx5 := OV.out 5
    go_wp2
    have HE := hidI (blk6 BV.out (.bool false) (.int .i64 0) (.string ⟨#[]⟩) (.bool false) (.string ⟨#[]⟩) (.int .i64 0))
    have e0q := HE.out 0 _ rfl
    have e1q := HE.out 1 _ rfl
    have e2q := HE.out 2 _ rfl
    have e3q := HE.out 3 _ rfl
    have e4q := HE.out 4 _ rfl
    have e5q := HE.out 5 _ rfl
    refine bodyPost_ret (v := .tuple #[.agg #[.bool false, .int .i64 0, .string ⟨#[]⟩, .bool false, .string ⟨#[]⟩, .int .i64 0], .slice none 0 0]) (by simp [results, Tryz.results13, go_sem, e0q, e1q, e2q, e3q, e4q, e5q]) rfl ⟨?_, ((((((hBV.setCell (by simp; omega) _).setCell (by simp; omega) _).setCell (by simp; omega) _).setCell (by simp; omega) _).setCell (by simp; omega) _).setCell (by simp; omega) _)⟩
    rw [anF_no HNO.out]
    exact ⟨_, rfl, World.ownsRow_nil _ _ _ _⟩
   | true =>
    have HSO := hidI (hq.1 rfl)
    clear hq
    have t2 := (hUw2.cell (p := ⟨w.heap.size + 1, 0, none⟩) (show w.heap.size + 1 < U0.heap.size by omega)).trans t0
    go_wp2_with fail
    refine (G.T.c42 a cap fs w2 hfl HFS.out (G.T.files_below HFT.out hBw2)).mono ?_
    rintro e w3 ⟨⟨q, rfl, hq⟩, hb3⟩
    have hBw3 : Below w.heap.size w w3 := hBw2.trans (hb3.mono hBw2.size)
    have hUw3 : Below U0.heap.size U0 w3 := hUw2.trans (hb3.mono hUw2.size)
    cases q with
    | false =>
     have HNO : Hid (¬ AllOk s fs m ds) := hidI (fun h => by have := hq.2 h.2.1; cases this)
     clear hq
     have BV := hidI (B6.out.below hUw3 (by omega))
     have OV := hidI (O6.out.below hUw3 (by omega))
     have hBV := hBw3
     have x0 := BV.out 0 _ rfl
     have fx0 := OV.out 0
     have x1 := BV.out 1 _ rfl
     have fx1 := OV.out 1
     have x2 := BV.out 2 _ rfl
     have fx2 := OV.out 2
     have x3 := BV.out 3 _ rfl
     have fx3 := OV.out 3
     have x4 := BV.out 4 _ rfl
     have fx4 := OV.out 4
     have x5 := BV.out 5 _ rfl
     have fx5 := OV.out 5
     go_wp2
     have HE := hidI (blk6 BV.out (.bool false) (.int .i64 0) (.string ⟨#[]⟩) (.bool false) (.string ⟨#[]⟩) (.int .i64 0))
     have e0q := HE.out 0 _ rfl
     have e1q := HE.out 1 _ rfl
     have e2q := HE.out 2 _ rfl
     have e3q := HE.out 3 _ rfl
     have e4q := HE.out 4 _ rfl
     have e5q := HE.out 5 _ rfl
     refine bodyPost_ret (v := .tuple #[.agg #[.bool false, .int .i64 0, .string ⟨#[]⟩, .bool false, .string ⟨#[]⟩, .int .i64 0], .slice none 0 0]) (by simp [results, Tryz.results13, go_sem, e0q, e1q, e2q, e3q, e4q, e5q]) rfl ⟨?_, ((((((hBV.setCell (by simp; omega) _).setCell (by simp; omega) _).setCell (by simp; omega) _).setCell (by simp; omega) _).setCell (by simp; omega) _).setCell (by simp; omega) _)⟩
     rw [anF_no HNO.out]
     exact ⟨_, rfl, World.ownsRow_nil _ _ _ _⟩
    | true =>
     have HTO := hidI (hq.1 rfl)
     clear hq
     have n0 := (hUw3.cell (p := ⟨w.heap.size + 2, 0, none⟩) (show w.heap.size + 2 < U0.heap.size by omega)).trans m0
     have n1 := (hUw3.cell (p := ⟨w.heap.size + 2, 1, none⟩) (show w.heap.size + 2 < U0.heap.size by omega)).trans m1
     have n2 := (hUw3.cell (p := ⟨w.heap.size + 2, 2, none⟩) (show w.heap.size + 2 < U0.heap.size by omega)).trans m2
     go_wp2_with fail
     refine (c43 m w3 HMK.out).mono ?_
     rintro e w4 ⟨rfl, hb4⟩
     have hBw4 : Below w.heap.size w w4 := hBw3.trans (hb4.mono hBw3.size)
     have hUw4 : Below U0.heap.size U0 w4 := hUw3.trans (hb4.mono hUw3.size)
     cases hq : okM m with
     | false =>
      have HNO : Hid (¬ AllOk s fs m ds) := hidI (fun h => by have := h.2.2.1; rw [hq] at this; cases this)
      have BV := hidI (B6.out.below hUw4 (by omega))
      have OV := hidI (O6.out.below hUw4 (by omega))
      have hBV := hBw4
      have x0 := BV.out 0 _ rfl
      have fx0 := OV.out 0
      have x1 := BV.out 1 _ rfl
      have fx1 := OV.out 1
      have x2 := BV.out 2 _ rfl
      have fx2 := OV.out 2
      have x3 := BV.out 3 _ rfl
      have fx3 := OV.out 3
      have x4 := BV.out 4 _ rfl
      have fx4 := OV.out 4
      have x5 := BV.out 5 _ rfl
      have fx5 := OV.out 5
      go_wp2
      have HE := hidI (blk6 BV.out (.bool false) (.int .i64 0) (.string ⟨#[]⟩) (.bool false) (.string ⟨#[]⟩) (.int .i64 0))
      have e0q := HE.out 0 _ rfl
      have e1q := HE.out 1 _ rfl
      have e2q := HE.out 2 _ rfl
      have e3q := HE.out 3 _ rfl
      have e4q := HE.out 4 _ rfl
      have e5q := HE.out 5 _ rfl
      refine bodyPost_ret (v := .tuple #[.agg #[.bool false, .int .i64 0, .string ⟨#[]⟩, .bool false, .string ⟨#[]⟩, .int .i64 0], .slice none 0 0]) (by simp [results, Tryz.results13, go_sem, e0q, e1q, e2q, e3q, e4q, e5q]) rfl ⟨?_, ((((((hBV.setCell (by simp; omega) _).setCell (by simp; omega) _).setCell (by simp; omega) _).setCell (by simp; omega) _).setCell (by simp; omega) _).setCell (by simp; omega) _)⟩
      rw [anF_no HNO.out]
      exact ⟨_, rfl, World.ownsRow_nil _ _ _ _⟩
     | true =>
      have HALL : Hid (AllOk s fs m ds) := hidI ⟨HSO.out, HTO.out, hq, HOK.out⟩
      have t4 := (hUw4.cell (p := ⟨w.heap.size + 1, 0, none⟩) (show w.heap.size + 1 < U0.heap.size by omega)).trans t0
      clear b0 b1 b2 t2 n0 n1 n2
      go_wp2_with fail
      refine (G.c44 a cap fs w4 hfl HFS.out (G.T.files_below HFT.out hBw4) (HV.out.below hBw4)).mono ?_
      rintro e w5 ⟨⟨ms, v5, rfl, hrow, hpt⟩, hb5⟩
      have hBw5 : Below w.heap.size w w5 := hBw4.trans (hb5.mono hBw4.size)
      have hUw5 : Below U0.heap.size U0 w5 := hUw4.trans (hb5.mono hUw4.size)
      obtain ⟨pa, pc, rfl, hmk⟩ := G.own3_form hrow
      have HYE := hidI (anF_yes HALL.out hpt)
      have HPT := hidI hpt
      replace HRR := hidI (HRR.out ms)
      have bU5 : Below w5.heap.size w5 (w5.alloc (.cells #[.slice pa ms.length pc] 95)) := (Below.refl _ _).alloc (Nat.le_refl _) _
      have E5 := blk_new w5 [.slice pa ms.length pc] 95
      have szU5 : (w5.alloc (.cells #[.slice pa ms.length pc] 95)).heap.size = w5.heap.size + 1 := by simp
      have hBU5 : Below w.heap.size w (w5.alloc (.cells #[.slice pa ms.length pc] 95)) := hBw5.trans (bU5.mono hBw5.size)
      have hUU5 : Below U0.heap.size U0 (w5.alloc (.cells #[.slice pa ms.length pc] 95)) := hUw5.trans (bU5.mono hUw5.size)
      have k15 : Below U1.heap.size U1 (w5.alloc (.cells #[.slice pa ms.length pc] 95)) := (((hb2.trans (hb3.mono hb2.size)).trans (hb4.mono (hb2.trans (hb3.mono hb2.size)).size)).trans (hb5.mono ((hb2.trans (hb3.mono hb2.size)).trans (hb4.mono (hb2.trans (hb3.mono hb2.size)).size)).size)).trans (bU5.mono (((hb2.trans (hb3.mono hb2.size)).trans (hb4.mono (hb2.trans (hb3.mono hb2.size)).size)).trans (hb5.mono ((hb2.trans (hb3.mono hb2.size)).trans (hb4.mono (hb2.trans (hb3.mono hb2.size)).size)).size)).size)
      have szk := k15.size
      have HSE : Hid (See (w.heap.size + 1) w5.heap.size w1.heap.size fs ms ds (w5.alloc (.cells #[.slice pa ms.length pc] 95))) := hidI ⟨⟨a, cap, (hUU5.cell (p := ⟨w.heap.size + 1, 0, none⟩) (show w.heap.size + 1 < U0.heap.size by omega)).trans t0, G.T.files_below HFT.out hBU5⟩, ⟨pa, pc, E5 0 _ rfl, G.mks_below hmk bU5⟩, ⟨b, (E1.out.below k15 (by omega)) 0 _ rfl, KU1.out.below k15 (by omega), by omega⟩, by omega, by omega, by omega⟩
      clear hrow hpt hmk E5 k15 E1 KU1 t4 hb2 hb3 hb4 hb5 bU5 bU1
      go_wp2_with fail
      generalize (w5.alloc (.cells #[.slice pa ms.length pc] 95)) = U5 at *
      refine wp_region_held_drew (S := (fun u => (u.cell? ⟨w.heap.size, 0, none⟩ = some (.int .i64 s.wd) ∧ u.cell? ⟨w.heap.size, 1, none⟩ = some (.slice ta s.ts.length tc) ∧ u.cell? ⟨w.heap.size, 2, none⟩ = some (.slice ra s.rs.length rc)) ∧ u.cell? ⟨w.heap.size + 2, 0, none⟩ = some (.string m.nm) ∧ u.cell? ⟨w.heap.size + 2, 1, none⟩ = some (.string m.tl) ∧ u.cell? ⟨w.heap.size + 2, 2, none⟩ = some (.string m.ar))) (by kernel_rfl) ?_ (fun hHeld => ?_)
      · exact ⟨⟨(hUU5.cell (p := ⟨w.heap.size, 0, none⟩) (show w.heap.size < U0.heap.size by omega)).trans a0, (hUU5.cell (p := ⟨w.heap.size, 1, none⟩) (show w.heap.size < U0.heap.size by omega)).trans a1, (hUU5.cell (p := ⟨w.heap.size, 2, none⟩) (show w.heap.size < U0.heap.size by omega)).trans a2⟩, (hUU5.cell (p := ⟨w.heap.size + 2, 0, none⟩) (show w.heap.size + 2 < U0.heap.size by omega)).trans m0, (hUU5.cell (p := ⟨w.heap.size + 2, 1, none⟩) (show w.heap.size + 2 < U0.heap.size by omega)).trans m1, (hUU5.cell (p := ⟨w.heap.size + 2, 2, none⟩) (show w.heap.size + 2 < U0.heap.size by omega)).trans m2⟩
      refine tk (i := 0) (oi := ⟨some 38, .load 45 (.tmp 4), 45, _, _, none⟩) (v := ?_) rfl (by kernel_rfl) rfl ?e hHeld ?_
      case e => intro wq hSw; (try dsimp only at hSw); go_simp; try with_reducible rfl
      try simp only [qq]
      refine tk (i := 2) (oi := ⟨some 40, .load 51 (.tmp 6), 51, _, _, none⟩) (v := ?_) rfl (by kernel_rfl) rfl ?e hHeld ?_
      case e => intro wq hSw; (try dsimp only at hSw); go_simp; try with_reducible rfl
      try simp only [qq]
      refine tk (i := 3) (oi := ⟨some 41, .makeFunc (Fn.func 47) #[] #[.tmp 5, .tmp 12, .tmp 10], 104, _, _, none⟩) (v := ?_) rfl (by kernel_rfl) rfl ?e hHeld ?_
      case e => intro wq hSw; (try dsimp only at hSw); go_simp; try with_reducible rfl
      try simp only [qq]
      refine rd (i := 1) (o := ⟨some 39, .call ⟨.value (.func 45), #[.tmp 38], #[45]⟩, 97, _, _, none⟩) rfl (by kernel_rfl) (fun K hK => ?_)
      go_simp
      refine (c45 s ta ra tc rc _ HSO.out HSL.out (HAT.out.below (hBU5.trans (Below.refl _ _).drew)) (max_below HMX.out (hBU5.trans (Below.refl _ _).drew))).mono ?_
      rintro e w6 ⟨⟨H, bT, bR, bP, rv, rfl, hSh⟩, hb60⟩
      have hb6 := (Below.refl U5.heap.size U5).drew.trans hb60
      go_wp2_with fail
      have hBw6 : Below w.heap.size w w6 := hBU5.trans (hb6.mono hBU5.size)
      have hUw6 : Below U0.heap.size U0 w6 := hUU5.trans (hb6.mono hUU5.size)
      clear hHeld
      refine hK.out _ _ ⟨⟨(hUw6.cell (p := ⟨w.heap.size, 0, none⟩) (show w.heap.size < U0.heap.size by omega)).trans a0, (hUw6.cell (p := ⟨w.heap.size, 1, none⟩) (show w.heap.size < U0.heap.size by omega)).trans a1, (hUw6.cell (p := ⟨w.heap.size, 2, none⟩) (show w.heap.size < U0.heap.size by omega)).trans a2⟩, (hUw6.cell (p := ⟨w.heap.size + 2, 0, none⟩) (show w.heap.size + 2 < U0.heap.size by omega)).trans m0, (hUw6.cell (p := ⟨w.heap.size + 2, 1, none⟩) (show w.heap.size + 2 < U0.heap.size by omega)).trans m1, (hUw6.cell (p := ⟨w.heap.size + 2, 2, none⟩) (show w.heap.size + 2 < U0.heap.size by omega)).trans m2⟩ (fun hHeld => ?_)
      clear hK K
      try simp only [qq]
      refine rd (i := 4) (o := ⟨some 42, .call ⟨.value (.func 46), #[.tmp 39, .tmp 40, .tmp 41], #[97, 51, 159]⟩, 41, _, _, none⟩) rfl (by kernel_rfl) (fun K hK => ?_)
      go_simp
      refine (c46 s _ H bT bR bP rv m (w.heap.size + 1) w5.heap.size w1.heap.size fs ms ds w6 hSh HSO.out HML.out (HSE.out.below hb6) HTO.out HPT.out HRR.out).mono ?_
      rintro e w7 ⟨⟨vv, rfl, hown⟩, hb7⟩
      obtain ⟨av, cv, rfl⟩ := row_form hown
      go_wp2_with fail
      have hBw7 : Below w.heap.size w w7 := hBw6.trans (hb7.mono hBw6.size)
      have hUw7 : Below U0.heap.size U0 w7 := hUw6.trans (hb7.mono hUw6.size)
      have sz7 := hb7.size
      have sz6 := hb6.size
      clear hHeld
      refine hK.out _ _ ⟨⟨(hUw7.cell (p := ⟨w.heap.size, 0, none⟩) (show w.heap.size < U0.heap.size by omega)).trans a0, (hUw7.cell (p := ⟨w.heap.size, 1, none⟩) (show w.heap.size < U0.heap.size by omega)).trans a1, (hUw7.cell (p := ⟨w.heap.size, 2, none⟩) (show w.heap.size < U0.heap.size by omega)).trans a2⟩, (hUw7.cell (p := ⟨w.heap.size + 2, 0, none⟩) (show w.heap.size + 2 < U0.heap.size by omega)).trans m0, (hUw7.cell (p := ⟨w.heap.size + 2, 1, none⟩) (show w.heap.size + 2 < U0.heap.size by omega)).trans m1, (hUw7.cell (p := ⟨w.heap.size + 2, 2, none⟩) (show w.heap.size + 2 < U0.heap.size by omega)).trans m2⟩ (fun hHeld => ?_)
      clear hK K
      try simp only [qq]
      refine tk (i := 5) (oi := ⟨some 43, .extract (.tmp 42) 0, 39, _, _, none⟩) (v := ?_) rfl (by kernel_rfl) rfl ?e hHeld ?_
      case e => intro wq hSw; (try dsimp only at hSw); go_simp; try with_reducible rfl
      try simp only [qq]
      refine tk (i := 6) (oi := ⟨some 44, .extract (.tmp 42) 1, 40, _, _, none⟩) (v := ?_) rfl (by kernel_rfl) rfl ?e hHeld ?_
      case e => intro wq hSw; (try dsimp only at hSw); go_simp; try with_reducible rfl
      try simp only [qq]
      refine rd (i := 7) (o := ⟨none, .store 39 (.tmp 8) (.tmp 43), 0, _, _, none⟩) rfl (by kernel_rfl) (fun K hK => ?_)
      have BV := hidI (B6.out.below hUw7 (by omega))
      have OV := hidI (O6.out.below hUw7 (by omega))
      generalize hA : rclF s.wd s.ts (sightF fs ms ds) (keyR m) s.rs = A at *
      refine step_store_blk rfl 39 (.tmp 8) (.tmp 43) rfl (w.heap.size + 1 + 1 + 1) 0 rfl [.bool A.ov, .int .i64 A.cd, .string A.tx, .bool false, .string A.nm, .int .i64 0] rfl (blk_some BV.out rfl) OV.out (by simp [Value.oneCell']) (by kernel_rfl) rfl ?_
      clear hHeld
      refine st_over (old := [.bool false, .int .i64 0, .string ⟨#[]⟩, .bool false, .string ⟨#[]⟩, .int .i64 0]) (N := w.heap.size + 1 + 1 + 1) rfl BV.out OV.out (Nat.le_refl _) ?_
      intro E bE ZE OE hEs hE
      have HOW := hidI (own_low (own_other hown hEs hE (by omega)) (show w.heap.size ≤ w6.heap.size by omega))
      refine hK.out _ _ ⟨⟨(bE.cell (p := ⟨w.heap.size, 0, none⟩) (show w.heap.size < w.heap.size + 1 + 1 + 1 by omega)).trans ((hUw7.cell (p := ⟨w.heap.size, 0, none⟩) (show w.heap.size < U0.heap.size by omega)).trans a0), (bE.cell (p := ⟨w.heap.size, 1, none⟩) (show w.heap.size < w.heap.size + 1 + 1 + 1 by omega)).trans ((hUw7.cell (p := ⟨w.heap.size, 1, none⟩) (show w.heap.size < U0.heap.size by omega)).trans a1), (bE.cell (p := ⟨w.heap.size, 2, none⟩) (show w.heap.size < w.heap.size + 1 + 1 + 1 by omega)).trans ((hUw7.cell (p := ⟨w.heap.size, 2, none⟩) (show w.heap.size < U0.heap.size by omega)).trans a2)⟩, (bE.cell (p := ⟨w.heap.size + 2, 0, none⟩) (show w.heap.size + 2 < w.heap.size + 1 + 1 + 1 by omega)).trans ((hUw7.cell (p := ⟨w.heap.size + 2, 0, none⟩) (show w.heap.size + 2 < U0.heap.size by omega)).trans m0), (bE.cell (p := ⟨w.heap.size + 2, 1, none⟩) (show w.heap.size + 2 < w.heap.size + 1 + 1 + 1 by omega)).trans ((hUw7.cell (p := ⟨w.heap.size + 2, 1, none⟩) (show w.heap.size + 2 < U0.heap.size by omega)).trans m1), (bE.cell (p := ⟨w.heap.size + 2, 2, none⟩) (show w.heap.size + 2 < w.heap.size + 1 + 1 + 1 by omega)).trans ((hUw7.cell (p := ⟨w.heap.size + 2, 2, none⟩) (show w.heap.size + 2 < U0.heap.size by omega)).trans m2)⟩ (fun hHeld => ?_)
      clear hK K
      try simp only [qq]
      refine tk (i := 8) (oi := ⟨some 9, .assign (.tmp 44), 40, _, _, none⟩) (v := ?_) rfl (by kernel_rfl) rfl ?e hHeld ?_
      case e => intro wq hSw; (try dsimp only at hSw); go_simp; try with_reducible rfl
      try simp only [qq]
      refine wpAnyH_done (by kernel_rfl) ?_ _
      clear hHeld
      have q0 := ZE 0 _ rfl
      have q1 := ZE 1 _ rfl
      have q2 := ZE 2 _ rfl
      have q3 := ZE 3 _ rfl
      have q4 := ZE 4 _ rfl
      have q5 := ZE 5 _ rfl
      have hBE : Below w.heap.size w E := hBw7.trans (bE.mono (by omega))
      clear ZE OE hE bE hown
      go_wp2
      refine bodyPost_ret (v := .tuple #[.agg #[.bool A.ov, .int .i64 A.cd, .string A.tx, .bool false, .string A.nm, .int .i64 0], .slice av A.ls.length cv]) (by simp [results, Tryz.results13, go_sem, q0, q1, q2, q3, q4, q5]) rfl ⟨?_, hBE⟩
      rw [HYE.out]
      exact ⟨_, rfl, HOW.out⟩
 · have HNO : Hid (¬ AllOk s fs m ds) := hidI (fun h => hno h.2.2.2)
   have bU1 : Below w1.heap.size w1 (w1.alloc (.cells #[.map none] 92)) := (Below.refl _ _).alloc (Nat.le_refl _) _
   have hBU1 : Below w.heap.size w (w1.alloc (.cells #[.map none] 92)) := hBw1.trans (bU1.mono hBw1.size)
   have hUU1 : Below U0.heap.size U0 (w1.alloc (.cells #[.map none] 92)) := hUw1.trans (bU1.mono hUw1.size)
   clear hno
   have BV := hidI (B6.out.below hUU1 (by omega))
   have OV := hidI (O6.out.below hUU1 (by omega))
   have hBV := hBU1
   have x0 := BV.out 0 _ rfl
   have fx0 := OV.out 0
   have x1 := BV.out 1 _ rfl
   have fx1 := OV.out 1
   have x2 := BV.out 2 _ rfl
   have fx2 := OV.out 2
   have x3 := BV.out 3 _ rfl
   have fx3 := OV.out 3
   have x4 := BV.out 4 _ rfl
   have fx4 := OV.out 4
   have x5 := BV.out 5 _ rfl
   have fx5 := OV.out 5
   go_wp2
   have HE := hidI (blk6 BV.out (.bool false) (.int .i64 0) (.string ⟨#[]⟩) (.bool false) (.string ⟨#[]⟩) (.int .i64 0))
   have e0q := HE.out 0 _ rfl
   have e1q := HE.out 1 _ rfl
   have e2q := HE.out 2 _ rfl
   have e3q := HE.out 3 _ rfl
   have e4q := HE.out 4 _ rfl
   have e5q := HE.out 5 _ rfl
   refine bodyPost_ret (v := .tuple #[.agg #[.bool false, .int .i64 0, .string ⟨#[]⟩, .bool false, .string ⟨#[]⟩, .int .i64 0], .slice none 0 0]) (by simp [results, Tryz.results13, go_sem, e0q, e1q, e2q, e3q, e4q, e5q]) rfl ⟨?_, ((((((hBV.setCell (by simp; omega) _).setCell (by simp; omega) _).setCell (by simp; omega) _).setCell (by simp; omega) _).setCell (by simp; omega) _).setCell (by simp; omega) _)⟩
   rw [anF_no HNO.out]
   exact ⟨_, rfl, World.ownsRow_nil _ _ _ _⟩
end Go.Proofs.YtboojefodbjbcaaGreatDoor

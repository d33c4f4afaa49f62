import Derived.Test.YtboojefodbjbcaaGreatDoorZR00
import Derived.Test.YtboojefodbjbcaaGreatDoorRI
import Derived.Test.YtboojefodbjbcaaGreatDoorZR20
namespace Go.Proofs.YtboojefodbjbcaaGreatDoor
open Go.RowKit Go.Maps
set_option maxRecDepth 100000
set_option linter.unusedVariables false
def Is33 (base : Nat) (o : Option (List L4 × Option ByteArray)) (w' : World) (e : Ending) : Prop := match o with
 | none => ∃ a n c, e = .returned (.tuple #[.slice a n c, .string ⟨#[]⟩, .bool false])
 | some (ls, q) => ∃ v, e = .returned (.tuple #[v, .string (q.getD ⟨#[]⟩), .bool true]) ∧ w'.ownsRow base 108 4 v ls.length (lC ls)
set_option maxHeartbeats 8000000 in
theorem c33 (s : St) (ta ra : Option Addr) (tc rc : Nat) (a : Option Addr) (cap : Nat) (fs : List G.T.F2) (ms : List G.M3) (x : R3) (ai : Option Addr) (ci : Nat) (da : Option Addr) (dc : Nat) (ds : List G.D8) (w : World) (hfl : fs.length ≤ 1048576) (hfs : ∀ i, (fs.getD i G.T.f2z).le 1048576) (hft : G.T.FilesAt w a fs) (ht : G.T.treeOk fs) (hp : G.IsPT fs ms) (hxg : x.gs.length ≤ 1048576) (hxs : ∀ i, i < x.gs.length → (x.gs.getD i g3z).tl.size ≤ 1048576) (hat : GlsAt w ai x.gs) (hdl : ds.length ≤ 1048576) (hds : ∀ i, (ds.getD i G.d8z).le 1048576) (hdt : G.DeedsAt w da ds) :
 Calls Tryz.prog 33 #[.agg #[.int .i64 s.wd, .slice ta s.ts.length tc, .slice ra s.rs.length rc], .agg #[.slice a fs.length cap], .agg #[.string x.key, .slice ai x.gs.length ci, .string x.out], .slice da ds.length dc] w fun e w' => Is33 w.heap.size (tryK s.wd (sightF fs ms ds) x.gs []) w' e ∧ Below w.heap.size w w' := by
 obtain ⟨i0, hi, hz0, hz1, hz2⟩ := info_parts' info108'
 obtain ⟨b, off, hc⟩ := gls_some hat
 have HC := hidI hc
 have hBU0 : Below w.heap.size w ((((w.alloc (.cells #[.int .i64 s.wd, .slice ta s.ts.length tc, .slice ra s.rs.length rc] 45)).alloc (.cells #[.slice a fs.length cap] 49)).alloc (.cells #[.string x.key, .slice ai x.gs.length ci, .string x.out] 82)).alloc (.cells #[] 108)) := ((((Below.refl _ _).alloc (Nat.le_refl _) _).alloc (by simp) _).alloc (by simp; omega) _).alloc (by simp; omega) _
 have sz0 : ((((w.alloc (.cells #[.int .i64 s.wd, .slice ta s.ts.length tc, .slice ra s.rs.length rc] 45)).alloc (.cells #[.slice a fs.length cap] 49)).alloc (.cells #[.string x.key, .slice ai x.gs.length ci, .string x.out] 82)).alloc (.cells #[] 108)).heap.size = w.heap.size + 4 := by simp
 have EA : BlkAt ((((w.alloc (.cells #[.int .i64 s.wd, .slice ta s.ts.length tc, .slice ra s.rs.length rc] 45)).alloc (.cells #[.slice a fs.length cap] 49)).alloc (.cells #[.string x.key, .slice ai x.gs.length ci, .string x.out] 82)).alloc (.cells #[] 108)) w.heap.size [.int .i64 s.wd, .slice ta s.ts.length tc, .slice ra s.rs.length rc] := fun j v h => by simp [go_sem, h]
 have ET : BlkAt ((((w.alloc (.cells #[.int .i64 s.wd, .slice ta s.ts.length tc, .slice ra s.rs.length rc] 45)).alloc (.cells #[.slice a fs.length cap] 49)).alloc (.cells #[.string x.key, .slice ai x.gs.length ci, .string x.out] 82)).alloc (.cells #[] 108)) (w.heap.size + 1) [.slice a fs.length cap] := fun j v h => by simp [go_sem, h]
 have EX : Hid (BlkAt ((((w.alloc (.cells #[.int .i64 s.wd, .slice ta s.ts.length tc, .slice ra s.rs.length rc] 45)).alloc (.cells #[.slice a fs.length cap] 49)).alloc (.cells #[.string x.key, .slice ai x.gs.length ci, .string x.out] 82)).alloc (.cells #[] 108)) (w.heap.size + 1 + 1) [.string x.key, .slice ai x.gs.length ci, .string x.out]) := hidI (fun j v h => by simp [go_sem, h])
 have A0 := EA 0 _ rfl
 have T0 := ET 0 _ rfl
 have RW : Hid (((((w.alloc (.cells #[.int .i64 s.wd, .slice ta s.ts.length tc, .slice ra s.rs.length rc] 45)).alloc (.cells #[.slice a fs.length cap] 49)).alloc (.cells #[.string x.key, .slice ai x.gs.length ci, .string x.out] 82)).alloc (.cells #[] 108)).ownsRow (w.heap.size + 3) 108 4 (.slice (some ⟨w.heap.size + 1 + 1 + 1, 0, none⟩) 0 0) 0 (lC [])) := by
  have h := World.ownsRow_made (((w.alloc (.cells #[.int .i64 s.wd, .slice ta s.ts.length tc, .slice ra s.rs.length rc] 45)).alloc (.cells #[.slice a fs.length cap] 49)).alloc (.cells #[.string x.key, .slice ai x.gs.length ci, .string x.out] 82)) #[] 0 (base := w.heap.size + 3) (e := 108) (size := 4) (by simp) (Nat.zero_le _) rfl
  have e : (((w.alloc (.cells #[.int .i64 s.wd, .slice ta s.ts.length tc, .slice ra s.rs.length rc] 45)).alloc (.cells #[.slice a fs.length cap] 49)).alloc (.cells #[.string x.key, .slice ai x.gs.length ci, .string x.out] 82)).heap.size = w.heap.size + 1 + 1 + 1 := by simp
  rw [e] at h
  exact h
 have HFS := hidI hfs
 have HFT := hidI hft
 have HT := hidI ht
 have HPT := hidI hp
 have HXS := hidI hxs
 have HDS := hidI hds
 have HDT := hidI hdt
 have HRS := hidI (@sight_size fs ms ds hfs hds)
 clear hc hat hfs hft ht hp hxs hds hdt EA ET
 go_enter Tryz.func33, Tryz.ntmps33
 go_wp2_with fail
 generalize ((((w.alloc (.cells #[.int .i64 s.wd, .slice ta s.ts.length tc, .slice ra s.rs.length rc] 45)).alloc (.cells #[.slice a fs.length cap] 49)).alloc (.cells #[.string x.key, .slice ai x.gs.length ci, .string x.out] 82)).alloc (.cells #[] 108)) = U0 at *
 go_loopw [11, 12] (fun v i wr => ∃ (k : Nat) (ls : List L4), k ≤ x.gs.length ∧ i = .int .i64 k ∧ ls.length = k ∧ Hid (tryK s.wd (sightF fs ms ds) x.gs [] = tryK s.wd (sightF fs ms ds) (x.gs.drop k) ls) ∧ Hid (wr.ownsRow (w.heap.size + 3) 108 4 v ls.length (lC ls)) ∧ Below (w.heap.size + 3) U0 wr) (fun _ i _ => x.gs.length - (Go.RowKit.intOf i).toNat)
 case atStart => exact ⟨0, [], Nat.zero_le _, rfl, rfl, hidI rfl, RW, Below.refl _ _⟩
 case round =>
  obtain ⟨k, ls, hk, rfl, hll, HK, HO, hbr⟩ := hrel
  subst hll
  obtain ⟨av, cv, rfl⟩ := row_form HO.out
  have hb : Below w.heap.size w wr := hBU0.trans (hbr.mono (by omega))
  have szr := hbr.size
  have X1 := (EX.out.below hbr (by omega)) 1 _ rfl
  by_cases hlt : ls.length < x.gs.length
  · rcases HC.out with hss | ⟨ha, hbw, hcell⟩
    · rw [hss] at hlt; exact absurd hlt (Nat.not_lt_zero _)
    subst ha
    have g0 := (hb.cell (p := ⟨b, off + ls.length * 3, none⟩) hbw).trans (hcell ls.length hlt).1
    have g1 := (hb.cell (p := ⟨b, off + ls.length * 3 + 1, none⟩) hbw).trans (hcell ls.length hlt).2.1
    have g2 := (hb.cell (p := ⟨b, off + ls.length * 3 + 2, none⟩) hbw).trans (hcell ls.length hlt).2.2
    have hgs := HXS.out ls.length hlt
    have HD := HK.out
    rw [drop_gl hlt] at HD
    clear hcell HK
    generalize x.gs.getD ls.length g3z = g at *
    obtain ⟨gh, gn, ga⟩ := g
    simp only at g0 g1 g2 hgs
    rw [tryK_cons] at HD
    simp only at HD
    have HDD := hidI HD
    clear HD
    have bG : Below wr.heap.size wr (wr.alloc (.cells #[.bool gh, .string gn, .string ga] 127)) := (Below.refl _ _).alloc (Nat.le_refl _) _
    have hUG : Below (w.heap.size + 3) U0 (wr.alloc (.cells #[.bool gh, .string gn, .string ga] 127)) := hbr.trans (bG.mono (by omega))
    have hBG : Below w.heap.size w (wr.alloc (.cells #[.bool gh, .string gn, .string ga] 127)) := hb.trans (bG.mono hb.size)
    have EG := hidI (blk_new wr [.bool gh, .string gn, .string ga] 127)
    have OG := hidI (own_below HO.out bG)
    have szG : (wr.alloc (.cells #[.bool gh, .string gn, .string ga] 127)).heap.size = wr.heap.size + 1 := by simp
    have k0 := EG.out 0 _ rfl
    have k1 := EG.out 1 _ rfl
    have k2 := EG.out 2 _ rfl
    have t0 := (hUG.cell (p := ⟨w.heap.size + 1, 0, none⟩) (show w.heap.size + 1 < w.heap.size + 3 by omega)).trans T0
    have d0 := (hUG.cell (p := ⟨w.heap.size, 0, none⟩) (show w.heap.size < w.heap.size + 3 by omega)).trans A0
    clear HO
    cases gh with
    | true =>
     go_wp2_with fail
     generalize (wr.alloc (.cells #[.bool true, .string gn, .string ga] 127)) = UG at *
     refine wp_region_held_drew (S := (fun u => (u.cell? ⟨wr.heap.size, 1, none⟩ = some (.string gn) ∧ u.cell? ⟨wr.heap.size, 2, none⟩ = some (.string ga)) ∧ u.cell? ⟨w.heap.size + 1, 0, none⟩ = some (.slice a fs.length cap) ∧ u.cell? ⟨w.heap.size, 0, none⟩ = some (.int .i64 s.wd))) (by kernel_rfl) ?_ (fun hHeld => ?_)
     · exact ⟨⟨k1, k2⟩, t0, d0⟩
     refine tk (i := 0) (oi := ⟨some 31, .fieldAddr 127 (.tmp 13) 2, 0, _, _, none⟩) (v := ?_) rfl (by kernel_rfl) rfl ?e hHeld ?_
     case e => intro wq hSw; (try dsimp only at hSw); go_simp; try with_reducible rfl
     try simp only [qq]
     refine tk (i := 1) (oi := ⟨some 32, .load 9 (.tmp 31), 9, _, _, none⟩) (v := ?_) rfl (by kernel_rfl) rfl ?e hHeld ?_
     case e => intro wq hSw; (try dsimp only at hSw); go_simp; try with_reducible rfl
     try simp only [qq]
     refine tk (i := 2) (oi := ⟨some 33, .load 49 (.tmp 5), 49, _, _, none⟩) (v := ?_) rfl (by kernel_rfl) rfl ?e hHeld ?_
     case e => intro wq hSw; (try dsimp only at hSw); go_simp; try with_reducible rfl
     try simp only [qq]
     refine tk (i := 3) (oi := ⟨some 34, .fieldAddr 127 (.tmp 13) 1, 0, _, _, none⟩) (v := ?_) rfl (by kernel_rfl) rfl ?e hHeld ?_
     case e => intro wq hSw; (try dsimp only at hSw); go_simp; try with_reducible rfl
     try simp only [qq]
     refine tk (i := 4) (oi := ⟨some 35, .load 9 (.tmp 34), 9, _, _, none⟩) (v := ?_) rfl (by kernel_rfl) rfl ?e hHeld ?_
     case e => intro wq hSw; (try dsimp only at hSw); go_simp; try with_reducible rfl
     try simp only [qq]
     refine tk (i := 7) (oi := ⟨some 38, .fieldAddr 45 (.tmp 4) 0, 0, _, _, none⟩) (v := ?_) rfl (by kernel_rfl) rfl ?e hHeld ?_
     case e => intro wq hSw; (try dsimp only at hSw); go_simp; try with_reducible rfl
     try simp only [qq]
     refine tk (i := 8) (oi := ⟨some 39, .load 3 (.tmp 38), 3, _, _, none⟩) (v := ?_) rfl (by kernel_rfl) rfl ?e hHeld ?_
     case e => intro wq hSw; (try dsimp only at hSw); go_simp; try with_reducible rfl
     try simp only [qq]
     refine rd (i := 5) (o := ⟨some 36, .call ⟨.value (.func 70), #[.tmp 33, .tmp 35], #[49, 9]⟩, 4, _, _, none⟩) rfl (by kernel_rfl) (fun K hK => ?_)
     go_simp
     refine (G.c70 a cap fs gn _ hfl HFS.out (G.T.files_below HFT.out (hBG.trans (Below.refl _ _).drew))).mono ?_
     rintro e w2 ⟨h18, hbw20⟩
     obtain ⟨r, rfl, hr⟩ := is18_of HPT.out h18
     have HSE := hidI (seeH_of hr)
     clear h18 hr
     have hbw2 := (Below.refl UG.heap.size UG).drew.trans hbw20
     go_wp2_with fail
     clear hHeld
     refine hK.out _ _ ⟨⟨(hbw2.cell (p := ⟨wr.heap.size, 1, none⟩) (show wr.heap.size < UG.heap.size by omega)).trans k1, (hbw2.cell (p := ⟨wr.heap.size, 2, none⟩) (show wr.heap.size < UG.heap.size by omega)).trans k2⟩, (hbw2.cell (p := ⟨w.heap.size + 1, 0, none⟩) (show w.heap.size + 1 < UG.heap.size by omega)).trans t0, (hbw2.cell (p := ⟨w.heap.size, 0, none⟩) (show w.heap.size < UG.heap.size by omega)).trans d0⟩ (fun hHeld => ?_)
     clear hK K
     try simp only [qq]
     refine rd (i := 6) (o := ⟨some 37, .call ⟨.value (.func 69), #[.tmp 36], #[4]⟩, 9, _, _, none⟩) rfl (by kernel_rfl) (fun K hK => ?_)
     go_simp
     refine (c69 r _).mono ?_
     rintro e w3 ⟨he3, hbw30⟩
     obtain ⟨fl, hfl⟩ : ∃ fl : ByteArray, (if r then (⟨#[49]⟩ : ByteArray) else ⟨#[48]⟩) = fl := ⟨_, rfl⟩
     rw [hfl] at he3
     subst he3
     have hflz : fl.size ≤ 1048700 := by rw [← hfl]; split <;> decide
     have HFL := hidI hfl
     clear hfl
     have hbw3 := hbw2.trans (hbw30.mono hbw2.size)
     go_wp2_with fail
     clear hHeld
     refine hK.out _ _ ⟨⟨(hbw3.cell (p := ⟨wr.heap.size, 1, none⟩) (show wr.heap.size < UG.heap.size by omega)).trans k1, (hbw3.cell (p := ⟨wr.heap.size, 2, none⟩) (show wr.heap.size < UG.heap.size by omega)).trans k2⟩, (hbw3.cell (p := ⟨w.heap.size + 1, 0, none⟩) (show w.heap.size + 1 < UG.heap.size by omega)).trans t0, (hbw3.cell (p := ⟨w.heap.size, 0, none⟩) (show w.heap.size < UG.heap.size by omega)).trans d0⟩ (fun hHeld => ?_)
     clear hK K
     try simp only [qq]
     refine rd (i := 9) (o := ⟨some 40, .call ⟨.value (.func 34), #[.tmp 37, .tmp 39], #[9, 3]⟩, 9, _, _, none⟩) rfl (by kernel_rfl) (fun K hK => ?_)
     go_simp
     refine (c34 fl s.wd _ hflz).mono ?_
     rintro e w4 ⟨rfl, hbw40⟩
     have hbw4 := hbw3.trans (hbw40.mono hbw3.size)
     go_wp2_with fail
     clear hHeld
     refine hK.out _ _ ⟨⟨(hbw4.cell (p := ⟨wr.heap.size, 1, none⟩) (show wr.heap.size < UG.heap.size by omega)).trans k1, (hbw4.cell (p := ⟨wr.heap.size, 2, none⟩) (show wr.heap.size < UG.heap.size by omega)).trans k2⟩, (hbw4.cell (p := ⟨w.heap.size + 1, 0, none⟩) (show w.heap.size + 1 < UG.heap.size by omega)).trans t0, (hbw4.cell (p := ⟨w.heap.size, 0, none⟩) (show w.heap.size < UG.heap.size by omega)).trans d0⟩ (fun hHeld => ?_)
     clear hK K
     try simp only [qq]
     have hsg : sightF fs ms ds true gn = some (seeH fs ms gn) := rfl
     obtain ⟨lc, lt, hse, hgl⟩ : ∃ (lc : Int) (lt : ByteArray), seeH fs ms gn = (lc, lt) ∧ fl = glT ⟨true, gn, lc, lt⟩ := by
      rw [HSE.out, ← HFL.out]
      cases r <;> exact ⟨_, _, rfl, rfl⟩
     have HF := HDD.out
     rw [hsg, hse] at HF
     simp only at HF
     subst hgl
     clear HDD hsg HSE HFL
     have hUw4 : Below (w.heap.size + 3) U0 w4 := hUG.trans (hbw4.mono (by omega))
     have hBw4 : Below w.heap.size w w4 := hBU0.trans (hUw4.mono (by omega))
     have szw4 := hbw4.size
     have O4 := hidI (own_below OG.out hbw4)
     have n1 := (hbw4.cell (p := ⟨wr.heap.size, 1, none⟩) (show wr.heap.size < UG.heap.size by omega)).trans k1
     have u0 := (hbw4.cell (p := ⟨w.heap.size + 1, 0, none⟩) (show w.heap.size + 1 < UG.heap.size by omega)).trans t0
     by_cases he : ga = sumS (glT ⟨true, gn, lc, lt⟩) s.wd
     · rw [if_pos he] at HF
       have HFF := hidI HF
       clear HF
       rw [← he]
       refine tk (i := 10) (oi := ⟨some 41, .binOp .neq 9 (.tmp 32) (.tmp 40) 9, 4, _, _, none⟩) (v := ?_) rfl (by kernel_rfl) rfl ?e hHeld ?_
       case e => intro wq hSw; (try dsimp only at hSw); go_simp; try with_reducible rfl
       try simp only [qq]
       refine wpAnyH_done (by kernel_rfl) ?_ _
       clear hHeld
       have h71 := c71 a cap fs ms gn w4 hfl HFS.out (G.T.files_below HFT.out hBw4) HPT.out
       rw [hse] at h71
       simp only at h71
       clear k0 k1 k2 t0 d0 g0 g1 g2 EG OG bG hse he
       go_wp2_with fail
       refine h71.mono ?_
       rintro e w5 ⟨rfl, hb5⟩
       have hUw5 : Below (w.heap.size + 3) U0 w5 := hUw4.trans (hb5.mono (by omega))
       have O5 := hidI (own_below O4.out hb5)
       clear h71
       have b6 : Below w5.heap.size w5 (w5.alloc (.cells #[.bool true, .string gn, .int .i64 lc, .string lt] 108)) := (Below.refl _ _).alloc (Nat.le_refl _) _
       have H6 := hidI (own_below O5.out b6)
       have hU6 : Below (w.heap.size + 3) U0 (w5.alloc (.cells #[.bool true, .string gn, .int .i64 lc, .string lt] 108)) := hUw5.trans (b6.mono (by have := hUw5.size; omega))
       have sz6 : (w5.alloc (.cells #[.bool true, .string gn, .int .i64 lc, .string lt] 108)).heap.size = w5.heap.size + 1 := by simp
       have sz5 := hUw5.size
       have HR6 : Hid (∀ j u, ([.bool true, .string gn, .int .i64 lc, .string lt] : List Value)[j]? = some u → (w5.alloc (.cells #[.bool true, .string gn, .int .i64 lc, .string lt] 108)).cell? ((⟨w5.heap.size, 0, none⟩ : Addr).add j) = some u) := fun j u hj => by
        rw [adr_add, Nat.zero_add]
        exact blk_new w5 [.bool true, .string gn, .int .i64 lc, .string lt] 108 j u hj
       go_wp2_with (refine wpList_app rfl (.tmp 43) (.tmp 48) 40 rfl (w.heap.size + 3) 108 i0 (.agg #[.bool false, .string ⟨#[]⟩, .int .i64 0, .string ⟨#[]⟩]) 4 48 Tryz.underlying40 hi hz0 hz1 hz2 rfl (by decide) _ _ _ rfl H6.out ⟨w5.heap.size, 0, none⟩ 1 1 [.bool true, .string gn, .int .i64 lc, .string lt] rfl rfl HR6.out (by simp [Value.oneCell']) (by unfold maxLen; omega) (by omega) (by omega) ?_; intro v2 w9 hO9 hgrow; obtain ⟨a9, c9, rfl⟩ := row_form hO9; have HO9 := hidI hO9; have hB9 : Below (w.heap.size + 3) U0 w9 := hU6.grown hgrow (by omega) (fun q hq => own_blk H6.out hq); clear hO9 hgrow H6 HR6)
       go_roundw
       case rel => exact ⟨ls.length + 1, ls ++ [⟨true, gn, lc, lt⟩], by omega, by go_num, by simp, HFF, by rw [lC_snoc, List.length_append]; exact HO9.out, hB9⟩
       case measure => simp [Go.RowKit.intOf]; omega
     · rw [if_neg he] at HF
       have HFF := hidI HF
       have he' := G.beq_no he
       clear HF he
       generalize sumS (glT ⟨true, gn, lc, lt⟩) s.wd = sm at *
       refine tk (i := 10) (oi := ⟨some 41, .binOp .neq 9 (.tmp 32) (.tmp 40) 9, 4, _, _, none⟩) (v := ?_) rfl (by kernel_rfl) rfl ?e hHeld ?_
       case e => intro wq hSw; (try dsimp only at hSw); go_simp; try with_reducible rfl
       try simp only [qq]
       refine wpAnyH_done (by kernel_rfl) ?_ _
       clear hHeld
       go_wp2
       refine bodyPost_ret (v := .tuple #[.slice av ls.length cv, .string ⟨#[]⟩, .bool false]) (by simp [results, Tryz.results33, go_sem]) rfl ⟨?_, hBw4⟩
       rw [HFF.out]
       exact ⟨_, _, _, rfl⟩
    | false =>
     have h72 := G.c72 a da cap dc fs ms ds gn _ hfl HFS.out (G.T.files_below HFT.out hBG) HT.out HPT.out hdl (G.deeds_below HDT.out hBG)
     unfold G.Is72 at h72
     have hsg : sightF fs ms ds false gn = G.knR fs ms ds gn := rfl
     rw [hsg] at HDD
     go_wp2_with fail
     generalize (wr.alloc (.cells #[.bool false, .string gn, .string ga] 127)) = UG at *
     refine h72.mono ?_
     rintro e w2 ⟨he, hb2⟩
     have hUw2 : Below (w.heap.size + 3) U0 w2 := hUG.trans (hb2.mono (by omega))
     have hBw2 : Below w.heap.size w w2 := hBU0.trans (hUw2.mono (by omega))
     have szw2 := hb2.size
     have O2 := hidI (own_below OG.out hb2)
     have E2 := hidI (EG.out.below hb2 (by omega))
     clear h72 k0 k1 k2 t0 d0 g0 g1 g2 EG OG bG
     cases hq : G.knR fs ms ds gn with
     | none =>
      rw [hq] at he
      simp only [Option.getD_none, Option.isSome_none] at he
      subst he
      have HF := HDD.out
      rw [hq] at HF
      have HFF := hidI HF
      clear HF HDD
      have bR : Below w2.heap.size w2 (w2.alloc (.cells #[.int .i64 0, .string ⟨#[]⟩] 37)) := (Below.refl _ _).alloc (Nat.le_refl _) _
      have k1 := (E2.out.below bR (by omega)) 1 _ rfl
      have O3 := hidI (own_below O2.out (bR.trans (Below.refl _ _).drew))
      have hB3 : Below w.heap.size w (w2.alloc (.cells #[.int .i64 0, .string ⟨#[]⟩] 37)) := hBw2.trans (bR.mono hBw2.size)
      go_wp2_with fail
      generalize (w2.alloc (.cells #[.int .i64 0, .string ⟨#[]⟩] 37)) = U3 at *
      go_region
      all_goals go_wp2
      all_goals refine bodyPost_ret (v := .tuple #[.slice av ls.length cv, .string gn, .bool true]) (by simp [results, Tryz.results33, go_sem]) rfl ⟨?_, hB3.drew⟩
      all_goals (rw [HFF.out]; exact ⟨_, rfl, own_low O3.out (by omega)⟩)
     | some r =>
      obtain ⟨lc, lt⟩ := r
      rw [hq] at he
      simp only [Option.getD_some, Option.isSome_some] at he
      subst he
      have hlt2 : lt.size ≤ 1048576 := HRS.out false gn (lc, lt) hgs hq
      have HGS : Hid ((ofL (formR lc lt.data.toList)).size ≤ 1048700) := hidI (glT_size (x := ⟨false, gn, lc, lt⟩) (by show lt.size ≤ _; omega))
      have HF := HDD.out
      rw [hq] at HF
      simp only at HF
      rw [show glT ⟨false, gn, lc, lt⟩ = ofL (formR lc lt.data.toList) from rfl] at HF
      clear HDD
      have bR : Below w2.heap.size w2 (w2.alloc (.cells #[.int .i64 lc, .string lt] 37)) := (Below.refl _ _).alloc (Nat.le_refl _) _
      have E3 := E2.out.below bR (by omega)
      have ER := blk_new w2 [.int .i64 lc, .string lt] 37
      have szR : (w2.alloc (.cells #[.int .i64 lc, .string lt] 37)).heap.size = w2.heap.size + 1 := by simp
      have O3 := hidI (own_below O2.out bR)
      have hUR : Below (w.heap.size + 3) U0 (w2.alloc (.cells #[.int .i64 lc, .string lt] 37)) := hUw2.trans (bR.mono (by omega))
      have d0 := (hUR.cell (p := ⟨w.heap.size, 0, none⟩) (show w.heap.size < w.heap.size + 3 by omega)).trans A0
      have k1 := E3 1 _ rfl
      have k2 := E3 2 _ rfl
      have q0 := ER 0 _ rfl
      have q1 := ER 1 _ rfl
      clear E2 O2 E3 ER hq
      go_wp2_with fail
      generalize (w2.alloc (.cells #[.int .i64 lc, .string lt] 37)) = UR at *
      refine wp_region_held_drew (S := (fun u => (u.cell? ⟨wr.heap.size, 1, none⟩ = some (.string gn) ∧ u.cell? ⟨wr.heap.size, 2, none⟩ = some (.string ga)) ∧ (u.cell? ⟨w2.heap.size, 0, none⟩ = some (.int .i64 lc) ∧ u.cell? ⟨w2.heap.size, 1, none⟩ = some (.string lt)) ∧ u.cell? ⟨w.heap.size, 0, none⟩ = some (.int .i64 s.wd))) (by kernel_rfl) ?_ (fun hHeld => ?_)
      · exact ⟨⟨k1, k2⟩, ⟨q0, q1⟩, d0⟩
      refine tk (i := 0) (oi := ⟨some 63, .fieldAddr 127 (.tmp 13) 2, 0, _, _, none⟩) (v := ?_) rfl (by kernel_rfl) rfl ?e hHeld ?_
      case e => intro wq hSw; (try dsimp only at hSw); go_simp; try with_reducible rfl
      try simp only [qq]
      refine tk (i := 1) (oi := ⟨some 64, .load 9 (.tmp 63), 9, _, _, none⟩) (v := ?_) rfl (by kernel_rfl) rfl ?e hHeld ?_
      case e => intro wq hSw; (try dsimp only at hSw); go_simp; try with_reducible rfl
      try simp only [qq]
      refine tk (i := 2) (oi := ⟨some 65, .load 37 (.tmp 14), 37, _, _, none⟩) (v := ?_) rfl (by kernel_rfl) rfl ?e hHeld ?_
      case e => intro wq hSw; (try dsimp only at hSw); go_simp; try with_reducible rfl
      try simp only [qq]
      refine tk (i := 4) (oi := ⟨some 67, .fieldAddr 45 (.tmp 4) 0, 0, _, _, none⟩) (v := ?_) rfl (by kernel_rfl) rfl ?e hHeld ?_
      case e => intro wq hSw; (try dsimp only at hSw); go_simp; try with_reducible rfl
      try simp only [qq]
      refine tk (i := 5) (oi := ⟨some 68, .load 3 (.tmp 67), 3, _, _, none⟩) (v := ?_) rfl (by kernel_rfl) rfl ?e hHeld ?_
      case e => intro wq hSw; (try dsimp only at hSw); go_simp; try with_reducible rfl
      try simp only [qq]
      refine rd (i := 3) (o := ⟨some 66, .call ⟨.value (.func 73), #[.tmp 65], #[37]⟩, 9, _, _, none⟩) rfl (by kernel_rfl) (fun K hK => ?_)
      go_simp
      refine (c73 lc lt _ (by omega)).mono ?_
      rintro e w3 ⟨rfl, hbw30⟩
      have hbw3 := (Below.refl UR.heap.size UR).drew.trans hbw30
      go_wp2_with fail
      clear hHeld
      refine hK.out _ _ ⟨⟨(hbw3.cell (p := ⟨wr.heap.size, 1, none⟩) (show wr.heap.size < UR.heap.size by omega)).trans k1, (hbw3.cell (p := ⟨wr.heap.size, 2, none⟩) (show wr.heap.size < UR.heap.size by omega)).trans k2⟩, ⟨(hbw3.cell (p := ⟨w2.heap.size, 0, none⟩) (show w2.heap.size < UR.heap.size by omega)).trans q0, (hbw3.cell (p := ⟨w2.heap.size, 1, none⟩) (show w2.heap.size < UR.heap.size by omega)).trans q1⟩, (hbw3.cell (p := ⟨w.heap.size, 0, none⟩) (show w.heap.size < UR.heap.size by omega)).trans d0⟩ (fun hHeld => ?_)
      clear hK K
      try simp only [qq]
      refine rd (i := 6) (o := ⟨some 69, .call ⟨.value (.func 34), #[.tmp 66, .tmp 68], #[9, 3]⟩, 9, _, _, none⟩) rfl (by kernel_rfl) (fun K hK => ?_)
      go_simp
      refine (c34 (ofL (formR lc lt.data.toList)) s.wd _ HGS.out).mono ?_
      rintro e w4 ⟨rfl, hbw40⟩
      have hbw4 := hbw3.trans (hbw40.mono hbw3.size)
      go_wp2_with fail
      clear hHeld
      refine hK.out _ _ ⟨⟨(hbw4.cell (p := ⟨wr.heap.size, 1, none⟩) (show wr.heap.size < UR.heap.size by omega)).trans k1, (hbw4.cell (p := ⟨wr.heap.size, 2, none⟩) (show wr.heap.size < UR.heap.size by omega)).trans k2⟩, ⟨(hbw4.cell (p := ⟨w2.heap.size, 0, none⟩) (show w2.heap.size < UR.heap.size by omega)).trans q0, (hbw4.cell (p := ⟨w2.heap.size, 1, none⟩) (show w2.heap.size < UR.heap.size by omega)).trans q1⟩, (hbw4.cell (p := ⟨w.heap.size, 0, none⟩) (show w.heap.size < UR.heap.size by omega)).trans d0⟩ (fun hHeld => ?_)
      clear hK K
      try simp only [qq]
      have hUw4 : Below (w.heap.size + 3) U0 w4 := hUR.trans (hbw4.mono (by omega))
      have hBw4 : Below w.heap.size w w4 := hBU0.trans (hUw4.mono (by omega))
      have szw4 := hbw4.size
      have O4 := hidI (own_below O3.out hbw4)
      by_cases he : ga = sumS (ofL (formR lc lt.data.toList)) s.wd
      · rw [if_pos he] at HF
        have HFF := hidI HF
        clear HF
        rw [← he]
        refine tk (i := 7) (oi := ⟨some 70, .binOp .neq 9 (.tmp 64) (.tmp 69) 9, 4, _, _, none⟩) (v := ?_) rfl (by kernel_rfl) rfl ?e hHeld ?_
        case e => intro wq hSw; (try dsimp only at hSw); go_simp; try with_reducible rfl
        try simp only [qq]
        refine wpAnyH_done (by kernel_rfl) ?_ _
        clear hHeld
        have n1 := (hbw4.cell (p := ⟨wr.heap.size, 1, none⟩) (show wr.heap.size < UR.heap.size by omega)).trans k1
        have n2 := (hbw4.cell (p := ⟨w2.heap.size, 0, none⟩) (show w2.heap.size < UR.heap.size by omega)).trans q0
        have n3 := (hbw4.cell (p := ⟨w2.heap.size, 1, none⟩) (show w2.heap.size < UR.heap.size by omega)).trans q1
        clear k1 k2 q0 q1 d0 he
        have b6 : Below w4.heap.size w4 (w4.alloc (.cells #[.bool false, .string gn, .int .i64 lc, .string lt] 108)) := (Below.refl _ _).alloc (Nat.le_refl _) _
        have H6 := hidI (own_below O4.out b6)
        have hU6 : Below (w.heap.size + 3) U0 (w4.alloc (.cells #[.bool false, .string gn, .int .i64 lc, .string lt] 108)) := hUw4.trans (b6.mono (by have := hUw4.size; omega))
        have sz6 : (w4.alloc (.cells #[.bool false, .string gn, .int .i64 lc, .string lt] 108)).heap.size = w4.heap.size + 1 := by simp
        have sz5 := hUw4.size
        have HR6 : Hid (∀ j u, ([.bool false, .string gn, .int .i64 lc, .string lt] : List Value)[j]? = some u → (w4.alloc (.cells #[.bool false, .string gn, .int .i64 lc, .string lt] 108)).cell? ((⟨w4.heap.size, 0, none⟩ : Addr).add j) = some u) := fun j u hj => by
         rw [adr_add, Nat.zero_add]
         exact blk_new w4 [.bool false, .string gn, .int .i64 lc, .string lt] 108 j u hj
        go_wp2_with (refine wpList_app rfl (.tmp 72) (.tmp 77) 40 rfl (w.heap.size + 3) 108 i0 (.agg #[.bool false, .string ⟨#[]⟩, .int .i64 0, .string ⟨#[]⟩]) 4 48 Tryz.underlying40 hi hz0 hz1 hz2 rfl (by decide) _ _ _ rfl H6.out ⟨w4.heap.size, 0, none⟩ 1 1 [.bool false, .string gn, .int .i64 lc, .string lt] rfl rfl HR6.out (by simp [Value.oneCell']) (by unfold maxLen; omega) (by omega) (by omega) ?_; intro v2 w9 hO9 hgrow; obtain ⟨a9, c9, rfl⟩ := row_form hO9; have HO9 := hidI hO9; have hB9 : Below (w.heap.size + 3) U0 w9 := hU6.grown hgrow (by omega) (fun q hq => own_blk H6.out hq); clear hO9 hgrow H6 HR6)
        go_roundw
        case rel => exact ⟨ls.length + 1, ls ++ [⟨false, gn, lc, lt⟩], by omega, by go_num, by simp, HFF, by rw [lC_snoc, List.length_append]; exact HO9.out, hB9⟩
        case measure => simp [Go.RowKit.intOf]; omega
      · rw [if_neg he] at HF
        have HFF := hidI HF
        have he' := G.beq_no he
        clear HF he
        generalize sumS (ofL (formR lc lt.data.toList)) s.wd = sm at *
        refine tk (i := 7) (oi := ⟨some 70, .binOp .neq 9 (.tmp 64) (.tmp 69) 9, 4, _, _, none⟩) (v := ?_) rfl (by kernel_rfl) rfl ?e hHeld ?_
        case e => intro wq hSw; (try dsimp only at hSw); go_simp; try with_reducible rfl
        try simp only [qq]
        refine wpAnyH_done (by kernel_rfl) ?_ _
        clear hHeld
        go_wp2
        refine bodyPost_ret (v := .tuple #[.slice av ls.length cv, .string ⟨#[]⟩, .bool false]) (by simp [results, Tryz.results33, go_sem]) rfl ⟨?_, hBw4⟩
        rw [HFF.out]
        exact ⟨_, _, _, rfl⟩
  · have hke : ls.length = x.gs.length := by omega
    have HF : Hid (tryK s.wd (sightF fs ms ds) x.gs [] = some (ls, none)) := by
     unfold Hid
     rw [HK.out, hke, List.drop_length]
     rfl
    clear HK
    go_wp2
    refine bodyPost_ret (v := .tuple #[.slice av ls.length cv, .string ⟨#[]⟩, .bool true]) (by simp [results, Tryz.results33, go_sem]) rfl ⟨?_, hb⟩
    rw [HF.out]
    exact ⟨_, rfl, own_low HO.out (by omega)⟩
end Go.Proofs.YtboojefodbjbcaaGreatDoor

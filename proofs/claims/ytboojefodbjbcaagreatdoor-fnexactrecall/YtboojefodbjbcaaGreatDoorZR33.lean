import Derived.Test.YtboojefodbjbcaaGreatDoorZR32
import Derived.Test.YtboojefodbjbcaaGreatDoorZR28
namespace Go.Proofs.YtboojefodbjbcaaGreatDoor
open Go.RowKit Go.Maps
set_option maxRecDepth 100000
set_option linter.unusedVariables false
def rV (r : Int × ByteArray) : Value := .agg #[.int .i64 r.1, .string r.2]
def DsOk (ds : List G.D8) : Prop := ∀ i, i < ds.length → nameOk (ds.getD i G.d8z).nm.data.toList = true ∧ vr (ds.getD i G.d8z).cd (ds.getD i G.d8z).tx.data.toList = true
def KnM (ds : List G.D8) (b : Nat) (w : World) : Prop := ∃ l n, Asc l ∧ n ≤ ds.length ∧ w.ownsMap Tryz.prog 9 tokR b n (mapD l) ∧ ∀ nm, getK l nm = (G.knD ds nm).map rV
theorem KnM.below {ds : List G.D8} {b N : Nat} {w w' : World} (h : KnM ds b w) (hb : Below N w w') (hN : b < N) : KnM ds b w' := by
 obtain ⟨l, n, h1, h2, h3, h4⟩ := h
 exact ⟨l, n, h1, h2, mp_below h3 hb hN, h4⟩
theorem take_deed {ds : List G.D8} {k : Nat} (h : k < ds.length) : ds.take (k + 1) = ds.take k ++ [ds.getD k G.d8z] := by
 rw [List.take_add_one, List.getElem?_eq_getElem h]
 simp [List.getD, List.getElem?_eq_getElem h]
theorem kn_told {ds : List G.D8} {k : Nat} (h : k < ds.length) {r : Int × ByteArray} (hr : G.knD (ds.take k) (ds.getD k G.d8z).nm = some r) (nm : ByteArray) : G.knD (ds.take (k + 1)) nm = G.knD (ds.take k) nm := by
 rw [take_deed h, G.knD_snoc]
 cases hq : G.knD (ds.take k) nm with
 | some r => rfl
 | none =>
  show (if _ then _ else _) = _
  rw [if_neg (fun e => by rw [e, hq] at hr; cases hr)]
theorem kn_new {ds : List G.D8} {k : Nat} (h : k < ds.length) (hr : G.knD (ds.take k) (ds.getD k G.d8z).nm = none) (nm : ByteArray) : G.knD (ds.take (k + 1)) nm = if nm = (ds.getD k G.d8z).nm then some ((ds.getD k G.d8z).cd, (ds.getD k G.d8z).tx) else G.knD (ds.take k) nm := by
 rw [take_deed h, G.knD_snoc]
 by_cases e : nm = (ds.getD k G.d8z).nm
 · subst e
   rw [hr, if_pos rfl]
 · rw [if_neg e]
   cases hq : G.knD (ds.take k) nm with
   | some r => rfl
   | none =>
    show (if _ then _ else _) = _
    rw [if_neg (fun h => e h.symm)]
theorem KnM.up {ds : List G.D8} {k b : Nat} {w : World} (hk : k < ds.length) (hl : ds.length ≤ 1048576) (hs : (ds.getD k G.d8z).nm.size ≤ 1048576) (h : KnM (ds.take k) b w) (hr : G.knD (ds.take k) (ds.getD k G.d8z).nm = none) :
 ∃ w', (Instr.mapUpdate 92 (.map (some b)) (.string (ds.getD k G.d8z).nm) (rV ((ds.getD k G.d8z).cd, (ds.getD k G.d8z).tx))).run Tryz.prog w = .ok () w' ∧ KnM (ds.take (k + 1)) b w' ∧ w.grownBy w' (some b) := by
 obtain ⟨l, n, hA, hn, hm, hg⟩ := h
 have hn' : n ≤ k := by simp at hn; omega
 obtain ⟨w', h1, h2, h3⟩ := up_S (k := (ds.getD k G.d8z).nm) (v := rV ((ds.getD k G.d8z).cd, (ds.getD k G.d8z).tx)) hm Tryz.underlying92 (by unfold maxLen; omega) (by unfold maxLen; omega)
 rw [mapD_put'] at h2
 obtain ⟨hA2, hg2⟩ := getK_put hA (ds.getD k G.d8z).nm (rV ((ds.getD k G.d8z).cd, (ds.getD k G.d8z).tx))
 refine ⟨w', h1, ⟨_, n + 1, hA2, by simp; omega, h2, fun nm => ?_⟩, h3⟩
 rw [hg2, kn_new hk hr]
 by_cases e : nm = (ds.getD k G.d8z).nm
 · rw [if_pos e, if_pos e]; rfl
 · rw [if_neg e, if_neg e, hg]
def IsKn (ds : List G.D8) (w w' : World) (e : Ending) : Prop := (DsOk ds ∧ ∃ b, w.heap.size ≤ b ∧ b < w'.heap.size ∧ e = .returned (.tuple #[.map (some b), .bool true]) ∧ KnM ds b w') ∨ (¬ DsOk ds ∧ e = .returned (.tuple #[.map none, .bool false]))
set_option maxHeartbeats 4000000 in
theorem c40 (a : Option Addr) (cap : Nat) (ds : List G.D8) (w : World) (hl : ds.length ≤ 1048576) (hs : ∀ i, (ds.getD i G.d8z).le 1048576) (hat : G.DeedsAt w a ds) :
 Calls Tryz.prog 40 #[.slice a ds.length cap] w fun e w' => IsKn ds w w' e ∧ Below w.heap.size w w' := by
 obtain ⟨b, off, hc⟩ := G.deeds_some hat
 have HC := hidI hc
 have HS := hidI hs
 clear hc hat hs
 have hmm := @run_makeMap Tryz.prog
 have B0 : Below w.heap.size w (w.alloc (.map #[] 0)) := (Below.refl _ _).alloc (Nat.le_refl _) _
 have M0 : Hid (KnM (ds.take 0) w.heap.size (w.alloc (.map #[] 0))) := hidI ⟨[], 0, List.Pairwise.nil, Nat.zero_le _, World.ownsMap_made w Tryz.prog 9 tokR, fun nm => by simp [getK, G.knD]⟩
 have z0 : (w.alloc (.map #[] 0)).heap.size = w.heap.size + 1 := by simp
 go_enter Tryz.func40, Tryz.ntmps40
 go_wp2_with fail
 generalize (w.alloc (.map #[] 0)) = U0 at *
 go_loopw [12] (fun i wr => ∃ (k : Nat), k ≤ ds.length ∧ i = .int .i64 k ∧ Hid (KnM (ds.take k) w.heap.size wr) ∧ Below w.heap.size w wr ∧ w.heap.size + 1 ≤ wr.heap.size ∧ Hid (∀ j, j < k → nameOk (ds.getD j G.d8z).nm.data.toList = true ∧ vr (ds.getD j G.d8z).cd (ds.getD j G.d8z).tx.data.toList = true)) (fun i _ => ds.length - (Go.RowKit.intOf i).toNat)
 case atStart => exact ⟨0, Nat.zero_le _, rfl, M0, B0, by omega, fun j h => absurd h (Nat.not_lt_zero _)⟩
 case round =>
  obtain ⟨k, hk, rfl, hM, hb, hz, hok⟩ := hrel
  by_cases hlt : k < ds.length
  · rcases HC.out with hss | ⟨ha, hbw, hcell⟩
    · rw [hss] at hlt; exact absurd hlt (Nat.not_lt_zero _)
    subst ha
    obtain ⟨ai, ci, ⟨g0, g1, g2, g3, g4, g5, g6, g7⟩, _⟩ := (hcell k hlt).below hbw hb
    have hx1 := (HS.out k).1
    have hx2 := (HS.out k).2.2.2
    have HXI := hidI (fun u => @KnM.up ds k w.heap.size u hlt hl hx1)
    have HTO := hidI (fun r => @kn_told ds k hlt r)
    have HNO : Hid (¬ (nameOk (ds.getD k G.d8z).nm.data.toList = true ∧ vr (ds.getD k G.d8z).cd (ds.getD k G.d8z).tx.data.toList = true) → ¬ DsOk ds) := hidI (fun h hd => h (hd k hlt))
    have HYE : Hid (nameOk (ds.getD k G.d8z).nm.data.toList = true ∧ vr (ds.getD k G.d8z).cd (ds.getD k G.d8z).tx.data.toList = true → ∀ j, j < k + 1 → nameOk (ds.getD j G.d8z).nm.data.toList = true ∧ vr (ds.getD j G.d8z).cd (ds.getD j G.d8z).tx.data.toList = true) := hidI (fun h j hj => by
     by_cases e : j = k
     · subst e; exact h
     · exact hok.out j (by omega))
    generalize ds.getD k G.d8z = x at *
    clear hcell hok
    have hBA : Below wr.heap.size wr (wr.alloc (.cells #[.string x.nm, .bool x.made, .string x.km.nm, .string x.km.tl, .string x.km.ar, .slice ai x.ls.length ci, .int .i64 x.cd, .string x.tx] 78)) := (Below.refl _ _).alloc (Nat.le_refl _) _
    have hBw : Below w.heap.size w (wr.alloc (.cells #[.string x.nm, .bool x.made, .string x.km.nm, .string x.km.tl, .string x.km.ar, .slice ai x.ls.length ci, .int .i64 x.cd, .string x.tx] 78)) := hb.trans (hBA.mono hb.size)
    have MA := hidI (hM.out.below hBA (by omega))
    have EA := hidI (blk_new wr [.string x.nm, .bool x.made, .string x.km.nm, .string x.km.tl, .string x.km.ar, .slice ai x.ls.length ci, .int .i64 x.cd, .string x.tx] 78)
    have szA : (wr.alloc (.cells #[.string x.nm, .bool x.made, .string x.km.nm, .string x.km.tl, .string x.km.ar, .slice ai x.ls.length ci, .int .i64 x.cd, .string x.tx] 78)).heap.size = wr.heap.size + 1 := by simp
    have r0 := EA.out 0 _ rfl
    have r6 := EA.out 6 _ rfl
    have r7 := EA.out 7 _ rfl
    clear hM
    go_wp2_with fail
    generalize (wr.alloc (.cells #[.string x.nm, .bool x.made, .string x.km.nm, .string x.km.tl, .string x.km.ar, .slice ai x.ls.length ci, .int .i64 x.cd, .string x.tx] 78)) = UA at *
    refine (c80 x.nm _ (by omega)).mono ?_
    rintro e u ⟨rfl, rfl⟩
    cases hq : nameOk x.nm.data.toList with
    | false =>
     have HF := hidI (HNO.out (fun h => by rw [hq] at h; cases h.1))
     clear HNO HYE HXI HTO
     go_wp2
     exact bodyPost_ret (v := .tuple #[.map none, .bool false]) (by simp [results, Tryz.results40, go_sem]) rfl ⟨.inr ⟨HF.out, rfl⟩, hBw⟩
    | true =>
     go_wp2_with fail
     refine (c81 x.cd x.tx _ (by omega)).mono ?_
     rintro e w2 ⟨rfl, hb2⟩
     have hBw2 : Below w.heap.size w w2 := hBw.trans (hb2.mono hBw.size)
     have M2 := hidI (MA.out.below hb2 (by omega))
     have E2 := hidI (EA.out.below hb2 (by omega))
     have sz2 : wr.heap.size + 1 ≤ w2.heap.size := by rw [← szA]; exact hb2.size
     clear hb2 MA EA r0 r6 r7 hBw
     cases hv : vr x.cd x.tx.data.toList with
     | false =>
      have HF := hidI (HNO.out (fun h => by rw [hv] at h; cases h.2))
      clear HNO HYE HXI HTO
      go_wp2
      exact bodyPost_ret (v := .tuple #[.map none, .bool false]) (by simp [results, Tryz.results40, go_sem]) rfl ⟨.inr ⟨HF.out, rfl⟩, hBw2⟩
     | true =>
      have HY := hidI (HYE.out ⟨hq, hv⟩)
      clear HNO HYE
      have r0 := E2.out 0 _ rfl
      have r6 := E2.out 6 _ rfl
      have r7 := E2.out 7 _ rfl
      obtain ⟨l, n, hA, hn, hm, hg⟩ := M2.out
      have hlk := look_ok_S (z := .agg #[.int .i64 0, .string ⟨#[]⟩]) (k := x.nm) hm Tryz.underlying92 (by kernel_rfl) (by unfold maxLen; omega)
      have hgk := hg x.nm
      clear hm hn hA hg
      cases hd : G.knD (ds.take k) x.nm with
      | some r =>
       obtain ⟨rc, rt⟩ := r
       rw [hd] at hgk
       rw [hgk] at hlk
       simp only [Option.map_some, Option.getD_some, Option.isSome_some, rV] at hlk
       have MN : Hid (KnM (ds.take (k + 1)) w.heap.size (w2.alloc (.cells #[.int .i64 rc, .string rt] 37))) := by
        obtain ⟨l, n, h1, h2, h3, h4⟩ := M2.out.below ((Below.refl _ w2).alloc (Nat.le_refl _) (.cells #[.int .i64 rc, .string rt] 37)) (by omega)
        exact ⟨l, n, h1, by simp at h2 ⊢; omega, h3, fun nm => by rw [HTO.out _ hd nm]; exact h4 nm⟩
       clear hgk hd HXI HTO M2
       go_wp2
       go_roundw
       case rel => exact ⟨k + 1, by omega, by go_num, MN, hBw2.alloc hBw2.size _, by simp; omega, HY⟩
       case measure => simp [Go.RowKit.intOf]; omega
      | none =>
       rw [hd] at hgk
       rw [hgk] at hlk
       simp only [Option.map_none, Option.getD_none, Option.isSome_none] at hlk
       have bA : Below w2.heap.size w2 (w2.alloc (.cells #[.int .i64 0, .string ⟨#[]⟩] 37)) := (Below.refl _ w2).alloc (Nat.le_refl _) _
       have MB := M2.out.below bA (by omega)
       obtain ⟨w3, hup, M3, hgr⟩ := HXI.out _ MB hd
       simp only [rV] at hup
       have HM3 := hidI M3
       have hB3 : Below w.heap.size w w3 := (hBw2.trans (bA.mono hBw2.size)).trans (gb_below (N := w.heap.size) hgr (fun j e => by cases e; exact Nat.le_refl _) (by simp; omega))
       have sz3 : w.heap.size + 1 ≤ w3.heap.size := by have := hgr.size; simp at this; omega
       have p0 := (bA.cell (p := ⟨wr.heap.size, 0, none⟩) (by show wr.heap.size < w2.heap.size; omega)).trans r0
       have p6 := (bA.cell (p := ⟨wr.heap.size, 6, none⟩) (by show wr.heap.size < w2.heap.size; omega)).trans r6
       have p7 := (bA.cell (p := ⟨wr.heap.size, 7, none⟩) (by show wr.heap.size < w2.heap.size; omega)).trans r7
       clear hgk hd HXI HTO M2 M3 MB hgr
       go_wp2
       go_roundw
       case rel => exact ⟨k + 1, by omega, by go_num, HM3, hB3, sz3, HY⟩
       case measure => simp [Go.RowKit.intOf]; omega
  · obtain rfl : k = ds.length := by omega
    have HM := hidI hM.out
    rw [List.take_length] at HM
    have HF : Hid (DsOk ds) := hidI hok.out
    clear hM hok
    go_wp2
    exact bodyPost_ret (v := .tuple #[.map (some w.heap.size), .bool true]) (by simp [results, Tryz.results40, go_sem]) rfl ⟨.inl ⟨HF.out, _, Nat.le_refl _, by omega, rfl, HM.out⟩, hb⟩
end Go.Proofs.YtboojefodbjbcaaGreatDoor
namespace Go.Proofs.YtboojefodbjbcaaGreatDoor.G
open T (F2 f2z treeOk)
theorem isPT_freeAll {fs : List F2} {ms : List M3} (h : IsPT fs ms) : FreeAll fs ms := by
 rcases h with ⟨_, rfl⟩ | ⟨_, _, rfl⟩ | ⟨_, i, hi, hn, ks, ok, hp, hr⟩
 · exact fun i h => absurd h (Nat.not_lt_zero _)
 · exact fun i h => absurd h (Nat.not_lt_zero _)
 · rcases hr with ⟨_, h, rfl⟩ | ⟨_, rfl⟩
   · exact h
   · exact fun i h => absurd h (Nat.not_lt_zero _)
end Go.Proofs.YtboojefodbjbcaaGreatDoor.G
namespace Go.Proofs.YtboojefodbjbcaaGreatDoor
open Go.RowKit Go.Maps
set_option maxRecDepth 100000
set_option linter.unusedVariables false
noncomputable def sightF (fs : List G.T.F2) (ms : List G.M3) (ds : List G.D8) (has : Bool) (nm : ByteArray) : Option (Int × ByteArray) := if has then some (seeH fs ms nm) else G.knR fs ms ds nm
structure See (bt bp bm : Nat) (fs : List G.T.F2) (ms : List G.M3) (ds : List G.D8) (w : World) : Prop where
 tr : ∃ a cap, w.cell? ⟨bt, 0, none⟩ = some (.slice a fs.length cap) ∧ G.T.FilesAt w a fs
 pl : ∃ a cap, w.cell? ⟨bp, 0, none⟩ = some (.slice a ms.length cap) ∧ G.MksAt w a ms
 mp : ∃ b, w.cell? ⟨bm, 0, none⟩ = some (.map (some b)) ∧ KnM ds b w ∧ b < w.heap.size
 l1 : bt < w.heap.size
 l2 : bp < w.heap.size
 l3 : bm < w.heap.size
theorem See.below {bt bp bm : Nat} {fs : List G.T.F2} {ms : List G.M3} {ds : List G.D8} {w w' : World} (h : See bt bp bm fs ms ds w) (hb : Below w.heap.size w w') : See bt bp bm fs ms ds w' := by
 obtain ⟨⟨a, cap, h1, h2⟩, ⟨pa, pc, h3, h4⟩, ⟨b, h5, h6, h7⟩, l1, l2, l3⟩ := h
 exact ⟨⟨a, cap, (hb.cell (p := ⟨bt, 0, none⟩) l1).trans h1, G.T.files_below h2 hb⟩, ⟨pa, pc, (hb.cell (p := ⟨bp, 0, none⟩) l2).trans h3, G.mks_below h4 hb⟩, ⟨b, (hb.cell (p := ⟨bm, 0, none⟩) l3).trans h5, h6.below hb h7, Nat.lt_of_lt_of_le h7 hb.size⟩, Nat.lt_of_lt_of_le l1 hb.size, Nat.lt_of_lt_of_le l2 hb.size, Nat.lt_of_lt_of_le l3 hb.size⟩
def Is47 (fs : List G.T.F2) (ms : List G.M3) (ds : List G.D8) (has : Bool) (nm : ByteArray) (e : Ending) : Prop := e = .returned (.tuple #[.agg #[.int .i64 ((sightF fs ms ds has nm).getD (0, ⟨#[]⟩)).1, .string ((sightF fs ms ds has nm).getD (0, ⟨#[]⟩)).2], .bool (sightF fs ms ds has nm).isSome])
set_option maxHeartbeats 4000000 in
theorem c47 (bt bp bm : Nat) (fs : List G.T.F2) (ms : List G.M3) (ds : List G.D8) (has : Bool) (nm : ByteArray) (w : World) (h : See bt bp bm fs ms ds w) (ht : G.T.treeOk fs) (hp : G.IsPT fs ms) (hn : nm.size ≤ 1048576) :
 Calls Tryz.prog 47 #[.bool has, .string nm, .pointer (some ⟨bt, 0, none⟩), .pointer (some ⟨bp, 0, none⟩), .pointer (some ⟨bm, 0, none⟩)] w fun e w' => Is47 fs ms ds has nm e ∧ Below w.heap.size w w' := by
 have HW := hidI h
 have hB0 : Below w.heap.size w (w.alloc (.cells #[.int .i64 0, .string ⟨#[]⟩] 37)) := (Below.refl _ _).alloc (Nat.le_refl _) _
 obtain ⟨⟨a, cap, h1, h2⟩, ⟨pa, pc, h3, h4⟩, ⟨mb, h5, h6, h7⟩, l1, l2, l3⟩ := h.below hB0
 have h48 := c48 a pa cap pc fs ms nm _ ht.1 h2 (G.T.asc_of ht) (G.isPT_len hp) h4 (G.isPT_asc hp)
 have h49 := G.c49 pa pc ms nm _ (G.isPT_len hp) h4 (G.isPT_asc hp)
 have h50 := fun u (hb : Below (w.alloc (.cells #[.int .i64 0, .string ⟨#[]⟩] 37)).heap.size (w.alloc (.cells #[.int .i64 0, .string ⟨#[]⟩] 37)) u) => G.c50 a cap fs nm u ht.1 (G.T.files_below h2 hb) (G.T.asc_of ht)
 have HK := hidI h6
 have b0 := hidI (blk_new w [.int .i64 0, .string ⟨#[]⟩] 37)
 have o0 := hidI (opn_new w #[.int .i64 0, .string ⟨#[]⟩] 37)
 have HT := hidI ht
 have HP := hidI hp
 have HFA := hidI (G.isPT_freeAll hp)
 have sz0 : (w.alloc (.cells #[.int .i64 0, .string ⟨#[]⟩] 37)).heap.size = w.heap.size + 1 := by simp
 clear h2 h4 h6 h ht hp
 cases has
 · go_enter Tryz.func47, Tryz.ntmps47
   go_wp2_with fail
   generalize (w.alloc (.cells #[.int .i64 0, .string ⟨#[]⟩] 37)) = U0 at *
   refine h49.mono ?_
   rintro e w1 ⟨⟨x, there, rfl, hx⟩, hb1⟩
   have hBw1 : Below w.heap.size w w1 := hB0.trans (hb1.mono (by omega))
   have bA : Below w1.heap.size w1 (w1.alloc (.cells #[.string x.nm, .string x.tl, .string x.ar] 51)) := (Below.refl _ _).alloc (Nat.le_refl _) _
   have hBA : Below U0.heap.size U0 (w1.alloc (.cells #[.string x.nm, .string x.tl, .string x.ar] 51)) := hb1.trans (bA.mono hb1.size)
   have hBwA : Below w.heap.size w (w1.alloc (.cells #[.string x.nm, .string x.tl, .string x.ar] 51)) := hBw1.trans (bA.mono hBw1.size)
   have BA := hidI (b0.out.below hBA (by omega))
   have OA := hidI (o0.out.below hBA (by omega))
   have k1 := (hBA.cell (p := ⟨bt, 0, none⟩) l1).trans h1
   have k5 := (hBA.cell (p := ⟨bm, 0, none⟩) l3).trans h5
   have KA := hidI (HK.out.below hBA h7)
   have szA : (w1.alloc (.cells #[.string x.nm, .string x.tl, .string x.ar] 51)).heap.size = w1.heap.size + 1 := by simp
   have sz1 : w.heap.size + 1 ≤ w1.heap.size := by rw [← sz0]; exact hb1.size
   replace h50 := h50 _ hBA
   have mbl : mb < w1.heap.size := Nat.lt_of_lt_of_le h7 hb1.size
   clear h49 h48 hb1
   cases there
   · have HX : Hid (G.FreeM ms nm) := by
      rcases hx with ⟨h, _⟩ | ⟨_, h⟩
      · cases h
      · exact h
     clear hx h3 h5 k5 KA HK
     go_wp2_with fail
     generalize (w1.alloc (.cells #[.string x.nm, .string x.tl, .string x.ar] 51)) = UA at *
     refine h50.mono ?_
     rintro e w2 ⟨⟨c, t, rfl, hct⟩, hb2⟩
     have HS : Hid (sightF fs ms ds false nm = some (c, t)) := by
      unfold Hid sightF G.knR
      rcases hct with ⟨rfl, i, hi, hn, rfl⟩ | ⟨rfl, rfl, hf⟩
      · rw [if_neg (by simp), G.plF_file HT.out hi hn]
      · rw [if_neg (by simp), G.plF_free hf HX.out]
     have hBw : Below w.heap.size w w2 := hBwA.trans (hb2.mono hBwA.size)
     have B2 := BA.out.below hb2 (by omega)
     have O2 := OA.out.below hb2 (by omega)
     have x0 := B2 0 _ rfl
     have x1 := B2 1 _ rfl
     have f0 := O2 0
     have f1 := O2 1
     clear hct BA OA B2 O2 hb2
     go_wp2
     have F := G.set2_at' w2 w.heap.size (.int .i64 c) (.string t) _ _ x0 x1
     refine bodyPost_ret (v := .tuple #[.agg #[.int .i64 c, .string t], .bool true]) (by simp [results, Tryz.results47, go_sem, F.1, F.2]) rfl ⟨by unfold Is47; rw [HS.out]; rfl, ?_⟩
     exact (hBw.setCell (by simp) _).setCell (by simp) _
   · have HX : Hid (G.plF fs ms nm = none) := by
      rcases hx with ⟨_, i, hi, he, hn⟩ | ⟨h, _⟩
      · have hn' : (ms.getD i G.m3z).nm = nm := by rw [he]; exact hn
        have := HFA.out i hi
        rw [hn'] at this
        exact G.plF_made this hi hn'
      · cases h
     have HS : Hid (sightF fs ms ds false nm = G.knD ds nm) := by
      unfold Hid sightF G.knR
      rw [if_neg (by simp), HX.out]
     clear hx h50 h1 k1 h3 h5 HK
     obtain ⟨l, n, hA, hn2, hm, hg⟩ := KA.out
     have hlk := look_ok_S (z := .agg #[.int .i64 0, .string ⟨#[]⟩]) (k := nm) hm Tryz.underlying92 (by kernel_rfl) (by unfold maxLen; omega)
     rw [hg nm] at hlk
     clear hA hn2 hm hg KA
     obtain ⟨c, t, k, hr⟩ : ∃ (c : Int) (t : ByteArray) (k : Bool), (((G.knD ds nm).map rV).getD (.agg #[.int .i64 0, .string ⟨#[]⟩]) = .agg #[.int .i64 c, .string t] ∧ ((G.knD ds nm).map rV).isSome = k) ∧ Is47 fs ms ds false nm (.returned (.tuple #[.agg #[.int .i64 c, .string t], .bool k])) := by
      unfold Is47
      rw [HS.out]
      cases G.knD ds nm with
      | none => exact ⟨0, ⟨#[]⟩, false, ⟨rfl, rfl⟩, rfl⟩
      | some r => exact ⟨r.1, r.2, true, ⟨rfl, rfl⟩, rfl⟩
     have HR := hidI hr.2
     rw [hr.1.1, hr.1.2] at hlk
     clear hr
     have bC : Below (w1.alloc (.cells #[.string x.nm, .string x.tl, .string x.ar] 51)).heap.size (w1.alloc (.cells #[.string x.nm, .string x.tl, .string x.ar] 51)) ((w1.alloc (.cells #[.string x.nm, .string x.tl, .string x.ar] 51)).alloc (.cells #[.int .i64 c, .string t] 37)) := (Below.refl _ _).alloc (Nat.le_refl _) _
     have B2 := BA.out.below bC (by omega)
     have O2 := OA.out.below bC (by omega)
     have x0 := B2 0 _ rfl
     have x1 := B2 1 _ rfl
     have f0 := O2 0
     have f1 := O2 1
     have hBw : Below w.heap.size w ((w1.alloc (.cells #[.string x.nm, .string x.tl, .string x.ar] 51)).alloc (.cells #[.int .i64 c, .string t] 37)) := hBwA.trans (bC.mono hBwA.size)
     clear BA OA B2 O2
     go_wp2
     generalize ((w1.alloc (.cells #[.string x.nm, .string x.tl, .string x.ar] 51)).alloc (.cells #[.int .i64 c, .string t] 37)) = UC at *
     have F := G.set2_at' UC w.heap.size (.int .i64 c) (.string t) _ _ x0 x1
     refine bodyPost_ret (v := .tuple #[.agg #[.int .i64 c, .string t], .bool k]) (by simp [results, Tryz.results47, go_sem, F.1, F.2]) rfl ⟨HR.out, ?_⟩
     exact (hBw.setCell (by simp) _).setCell (by simp) _
 · go_enter Tryz.func47, Tryz.ntmps47
   go_wp2_with fail
   generalize (w.alloc (.cells #[.int .i64 0, .string ⟨#[]⟩] 37)) = U0 at *
   refine h48.mono ?_
   rintro e w1 ⟨rfl, hb1⟩
   have HS : Hid (Is47 fs ms ds true nm (.returned (.tuple #[.agg #[.int .i64 (seeH fs ms nm).1, .string (seeH fs ms nm).2], .bool true]))) := hidI rfl
   generalize seeH fs ms nm = r at *
   have hBw : Below w.heap.size w w1 := hB0.trans (hb1.mono (by omega))
   have B2 := b0.out.below hb1 (by omega)
   have O2 := o0.out.below hb1 (by omega)
   have x0 := B2 0 _ rfl
   have x1 := B2 1 _ rfl
   have f0 := O2 0
   have f1 := O2 1
   clear h49 h50 h48 hb1 b0 o0 B2 O2
   go_wp2
   have F := G.set2_at' w1 w.heap.size (.int .i64 r.1) (.string r.2) _ _ x0 x1
   refine bodyPost_ret (v := .tuple #[.agg #[.int .i64 r.1, .string r.2], .bool true]) (by simp [results, Tryz.results47, go_sem, F.1, F.2]) rfl ⟨HS.out, ?_⟩
   exact (hBw.setCell (by simp) _).setCell (by simp) _
end Go.Proofs.YtboojefodbjbcaaGreatDoor

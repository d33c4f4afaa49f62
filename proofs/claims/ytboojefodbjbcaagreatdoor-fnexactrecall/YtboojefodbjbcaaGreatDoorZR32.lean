import Derived.Test.YtboojefodbjbcaaGreatDoorZR14
import Derived.Test.YtboojefodbjbcaaGreatDoorZR17
import Derived.Test.YtboojefodbjbcaaGreatDoorMN
import Derived.Test.YtboojefodbjbcaaGreatDoorZR28
namespace Go.Proofs.YtboojefodbjbcaaGreatDoor
open Go.RowKit
set_option maxRecDepth 100000
set_option linter.unusedVariables false
theorem blk4 {w1 : World} {B : Nat} {y0 y1 y2 y3 : Value} (h : BlkAt w1 B [y0, y1, y2, y3]) (v0 v1 v2 v3 : Value) : BlkAt ((((w1.setCell ⟨B, 0, none⟩ v0).setCell ⟨B, 1, none⟩ v1).setCell ⟨B, 2, none⟩ v2).setCell ⟨B, 3, none⟩ v3) B [v0, v1, v2, v3] := (((h.set 0 v0 (by simp)).set 1 v1 (by simp)).set 2 v2 (by simp)).set 3 v3 (by simp)
theorem blk2 {w1 : World} {B : Nat} {y0 y1 : Value} (h : BlkAt w1 B [y0, y1]) (v0 v1 : Value) : BlkAt ((w1.setCell ⟨B, 0, none⟩ v0).setCell ⟨B, 1, none⟩ v1) B [v0, v1] := (h.set 0 v0 (by simp)).set 1 v1 (by simp)
open Classical in
noncomputable def seeH (fs : List G.T.F2) (ms : List G.M3) (nm : ByteArray) : Int × ByteArray := if G.Free fs nm ∧ G.FreeM ms nm then (4, nm) else (0, ⟨#[]⟩)
theorem seeH_of {fs : List G.T.F2} {ms : List G.M3} {nm : ByteArray} {r : Bool} (h : r = true ↔ ¬ (G.Free fs nm ∧ G.FreeM ms nm)) : seeH fs ms nm = if r then (0, ⟨#[]⟩) else (4, nm) := by
 unfold seeH
 cases r
 · rw [if_pos (Classical.byContradiction fun hn => by have := h.2 hn; cases this)]; rfl
 · rw [if_neg (h.1 rfl)]; rfl
theorem is18_of {fs : List G.T.F2} {ms : List G.M3} {nm : ByteArray} {e : Ending} (hp : G.IsPT fs ms) (h : G.Is18 fs nm e) : ∃ r, e = .returned (.bool r) ∧ (r = true ↔ ¬ (G.Free fs nm ∧ G.FreeM ms nm)) := by
 obtain ⟨r, rfl, h⟩ := h
 rcases h with ⟨⟨i, hi, hn⟩, rfl⟩ | ⟨ns, hq, q, hq2, hq3⟩
 · exact ⟨true, rfl, fun _ c => c.1 i hi hn, fun _ => rfl⟩
 · obtain rfl := G.isPT_one hp hq
   exact ⟨q, hq2, hq3⟩
set_option maxHeartbeats 2000000 in
theorem c71 (a : Option Addr) (cap : Nat) (fs : List G.T.F2) (ms : List G.M3) (nm : ByteArray) (w : World) (hl : fs.length ≤ 1048576) (hs : ∀ i, (fs.getD i G.T.f2z).le 1048576) (hat : G.T.FilesAt w a fs) (hp : G.IsPT fs ms) :
 Calls Tryz.prog 71 #[.agg #[.slice a fs.length cap], .string nm] w fun e w' => e = .returned (.agg #[.bool true, .string nm, .int .i64 (seeH fs ms nm).1, .string (seeH fs ms nm).2]) ∧ Below w.heap.size w w' := by
 have hB0 : Below w.heap.size w ((w.alloc (.cells #[.slice a fs.length cap] 49)).alloc (.cells #[.bool false, .string ⟨#[]⟩, .int .i64 0, .string ⟨#[]⟩] 108)) := ((Below.refl _ _).alloc (Nat.le_refl _) _).alloc (by simp) _
 have h70 := G.c70 a cap fs nm _ hl hs (G.T.files_below hat hB0)
 have b0 := hidI (blk_new (w.alloc (.cells #[.slice a fs.length cap] 49)) [.bool false, .string ⟨#[]⟩, .int .i64 0, .string ⟨#[]⟩] 108)
 have o0 := hidI (opn_new (w.alloc (.cells #[.slice a fs.length cap] 49)) #[.bool false, .string ⟨#[]⟩, .int .i64 0, .string ⟨#[]⟩] 108)
 have s0 : (w.alloc (.cells #[.slice a fs.length cap] 49)).heap.size = w.heap.size + 1 := by simp
 have s1 : ((w.alloc (.cells #[.slice a fs.length cap] 49)).alloc (.cells #[.bool false, .string ⟨#[]⟩, .int .i64 0, .string ⟨#[]⟩] 108)).heap.size = w.heap.size + 2 := by simp
 rw [s0] at b0 o0
 clear hat
 go_enter Tryz.func71, Tryz.ntmps71
 go_wp2_with fail
 refine h70.mono ?_
 rintro e w1 ⟨h18, hb1⟩
 obtain ⟨r, rfl, hr⟩ := is18_of hp h18
 have HS := hidI (seeH_of hr)
 have hB1 : Below w.heap.size w w1 := hB0.trans (hb1.mono (by rw [s1]; omega))
 have B1 := b0.out.below hb1 (by rw [s1]; omega)
 have O1 := o0.out.below hb1 (by rw [s1]; omega)
 have x0 := B1 0 _ rfl
 have x1 := B1 1 _ rfl
 have x2 := B1 2 _ rfl
 have x3 := B1 3 _ rfl
 have f0 := O1 0
 have f1 := O1 1
 have f2 := O1 2
 have f3 := O1 3
 clear h18 hr h70
 cases r
 · have HE := hidI (blk4 B1 (.bool true) (.string nm) (.int .i64 4) (.string nm))
   have e0 := HE.out 0 _ rfl
   have e1 := HE.out 1 _ rfl
   have e2 := HE.out 2 _ rfl
   have e3 := HE.out 3 _ rfl
   have HB : Hid (Below w.heap.size w ((((w1.setCell ⟨w.heap.size + 1, 0, none⟩ (.bool true)).setCell ⟨w.heap.size + 1, 1, none⟩ (.string nm)).setCell ⟨w.heap.size + 1, 2, none⟩ (.int .i64 4)).setCell ⟨w.heap.size + 1, 3, none⟩ (.string nm))) := hidI ((((hB1.setCell (by simp) _).setCell (by simp) _).setCell (by simp) _).setCell (by simp) _)
   clear B1 O1
   go_wp2
   refine bodyPost_ret (v := .agg #[.bool true, .string nm, .int .i64 4, .string nm]) (by simp [results, Tryz.results71, go_sem, e0, e1, e2, e3]) rfl ⟨by rw [HS.out]; rfl, HB.out⟩
 · have HE := hidI (blk4 B1 (.bool true) (.string nm) (.int .i64 0) (.string ⟨#[]⟩))
   have e0 := HE.out 0 _ rfl
   have e1 := HE.out 1 _ rfl
   have e2 := HE.out 2 _ rfl
   have e3 := HE.out 3 _ rfl
   have HB : Hid (Below w.heap.size w ((((w1.setCell ⟨w.heap.size + 1, 0, none⟩ (.bool true)).setCell ⟨w.heap.size + 1, 1, none⟩ (.string nm)).setCell ⟨w.heap.size + 1, 2, none⟩ (.int .i64 0)).setCell ⟨w.heap.size + 1, 3, none⟩ (.string ⟨#[]⟩))) := hidI ((((hB1.setCell (by simp) _).setCell (by simp) _).setCell (by simp) _).setCell (by simp) _)
   clear B1 O1
   go_wp2
   refine bodyPost_ret (v := .agg #[.bool true, .string nm, .int .i64 0, .string ⟨#[]⟩]) (by simp [results, Tryz.results71, go_sem, e0, e1, e2, e3]) rfl ⟨by rw [HS.out]; rfl, HB.out⟩
set_option maxHeartbeats 2000000 in
theorem c48 (a pa : Option Addr) (cap pc : Nat) (fs : List G.T.F2) (ms : List G.M3) (nm : ByteArray) (w : World) (hl : fs.length ≤ 40) (hat : G.T.FilesAt w a fs) (hm : G.T.Asc fs) (hlm : ms.length ≤ 300) (hatm : G.MksAt w pa ms) (hmm : G.AscM ms) :
 Calls Tryz.prog 48 #[.agg #[.slice a fs.length cap], .slice pa ms.length pc, .string nm] w fun e w' => e = .returned (.agg #[.int .i64 (seeH fs ms nm).1, .string (seeH fs ms nm).2]) ∧ Below w.heap.size w w' := by
 have hB0 : Below w.heap.size w ((w.alloc (.cells #[.slice a fs.length cap] 49)).alloc (.cells #[.int .i64 0, .string ⟨#[]⟩] 37)) := ((Below.refl _ _).alloc (Nat.le_refl _) _).alloc (by simp) _
 have h93 := G.c93 a pa cap pc fs ms nm _ hl (G.T.files_below hat hB0) hm hlm (G.mks_below hatm hB0) hmm
 have b0 := hidI (blk_new (w.alloc (.cells #[.slice a fs.length cap] 49)) [.int .i64 0, .string ⟨#[]⟩] 37)
 have o0 := hidI (opn_new (w.alloc (.cells #[.slice a fs.length cap] 49)) #[.int .i64 0, .string ⟨#[]⟩] 37)
 have s0 : (w.alloc (.cells #[.slice a fs.length cap] 49)).heap.size = w.heap.size + 1 := by simp
 have s1 : ((w.alloc (.cells #[.slice a fs.length cap] 49)).alloc (.cells #[.int .i64 0, .string ⟨#[]⟩] 37)).heap.size = w.heap.size + 2 := by simp
 rw [s0] at b0 o0
 clear hat hatm
 go_enter Tryz.func48, Tryz.ntmps48
 go_wp2_with fail
 refine h93.mono ?_
 rintro e w1 ⟨⟨r, rfl, hr⟩, hb1⟩
 have HS := hidI (seeH_of hr)
 have hB1 : Below w.heap.size w w1 := hB0.trans (hb1.mono (by rw [s1]; omega))
 have B1 := b0.out.below hb1 (by rw [s1]; omega)
 have O1 := o0.out.below hb1 (by rw [s1]; omega)
 have x0 := B1 0 _ rfl
 have x1 := B1 1 _ rfl
 have f0 := O1 0
 have f1 := O1 1
 clear hr h93
 cases r
 · have HE := hidI (blk2 B1 (.int .i64 4) (.string nm))
   have e0 := HE.out 0 _ rfl
   have e1 := HE.out 1 _ rfl
   have HB : Hid (Below w.heap.size w ((w1.setCell ⟨w.heap.size + 1, 0, none⟩ (.int .i64 4)).setCell ⟨w.heap.size + 1, 1, none⟩ (.string nm))) := hidI ((hB1.setCell (by simp) _).setCell (by simp) _)
   clear B1 O1
   go_wp2
   refine bodyPost_ret (v := .agg #[.int .i64 4, .string nm]) (by simp [results, Tryz.results48, go_sem, e0, e1]) rfl ⟨by rw [HS.out]; rfl, HB.out⟩
 · have HE := hidI (blk2 B1 (.int .i64 0) (.string ⟨#[]⟩))
   have e0 := HE.out 0 _ rfl
   have e1 := HE.out 1 _ rfl
   have HB : Hid (Below w.heap.size w ((w1.setCell ⟨w.heap.size + 1, 0, none⟩ (.int .i64 0)).setCell ⟨w.heap.size + 1, 1, none⟩ (.string ⟨#[]⟩))) := hidI ((hB1.setCell (by simp) _).setCell (by simp) _)
   clear B1 O1
   go_wp2
   refine bodyPost_ret (v := .agg #[.int .i64 0, .string ⟨#[]⟩]) (by simp [results, Tryz.results48, go_sem, e0, e1]) rfl ⟨by rw [HS.out]; rfl, HB.out⟩
end Go.Proofs.YtboojefodbjbcaaGreatDoor
namespace Go.Proofs.YtboojefodbjbcaaGreatDoor.G
open Go.RowKit
open T (F2 f2z FilesAt Asc files_below treeOk)
set_option linter.unusedVariables false
open Classical in
noncomputable def plF (fs : List F2) (ms : List M3) (nm : ByteArray) : Option (Int × ByteArray) :=
 if h : ∃ i, i < fs.length ∧ (fs.getD i f2z).nm = nm then some (0, (fs.getD h.choose f2z).tx) else if FreeM ms nm then some (4, nm) else none
theorem plF_file {fs : List F2} {ms : List M3} {nm : ByteArray} (ht : treeOk fs) {i : Nat} (hi : i < fs.length) (hn : (fs.getD i f2z).nm = nm) : plF fs ms nm = some (0, (fs.getD i f2z).tx) := by
 have h : ∃ i, i < fs.length ∧ (fs.getD i f2z).nm = nm := ⟨i, hi, hn⟩
 unfold plF
 rw [dif_pos h]
 have e : h.choose = i := name_once ht h.choose_spec.1 hi (h.choose_spec.2.trans hn.symm)
 rw [e]
theorem plF_free {fs : List F2} {ms : List M3} {nm : ByteArray} (hf : Free fs nm) (hm : FreeM ms nm) : plF fs ms nm = some (4, nm) := by
 unfold plF
 rw [dif_neg (fun ⟨i, hi, hn⟩ => hf i hi hn), if_pos hm]
theorem plF_made {fs : List F2} {ms : List M3} {nm : ByteArray} (hf : Free fs nm) {i : Nat} (hi : i < ms.length) (hn : (ms.getD i m3z).nm = nm) : plF fs ms nm = none := by
 unfold plF
 rw [dif_neg (fun ⟨i, hi, hn⟩ => hf i hi hn), if_neg (fun h => h i hi hn)]
def Is17k (fs : List F2) (ms : List M3) (nm : ByteArray) (e : Ending) : Prop := e = .returned (.tuple #[.agg #[.int .i64 ((plF fs ms nm).getD (0, ⟨#[]⟩)).1, .string ((plF fs ms nm).getD (0, ⟨#[]⟩)).2], .bool (plF fs ms nm).isSome])
set_option maxHeartbeats 2000000 in
theorem c107k (a : Option Addr) (cap : Nat) (fs : List F2) (ms : List M3) (nm : ByteArray) (w : World) (hl : fs.length ≤ 1048576) (hs : ∀ i, (fs.getD i f2z).le 1048576) (hat : FilesAt w a fs) (ht : treeOk fs) (hp : IsPT fs ms) :
 Calls Tryz.prog 107 #[.agg #[.slice a fs.length cap], .string nm] w fun e w' => Is17k fs ms nm e ∧ Below w.heap.size w w' := by
 have hB0 : ∀ o1 o2, Below w.heap.size w ((w.alloc o1).alloc o2) := fun o1 o2 => ((Below.refl _ _).alloc (Nat.le_refl _) _).alloc (by simp) _
 have h34 := fun u (hb : Below w.heap.size w u) => T.c105 a cap fs nm u hl (files_below hat hb)
 have h16 := fun u (hb : Below w.heap.size w u) => c106 a cap fs nm u hl hs (files_below hat hb)
 obtain ⟨b, off, hc⟩ := T.files_some hat
 clear hat hs
 go_enter Tryz.func107, Tryz.ntmps107
 go_wp2_with fail
 refine (h34 _ (hB0 _ _)).mono ?_
 rintro e w1 ⟨⟨r, rfl, hr⟩, hb1⟩
 have hB1 : Below w.heap.size w w1 := (hB0 _ _).trans (hb1.mono (by simp; omega))
 have hx1 : Below (w.heap.size + 2) ((w.alloc (.cells #[.slice a fs.length cap] 49)).alloc (.cells #[.int .i64 0, .string ⟨#[]⟩] 37)) w1 := by have h := hb1; simp at h; exact h
 obtain ⟨t0, ⟨z0, z1⟩, y0, y1⟩ := rzU hx1
 have hz1 : w.heap.size + 1 < w1.heap.size := by have := hx1.size; simp at this; omega
 clear hb1 h34 hx1 hB0
 rcases hr with ⟨rfl, hf⟩ | ⟨i, rfl, hi, hn⟩
 · have HF : Hid (Free fs nm) := hf
   clear hf hc
   go_wp2_with fail
   refine (h16 _ hB1).mono ?_
   rintro e w2 ⟨⟨ns, hpt, x, g, rfl, hx⟩, hb2⟩
   have hB2 : Below w.heap.size w w2 := hB1.trans (hb2.mono hB1.size)
   obtain rfl := isPT_one hp hpt
   have HR1 : Hid (g = false → Is17k fs ms nm (.returned (.tuple #[.agg #[.int .i64 4, .string nm], .bool true]))) := fun hg => (by
    rcases hx with ⟨hg', _⟩ | ⟨_, hx⟩
    · rw [hg] at hg'; cases hg'
    · unfold Is17k; rw [plF_free HF.out hx]; rfl)
   have HR2 : Hid (g = true → Is17k fs ms nm (.returned (.tuple #[.agg #[.int .i64 0, .string ⟨#[]⟩], .bool false]))) := fun hg => (by
    rcases hx with ⟨_, i, hi, rfl, hn⟩ | ⟨hg', _⟩
    · unfold Is17k; rw [plF_made HF.out hi hn]; rfl
    · rw [hg] at hg'; cases hg')
   have u0 := (hb2.cell (p := ⟨w.heap.size + 1, 0, none⟩) (by exact hz1)).trans z0
   have u1 := (hb2.cell (p := ⟨w.heap.size + 1, 1, none⟩) (by exact hz1)).trans z1
   have g0 := (hb2.frozen (p := ⟨w.heap.size + 1, 0, none⟩) (by exact hz1)).trans y0
   have g1 := (hb2.frozen (p := ⟨w.heap.size + 1, 1, none⟩) (by exact hz1)).trans y1
   have hz2 : w.heap.size + 1 < w2.heap.size := Nat.lt_of_lt_of_le hz1 hb2.size
   clear hx h16 z0 z1 y0 y1 hb2 t0 hpt
   cases g
   · go_wp2
     have F := set2_at' w2 (w.heap.size + 1) (.int .i64 4) (.string nm) _ _ u0 u1
     have hBU : Below w.heap.size w ((w2.setCell ⟨w.heap.size + 1, 0, none⟩ (.int .i64 4)).setCell ⟨w.heap.size + 1, 1, none⟩ (.string nm)) := (hB2.setCell (by simp) _).setCell (by simp) _
     have hszU : w.heap.size + 1 < ((w2.setCell ⟨w.heap.size + 1, 0, none⟩ (.int .i64 4)).setCell ⟨w.heap.size + 1, 1, none⟩ (.string nm)).heap.size := by simpa using hz2
     generalize ((w2.setCell ⟨w.heap.size + 1, 0, none⟩ (.int .i64 4)).setCell ⟨w.heap.size + 1, 1, none⟩ (.string nm)) = U at *
     have F1 := fun o => (cell_al hszU 0 o).trans F.1
     have F2 := fun o => (cell_al hszU 1 o).trans F.2
     refine bodyPost_ret (v := .tuple #[.agg #[.int .i64 4, .string nm], .bool true]) (by simp [results, Tryz.results107, go_sem, F1, F2]) rfl ⟨HR1.out (by simp), ?_⟩
     exact hBU.alloc hBU.size _
   · go_wp2
     have F := set2_at' w2 (w.heap.size + 1) (.int .i64 0) (.string ⟨#[]⟩) _ _ u0 u1
     have hBU : Below w.heap.size w ((w2.setCell ⟨w.heap.size + 1, 0, none⟩ (.int .i64 0)).setCell ⟨w.heap.size + 1, 1, none⟩ (.string ⟨#[]⟩)) := (hB2.setCell (by simp) _).setCell (by simp) _
     have hszU : w.heap.size + 1 < ((w2.setCell ⟨w.heap.size + 1, 0, none⟩ (.int .i64 0)).setCell ⟨w.heap.size + 1, 1, none⟩ (.string ⟨#[]⟩)).heap.size := by simpa using hz2
     generalize ((w2.setCell ⟨w.heap.size + 1, 0, none⟩ (.int .i64 0)).setCell ⟨w.heap.size + 1, 1, none⟩ (.string ⟨#[]⟩)) = U at *
     have F1 := fun o => (cell_al hszU 0 o).trans F.1
     have F2 := fun o => (cell_al hszU 1 o).trans F.2
     refine bodyPost_ret (v := .tuple #[.agg #[.int .i64 0, .string ⟨#[]⟩], .bool false]) (by simp [results, Tryz.results107, go_sem, F1, F2]) rfl ⟨HR2.out (by simp), ?_⟩
     exact hBU.alloc hBU.size _
 · rcases hc with hss | ⟨ha, hbw, hcell⟩
   · rw [hss] at hi; exact absurd hi (Nat.not_lt_zero _)
   subst ha
   have g1 := (hB1.cell (p := ⟨b, off + i * 2 + 1, none⟩) hbw).trans (hcell i hi).2
   have HI : Hid (Is17k fs ms nm (.returned (.tuple #[.agg #[.int .i64 0, .string (fs.getD i f2z).tx], .bool true]))) := by unfold Hid Is17k; rw [plF_file ht hi hn]; rfl
   generalize (fs.getD i f2z).tx = tx at *
   clear h16 hn hcell
   go_wp2
   have F := set2_at' w1 (w.heap.size + 1) (.int .i64 0) (.string tx) _ _ z0 z1
   refine bodyPost_ret (v := .tuple #[.agg #[.int .i64 0, .string tx], .bool true]) (by simp [results, Tryz.results107, go_sem, F.1, F.2]) rfl ⟨HI.out, ?_⟩
   exact (hB1.setCell (by simp) _).setCell (by simp) _
def knD : List D8 → ByteArray → Option (Int × ByteArray)
 | [], _ => none
 | d :: r, nm => if d.nm = nm then some (d.cd, d.tx) else knD r nm
theorem knD_at : ∀ (ds : List D8) (k : Nat) (nm : ByteArray), k < ds.length → (∀ j, j < k → (ds.getD j d8z).nm ≠ nm) → (ds.getD k d8z).nm = nm → knD ds nm = some ((ds.getD k d8z).cd, (ds.getD k d8z).tx)
 | [], k, nm, h, _, _ => absurd h (Nat.not_lt_zero _)
 | d :: r, 0, nm, _, _, hn => by
  have hn' : d.nm = nm := hn
  unfold knD
  rw [if_pos hn']
  rfl
 | d :: r, k + 1, nm, h, hj, hn => by
  have h0 : d.nm ≠ nm := hj 0 (by omega)
  unfold knD
  rw [if_neg h0]
  exact knD_at r k nm (by simpa using h) (fun j h => hj (j + 1) (by omega)) hn
theorem knD_no : ∀ (ds : List D8) (nm : ByteArray), (∀ j, j < ds.length → (ds.getD j d8z).nm ≠ nm) → knD ds nm = none
 | [], nm, _ => rfl
 | d :: r, nm, hj => by
  have h0 : d.nm ≠ nm := hj 0 (by simp)
  unfold knD
  rw [if_neg h0]
  exact knD_no r nm (fun j h => hj (j + 1) (by simpa using h))
theorem knD_snoc : ∀ (ds : List D8) (d : D8) (nm : ByteArray), knD (ds ++ [d]) nm = (match knD ds nm with | some r => some r | none => if d.nm = nm then some (d.cd, d.tx) else none)
 | [], d, nm => rfl
 | x :: r, d, nm => by
  rw [List.cons_append]
  unfold knD
  by_cases h : x.nm = nm
  · rw [if_pos h, if_pos h]
  · rw [if_neg h, if_neg h, knD_snoc r d nm]
noncomputable def knR (fs : List F2) (ms : List M3) (ds : List D8) (nm : ByteArray) : Option (Int × ByteArray) := match plF fs ms nm with
 | some r => some r
 | none => knD ds nm
theorem beq_no {s t : ByteArray} (h : ¬ s = t) : (s.toList == t.toList) = false := by simpa using list_ne h
def Is72 (fs : List F2) (ms : List M3) (ds : List D8) (nm : ByteArray) (e : Ending) : Prop := e = .returned (.tuple #[.agg #[.int .i64 ((knR fs ms ds nm).getD (0, ⟨#[]⟩)).1, .string ((knR fs ms ds nm).getD (0, ⟨#[]⟩)).2], .bool (knR fs ms ds nm).isSome])
set_option maxHeartbeats 2000000 in
theorem c72 (a da : Option Addr) (cap dc : Nat) (fs : List F2) (ms : List M3) (ds : List D8) (nm : ByteArray) (w : World) (hl : fs.length ≤ 1048576) (hs : ∀ i, (fs.getD i f2z).le 1048576) (hat : FilesAt w a fs) (ht : treeOk fs) (hp : IsPT fs ms) (hld : ds.length ≤ 1048576) (hatd : DeedsAt w da ds) :
 Calls Tryz.prog 72 #[.agg #[.slice a fs.length cap], .slice da ds.length dc, .string nm] w fun e w' => Is72 fs ms ds nm e ∧ Below w.heap.size w w' := by
 have hB0 : ∀ o1 o2, Below w.heap.size w ((w.alloc o1).alloc o2) := fun o1 o2 => ((Below.refl _ _).alloc (Nat.le_refl _) _).alloc (by simp) _
 have h107 := fun u (hb : Below w.heap.size w u) => c107k a cap fs ms nm u hl hs (files_below hat hb) ht hp
 obtain ⟨b, off, hc⟩ := deeds_some hatd
 clear hat hs hatd
 have HT : Hid (treeOk fs) := ht
 have HP : Hid (IsPT fs ms) := hp
 clear ht hp
 go_enter Tryz.func72, Tryz.ntmps72
 go_wp2_with fail
 refine (h107 _ (hB0 _ _)).mono ?_
 rintro e w1 ⟨he, hb1⟩
 have hB1 : Below w.heap.size w w1 := (hB0 _ _).trans (hb1.mono (by simp; omega))
 have hx1 : Below (w.heap.size + 2) ((w.alloc (.cells #[.slice a fs.length cap] 49)).alloc (.cells #[.int .i64 0, .string ⟨#[]⟩] 37)) w1 := by have h := hb1; simp at h; exact h
 obtain ⟨t0, ⟨z0, z1⟩, y0, y1⟩ := rzU hx1
 have hz1 : w.heap.size + 1 < w1.heap.size := by have := hx1.size; simp at this; omega
 clear hb1 h107 hx1 hB0
 unfold Is17k at he
 cases hq : plF fs ms nm with
 | some r =>
  obtain ⟨rc, rt⟩ := r
  have HK : Hid (knR fs ms ds nm = some (rc, rt)) := by unfold Hid knR; rw [hq]
  rw [hq] at he
  simp only [Option.getD_some, Option.isSome_some] at he
  subst he
  clear hq hc
  go_wp2
  have F := set2_at' w1 (w.heap.size + 1) (.int .i64 rc) (.string rt) _ _ z0 z1
  have hBU : Below w.heap.size w ((w1.setCell ⟨w.heap.size + 1, 0, none⟩ (.int .i64 rc)).setCell ⟨w.heap.size + 1, 1, none⟩ (.string rt)) := (hB1.setCell (by simp) _).setCell (by simp) _
  have hszU : w.heap.size + 1 < ((w1.setCell ⟨w.heap.size + 1, 0, none⟩ (.int .i64 rc)).setCell ⟨w.heap.size + 1, 1, none⟩ (.string rt)).heap.size := by simpa using hz1
  generalize ((w1.setCell ⟨w.heap.size + 1, 0, none⟩ (.int .i64 rc)).setCell ⟨w.heap.size + 1, 1, none⟩ (.string rt)) = U at *
  have F1 := fun o => (cell_al hszU 0 o).trans F.1
  have F2 := fun o => (cell_al hszU 1 o).trans F.2
  refine bodyPost_ret (v := .tuple #[.agg #[.int .i64 rc, .string rt], .bool true]) (by simp [results, Tryz.results72, go_sem, F1, F2]) rfl ⟨by unfold Is72; rw [HK.out]; rfl, ?_⟩
  exact hBU.alloc hBU.size _
 | none =>
  have HK : Hid (knR fs ms ds nm = knD ds nm) := by unfold Hid knR; rw [hq]
  rw [hq] at he
  simp only [Option.getD_none, Option.isSome_none] at he
  subst he
  clear hq
  go_wp2_with fail
  have hBu : Below w.heap.size w (w1.alloc (.cells #[.int .i64 0, .string ⟨#[]⟩] 37)) := hB1.alloc hB1.size _
  have v0 := (cell_al hz1 0 (.cells #[.int .i64 0, .string ⟨#[]⟩] 37)).trans z0
  have v1 := (cell_al hz1 1 (.cells #[.int .i64 0, .string ⟨#[]⟩] 37)).trans z1
  have x0 : (w1.alloc (.cells #[.int .i64 0, .string ⟨#[]⟩] 37)).frozen? ⟨w.heap.size + 1, 0, none⟩ = false := (((Below.refl _ w1).alloc (Nat.le_refl _) _).frozen (by exact hz1)).trans y0
  have x1 : (w1.alloc (.cells #[.int .i64 0, .string ⟨#[]⟩] 37)).frozen? ⟨w.heap.size + 1, 1, none⟩ = false := (((Below.refl _ w1).alloc (Nat.le_refl _) _).frozen (by exact hz1)).trans y1
  have r0 : (w1.alloc (.cells #[.int .i64 0, .string ⟨#[]⟩] 37)).cell? ⟨w1.heap.size, 0, none⟩ = some (.int .i64 0) := by simp [go_sem]
  have r1 : (w1.alloc (.cells #[.int .i64 0, .string ⟨#[]⟩] 37)).cell? ⟨w1.heap.size, 1, none⟩ = some (.string ⟨#[]⟩) := by simp [go_sem]
  generalize w1.alloc (.cells #[.int .i64 0, .string ⟨#[]⟩] 37) = u at *
  generalize w1.heap.size = W1 at *
  clear hB1 t0 z0 z1 y0 y1
  go_loopw [10] (fun i wr => ∃ k : Nat, k ≤ ds.length ∧ wr = u ∧ i = .int .i64 k ∧ Hid (∀ j, j < k → (ds.getD j d8z).nm ≠ nm)) (fun i _ => ds.length - (Go.RowKit.intOf i).toNat)
  case atStart => exact ⟨0, Nat.zero_le _, rfl, rfl, fun j h => absurd h (Nat.not_lt_zero _)⟩
  case round =>
   obtain ⟨k, hk, hwr, rfl, hd⟩ := hrel
   subst hwr
   by_cases hlt : k < ds.length
   · rcases hc with hss | ⟨ha, hbw, hcell⟩
     · rw [hss] at hlt; exact absurd hlt (Nat.not_lt_zero _)
     subst ha
     obtain ⟨ai, ci, ⟨g0, _, _, _, _, _, g6, g7⟩, _⟩ := (hcell k hlt).below hbw hBu
     by_cases hn : (ds.getD k d8z).nm = nm
     · have HV := hidI (knD_at ds k nm hlt hd.out hn)
       rw [hn] at g0
       generalize (ds.getD k d8z).cd = cd at *
       generalize (ds.getD k d8z).tx = tx at *
       clear hn hcell hd
       go_wp2
       have F := set2_at' wr (w.heap.size + 1) (.int .i64 cd) (.string tx) _ _ v0 v1
       refine bodyPost_ret (v := .tuple #[.agg #[.int .i64 cd, .string tx], .bool true]) (by simp [results, Tryz.results72, go_sem, F.1, F.2]) rfl ⟨by unfold Is72; rw [HK.out, HV.out]; rfl, ?_⟩
       exact (hBu.setCell (by simp) _).setCell (by simp) _
     · have hn' := beq_no hn
       have HD : Hid (∀ j, j < k + 1 → (ds.getD j d8z).nm ≠ nm) := fun j hj => by
        by_cases e : j = k
        · subst e; exact hn
        · exact hd.out j (by omega)
       clear hcell hd hn
       generalize (ds.getD k d8z).nm = kn at *
       go_wp2
       go_roundw
       case rel => exact ⟨k + 1, by omega, trivial, by go_num, HD⟩
       case measure => simp [Go.RowKit.intOf]; omega
   · have HV := hidI (knD_no ds nm (fun j hj => hd.out j (by omega)))
     obtain rfl : k = ds.length := by omega
     clear hd hc
     go_wp2
     have F := set2_at' wr (w.heap.size + 1) (.int .i64 0) (.string ⟨#[]⟩) _ _ v0 v1
     refine bodyPost_ret (v := .tuple #[.agg #[.int .i64 0, .string ⟨#[]⟩], .bool false]) (by simp [results, Tryz.results72, go_sem, F.1, F.2]) rfl ⟨by unfold Is72; rw [HK.out, HV.out]; rfl, ?_⟩
     exact (hBu.setCell (by simp) _).setCell (by simp) _
end Go.Proofs.YtboojefodbjbcaaGreatDoor.G

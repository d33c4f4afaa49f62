import Derived.Test.YtjcgimlpnmbbbaaGreatDoorK5
import Derived.Test.YtjcgimlpnmbbbaaGreatDoorW6
import Derived.Test.YtjcgimlpnmbbbaaGreatDoorQK
namespace Go.Proofs.YtjcgimlpnmbbbaaGreatDoor
open Go.RowKit
open T (F2 f2z treeOk Asc FilesAt)

theorem owns_tbut {b : Nat} {w w' : World} {base : Nat} {e : TypeId} {size : Nat} {v : Value} {n : Nat} {xs : List Value} (h : w.ownsRow base e size v n xs) (hb : T.But b w w') (hne : v.ownBlock ≠ some b) : w'.ownsRow base e size v n xs := by
  refine ⟨h.1, ?_⟩
  rcases h.2 with h2 | ⟨g, cap, cur, hv, hg, hh, r⟩
  · exact .inl h2
  · refine .inr ⟨g, cap, cur, hv, hg, ?_, r⟩
    rw [hb.block g (blk_lt hh) (fun e => hne (by rw [hv, e]; rfl))]
    exact hh

set_option maxHeartbeats 4000000 in
set_option maxRecDepth 100000 in
theorem c3 (a : Option Addr) (cap : Nat) (fs : List F2) (w : World) (hs : ∀ i, (fs.getD i f2z).le 9223372036854775807) (hl : fs.length ≤ 9223372036854775807) (hat : FilesAt w a fs) (hv : VarsZ w) :
    Calls Tryz.prog 3 #[.agg #[.slice a fs.length cap]] w fun e w' => e = .returned (.bool true) ∧ Below w.heap.size w w' := by
  have HV : Hid (VarsZ w) := hv
  have HAT : Hid (FilesAt w a fs) := hat
  have hB0 : Below w.heap.size w (w.alloc (.cells #[.slice a fs.length cap] 24)) := (Below.refl _ _).alloc (Nat.le_refl _) _
  have h4 := T.c4 a cap fs _ hs hl (T.files_below hat hB0)
  clear hv hat
  go_enter Tryz.func3, Tryz.ntmps3
  go_wp2_with fail
  refine h4.mono ?_
  rintro e w1 ⟨⟨r, rfl, hr⟩, hb1⟩
  have hx1 : Below (w.heap.size + 1) (w.alloc (.cells #[.slice a fs.length cap] 24)) w1 := by have h := hb1; simp at h; exact h
  have hB1 : Below w.heap.size w w1 := hB0.trans (hx1.mono (by omega))
  have hz1 : w.heap.size + 1 ≤ w1.heap.size := by have := hx1.size; simpa using this
  have t1 : w1.cell? ⟨w.heap.size, 0, none⟩ = some (.slice a fs.length cap) := (hx1.cell (p := ⟨w.heap.size, 0, none⟩) (by simp)).trans (by simp [go_sem])
  clear hb1 h4 hx1
  by_cases h0 : 0 ≤ r
  · obtain ⟨hl', hs', hr'⟩ := hr h0
    have HSS : Hid (∀ i, (fs.getD i f2z).le 1048576) := hs'
    clear hr hs hl hs'
    have h6 := T.c6s a cap fs w1 hl' (T.files_below HAT.out hB1)
    go_wp2_with fail
    refine h6.mono ?_
    rintro e wa ⟨⟨B1, hB1g, rfl, hatA, _⟩, hba⟩
    have hza : w1.heap.size ≤ wa.heap.size := hba.size
    have hBa : Below w.heap.size w wa := hB1.trans (hba.mono hB1.size)
    have ta := (hba.cell (p := ⟨w.heap.size, 0, none⟩) (by show w.heap.size < w1.heap.size; omega)).trans t1
    have h5 := c5 (some ⟨B1, 0, none⟩) fs.length fs wa hl' HSS.out hatA
    clear h6 hba
    go_wp2_with fail
    refine h5.mono ?_
    rintro e wb ⟨⟨ms, am, cm, rfl, hatm, hpt⟩, hbb⟩
    have HPT : Hid (IsPT fs ms) := hpt
    have HATM : Hid (MksAt wb am ms) := hatm
    have hml := isPT_len hpt
    have hzb : wa.heap.size ≤ wb.heap.size := hbb.size
    have hBb : Below w.heap.size w wb := hBa.trans (hbb.mono hBa.size)
    have tb := (hbb.cell (p := ⟨w.heap.size, 0, none⟩) (by show w.heap.size < wa.heap.size; omega)).trans ta
    clear h5 hbb hatm hpt ta t1 hatA
    have h6 := T.c6s a cap fs wb hl' (T.files_below HAT.out hBb)
    go_wp2_with fail
    refine h6.mono ?_
    rintro e wc ⟨⟨B2, hB2g, rfl, hatC, hopC⟩, hbc⟩
    have hzc : wb.heap.size ≤ wc.heap.size := hbc.size
    have hB2l : B2 < wc.heap.size := hopC.1
    have hBc : Below w.heap.size w wc := hBb.trans (hbc.mono hBb.size)
    have tc := (hbc.cell (p := ⟨w.heap.size, 0, none⟩) (by show w.heap.size < wb.heap.size; omega)).trans tb
    have hxc : Below wc.heap.size wc (wc.alloc (.cells #[.slice (some ⟨B2, 0, none⟩) fs.length fs.length] 30)) := (Below.refl _ _).alloc (Nat.le_refl _) _
    have hBx : Below w.heap.size w (wc.alloc (.cells #[.slice (some ⟨B2, 0, none⟩) fs.length fs.length] 30)) := hBc.alloc hBc.size _
    have h7 := c7 (some ⟨B2, 0, none⟩) fs.length fs _ hl' HSS.out (T.files_below hatC hxc) (HV.out.below hBx)
    clear h6
    go_wp2_with fail
    refine h7.mono ?_
    rintro e wd ⟨⟨ms', v, rfl, hownd, hpt'⟩, hbd⟩
    obtain rfl := isPT_one HPT.out hpt'
    clear hpt' h7
    have hzd : wc.heap.size + 1 ≤ wd.heap.size := by have := hbd.size; simpa using this
    have hownD : wd.ownsRow (wc.heap.size + 1) 45 3 v ms.length (mkCells ms) := by have h := hownd; simp at h; exact h
    have hbd' : Below (wc.heap.size + 1) (wc.alloc (.cells #[.slice (some ⟨B2, 0, none⟩) fs.length fs.length] 30)) wd := by have h := hbd; simp at h; exact h
    have xd : wd.cell? ⟨wc.heap.size, 0, none⟩ = some (.slice (some ⟨B2, 0, none⟩) fs.length fs.length) := (hbd'.cell (p := ⟨wc.heap.size, 0, none⟩) (by simp)).trans (by simp [go_sem])
    have hcd : Below wc.heap.size wc wd := hxc.trans (hbd'.mono (by omega))
    have hBd : Below w.heap.size w wd := hBc.trans (hcd.mono hBc.size)
    have hbbd : Below wb.heap.size wb wd := hbc.trans (hcd.mono hzc)
    have td := (hcd.cell (p := ⟨w.heap.size, 0, none⟩) (by show w.heap.size < wc.heap.size; omega)).trans tc
    have HATX : Hid (FilesAt wd (some ⟨B2, 0, none⟩) fs) := T.files_below hatC hcd
    have HOPX : Hid (T.Open2 wd B2 fs.length) := hopC.below hcd
    clear hbd hownd hbd' hatC hopC tc hxc hBx hbc
    obtain ⟨ag, cg, hvv, hatg⟩ := own3_form hownD
    subst hvv
    have HATG : Hid (MksAt wd ag ms) := hatg
    have h8 := c8 ag am cg cm ms wd (by omega) hatg (mks_below HATM.out hbbd)
    clear hatg
    go_wp2_with fail
    refine h8.mono ?_
    rintro e we ⟨rfl, hbe⟩
    have hze : wd.heap.size ≤ we.heap.size := hbe.size
    have hBe : Below w.heap.size w we := hBd.trans (hbe.mono hBd.size)
    have te := (hbe.cell (p := ⟨w.heap.size, 0, none⟩) (by show w.heap.size < wd.heap.size; omega)).trans td
    have xe := (hbe.cell (p := ⟨wc.heap.size, 0, none⟩) (by show wc.heap.size < wd.heap.size; omega)).trans xd
    clear h8
    have h6 := fun u (hu : Below w.heap.size w u) => T.c6s a cap fs u hl' (T.files_below HAT.out hu)
    have hwe1 : w.heap.size < we.heap.size := by omega
    have hwe2 : wc.heap.size < we.heap.size := by omega
    go_wp2_with fail
    go_region_held3 (fun u => u.cell? ⟨w.heap.size, 0, none⟩ = some (.slice a fs.length cap) ∧ u.cell? ⟨wc.heap.size, 0, none⟩ = some (.slice (some ⟨B2, 0, none⟩) fs.length fs.length)) (go_keep) (first | (go_at_call 6; refine (h6 _ hBe.drew).mono ?_; rintro e wf ⟨⟨B3, hB3g, rfl, hatF, _⟩, hbf⟩; have HBF : Hid (Below we.heap.size we wf) := (Below.refl _ _).drew.trans hbf; have HATF : Hid (FilesAt wf (some ⟨B3, 0, none⟩) fs) := hatF; have f1 := (HBF.out.cell (p := ⟨w.heap.size, 0, none⟩) (by exact hwe1)).trans te; have f2 := (HBF.out.cell (p := ⟨wc.heap.size, 0, none⟩) (by exact hwe2)).trans xe; have hdf : Below wd.heap.size wd wf := hbe.trans (HBF.out.mono hze); clear hatF hbf) | (go_at_call 9; refine (T.c9 (some ⟨B2, 0, none⟩) (some ⟨B3, 0, none⟩) fs.length fs.length fs wf hl' (T.files_below HATX.out hdf) HATF.out).mono ?_; rintro e wg ⟨rfl, hbg⟩; have f3 := (hbg.cell (p := ⟨w.heap.size, 0, none⟩) (by have := HBF.out.size; show w.heap.size < wf.heap.size; omega)).trans f1; have f4 := (hbg.cell (p := ⟨wc.heap.size, 0, none⟩) (by have := HBF.out.size; show wc.heap.size < wf.heap.size; omega)).trans f2))
    have hdg : Below wd.heap.size wd wg := hdf.trans (hbg.mono hdf.size)
    have hzg : wd.heap.size ≤ wg.heap.size := hdg.size
    have hBg : Below w.heap.size w wg := hBd.trans (hdg.mono hBd.size)
    have hbbg : Below wb.heap.size wb wg := hbbd.trans (hdg.mono hbbd.size)
    have xg := (hdg.cell (p := ⟨wc.heap.size, 0, none⟩) (by show wc.heap.size < wd.heap.size; omega)).trans xd
    have hownG := ownsRow_below hownD hdg
    have HOPG : Hid (T.Open2 wg B2 fs.length) := HOPX.out.below hdg
    clear hbg hdf hbe te xe xd HATX HOPX hownD HATG td hBd hBe f1 f2 f3 f4 HATF HBF h6
    have h10 := T.c10 (some ⟨B2, 0, none⟩) B2 fs.length fs.length wg (.inr rfl) hl' (.inr HOPG.out)
    go_wp2_with fail
    refine h10.mono ?_
    rintro e wh ⟨rfl, hbut, _⟩
    have hzh : wg.heap.size ≤ wh.heap.size := hbut.size
    have hgh : Below B2 wg wh := hbut.below (Nat.le_refl _) (by omega)
    have hBh : Below w.heap.size w wh := hBg.trans (hgh.mono (by omega))
    have hbbh : Below wb.heap.size wb wh := hbbg.trans (hgh.mono hB2g)
    have hownH := owns_tbut hownG hbut (fun e => by have := (hownG.lt _ e).1; omega)
    obtain ⟨ag', cg', hv', hatg⟩ := own3_form hownH
    injection hv' with e1 e2 e3
    subst e1 e3
    have h8 := c8 ag am cg cm ms wh (by omega) hatg (mks_below HATM.out hbbh)
    clear h10 hbut hgh hatg xg hownG HOPG hbbg
    go_wp2_with fail
    refine h8.mono ?_
    rintro e wi ⟨rfl, hbi⟩
    have hBi : Below w.heap.size w wi := hBh.trans (hbi.mono hBh.size)
    have hbbi : Below wb.heap.size wb wi := hbbh.trans (hbi.mono hbbh.size)
    have hownI := ownsRow_below hownH hbi
    have hzi : wh.heap.size ≤ wi.heap.size := hbi.size
    have HOB : Hid (∀ k, (Value.slice ag ms.length cg).ownBlock = some k → wc.heap.size + 1 ≤ k) := fun k hk => (hownI.lt k hk).1
    clear h8 hbi hownH
    go_wp2_with fail
    refine (c11u _ ms _ wi hownI hml).mono ?_
    rintro e wj ⟨rfl, hgr, hmk⟩
    have hBj : Below w.heap.size w wj := hBi.grown hgr hBi.size (fun k hk => by have := HOB.out k hk; omega)
    have hbbj : Below wb.heap.size wb wj := hbbi.grown hgr hbbi.size (fun k hk => by have := HOB.out k hk; omega)
    have HMK : Hid (Marked wj (.slice ag ms.length cg) ms.length) := hmk
    clear hgr hmk hownI HOB hBi hbbi
    go_wp2_with fail
    refine (c12u _ ms.length wj HMK.out hml).mono ?_
    rintro e wk ⟨rfl, hbk⟩
    have hBk : Below w.heap.size w wk := hBj.trans (hbk.mono hBj.size)
    have hbbk : Below wb.heap.size wb wk := hbbj.trans (hbk.mono hbbj.size)
    have HMk : Hid (Marked wk (.slice ag ms.length cg) ms.length) := HMK.out.below hbk
    have tb' : wb.cell? ⟨w.heap.size, 0, none⟩ = some (.slice a fs.length cap) := by assumption
    have tk := (hbbk.cell (p := ⟨w.heap.size, 0, none⟩) (by show w.heap.size < wb.heap.size; omega)).trans tb'
    clear hbk HMK hBj hbbj
    have h6 := T.c6s a cap fs wk hl' (T.files_below HAT.out hBk)
    go_wp2_with fail
    refine h6.mono ?_
    rintro e wl ⟨⟨B4, hB4g, rfl, hatL, _⟩, hbl⟩
    have hBl : Below w.heap.size w wl := hBk.trans (hbl.mono hBk.size)
    have hbbl : Below wb.heap.size wb wl := hbbk.trans (hbl.mono hbbk.size)
    have HMl : Hid (Marked wl (.slice ag ms.length cg) ms.length) := HMk.out.below hbl
    have h7 := c7 (some ⟨B4, 0, none⟩) fs.length fs wl hl' HSS.out hatL (HV.out.below hBl)
    clear h6 hbl HMk
    go_wp2_with fail
    refine h7.mono ?_
    rintro e wm ⟨⟨ms2, v2, rfl, hownm, hpt2⟩, hbm⟩
    obtain rfl := isPT_one HPT.out hpt2
    clear hpt2 h7
    have hBm : Below w.heap.size w wm := hBl.trans (hbm.mono hBl.size)
    have hbbm : Below wb.heap.size wb wm := hbbl.trans (hbm.mono hbbl.size)
    have HMm : Hid (Marked wm (.slice ag ms.length cg) ms.length) := HMl.out.below hbm
    obtain ⟨a2, c2, hvv, hat2⟩ := own3_form hownm
    subst hvv
    have h8 := c8 a2 am c2 cm ms wm (by omega) hat2 (mks_below HATM.out hbbm)
    clear hat2 hbm HMl
    go_wp2_with fail
    refine h8.mono ?_
    rintro e wn ⟨rfl, hbn⟩
    have hBn : Below w.heap.size w wn := hBm.trans (hbn.mono hBm.size)
    have HMn : Hid (Marked wn (.slice ag ms.length cg) ms.length) := HMm.out.below hbn
    clear h8 hbn HMm
    go_wp2_with fail
    refine (c12u _ ms.length wn HMn.out hml).mono ?_
    rintro e wo ⟨rfl, hbo⟩
    have hBo : Below w.heap.size w wo := hBn.trans (hbo.mono hBn.size)
    go_wp2
    go_ret
    exact ⟨rfl, hBo⟩
  · clear hr
    go_wp2
    go_ret
    exact ⟨rfl, hB1⟩
end Go.Proofs.YtjcgimlpnmbbbaaGreatDoor

import Derived.Test.YtpjpckmfehfniaaGreatDoorZC49
import Derived.Test.YtpjpckmfehfniaaGreatDoorH7
import Derived.Test.YtpjpckmfehfniaaGreatDoorZC36
import Derived.Test.YtpjpckmfehfniaaGreatDoorZC37
namespace Go.Proofs.YtpjpckmfehfniaaGreatDoor
open Go.RowKit
abbrev wz19 : List Value := [.int .i64 0, .bool false, .bool false, .int .i64 0, .int .i64 0, .int .i64 0, .int .i64 0, .int .i64 0, .string ⟨#[]⟩, .string ⟨#[]⟩, .string ⟨#[]⟩, .slice none 0 0, .int .i64 0, .bool false, .int .i64 0, .string ⟨#[]⟩, .bool false, .string ⟨#[]⟩, .int .i64 0]
theorem st_some (u : World) (zs vs : List Value) (ty : TypeId) (hl : zs.length = vs.length) : ∀ i, i < vs.length → ((u.alloc (.cells zs.toArray ty)).cell? ⟨u.heap.size, 0 + i, none⟩).isSome = true := fun i hi => by
 rw [Nat.zero_add, M.blk_new u zs ty i _ (List.getElem?_eq_getElem (by omega))]
 rfl
theorem st_gen {u : World} {zs vs : List Value} {ty : TypeId} {P : World → Prop} (hl : zs.length = vs.length) (h : ∀ u', Below u.heap.size u u' → M.BlkAt u' u.heap.size vs → u.heap.size < u'.heap.size → P u') : P (M.fill (u.alloc (.cells zs.toArray ty)) u.heap.size 0 vs) :=
 h _ (M.below_fill (Nat.le_refl _) _ _ ((Below.refl _ _).alloc (Nat.le_refl _) _)) (M.BlkAt.fill0 (M.blk_new u zs ty) (by omega)) (by rw [M.size_fill]; simp)
theorem mk_below {y : M.W19} {ag : Option Addr} {gg : Nat} {u u' : World} (h : Hid (y.of.ls = [] ∨ (ag = some ⟨gg, 0, none⟩ ∧ gg < u.heap.size ∧ M.MarksAt 1 u gg y.of.ls.length))) (hb : Below u.heap.size u u') : Hid (y.of.ls = [] ∨ (ag = some ⟨gg, 0, none⟩ ∧ gg < u'.heap.size ∧ M.MarksAt 1 u' gg y.of.ls.length)) :=
 h.out.imp id fun h => ⟨h.1, Nat.lt_of_lt_of_le h.2.1 hb.size, M.marks_below h.2.2 h.2.1 hb⟩
set_option maxHeartbeats 16000000 in
set_option maxRecDepth 100000 in
theorem c4 (x : M.W19) (ai : Option Addr) (ci : Nat) (w : World) (hs : x.of.le 9223372036854775807) (hat : M.LksAt w ai x.of.ls) (hsh : ShapesAt w) (hmx : MaxAt w) :
 Calls Tryz.prog 4 #[.agg #[.int .i64 x.no, .bool x.up, .bool x.has, .int .i64 x.of.kd, .int .i64 x.of.to, .int .i64 x.of.fr, .int .i64 x.of.ep, .int .i64 x.of.ed, .string x.of.km.nm, .string x.of.km.tl, .string x.of.km.ar, .slice ai x.of.ls.length ci, .int .i64 x.of.ct, .bool x.of.tn.over, .int .i64 x.of.tn.cd, .string x.of.tn.tx, .bool x.of.tn.has, .string x.of.tn.nm, .int .i64 x.of.tn.st]] w fun e w' => e = .returned (.bool true) ∧ Below w.heap.size w w' := by
 have HA : Hid (M.LksAt w ai x.of.ls) := hat
 have HSS : Hid (x.of.le 9223372036854775807) := hs
 have HSH : Hid (ShapesAt w) := hsh
 have HMX : Hid (MaxAt w) := hmx
 obtain ⟨t, ht⟩ : ∃ t, goT x.of.km x.of.ls = t := ⟨_, rfl⟩
 have HTT : Hid (goT x.of.km x.of.ls = t) := ht
 clear hat hs hsh hmx ht
 have hB0 : Below w.heap.size w (w.alloc (.cells #[.int .i64 x.no, .bool x.up, .bool x.has, .int .i64 x.of.kd, .int .i64 x.of.to, .int .i64 x.of.fr, .int .i64 x.of.ep, .int .i64 x.of.ed, .string x.of.km.nm, .string x.of.km.tl, .string x.of.km.ar, .slice ai x.of.ls.length ci, .int .i64 x.of.ct, .bool x.of.tn.over, .int .i64 x.of.tn.cd, .string x.of.tn.tx, .bool x.of.tn.has, .string x.of.tn.nm, .int .i64 x.of.tn.st] 45)) := (Below.refl _ _).alloc (Nat.le_refl _) _
 have Z0 : M.BlkAt (w.alloc (.cells #[.int .i64 x.no, .bool x.up, .bool x.has, .int .i64 x.of.kd, .int .i64 x.of.to, .int .i64 x.of.fr, .int .i64 x.of.ep, .int .i64 x.of.ed, .string x.of.km.nm, .string x.of.km.tl, .string x.of.km.ar, .slice ai x.of.ls.length ci, .int .i64 x.of.ct, .bool x.of.tn.over, .int .i64 x.of.tn.cd, .string x.of.tn.tx, .bool x.of.tn.has, .string x.of.tn.nm, .int .i64 x.of.tn.st] 45)) w.heap.size [.int .i64 x.no, .bool x.up, .bool x.has, .int .i64 x.of.kd, .int .i64 x.of.to, .int .i64 x.of.fr, .int .i64 x.of.ep, .int .i64 x.of.ed, .string x.of.km.nm, .string x.of.km.tl, .string x.of.km.ar, .slice ai x.of.ls.length ci, .int .i64 x.of.ct, .bool x.of.tn.over, .int .i64 x.of.tn.cd, .string x.of.tn.tx, .bool x.of.tn.has, .string x.of.tn.nm, .int .i64 x.of.tn.st] := fun j v h => by simp [go_sem, h]
 have hz0 : (w.alloc (.cells #[.int .i64 x.no, .bool x.up, .bool x.has, .int .i64 x.of.kd, .int .i64 x.of.to, .int .i64 x.of.fr, .int .i64 x.of.ep, .int .i64 x.of.ed, .string x.of.km.nm, .string x.of.km.tl, .string x.of.km.ar, .slice ai x.of.ls.length ci, .int .i64 x.of.ct, .bool x.of.tn.over, .int .i64 x.of.tn.cd, .string x.of.tn.tx, .bool x.of.tn.has, .string x.of.tn.nm, .int .i64 x.of.tn.st] 45)).heap.size = w.heap.size + 1 := by simp
 go_enter Tryz.func4, Tryz.ntmps4
 go_wp2_with (refine M.wpList_load_blk rfl 45 (.tmp 1) rfl w.heap.size rfl _ _ Z0 Tryz.underlying45 rfl (by kernel_rfl) ?_)
 generalize (w.alloc (.cells #[.int .i64 x.no, .bool x.up, .bool x.has, .int .i64 x.of.kd, .int .i64 x.of.to, .int .i64 x.of.fr, .int .i64 x.of.ep, .int .i64 x.of.ed, .string x.of.km.nm, .string x.of.km.tl, .string x.of.km.ar, .slice ai x.of.ls.length ci, .int .i64 x.of.ct, .bool x.of.tn.over, .int .i64 x.of.tn.cd, .string x.of.tn.tx, .bool x.of.tn.has, .string x.of.tn.nm, .int .i64 x.of.tn.st] 45)) = V at *
 refine (M.c14 x ai ci 1048576 V HSS.out (by omega) (by omega) (M.lks_below HA.out hB0)).mono ?_
 rintro e u0 ⟨⟨r, rfl, hr⟩, hb1⟩
 have hBc : Below w.heap.size w u0 := hB0.trans (hb1.mono hB0.size)
 have hz1 : w.heap.size + 1 ≤ u0.heap.size := by rw [← hz0]; exact hb1.size
 have HZ : Hid (M.BlkAt u0 w.heap.size [.int .i64 x.no, .bool x.up, .bool x.has, .int .i64 x.of.kd, .int .i64 x.of.to, .int .i64 x.of.fr, .int .i64 x.of.ep, .int .i64 x.of.ed, .string x.of.km.nm, .string x.of.km.tl, .string x.of.km.ar, .slice ai x.of.ls.length ci, .int .i64 x.of.ct, .bool x.of.tn.over, .int .i64 x.of.tn.cd, .string x.of.tn.tx, .bool x.of.tn.has, .string x.of.tn.nm, .int .i64 x.of.tn.st]) := Z0.below hb1 (by omega)
 clear hb1 Z0 hz0 hB0
 by_cases h0 : 0 ≤ r
 · obtain ⟨hs', hr'⟩ := hr h0
   have HS : Hid (x.of.le 1048576) := hs'
   have hl : x.of.ls.length ≤ 1048576 := hs'.2.1.1
   clear hr hs' hr'
   go_wp2_with (refine M.wpList_load_blk rfl 45 (.tmp 1) rfl w.heap.size rfl _ _ HZ.out Tryz.underlying45 rfl (by kernel_rfl) ?_)
   refine (M.c16g x ai ci u0 hl (M.lks_below HA.out hBc)).mono ?_
   rintro e u1 ⟨⟨G1, hG1, rfl, hL⟩, hbn⟩
   have HZ := hidI (HZ.out.below hbn (by omega))
   have hBc := hBc.trans (hbn.mono hBc.size)
   have HG1 : Hid (M.LkG u1 (some ⟨G1, 0, none⟩) x.of.ls) := hL
   have hG1s : G1 < u1.heap.size := by obtain ⟨_, g, hg, ho⟩ := hL; injection hg with hg; injection hg with hg _; rw [hg]; exact ho.1
   have hzu1 := hbn.size
   clear hL hbn
   go_wp2_with fail
   refine (c15 x t G1 x.of.ls.length u1 HS.out HG1.out.1 HTT.out).mono ?_
   rintro e u2 ⟨⟨y, k, C, aw, cw, v, rfl, hT, hK, hR⟩, hbn⟩
   obtain ⟨ms, rfl, rfl, hm2, -⟩ := tick_ms hT
   obtain ⟨am, cm, rfl, hM⟩ := ms_own hR
   have HT : Hid (TickR x t y ms.length (msC ms)) := hT
   have hly : y.of.ls.length ≤ 1048576 := tick_ls hT hl
   have HDIS : Hid (ms.length = 0 ∨ y.of.ls = []) := tick_dis hT
   have hml : ms.length ≤ 1048576 := by omega
   have hml2 : ms.length ≤ 100 := by omega
   have HZ := hidI (HZ.out.below hbn (by omega))
   have hBc := hBc.trans (hbn.mono hBc.size)
   have HG1 := hidI (M.lkg_below HG1.out hbn)
   have hG1s := Nat.lt_of_lt_of_le hG1s hbn.size
   have HW0 : Hid (M.LkB u2 u1.heap.size u2.heap.size aw y.of.ls) := M.lkb_of hK
   have HW1 : Hid (MsO u2 u1.heap.size u2.heap.size am ms) := hM
   have hzu2 := hbn.size
   clear hK hR hM hT hbn HG1
   have hmark : True := trivial
   go_wp2_with (refine M.wpList_store_blk rfl 50 (.tmp 4) (.tmp 23) rfl u2.heap.size 0 rfl _ rfl (st_some u2 wz19 _ 50 rfl) (M.opn_new u2 _ 50) (by simp [Value.oneCell']) (by kernel_rfl) rfl ?_; revert hmark)
   intro hmark
   clear hmark
   refine st_gen rfl ?_
   intro u2' hWF HYB hltHYB
   replace HYB := hidI HYB
   have hzu2p := Nat.le_of_lt hltHYB
   have HZ := hidI (HZ.out.below hWF (by omega))
   have hBc := hBc.trans (hWF.mono hBc.size)
   have hG1s := Nat.lt_of_lt_of_le hG1s hWF.size
   have HW0 := hidI (M.lkb_below HW0.out hWF)
   have HW1 := hidI (mso_below HW1.out hWF)
   clear hWF
   go_wp2_with (refine M.wpList_load_blk rfl 45 (.tmp 1) rfl w.heap.size rfl _ _ HZ.out Tryz.underlying45 rfl (by kernel_rfl) ?_)
   refine (M.c16g x ai ci u2' hl (M.lks_below HA.out hBc)).mono ?_
   rintro e u3 ⟨⟨G3, hG3, rfl, hL⟩, hbn⟩
   have HZ := hidI (HZ.out.below hbn (by omega))
   have hBc := hBc.trans (hbn.mono hBc.size)
   have hG1s := Nat.lt_of_lt_of_le hG1s hbn.size
   have HW0 := hidI (M.lkb_below HW0.out hbn)
   have HW1 := hidI (mso_below HW1.out hbn)
   have HYB := hidI (HYB.out.below hbn (by omega))
   have hltHYB := Nat.lt_of_lt_of_le hltHYB hbn.size
   have HG3 : Hid (M.LkG u3 (some ⟨G3, 0, none⟩) x.of.ls) := hL
   have hG3s : G3 < u3.heap.size := by obtain ⟨_, g, hg, ho⟩ := hL; injection hg with hg; injection hg with hg _; rw [hg]; exact ho.1
   have hzu3 := hbn.size
   clear hL hbn
   have hmark : True := trivial
   go_wp2_with (refine M.wpList_store_blk rfl 50 (.tmp 6) (.tmp 26) rfl u3.heap.size 0 rfl _ rfl (st_some u3 wz19 _ 50 rfl) (M.opn_new u3 _ 50) (by simp [Value.oneCell']) (by kernel_rfl) rfl ?_; revert hmark)
   intro hmark
   clear hmark
   refine st_gen rfl ?_
   intro u3' hWF HX0 hltHX0
   replace HX0 := hidI HX0
   have hzu3p := Nat.le_of_lt hltHX0
   have HZ := hidI (HZ.out.below hWF (by omega))
   have hBc := hBc.trans (hWF.mono hBc.size)
   have hG1s := Nat.lt_of_lt_of_le hG1s hWF.size
   have HW0 := hidI (M.lkb_below HW0.out hWF)
   have HW1 := hidI (mso_below HW1.out hWF)
   have HYB := hidI (HYB.out.below hWF (by omega))
   have hltHYB := Nat.lt_of_lt_of_le hltHYB hWF.size
   have HG3 := hidI (M.lkg_below HG3.out hWF)
   have hG3s := Nat.lt_of_lt_of_le hG3s hWF.size
   clear hWF
   go_wp2_with (refine M.wpList_load_blk rfl 50 (.tmp 6) rfl u3.heap.size rfl _ _ HX0.out Tryz.underlying50 rfl (by kernel_rfl) ?_)
   refine (c17 x t G3 x.of.ls.length u3' HS.out HG3.out.1 (shapes_below HSH.out hBc) (max_below HMX.out hBc) HTT.out).mono ?_
   rintro e u4 ⟨⟨y', k', C', ag, cg, v', rfl, hT', hK, hR⟩, hbn⟩
   obtain ⟨rfl, rfl, rfl⟩ := tick_one HT.out hT'
   obtain ⟨amg, cmg, rfl, hM⟩ := ms_own hR
   have HZ := hidI (HZ.out.below hbn (by omega))
   have hBc := hBc.trans (hbn.mono hBc.size)
   have hG1s := Nat.lt_of_lt_of_le hG1s hbn.size
   have HW0 := hidI (M.lkb_below HW0.out hbn)
   have HW1 := hidI (mso_below HW1.out hbn)
   have HYB := hidI (HYB.out.below hbn (by omega))
   have hltHYB := Nat.lt_of_lt_of_le hltHYB hbn.size
   have HG3 := hidI (M.lkg_below HG3.out hbn)
   have hG3s := Nat.lt_of_lt_of_le hG3s hbn.size
   have HX0 := hidI (HX0.out.below hbn (by omega))
   have hltHX0 := Nat.lt_of_lt_of_le hltHX0 hbn.size
   have HG0 : Hid (M.LkB u4 u3'.heap.size u4.heap.size ag y.of.ls) := M.lkb_of hK
   have HGM : Hid (MsO u4 u3'.heap.size u4.heap.size amg ms) := hM
   have hzu4 := hbn.size
   clear hK hR hM hT' hbn
   have hmark : True := trivial
   go_wp2_with (refine M.wpList_store_blk rfl 50 (.tmp 7) (.tmp 30) rfl u4.heap.size 0 rfl _ rfl (st_some u4 wz19 _ 50 rfl) (M.opn_new u4 _ 50) (by simp [Value.oneCell']) (by kernel_rfl) rfl ?_; revert hmark)
   intro hmark
   clear hmark
   refine st_gen rfl ?_
   intro u4' hWF HXG hltHXG
   replace HXG := hidI HXG
   have hzu4p := Nat.le_of_lt hltHXG
   have HZ := hidI (HZ.out.below hWF (by omega))
   have hBc := hBc.trans (hWF.mono hBc.size)
   have hG1s := Nat.lt_of_lt_of_le hG1s hWF.size
   have HW0 := hidI (M.lkb_below HW0.out hWF)
   have HW1 := hidI (mso_below HW1.out hWF)
   have HYB := hidI (HYB.out.below hWF (by omega))
   have hltHYB := Nat.lt_of_lt_of_le hltHYB hWF.size
   have HG3 := hidI (M.lkg_below HG3.out hWF)
   have hG3s := Nat.lt_of_lt_of_le hG3s hWF.size
   have HX0 := hidI (HX0.out.below hWF (by omega))
   have hltHX0 := Nat.lt_of_lt_of_le hltHX0 hWF.size
   have HG0 := hidI (M.lkb_below HG0.out hWF)
   have HGM := hidI (mso_below HGM.out hWF)
   clear hWF
   go_wp2_with (first | refine M.wpList_load_blk rfl 50 (.tmp 7) rfl u4.heap.size rfl _ _ HXG.out Tryz.underlying50 rfl (by kernel_rfl) ?_ | refine M.wpList_load_blk rfl 50 (.tmp 4) rfl u2.heap.size rfl _ _ HYB.out Tryz.underlying50 rfl (by kernel_rfl) ?_)
   refine (M.c18 y ag aw cg cw u4' hly (M.lkb_lks HG0.out) (M.lkb_lks HW0.out)).mono ?_
   rintro e u5 ⟨rfl, hbn⟩
   have HZ := hidI (HZ.out.below hbn (by omega))
   have hBc := hBc.trans (hbn.mono hBc.size)
   have hG1s := Nat.lt_of_lt_of_le hG1s hbn.size
   have HW0 := hidI (M.lkb_below HW0.out hbn)
   have HW1 := hidI (mso_below HW1.out hbn)
   have HYB := hidI (HYB.out.below hbn (by omega))
   have hltHYB := Nat.lt_of_lt_of_le hltHYB hbn.size
   have HG3 := hidI (M.lkg_below HG3.out hbn)
   have hG3s := Nat.lt_of_lt_of_le hG3s hbn.size
   have HX0 := hidI (HX0.out.below hbn (by omega))
   have hltHX0 := Nat.lt_of_lt_of_le hltHX0 hbn.size
   have HG0 := hidI (M.lkb_below HG0.out hbn)
   have HGM := hidI (mso_below HGM.out hbn)
   have HXG := hidI (HXG.out.below hbn (by omega))
   have hltHXG := Nat.lt_of_lt_of_le hltHXG hbn.size
   clear hbn
   go_wp2_with fail
   refine (c19 amg am cmg cm ms u5 hml (mso_at HGM.out) (mso_at HW1.out)).mono ?_
   rintro e u6 ⟨rfl, hbn⟩
   have HZ := hidI (HZ.out.below hbn (by omega))
   have hBc := hBc.trans (hbn.mono hBc.size)
   have hG1s := Nat.lt_of_lt_of_le hG1s hbn.size
   have HW0 := hidI (M.lkb_below HW0.out hbn)
   have HW1 := hidI (mso_below HW1.out hbn)
   have HYB := hidI (HYB.out.below hbn (by omega))
   have hltHYB := Nat.lt_of_lt_of_le hltHYB hbn.size
   have HG3 := hidI (M.lkg_below HG3.out hbn)
   have hG3s := Nat.lt_of_lt_of_le hG3s hbn.size
   have HX0 := hidI (HX0.out.below hbn (by omega))
   have hltHX0 := Nat.lt_of_lt_of_le hltHX0 hbn.size
   have HG0 := hidI (M.lkb_below HG0.out hbn)
   have HGM := hidI (mso_below HGM.out hbn)
   have HXG := hidI (HXG.out.below hbn (by omega))
   have hltHXG := Nat.lt_of_lt_of_le hltHXG hbn.size
   clear hbn
   go_wp2_with fail
   refine wp_region_held_drew (S := (fun u => M.BlkAt u u3.heap.size [.int .i64 x.no, .bool x.up, .bool x.has, .int .i64 x.of.kd, .int .i64 x.of.to, .int .i64 x.of.fr, .int .i64 x.of.ep, .int .i64 x.of.ed, .string x.of.km.nm, .string x.of.km.tl, .string x.of.km.ar, .slice (some ⟨G3, 0, none⟩) x.of.ls.length x.of.ls.length, .int .i64 x.of.ct, .bool x.of.tn.over, .int .i64 x.of.tn.cd, .string x.of.tn.tx, .bool x.of.tn.has, .string x.of.tn.nm, .int .i64 x.of.tn.st] ∧ M.BlkAt u w.heap.size [.int .i64 x.no, .bool x.up, .bool x.has, .int .i64 x.of.kd, .int .i64 x.of.to, .int .i64 x.of.fr, .int .i64 x.of.ep, .int .i64 x.of.ed, .string x.of.km.nm, .string x.of.km.tl, .string x.of.km.ar, .slice ai x.of.ls.length ci, .int .i64 x.of.ct, .bool x.of.tn.over, .int .i64 x.of.tn.cd, .string x.of.tn.tx, .bool x.of.tn.has, .string x.of.tn.nm, .int .i64 x.of.tn.st])) (by kernel_rfl) ?_ (fun hHeld => ?_)
   · ((try dsimp only); exact ⟨HX0.out, HZ.out⟩)
   refine wpAnyH_take (i := 0) (oi := { dst := some 42, op := .load 50 (.tmp 6), type := 50, pos := "exact.go:3916", after := #[], guard := none }) (v := .agg ([.int .i64 x.no, .bool x.up, .bool x.has, .int .i64 x.of.kd, .int .i64 x.of.to, .int .i64 x.of.fr, .int .i64 x.of.ep, .int .i64 x.of.ed, .string x.of.km.nm, .string x.of.km.tl, .string x.of.km.ar, .slice (some ⟨G3, 0, none⟩) x.of.ls.length x.of.ls.length, .int .i64 x.of.ct, .bool x.of.tn.over, .int .i64 x.of.tn.cd, .string x.of.tn.tx, .bool x.of.tn.has, .string x.of.tn.nm, .int .i64 x.of.tn.st] : List Value).toArray) rfl (by kernel_rfl) (by kernel_rfl) (by kernel_rfl) (fun _ _ _ h => h) (Or.inl ⟨by rfl, ?_⟩) (by assumption) ?_
   · intro wq hSw
     have hq := M.run_loadVar_blk (P := Tryz.prog) wq u3.heap.size 50 [.int .i64 x.no, .bool x.up, .bool x.has, .int .i64 x.of.kd, .int .i64 x.of.to, .int .i64 x.of.fr, .int .i64 x.of.ep, .int .i64 x.of.ed, .string x.of.km.nm, .string x.of.km.tl, .string x.of.km.ar, .slice (some ⟨G3, 0, none⟩) x.of.ls.length x.of.ls.length, .int .i64 x.of.ct, .bool x.of.tn.over, .int .i64 x.of.tn.cd, .string x.of.tn.tx, .bool x.of.tn.has, .string x.of.tn.nm, .int .i64 x.of.tn.st] _ hSw.1 Tryz.underlying50 rfl (by kernel_rfl)
     have hg := M.load_exec hq
     first
      | exact hg
      | (simp only [execOp, Sem.run_bind, Sem.run_pure]; exact hg)
      | (unfold execOp; simp only [Sem.run_bind, Sem.run_pure]; exact hg)
   try simp only [Act.put, List.setIfInBounds_toArray, List.set_cons_zero, List.set_cons_succ]
   refine wpAnyH_take (i := 1) (oi := { dst := some 43, op := .load 45 (.tmp 1), type := 45, pos := "exact.go:3916", after := #[], guard := none }) (v := .agg ([.int .i64 x.no, .bool x.up, .bool x.has, .int .i64 x.of.kd, .int .i64 x.of.to, .int .i64 x.of.fr, .int .i64 x.of.ep, .int .i64 x.of.ed, .string x.of.km.nm, .string x.of.km.tl, .string x.of.km.ar, .slice ai x.of.ls.length ci, .int .i64 x.of.ct, .bool x.of.tn.over, .int .i64 x.of.tn.cd, .string x.of.tn.tx, .bool x.of.tn.has, .string x.of.tn.nm, .int .i64 x.of.tn.st] : List Value).toArray) rfl (by kernel_rfl) (by kernel_rfl) (by kernel_rfl) (fun _ _ _ h => h) (Or.inl ⟨by rfl, ?_⟩) (by assumption) ?_
   · intro wq hSw
     have hq := M.run_loadVar_blk (P := Tryz.prog) wq w.heap.size 45 [.int .i64 x.no, .bool x.up, .bool x.has, .int .i64 x.of.kd, .int .i64 x.of.to, .int .i64 x.of.fr, .int .i64 x.of.ep, .int .i64 x.of.ed, .string x.of.km.nm, .string x.of.km.tl, .string x.of.km.ar, .slice ai x.of.ls.length ci, .int .i64 x.of.ct, .bool x.of.tn.over, .int .i64 x.of.tn.cd, .string x.of.tn.tx, .bool x.of.tn.has, .string x.of.tn.nm, .int .i64 x.of.tn.st] _ hSw.2 Tryz.underlying45 rfl (by kernel_rfl)
     have hg := M.load_exec hq
     first
      | exact hg
      | (simp only [execOp, Sem.run_bind, Sem.run_pure]; exact hg)
      | (unfold execOp; simp only [Sem.run_bind, Sem.run_pure]; exact hg)
   try simp only [Act.put, List.setIfInBounds_toArray, List.set_cons_zero, List.set_cons_succ]
   refine wpAnyH_ready (rs := [2]) (by kernel_rfl) (by simp) ?_
   refine AllReadyH.cons (o := { dst := some 44, op := .call { callee := .value (.func 16), args := #[.tmp 43], argTypes := #[45] }, type := 50, pos := "exact.go:3916", after := #[{ on := 1, ground := .data }], guard := none }) rfl (fun K hK => ?_) AllReadyH.nil
   go_simp
   refine (M.c16g x ai ci _ hl (M.lks_below HA.out hBc.drew)).mono ?_
   rintro e u7 ⟨⟨G5, hG5, rfl, hL5⟩, hbn⟩
   have hbc : Below u6.heap.size u6 u7 := ((Below.refl _ _).drew).trans hbn
   have HZ := hidI (HZ.out.below hbc (by omega))
   have hBc := hBc.trans (hbc.mono hBc.size)
   have hG1s := Nat.lt_of_lt_of_le hG1s hbc.size
   have HW0 := hidI (M.lkb_below HW0.out hbc)
   have HW1 := hidI (mso_below HW1.out hbc)
   have HYB := hidI (HYB.out.below hbc (by omega))
   have hltHYB := Nat.lt_of_lt_of_le hltHYB hbc.size
   have HG3 := hidI (M.lkg_below HG3.out hbc)
   have hG3s := Nat.lt_of_lt_of_le hG3s hbc.size
   have HX0 := hidI (HX0.out.below hbc (by omega))
   have hltHX0 := Nat.lt_of_lt_of_le hltHX0 hbc.size
   have HG0 := hidI (M.lkb_below HG0.out hbc)
   have HGM := hidI (mso_below HGM.out hbc)
   have HXG := hidI (HXG.out.below hbc (by omega))
   have hltHXG := Nat.lt_of_lt_of_le hltHXG hbc.size
   have HL5 : Hid (M.LkG u7 (some ⟨G5, 0, none⟩) x.of.ls) := hL5
   clear hL5 hG5
   clear hbn hbc
   go_wp2_with fail
   clear hHeld
   refine hK.out _ _ ?_ (fun hHeld => ?_)
   · ((try dsimp only); exact ⟨HX0.out, HZ.out⟩)
   clear hK K
   try simp only [Act.put, List.setIfInBounds_toArray, List.set_cons_zero, List.set_cons_succ]
   refine wpAnyH_ready (rs := [3]) (by kernel_rfl) (by simp) ?_
   refine AllReadyH.cons (o := { dst := some 45, op := .call { callee := .value (.func 18), args := #[.tmp 42, .tmp 44], argTypes := #[50, 50] }, type := 4, pos := "exact.go:3916", after := #[{ on := 0, ground := .data }, { on := 2, ground := .data }, { on := 2, ground := .chain }], guard := none }) rfl (fun K hK => ?_) AllReadyH.nil
   go_simp
   refine (M.c18 x (some ⟨G3, 0, none⟩) (some ⟨G5, 0, none⟩) x.of.ls.length x.of.ls.length u7 hl HG3.out.1 HL5.out.1).mono ?_
   rintro e u8 ⟨rfl, hbn⟩
   have hbc : Below u7.heap.size u7 u8 := hbn
   have HZ := hidI (HZ.out.below hbc (by omega))
   have hBc := hBc.trans (hbc.mono hBc.size)
   have hG1s := Nat.lt_of_lt_of_le hG1s hbc.size
   have HW0 := hidI (M.lkb_below HW0.out hbc)
   have HW1 := hidI (mso_below HW1.out hbc)
   have HYB := hidI (HYB.out.below hbc (by omega))
   have hltHYB := Nat.lt_of_lt_of_le hltHYB hbc.size
   have HG3 := hidI (M.lkg_below HG3.out hbc)
   have hG3s := Nat.lt_of_lt_of_le hG3s hbc.size
   have HX0 := hidI (HX0.out.below hbc (by omega))
   have hltHX0 := Nat.lt_of_lt_of_le hltHX0 hbc.size
   have HG0 := hidI (M.lkb_below HG0.out hbc)
   have HGM := hidI (mso_below HGM.out hbc)
   have HXG := hidI (HXG.out.below hbc (by omega))
   have hltHXG := Nat.lt_of_lt_of_le hltHXG hbc.size
   clear HL5
   clear hbn hbc
   go_wp2_with fail
   clear hHeld
   refine hK.out _ _ ?_ (fun hHeld => ?_)
   · ((try dsimp only); exact ⟨HX0.out, HZ.out⟩)
   clear hK K
   try simp only [Act.put, List.setIfInBounds_toArray, List.set_cons_zero, List.set_cons_succ]
   refine wpAnyH_take (i := 4) (oi := { dst := some 46, op := .unOp .not 4 (.tmp 45), type := 4, pos := "exact.go:3916", after := #[{ on := 3, ground := .data }], guard := none }) (v := ?_) rfl (by kernel_rfl) (by kernel_rfl) (by kernel_rfl) (fun _ _ _ h => h) (Or.inl ⟨by rfl, ?_⟩) (by assumption) ?_
   rotate_left
   · intro wq hSw
     (try dsimp only at hSw)
     go_simp
     try with_reducible rfl
   try simp only [Act.put, List.setIfInBounds_toArray, List.set_cons_zero, List.set_cons_succ]
   refine wpAnyH_done (by kernel_rfl) ?_ _
   clear hHeld
   go_wp2_with (refine M.wpList_load_blk rfl 50 (.tmp 6) rfl u3.heap.size rfl _ _ HX0.out Tryz.underlying50 rfl (by kernel_rfl) ?_)
   refine (M.c20 1 x (some ⟨G3, 0, none⟩) G3 x.of.ls.length u8 (by omega) (by omega) hl (.inr ⟨rfl, M.lkg_open HG3.out⟩)).mono ?_
   rintro e u9 ⟨rfl, hbt, _⟩
   have hbb : Below w.heap.size u8 u9 := hbt.below (by omega) (by omega)
   have HZ := hidI (M.BlkAt.but HZ.out hbt (by omega) (by omega))
   have hBc := hBc.trans hbb
   have hG1s := Nat.lt_of_lt_of_le hG1s hbt.size
   have HW0 := hidI (M.lkb_but HW0.out hbt (by omega))
   have HW1 := hidI (mso_but HW1.out hbt (Or.inr (by omega)))
   have HYB := hidI (M.BlkAt.but HYB.out hbt (by omega) (by omega))
   have hltHYB := Nat.lt_of_lt_of_le hltHYB hbt.size
   clear HG3
   have hG3s := Nat.lt_of_lt_of_le hG3s hbt.size
   have HX0 := hidI (M.BlkAt.but HX0.out hbt (by omega) (by omega))
   have hltHX0 := Nat.lt_of_lt_of_le hltHX0 hbt.size
   have HG0 := hidI (M.lkb_but HG0.out hbt (by omega))
   have HGM := hidI (mso_but HGM.out hbt (Or.inr (by omega)))
   have HXG := hidI (M.BlkAt.but HXG.out hbt (by omega) (by omega))
   have hltHXG := Nat.lt_of_lt_of_le hltHXG hbt.size
   clear hbb
   clear hbt
   have hkp : ¬ 1 + 4 * (x.of.ls.length : Int) < 0 := by omega
   go_wp2_with (first | refine M.wpList_load_blkW (by first | rfl | kernel_rfl) 50 (.tmp 7) (by rfl) u4.heap.size (by rfl) _ _ HXG.out Tryz.underlying50 rfl (by kernel_rfl) ?_ | refine M.wpList_load_blkW (by first | rfl | kernel_rfl) 50 (.tmp 4) (by rfl) u2.heap.size (by rfl) _ _ HYB.out Tryz.underlying50 rfl (by kernel_rfl) ?_)
   refine (M.c18 y ag aw cg cw u9 hly (M.lkb_lks HG0.out) (M.lkb_lks HW0.out)).mono ?_
   rintro e ua ⟨rfl, hbn⟩
   have HZ := hidI (HZ.out.below hbn (by omega))
   have hBc := hBc.trans (hbn.mono hBc.size)
   have hG1s := Nat.lt_of_lt_of_le hG1s hbn.size
   have HW0 := hidI (M.lkb_below HW0.out hbn)
   have HW1 := hidI (mso_below HW1.out hbn)
   have HYB := hidI (HYB.out.below hbn (by omega))
   have hltHYB := Nat.lt_of_lt_of_le hltHYB hbn.size
   have hG3s := Nat.lt_of_lt_of_le hG3s hbn.size
   have HX0 := hidI (HX0.out.below hbn (by omega))
   have hltHX0 := Nat.lt_of_lt_of_le hltHX0 hbn.size
   have HG0 := hidI (M.lkb_below HG0.out hbn)
   have HGM := hidI (mso_below HGM.out hbn)
   have HXG := hidI (HXG.out.below hbn (by omega))
   have hltHXG := Nat.lt_of_lt_of_le hltHXG hbn.size
   clear hbn
   go_wp2_with fail
   refine (c19 amg am cmg cm ms ua hml (mso_at HGM.out) (mso_at HW1.out)).mono ?_
   rintro e ub ⟨rfl, hbn⟩
   have HZ := hidI (HZ.out.below hbn (by omega))
   have hBc := hBc.trans (hbn.mono hBc.size)
   have hG1s := Nat.lt_of_lt_of_le hG1s hbn.size
   have HW0 := hidI (M.lkb_below HW0.out hbn)
   have HW1 := hidI (mso_below HW1.out hbn)
   have HYB := hidI (HYB.out.below hbn (by omega))
   have hltHYB := Nat.lt_of_lt_of_le hltHYB hbn.size
   have hG3s := Nat.lt_of_lt_of_le hG3s hbn.size
   have HX0 := hidI (HX0.out.below hbn (by omega))
   have hltHX0 := Nat.lt_of_lt_of_le hltHX0 hbn.size
   have HG0 := hidI (M.lkb_below HG0.out hbn)
   have HGM := hidI (mso_below HGM.out hbn)
   have HXG := hidI (HXG.out.below hbn (by omega))
   have hltHXG := Nat.lt_of_lt_of_le hltHXG hbn.size
   clear hbn
   obtain ⟨gg, hgg, hgh0⟩ := lkb_none HG0.out G3
   have hgh : Hid (y.of.ls = [] ∨ (ag = some ⟨gg, 0, none⟩ ∧ M.Open4 ub gg y.of.ls.length)) := hgh0
   have hgr : gg = G3 ∨ (u3'.heap.size ≤ gg ∧ gg < u4.heap.size) := by rcases hgg with h | h <;> omega
   have hgm : ms = [] ∨ gg < u3'.heap.size ∨ u4.heap.size ≤ gg := by
    rcases hgg with h | h
    · exact .inr (.inl (by omega))
    · rcases HDIS.out with k | k
      · exact .inl (List.length_eq_zero_iff.1 k)
      · exact absurd k h.2.2
   clear HG0 hgh0
   go_wp2_with (refine M.wpList_load_blk rfl 50 (.tmp 7) rfl u4.heap.size rfl _ _ HXG.out Tryz.underlying50 rfl (by kernel_rfl) ?_)
   refine (M.c20 1 y ag gg cg ub (by omega) (by omega) hly hgh.out).mono ?_
   rintro e uc ⟨rfl, hbt, hmk⟩
   have HMK : Hid (y.of.ls = [] ∨ (ag = some ⟨gg, 0, none⟩ ∧ gg < uc.heap.size ∧ M.MarksAt 1 uc gg y.of.ls.length)) := by
    rcases hgh.out with h | h
    · exact .inl h
    · rcases hmk with k | k
      · exact .inl k
      · exact .inr ⟨h.1, k.1.1, k.2⟩
   have hbb : Below w.heap.size ub uc := hbt.below (by omega) (by omega)
   have HZ := hidI (M.BlkAt.but HZ.out hbt (by omega) (by omega))
   have hBc := hBc.trans hbb
   have hG1s := Nat.lt_of_lt_of_le hG1s hbt.size
   have HW0 := hidI (M.lkb_but HW0.out hbt (by omega))
   have HW1 := hidI (mso_but HW1.out hbt (Or.inr (by omega)))
   have HYB := hidI (M.BlkAt.but HYB.out hbt (by omega) (by omega))
   have hltHYB := Nat.lt_of_lt_of_le hltHYB hbt.size
   have hG3s := Nat.lt_of_lt_of_le hG3s hbt.size
   have HGM := hidI (mso_but HGM.out hbt (hgm))
   have HXG := hidI (M.BlkAt.but HXG.out hbt (by omega) (by omega))
   have hltHXG := Nat.lt_of_lt_of_le hltHXG hbt.size
   clear hbb
   clear hbt hmk hgh
   go_wp2_with fail
   refine (c21h (1 + 4 * (y.of.ls.length : Int)) ms amg u3'.heap.size u4.heap.size cmg uc (by omega) (by omega) hml2 HGM.out G3).mono ?_
   rintro e ud ⟨gm, hgmm, rfl, hbt, hmsk⟩
   have HMS : Hid (MsK (1 + 4 * (y.of.ls.length : Int)) ud gm amg ms) := hmsk
   have hgr2 : gm = G3 ∨ (u3'.heap.size ≤ gm ∧ gm < u4.heap.size) := by rcases hgmm with h | h <;> omega
   have hgn : y.of.ls = [] ∨ gm ≠ gg := by
    by_cases h0 : y.of.ls = []
    · exact .inl h0
    · right
      have hms : ms = [] := by
       rcases HDIS.out with k | k
       · exact List.length_eq_zero_iff.1 k
       · exact absurd k h0
      have hgg' : u3'.heap.size ≤ gg := by rcases hgg with h | h; exact absurd h.2 h0; exact h.1
      have hgm' : gm = G3 := by rcases hgmm with h | h; exact h.1; exact absurd hms h.2.2
      omega
   clear HGM hmsk
   have hbb : Below w.heap.size uc ud := hbt.below (by omega) (by omega)
   have HZ := hidI (M.BlkAt.but HZ.out hbt (by omega) (by omega))
   have hBc := hBc.trans hbb
   have hG1s := Nat.lt_of_lt_of_le hG1s hbt.size
   have HW0 := hidI (M.lkb_but HW0.out hbt (by omega))
   have HW1 := hidI (mso_but HW1.out hbt (Or.inr (by omega)))
   have HYB := hidI (M.BlkAt.but HYB.out hbt (by omega) (by omega))
   have hltHYB := Nat.lt_of_lt_of_le hltHYB hbt.size
   have hG3s := Nat.lt_of_lt_of_le hG3s hbt.size
   have HXG := hidI (M.BlkAt.but HXG.out hbt (by omega) (by omega))
   have hltHXG := Nat.lt_of_lt_of_le hltHXG hbt.size
   have HMK : Hid (y.of.ls = [] ∨ (ag = some ⟨gg, 0, none⟩ ∧ gg < ud.heap.size ∧ M.MarksAt 1 ud gg y.of.ls.length)) := by
    rcases HMK.out with h | h
    · exact .inl h
    · rcases hgn with k | k
      · exact .inl k
      · exact .inr ⟨h.1, Nat.lt_of_lt_of_le h.2.1 hbt.size, M.marks_but h.2.2 h.2.1 hbt (Ne.symm k)⟩
   clear hbb
   clear hbt
   have hqp : ¬ 1 + 4 * (y.of.ls.length : Int) < 0 := by omega
   have hqp2 : ¬ 1 + 4 * (y.of.ls.length : Int) + 15 * (ms.length : Int) < 0 := by omega
   go_wp2_with (refine M.wpList_load_blk rfl 50 (.tmp 7) rfl u4.heap.size rfl _ _ HXG.out Tryz.underlying50 rfl (by kernel_rfl) ?_)
   refine (M.c22 1 y ag gg cg ud (by omega) (by omega) hly HMK.out).mono ?_
   rintro e ue ⟨rfl, hbn⟩
   have HZ := hidI (HZ.out.below hbn (by omega))
   have hBc := hBc.trans (hbn.mono hBc.size)
   have hG1s := Nat.lt_of_lt_of_le hG1s hbn.size
   have HW0 := hidI (M.lkb_below HW0.out hbn)
   have HW1 := hidI (mso_below HW1.out hbn)
   have HYB := hidI (HYB.out.below hbn (by omega))
   have hltHYB := Nat.lt_of_lt_of_le hltHYB hbn.size
   have hG3s := Nat.lt_of_lt_of_le hG3s hbn.size
   have HXG := hidI (HXG.out.below hbn (by omega))
   have hltHXG := Nat.lt_of_lt_of_le hltHXG hbn.size
   have HMK := mk_below HMK hbn
   have HMS := hidI (msk_below HMS.out hbn)
   clear hbn
   go_wp2_with fail
   refine (c23h (1 + 4 * (y.of.ls.length : Int)) ms amg gm cmg ue (by omega) (by omega) hml2 HMS.out).mono ?_
   rintro e uf ⟨rfl, hbn⟩
   have HZ := hidI (HZ.out.below hbn (by omega))
   have hBc := hBc.trans (hbn.mono hBc.size)
   have hG1s := Nat.lt_of_lt_of_le hG1s hbn.size
   have HW0 := hidI (M.lkb_below HW0.out hbn)
   have HW1 := hidI (mso_below HW1.out hbn)
   have HYB := hidI (HYB.out.below hbn (by omega))
   have hltHYB := Nat.lt_of_lt_of_le hltHYB hbn.size
   have hG3s := Nat.lt_of_lt_of_le hG3s hbn.size
   have HXG := hidI (HXG.out.below hbn (by omega))
   have hltHXG := Nat.lt_of_lt_of_le hltHXG hbn.size
   have HMK := mk_below HMK hbn
   have HMS := hidI (msk_below HMS.out hbn)
   clear hbn
   go_wp2_with (refine M.wpList_load_blk rfl 45 (.tmp 1) rfl w.heap.size rfl _ _ HZ.out Tryz.underlying45 rfl (by kernel_rfl) ?_)
   refine (M.c16g x ai ci uf hl (M.lks_below HA.out hBc)).mono ?_
   rintro e ug ⟨⟨G6, hG6, rfl, hL⟩, hbn⟩
   have HZ := hidI (HZ.out.below hbn (by omega))
   have hBc := hBc.trans (hbn.mono hBc.size)
   have hG1s := Nat.lt_of_lt_of_le hG1s hbn.size
   have HW0 := hidI (M.lkb_below HW0.out hbn)
   have HW1 := hidI (mso_below HW1.out hbn)
   have HYB := hidI (HYB.out.below hbn (by omega))
   have hltHYB := Nat.lt_of_lt_of_le hltHYB hbn.size
   have hG3s := Nat.lt_of_lt_of_le hG3s hbn.size
   have HXG := hidI (HXG.out.below hbn (by omega))
   have hltHXG := Nat.lt_of_lt_of_le hltHXG hbn.size
   have HMK := mk_below HMK hbn
   have HMS := hidI (msk_below HMS.out hbn)
   have HG6 : Hid (M.LkG ug (some ⟨G6, 0, none⟩) x.of.ls) := hL
   have hG6s : G6 < ug.heap.size := by obtain ⟨_, g, hg, ho⟩ := hL; injection hg with hg; injection hg with hg _; rw [hg]; exact ho.1
   have hzug := hbn.size
   clear hL hbn
   go_wp2_with fail
   refine (c17 x t G6 x.of.ls.length ug HS.out HG6.out.1 (shapes_below HSH.out hBc) (max_below HMX.out hBc) HTT.out).mono ?_
   rintro e uh ⟨⟨y', k', C', ah, ch, v', rfl, hT', hK, hR⟩, hbn⟩
   obtain ⟨rfl, rfl, rfl⟩ := tick_one HT.out hT'
   obtain ⟨amh, cmh, rfl, hM⟩ := ms_own hR
   have HZ := hidI (HZ.out.below hbn (by omega))
   have hBc := hBc.trans (hbn.mono hBc.size)
   have hG1s := Nat.lt_of_lt_of_le hG1s hbn.size
   have HW0 := hidI (M.lkb_below HW0.out hbn)
   have HW1 := hidI (mso_below HW1.out hbn)
   have HYB := hidI (HYB.out.below hbn (by omega))
   have hltHYB := Nat.lt_of_lt_of_le hltHYB hbn.size
   have hG3s := Nat.lt_of_lt_of_le hG3s hbn.size
   have HXG := hidI (HXG.out.below hbn (by omega))
   have hltHXG := Nat.lt_of_lt_of_le hltHXG hbn.size
   have HMK := mk_below HMK hbn
   have HMS := hidI (msk_below HMS.out hbn)
   have hG6s := Nat.lt_of_lt_of_le hG6s hbn.size
   have HH0 : Hid (M.LkB uh ug.heap.size uh.heap.size ah y.of.ls) := M.lkb_of hK
   have HHM : Hid (MsO uh ug.heap.size uh.heap.size amh ms) := hM
   have hzuh := hbn.size
   clear hK hR hM hT' hbn HG6
   have hmark : True := trivial
   go_wp2_with (refine M.wpList_store_blk rfl 50 (.tmp 12) (.tmp 87) rfl uh.heap.size 0 rfl _ rfl (st_some uh wz19 _ 50 rfl) (M.opn_new uh _ 50) (by simp [Value.oneCell']) (by kernel_rfl) rfl ?_; revert hmark)
   intro hmark
   clear hmark
   refine st_gen rfl ?_
   intro uh' hWF HXH hltHXH
   replace HXH := hidI HXH
   have hzuhp := Nat.le_of_lt hltHXH
   have HZ := hidI (HZ.out.below hWF (by omega))
   have hBc := hBc.trans (hWF.mono hBc.size)
   have hG1s := Nat.lt_of_lt_of_le hG1s hWF.size
   have HW0 := hidI (M.lkb_below HW0.out hWF)
   have HW1 := hidI (mso_below HW1.out hWF)
   have HYB := hidI (HYB.out.below hWF (by omega))
   have hltHYB := Nat.lt_of_lt_of_le hltHYB hWF.size
   have hG3s := Nat.lt_of_lt_of_le hG3s hWF.size
   have HXG := hidI (HXG.out.below hWF (by omega))
   have hltHXG := Nat.lt_of_lt_of_le hltHXG hWF.size
   have HMK := mk_below HMK hWF
   have HMS := hidI (msk_below HMS.out hWF)
   have hG6s := Nat.lt_of_lt_of_le hG6s hWF.size
   have HH0 := hidI (M.lkb_below HH0.out hWF)
   have HHM := hidI (mso_below HHM.out hWF)
   clear hWF
   go_wp2_with (first | refine M.wpList_load_blk rfl 50 (.tmp 12) rfl uh.heap.size rfl _ _ HXH.out Tryz.underlying50 rfl (by kernel_rfl) ?_ | refine M.wpList_load_blk rfl 50 (.tmp 4) rfl u2.heap.size rfl _ _ HYB.out Tryz.underlying50 rfl (by kernel_rfl) ?_)
   refine (M.c18 y ah aw ch cw uh' hly (M.lkb_lks HH0.out) (M.lkb_lks HW0.out)).mono ?_
   rintro e ui ⟨rfl, hbn⟩
   have HZ := hidI (HZ.out.below hbn (by omega))
   have hBc := hBc.trans (hbn.mono hBc.size)
   have hG1s := Nat.lt_of_lt_of_le hG1s hbn.size
   have HW0 := hidI (M.lkb_below HW0.out hbn)
   have HW1 := hidI (mso_below HW1.out hbn)
   have HYB := hidI (HYB.out.below hbn (by omega))
   have hltHYB := Nat.lt_of_lt_of_le hltHYB hbn.size
   have hG3s := Nat.lt_of_lt_of_le hG3s hbn.size
   have HXG := hidI (HXG.out.below hbn (by omega))
   have hltHXG := Nat.lt_of_lt_of_le hltHXG hbn.size
   have HMK := mk_below HMK hbn
   have HMS := hidI (msk_below HMS.out hbn)
   have hG6s := Nat.lt_of_lt_of_le hG6s hbn.size
   have HH0 := hidI (M.lkb_below HH0.out hbn)
   have HHM := hidI (mso_below HHM.out hbn)
   have HXH := hidI (HXH.out.below hbn (by omega))
   have hltHXH := Nat.lt_of_lt_of_le hltHXH hbn.size
   clear hbn
   go_wp2_with fail
   refine (c19 amh am cmh cm ms ui hml (mso_at HHM.out) (mso_at HW1.out)).mono ?_
   rintro e uj ⟨rfl, hbn⟩
   have HZ := hidI (HZ.out.below hbn (by omega))
   have hBc := hBc.trans (hbn.mono hBc.size)
   have hG1s := Nat.lt_of_lt_of_le hG1s hbn.size
   have HW0 := hidI (M.lkb_below HW0.out hbn)
   have HW1 := hidI (mso_below HW1.out hbn)
   have HYB := hidI (HYB.out.below hbn (by omega))
   have hltHYB := Nat.lt_of_lt_of_le hltHYB hbn.size
   have hG3s := Nat.lt_of_lt_of_le hG3s hbn.size
   have HXG := hidI (HXG.out.below hbn (by omega))
   have hltHXG := Nat.lt_of_lt_of_le hltHXG hbn.size
   have HMK := mk_below HMK hbn
   have HMS := hidI (msk_below HMS.out hbn)
   have hG6s := Nat.lt_of_lt_of_le hG6s hbn.size
   have HH0 := hidI (M.lkb_below HH0.out hbn)
   have HHM := hidI (mso_below HHM.out hbn)
   have HXH := hidI (HXH.out.below hbn (by omega))
   have hltHXH := Nat.lt_of_lt_of_le hltHXH hbn.size
   clear hbn
   clear HH0 HHM HW0 HW1 HYB HZ HXH
   go_wp2_with (refine M.wpList_load_blk rfl 50 (.tmp 7) rfl u4.heap.size rfl _ _ HXG.out Tryz.underlying50 rfl (by kernel_rfl) ?_)
   refine (M.c22 1 y ag gg cg uj (by omega) (by omega) hly HMK.out).mono ?_
   rintro e uk ⟨rfl, hbn⟩
   have hBc := hBc.trans (hbn.mono hBc.size)
   have hG1s := Nat.lt_of_lt_of_le hG1s hbn.size
   have hG3s := Nat.lt_of_lt_of_le hG3s hbn.size
   have HXG := hidI (HXG.out.below hbn (by omega))
   have hltHXG := Nat.lt_of_lt_of_le hltHXG hbn.size
   have HMK := mk_below HMK hbn
   have HMS := hidI (msk_below HMS.out hbn)
   have hG6s := Nat.lt_of_lt_of_le hG6s hbn.size
   clear hbn
   go_wp2_with fail
   refine (c23h (1 + 4 * (y.of.ls.length : Int)) ms amg gm cmg uk (by omega) (by omega) hml2 HMS.out).mono ?_
   rintro e ul ⟨rfl, hbn⟩
   have hBc := hBc.trans (hbn.mono hBc.size)
   have hG1s := Nat.lt_of_lt_of_le hG1s hbn.size
   have hG3s := Nat.lt_of_lt_of_le hG3s hbn.size
   have HXG := hidI (HXG.out.below hbn (by omega))
   have hltHXG := Nat.lt_of_lt_of_le hltHXG hbn.size
   have HMK := mk_below HMK hbn
   have HMS := hidI (msk_below HMS.out hbn)
   have hG6s := Nat.lt_of_lt_of_le hG6s hbn.size
   clear hbn
   go_wp2
   go_ret
   exact ⟨rfl, hBc⟩
 · clear hr
   go_wp2
   go_ret
   exact ⟨rfl, hBc⟩
end Go.Proofs.YtpjpckmfehfniaaGreatDoor

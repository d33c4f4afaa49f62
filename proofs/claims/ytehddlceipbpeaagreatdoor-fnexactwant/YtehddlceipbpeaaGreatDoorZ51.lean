import Derived.Test.YtehddlceipbpeaaGreatDoorQA
import Derived.Test.YtehddlceipbpeaaGreatDoorZ50
import Derived.Test.YtehddlceipbpeaaGreatDoorZ48
import Derived.Test.YtehddlceipbpeaaGreatDoorZ45
import Derived.WalkKit
import Derived.ProofKit
import Derived.OpenShut
import Derived.ShutString
import Derived.ChangeOld
import Derived.SliceStrings
import Derived.Deep.Strs
import Derived.Deep.Slices
import Derived.OpenVars
import Derived.HandedShaped
import Derived.Shelf.Vars
import Derived.Deep.DeepHandedRow
import Derived.Deep.DeepWitnessRowRef
import Derived.SevenTiedAt
import Derived.ChangeArms
import Derived.LaidMore
import Derived.LaidOnce
import Derived.LaidHandle
namespace Go.Proofs.YtehddlceipbpeaaGreatDoor
open Go.RowKit
open G (IsPT)
open G.T (F2 f2z treeOk FilesAt)
set_option maxRecDepth 100000
set_option linter.unusedVariables false
def New18 (w : World) (fs : List F2) (tv : Value) (e : Ending) (w' : World) : Prop := ∃ (kb mr mw : Nat) (pv : Value) (ms : List G.M3), e = .returned (pt kb) ∧ Cl w' kb 71 [tv, pv, .map (some mr), .map (some mw), .slice none 0 0] ∧ w'.ownsMap Tryz.prog 9 tokR mr 0 (mapD []) ∧ w'.ownsMap Tryz.prog 9 tokR mw 0 (mapD []) ∧ w'.ownsRow w.heap.size 44 3 pv ms.length (G.mkCells ms) ∧ IsPT fs ms ∧ w.heap.size ≤ kb ∧ w.heap.size ≤ mr ∧ w.heap.size ≤ mw ∧ mr ≠ mw ∧ Below w.heap.size w w'
theorem row_mono {w : World} {b b' : Nat} {e : TypeId} {size : Nat} {v : Value} {n : Nat} {xs : List Value} (h : w.ownsRow b e size v n xs) (hb : b' ≤ b) : w.ownsRow b' e size v n xs := by
 refine ⟨h.1, ?_⟩
 rcases h.2 with h2 | ⟨g, cap, cur, hv, hg, hh, r⟩
 · exact .inl h2
 exact .inr ⟨g, cap, cur, hv, Nat.le_trans hb hg, hh, r⟩
theorem mk67 (u : World) : (Instr.makeMap 67 none).run Tryz.prog u = .ok (.map (some u.heap.size)) (u.alloc (.map #[] 0)) := by kernel_rfl
theorem mk68 (u : World) : (Instr.makeMap 68 none).run Tryz.prog u = .ok (.map (some u.heap.size)) (u.alloc (.map #[] 0)) := by kernel_rfl
set_option maxHeartbeats 16000000 in
theorem c18 (a : Option Addr) (cap : Nat) (fs : List F2) (w : World) (hfl : fs.length ≤ 1048576) (hs : ∀ i, (fs.getD i f2z).le 1048576) (hat : FilesAt w a fs) (hv : G.VarsZ w) :
 Calls Tryz.prog 18 #[.agg #[.slice a fs.length cap]] w fun e w' => New18 w fs (.slice a fs.length cap) e w' := by
 have hmk67 := mk67
 have hmk68 := mk68
 have HAT := hidI hat
 have HFS := hidI hs
 have HVZ : Hid (∀ u, Below w.heap.size w u → G.VarsZ u) := fun u hb => hv.below hb
 obtain ⟨w1, hw1⟩ : ∃ u : World, u = w.alloc (.cells #[.slice a fs.length cap] 31) := ⟨_, rfl⟩
 have HW1 := hidI hw1
 have hb1 : Below w.heap.size w w1 := by rw [hw1]; exact (Below.refl _ _).alloc (Nat.le_refl _) _
 have C1 : Cl w1 w.heap.size 31 [.slice a fs.length cap] := by rw [hw1]; exact cl_new w _ 31
 have q1 : w1.cell? ⟨w.heap.size, 0, none⟩ = some (.slice a fs.length cap) := C1.cell 0
 have hq1 : w.heap.size < w1.heap.size := C1.lt
 clear hat hs hv hw1 C1
 go_enter Tryz.func18, Tryz.ntmps18
 go_upto_region 1 with fail
 rw [← HW1.out]
 clear HW1
 refine wp_region_held_drew (S := fun u => u.cell? ⟨w.heap.size, 0, none⟩ = some (.slice a fs.length cap)) (by kernel_rfl) ?_ (fun hHeld => ?_)
 · exact q1
 obtain ⟨x, hx⟩ : ∃ x : World, x = w1.drew := ⟨_, rfl⟩
 rw [← hx] at hHeld ⊢
 have Lx : Below w.heap.size w x := by rw [hx]; exact hb1.drew
 have q0 : x.cell? ⟨w.heap.size, 0, none⟩ = some (.slice a fs.length cap) := hHeld
 have hq0 : w.heap.size < x.heap.size := by rw [hx]; exact hq1
 clear hx q1 hb1 hq1
 have Xx : Below x.heap.size x x := Below.refl _ _
 refine tq 0 hHeld ?_
 try simp only [qq]
 refine tq 1 hHeld ?_
 try simp only [qq]
 refine wpAnyH_ready (rs := [2, 3, 4]) (by kernel_rfl) (by simp) (AllReadyH.cons (o := ⟨some 5, .call ⟨.value (.func 29), #[.tmp 4], #[31]⟩, 61, _, _, none⟩) rfl (fun K hK => ?_) (AllReadyH.cons (o := ⟨some 6, .makeMap 67 none, 67, _, _, none⟩) rfl (fun K hK => ?_) (AllReadyH.cons (o := ⟨some 7, .makeMap 68 none, 68, _, _, none⟩) rfl (fun K hK => ?_) AllReadyH.nil)))
 · go_simp
   refine (G.c29 a cap fs x hfl HFS.out (G.T.files_below HAT.out Lx) (HVZ.out x Lx)).mono ?_
   rintro e x2 ⟨⟨ms, pv, rfl, hrow, hpt⟩, bx2⟩
   obtain ⟨pa, pc, hpv, _⟩ := G.own3_form hrow
   subst hpv
   have Px2 : Hid (x2.ownsRow w.heap.size 44 3 (.slice pa ms.length pc) ms.length (G.mkCells ms)) := hidI (row_mono hrow Lx.size)
   have HPT := hidI hpt
   clear hrow hpt
   go_simp
   have Lx2 : Below w.heap.size w x2 := Lx.trans (bx2.mono Lx.size)
   have Xx2 : Below x.heap.size x x2 := Xx.trans (bx2.mono Xx.size)
   clear hHeld
   refine hK.out _ _ ?_ (fun hHeld => ?_)
   · exact (Xx2.cell (p := ⟨w.heap.size, 0, none⟩) hq0).trans q0
   clear hK K
   try simp only [qq]
   refine wpAnyH_ready (rs := [3, 4]) (by kernel_rfl) (by simp) (AllReadyH.cons (o := ⟨some 6, .makeMap 67 none, 67, _, _, none⟩) rfl (fun K hK => ?_) (AllReadyH.cons (o := ⟨some 7, .makeMap 68 none, 68, _, _, none⟩) rfl (fun K hK => ?_) AllReadyH.nil))
   · go_simp
     obtain ⟨x23, hx23⟩ : ∃ uu : World, uu = x2.alloc (.map #[] 0) := ⟨_, rfl⟩
     rw [← hx23]
     have bx23 : Below x2.heap.size x2 x23 := by rw [hx23]; exact (Below.refl _ _).alloc (Nat.le_refl _) _
     have M3x23 : Hid (x23.ownsMap Tryz.prog 9 tokR x2.heap.size 0 (mapD [])) := by show World.ownsMap _ _ _ _ _ _ _; rw [hx23]; exact World.ownsMap_made x2 Tryz.prog 9 tokR
     clear hx23
     have Lx23 : Below w.heap.size w x23 := Lx2.trans (bx23.mono Lx2.size)
     have Xx23 : Below x.heap.size x x23 := Xx2.trans (bx23.mono Xx2.size)
     have Px23 := hidI (ownsRow_below Px2.out bx23)
     clear hHeld
     refine hK.out _ _ ?_ (fun hHeld => ?_)
     · exact (Xx23.cell (p := ⟨w.heap.size, 0, none⟩) hq0).trans q0
     clear hK K
     try simp only [qq]
     refine wpAnyH_ready (rs := [4]) (by kernel_rfl) (by simp) (AllReadyH.cons (o := ⟨some 7, .makeMap 68 none, 68, _, _, none⟩) rfl (fun K hK => ?_) AllReadyH.nil)
     go_simp
     obtain ⟨x234, hx234⟩ : ∃ uu : World, uu = x23.alloc (.map #[] 0) := ⟨_, rfl⟩
     rw [← hx234]
     have bx234 : Below x23.heap.size x23 x234 := by rw [hx234]; exact (Below.refl _ _).alloc (Nat.le_refl _) _
     have M4x234 : Hid (x234.ownsMap Tryz.prog 9 tokR x23.heap.size 0 (mapD [])) := by show World.ownsMap _ _ _ _ _ _ _; rw [hx234]; exact World.ownsMap_made x23 Tryz.prog 9 tokR
     clear hx234
     have Lx234 : Below w.heap.size w x234 := Lx23.trans (bx234.mono Lx23.size)
     have Xx234 : Below x.heap.size x x234 := Xx23.trans (bx234.mono Xx23.size)
     have Px234 := hidI (ownsRow_below Px23.out bx234)
     have M3x234 := hidI (mp_below M3x23.out bx234 (mp_lt M3x23.out))
     clear hHeld
     refine hK.out _ _ ?_ (fun hHeld => ?_)
     · exact (Xx234.cell (p := ⟨w.heap.size, 0, none⟩) hq0).trans q0
     clear hK K
     try simp only [qq]
     refine tq 5 hHeld ?_
     try simp only [qq]
     refine rq 6 (fun K hK => ?_)
     go_simp
     obtain ⟨z, hz⟩ : ∃ uu : World, uu = x234.alloc (.cells #[.slice a fs.length cap, .slice pa ms.length pc, .map (some x2.heap.size), .map (some x23.heap.size), .slice none 0 0] 71) := ⟨_, rfl⟩
     rw [← hz]
     have bz : Below x234.heap.size x234 z := by rw [hz]; exact (Below.refl _ _).alloc (Nat.le_refl _) _
     have CK : Hid (Cl z x234.heap.size 71 [.slice a fs.length cap, .slice pa ms.length pc, .map (some x2.heap.size), .map (some x23.heap.size), .slice none 0 0]) := by show Cl _ _ _ _; rw [hz]; exact cl_new x234 _ 71
     have Lz : Below w.heap.size w z := Lx234.trans (bz.mono Lx234.size)
     have Xz : Below x.heap.size x z := Xx234.trans (bz.mono Xx234.size)
     have PZ := hidI (ownsRow_below Px234.out bz)
     have M3z := hidI (mp_below M3x234.out bz (mp_lt M3x234.out))
     have M4z := hidI (mp_below M4x234.out bz (mp_lt M4x234.out))
     clear hz
     clear hHeld
     refine hK.out _ _ ?_ (fun hHeld => ?_)
     · exact (Xz.cell (p := ⟨w.heap.size, 0, none⟩) hq0).trans q0
     clear hK K
     try simp only [qq]
     refine tq 7 hHeld ?_
     try simp only [qq]
     refine wpAnyH_done (by kernel_rfl) ?_ _
     have hne : x2.heap.size ≠ x23.heap.size := by
      have h1 := mp_lt M3x23.out
      have h2 : x23.heap.size ≤ x23.heap.size := Nat.le_refl _
      omega
     have HRES : Hid (New18 w fs (.slice a fs.length cap) (.returned (pt x234.heap.size)) z) := hidI ⟨_, _, _, _, ms, rfl, CK.out, M3z.out, M4z.out, PZ.out, HPT.out, Lx234.size, (by have := mp_lt M3z.out; exact Lx2.size), Lx23.size, hne, Lz⟩
     clear hne hHeld
     go_wp2
     go_ret
     exact HRES.out
   go_simp
   obtain ⟨x24, hx24⟩ : ∃ uu : World, uu = x2.alloc (.map #[] 0) := ⟨_, rfl⟩
   rw [← hx24]
   have bx24 : Below x2.heap.size x2 x24 := by rw [hx24]; exact (Below.refl _ _).alloc (Nat.le_refl _) _
   have M4x24 : Hid (x24.ownsMap Tryz.prog 9 tokR x2.heap.size 0 (mapD [])) := by show World.ownsMap _ _ _ _ _ _ _; rw [hx24]; exact World.ownsMap_made x2 Tryz.prog 9 tokR
   clear hx24
   have Lx24 : Below w.heap.size w x24 := Lx2.trans (bx24.mono Lx2.size)
   have Xx24 : Below x.heap.size x x24 := Xx2.trans (bx24.mono Xx2.size)
   have Px24 := hidI (ownsRow_below Px2.out bx24)
   clear hHeld
   refine hK.out _ _ ?_ (fun hHeld => ?_)
   · exact (Xx24.cell (p := ⟨w.heap.size, 0, none⟩) hq0).trans q0
   clear hK K
   try simp only [qq]
   refine wpAnyH_ready (rs := [3]) (by kernel_rfl) (by simp) (AllReadyH.cons (o := ⟨some 6, .makeMap 67 none, 67, _, _, none⟩) rfl (fun K hK => ?_) AllReadyH.nil)
   go_simp
   obtain ⟨x243, hx243⟩ : ∃ uu : World, uu = x24.alloc (.map #[] 0) := ⟨_, rfl⟩
   rw [← hx243]
   have bx243 : Below x24.heap.size x24 x243 := by rw [hx243]; exact (Below.refl _ _).alloc (Nat.le_refl _) _
   have M3x243 : Hid (x243.ownsMap Tryz.prog 9 tokR x24.heap.size 0 (mapD [])) := by show World.ownsMap _ _ _ _ _ _ _; rw [hx243]; exact World.ownsMap_made x24 Tryz.prog 9 tokR
   clear hx243
   have Lx243 : Below w.heap.size w x243 := Lx24.trans (bx243.mono Lx24.size)
   have Xx243 : Below x.heap.size x x243 := Xx24.trans (bx243.mono Xx24.size)
   have Px243 := hidI (ownsRow_below Px24.out bx243)
   have M4x243 := hidI (mp_below M4x24.out bx243 (mp_lt M4x24.out))
   clear hHeld
   refine hK.out _ _ ?_ (fun hHeld => ?_)
   · exact (Xx243.cell (p := ⟨w.heap.size, 0, none⟩) hq0).trans q0
   clear hK K
   try simp only [qq]
   refine tq 5 hHeld ?_
   try simp only [qq]
   refine rq 6 (fun K hK => ?_)
   go_simp
   obtain ⟨z, hz⟩ : ∃ uu : World, uu = x243.alloc (.cells #[.slice a fs.length cap, .slice pa ms.length pc, .map (some x24.heap.size), .map (some x2.heap.size), .slice none 0 0] 71) := ⟨_, rfl⟩
   rw [← hz]
   have bz : Below x243.heap.size x243 z := by rw [hz]; exact (Below.refl _ _).alloc (Nat.le_refl _) _
   have CK : Hid (Cl z x243.heap.size 71 [.slice a fs.length cap, .slice pa ms.length pc, .map (some x24.heap.size), .map (some x2.heap.size), .slice none 0 0]) := by show Cl _ _ _ _; rw [hz]; exact cl_new x243 _ 71
   have Lz : Below w.heap.size w z := Lx243.trans (bz.mono Lx243.size)
   have Xz : Below x.heap.size x z := Xx243.trans (bz.mono Xx243.size)
   have PZ := hidI (ownsRow_below Px243.out bz)
   have M3z := hidI (mp_below M3x243.out bz (mp_lt M3x243.out))
   have M4z := hidI (mp_below M4x243.out bz (mp_lt M4x243.out))
   clear hz
   clear hHeld
   refine hK.out _ _ ?_ (fun hHeld => ?_)
   · exact (Xz.cell (p := ⟨w.heap.size, 0, none⟩) hq0).trans q0
   clear hK K
   try simp only [qq]
   refine tq 7 hHeld ?_
   try simp only [qq]
   refine wpAnyH_done (by kernel_rfl) ?_ _
   have hne : x24.heap.size ≠ x2.heap.size := by
    have h1 := mp_lt M4x24.out
    have h2 : x24.heap.size ≤ x24.heap.size := Nat.le_refl _
    omega
   have HRES : Hid (New18 w fs (.slice a fs.length cap) (.returned (pt x243.heap.size)) z) := hidI ⟨_, _, _, _, ms, rfl, CK.out, M3z.out, M4z.out, PZ.out, HPT.out, Lx243.size, (by have := mp_lt M3z.out; exact Lx24.size), Lx2.size, hne, Lz⟩
   clear hne hHeld
   go_wp2
   go_ret
   exact HRES.out
 · go_simp
   obtain ⟨x3, hx3⟩ : ∃ uu : World, uu = x.alloc (.map #[] 0) := ⟨_, rfl⟩
   rw [← hx3]
   have bx3 : Below x.heap.size x x3 := by rw [hx3]; exact (Below.refl _ _).alloc (Nat.le_refl _) _
   have M3x3 : Hid (x3.ownsMap Tryz.prog 9 tokR x.heap.size 0 (mapD [])) := by show World.ownsMap _ _ _ _ _ _ _; rw [hx3]; exact World.ownsMap_made x Tryz.prog 9 tokR
   clear hx3
   have Lx3 : Below w.heap.size w x3 := Lx.trans (bx3.mono Lx.size)
   have Xx3 : Below x.heap.size x x3 := Xx.trans (bx3.mono Xx.size)
   clear hHeld
   refine hK.out _ _ ?_ (fun hHeld => ?_)
   · exact (Xx3.cell (p := ⟨w.heap.size, 0, none⟩) hq0).trans q0
   clear hK K
   try simp only [qq]
   refine wpAnyH_ready (rs := [2, 4]) (by kernel_rfl) (by simp) (AllReadyH.cons (o := ⟨some 5, .call ⟨.value (.func 29), #[.tmp 4], #[31]⟩, 61, _, _, none⟩) rfl (fun K hK => ?_) (AllReadyH.cons (o := ⟨some 7, .makeMap 68 none, 68, _, _, none⟩) rfl (fun K hK => ?_) AllReadyH.nil))
   · go_simp
     refine (G.c29 a cap fs x3 hfl HFS.out (G.T.files_below HAT.out Lx3) (HVZ.out x3 Lx3)).mono ?_
     rintro e x32 ⟨⟨ms, pv, rfl, hrow, hpt⟩, bx32⟩
     obtain ⟨pa, pc, hpv, _⟩ := G.own3_form hrow
     subst hpv
     have Px32 : Hid (x32.ownsRow w.heap.size 44 3 (.slice pa ms.length pc) ms.length (G.mkCells ms)) := hidI (row_mono hrow Lx3.size)
     have HPT := hidI hpt
     clear hrow hpt
     go_simp
     have Lx32 : Below w.heap.size w x32 := Lx3.trans (bx32.mono Lx3.size)
     have Xx32 : Below x.heap.size x x32 := Xx3.trans (bx32.mono Xx3.size)
     have M3x32 := hidI (mp_below M3x3.out bx32 (mp_lt M3x3.out))
     clear hHeld
     refine hK.out _ _ ?_ (fun hHeld => ?_)
     · exact (Xx32.cell (p := ⟨w.heap.size, 0, none⟩) hq0).trans q0
     clear hK K
     try simp only [qq]
     refine wpAnyH_ready (rs := [4]) (by kernel_rfl) (by simp) (AllReadyH.cons (o := ⟨some 7, .makeMap 68 none, 68, _, _, none⟩) rfl (fun K hK => ?_) AllReadyH.nil)
     go_simp
     obtain ⟨x324, hx324⟩ : ∃ uu : World, uu = x32.alloc (.map #[] 0) := ⟨_, rfl⟩
     rw [← hx324]
     have bx324 : Below x32.heap.size x32 x324 := by rw [hx324]; exact (Below.refl _ _).alloc (Nat.le_refl _) _
     have M4x324 : Hid (x324.ownsMap Tryz.prog 9 tokR x32.heap.size 0 (mapD [])) := by show World.ownsMap _ _ _ _ _ _ _; rw [hx324]; exact World.ownsMap_made x32 Tryz.prog 9 tokR
     clear hx324
     have Lx324 : Below w.heap.size w x324 := Lx32.trans (bx324.mono Lx32.size)
     have Xx324 : Below x.heap.size x x324 := Xx32.trans (bx324.mono Xx32.size)
     have M3x324 := hidI (mp_below M3x32.out bx324 (mp_lt M3x32.out))
     have Px324 := hidI (ownsRow_below Px32.out bx324)
     clear hHeld
     refine hK.out _ _ ?_ (fun hHeld => ?_)
     · exact (Xx324.cell (p := ⟨w.heap.size, 0, none⟩) hq0).trans q0
     clear hK K
     try simp only [qq]
     refine tq 5 hHeld ?_
     try simp only [qq]
     refine rq 6 (fun K hK => ?_)
     go_simp
     obtain ⟨z, hz⟩ : ∃ uu : World, uu = x324.alloc (.cells #[.slice a fs.length cap, .slice pa ms.length pc, .map (some x.heap.size), .map (some x32.heap.size), .slice none 0 0] 71) := ⟨_, rfl⟩
     rw [← hz]
     have bz : Below x324.heap.size x324 z := by rw [hz]; exact (Below.refl _ _).alloc (Nat.le_refl _) _
     have CK : Hid (Cl z x324.heap.size 71 [.slice a fs.length cap, .slice pa ms.length pc, .map (some x.heap.size), .map (some x32.heap.size), .slice none 0 0]) := by show Cl _ _ _ _; rw [hz]; exact cl_new x324 _ 71
     have Lz : Below w.heap.size w z := Lx324.trans (bz.mono Lx324.size)
     have Xz : Below x.heap.size x z := Xx324.trans (bz.mono Xx324.size)
     have PZ := hidI (ownsRow_below Px324.out bz)
     have M3z := hidI (mp_below M3x324.out bz (mp_lt M3x324.out))
     have M4z := hidI (mp_below M4x324.out bz (mp_lt M4x324.out))
     clear hz
     clear hHeld
     refine hK.out _ _ ?_ (fun hHeld => ?_)
     · exact (Xz.cell (p := ⟨w.heap.size, 0, none⟩) hq0).trans q0
     clear hK K
     try simp only [qq]
     refine tq 7 hHeld ?_
     try simp only [qq]
     refine wpAnyH_done (by kernel_rfl) ?_ _
     have hne : x.heap.size ≠ x32.heap.size := by
      have h1 := mp_lt M3x3.out
      have h2 : x3.heap.size ≤ x32.heap.size := bx32.size
      omega
     have HRES : Hid (New18 w fs (.slice a fs.length cap) (.returned (pt x324.heap.size)) z) := hidI ⟨_, _, _, _, ms, rfl, CK.out, M3z.out, M4z.out, PZ.out, HPT.out, Lx324.size, (by have := mp_lt M3z.out; exact Lx.size), Lx32.size, hne, Lz⟩
     clear hne hHeld
     go_wp2
     go_ret
     exact HRES.out
   go_simp
   obtain ⟨x34, hx34⟩ : ∃ uu : World, uu = x3.alloc (.map #[] 0) := ⟨_, rfl⟩
   rw [← hx34]
   have bx34 : Below x3.heap.size x3 x34 := by rw [hx34]; exact (Below.refl _ _).alloc (Nat.le_refl _) _
   have M4x34 : Hid (x34.ownsMap Tryz.prog 9 tokR x3.heap.size 0 (mapD [])) := by show World.ownsMap _ _ _ _ _ _ _; rw [hx34]; exact World.ownsMap_made x3 Tryz.prog 9 tokR
   clear hx34
   have Lx34 : Below w.heap.size w x34 := Lx3.trans (bx34.mono Lx3.size)
   have Xx34 : Below x.heap.size x x34 := Xx3.trans (bx34.mono Xx3.size)
   have M3x34 := hidI (mp_below M3x3.out bx34 (mp_lt M3x3.out))
   clear hHeld
   refine hK.out _ _ ?_ (fun hHeld => ?_)
   · exact (Xx34.cell (p := ⟨w.heap.size, 0, none⟩) hq0).trans q0
   clear hK K
   try simp only [qq]
   refine wpAnyH_ready (rs := [2]) (by kernel_rfl) (by simp) (AllReadyH.cons (o := ⟨some 5, .call ⟨.value (.func 29), #[.tmp 4], #[31]⟩, 61, _, _, none⟩) rfl (fun K hK => ?_) AllReadyH.nil)
   go_simp
   refine (G.c29 a cap fs x34 hfl HFS.out (G.T.files_below HAT.out Lx34) (HVZ.out x34 Lx34)).mono ?_
   rintro e x342 ⟨⟨ms, pv, rfl, hrow, hpt⟩, bx342⟩
   obtain ⟨pa, pc, hpv, _⟩ := G.own3_form hrow
   subst hpv
   have Px342 : Hid (x342.ownsRow w.heap.size 44 3 (.slice pa ms.length pc) ms.length (G.mkCells ms)) := hidI (row_mono hrow Lx34.size)
   have HPT := hidI hpt
   clear hrow hpt
   go_simp
   have Lx342 : Below w.heap.size w x342 := Lx34.trans (bx342.mono Lx34.size)
   have Xx342 : Below x.heap.size x x342 := Xx34.trans (bx342.mono Xx34.size)
   have M3x342 := hidI (mp_below M3x34.out bx342 (mp_lt M3x34.out))
   have M4x342 := hidI (mp_below M4x34.out bx342 (mp_lt M4x34.out))
   clear hHeld
   refine hK.out _ _ ?_ (fun hHeld => ?_)
   · exact (Xx342.cell (p := ⟨w.heap.size, 0, none⟩) hq0).trans q0
   clear hK K
   try simp only [qq]
   refine tq 5 hHeld ?_
   try simp only [qq]
   refine rq 6 (fun K hK => ?_)
   go_simp
   obtain ⟨z, hz⟩ : ∃ uu : World, uu = x342.alloc (.cells #[.slice a fs.length cap, .slice pa ms.length pc, .map (some x.heap.size), .map (some x3.heap.size), .slice none 0 0] 71) := ⟨_, rfl⟩
   rw [← hz]
   have bz : Below x342.heap.size x342 z := by rw [hz]; exact (Below.refl _ _).alloc (Nat.le_refl _) _
   have CK : Hid (Cl z x342.heap.size 71 [.slice a fs.length cap, .slice pa ms.length pc, .map (some x.heap.size), .map (some x3.heap.size), .slice none 0 0]) := by show Cl _ _ _ _; rw [hz]; exact cl_new x342 _ 71
   have Lz : Below w.heap.size w z := Lx342.trans (bz.mono Lx342.size)
   have Xz : Below x.heap.size x z := Xx342.trans (bz.mono Xx342.size)
   have PZ := hidI (ownsRow_below Px342.out bz)
   have M3z := hidI (mp_below M3x342.out bz (mp_lt M3x342.out))
   have M4z := hidI (mp_below M4x342.out bz (mp_lt M4x342.out))
   clear hz
   clear hHeld
   refine hK.out _ _ ?_ (fun hHeld => ?_)
   · exact (Xz.cell (p := ⟨w.heap.size, 0, none⟩) hq0).trans q0
   clear hK K
   try simp only [qq]
   refine tq 7 hHeld ?_
   try simp only [qq]
   refine wpAnyH_done (by kernel_rfl) ?_ _
   have hne : x.heap.size ≠ x3.heap.size := by
    have h1 := mp_lt M3x3.out
    have h2 : x3.heap.size ≤ x3.heap.size := Nat.le_refl _
    omega
   have HRES : Hid (New18 w fs (.slice a fs.length cap) (.returned (pt x342.heap.size)) z) := hidI ⟨_, _, _, _, ms, rfl, CK.out, M3z.out, M4z.out, PZ.out, HPT.out, Lx342.size, (by have := mp_lt M3z.out; exact Lx.size), Lx3.size, hne, Lz⟩
   clear hne hHeld
   go_wp2
   go_ret
   exact HRES.out
 go_simp
 obtain ⟨x4, hx4⟩ : ∃ uu : World, uu = x.alloc (.map #[] 0) := ⟨_, rfl⟩
 rw [← hx4]
 have bx4 : Below x.heap.size x x4 := by rw [hx4]; exact (Below.refl _ _).alloc (Nat.le_refl _) _
 have M4x4 : Hid (x4.ownsMap Tryz.prog 9 tokR x.heap.size 0 (mapD [])) := by show World.ownsMap _ _ _ _ _ _ _; rw [hx4]; exact World.ownsMap_made x Tryz.prog 9 tokR
 clear hx4
 have Lx4 : Below w.heap.size w x4 := Lx.trans (bx4.mono Lx.size)
 have Xx4 : Below x.heap.size x x4 := Xx.trans (bx4.mono Xx.size)
 clear hHeld
 refine hK.out _ _ ?_ (fun hHeld => ?_)
 · exact (Xx4.cell (p := ⟨w.heap.size, 0, none⟩) hq0).trans q0
 clear hK K
 try simp only [qq]
 refine wpAnyH_ready (rs := [2, 3]) (by kernel_rfl) (by simp) (AllReadyH.cons (o := ⟨some 5, .call ⟨.value (.func 29), #[.tmp 4], #[31]⟩, 61, _, _, none⟩) rfl (fun K hK => ?_) (AllReadyH.cons (o := ⟨some 6, .makeMap 67 none, 67, _, _, none⟩) rfl (fun K hK => ?_) AllReadyH.nil))
 · go_simp
   refine (G.c29 a cap fs x4 hfl HFS.out (G.T.files_below HAT.out Lx4) (HVZ.out x4 Lx4)).mono ?_
   rintro e x42 ⟨⟨ms, pv, rfl, hrow, hpt⟩, bx42⟩
   obtain ⟨pa, pc, hpv, _⟩ := G.own3_form hrow
   subst hpv
   have Px42 : Hid (x42.ownsRow w.heap.size 44 3 (.slice pa ms.length pc) ms.length (G.mkCells ms)) := hidI (row_mono hrow Lx4.size)
   have HPT := hidI hpt
   clear hrow hpt
   go_simp
   have Lx42 : Below w.heap.size w x42 := Lx4.trans (bx42.mono Lx4.size)
   have Xx42 : Below x.heap.size x x42 := Xx4.trans (bx42.mono Xx4.size)
   have M4x42 := hidI (mp_below M4x4.out bx42 (mp_lt M4x4.out))
   clear hHeld
   refine hK.out _ _ ?_ (fun hHeld => ?_)
   · exact (Xx42.cell (p := ⟨w.heap.size, 0, none⟩) hq0).trans q0
   clear hK K
   try simp only [qq]
   refine wpAnyH_ready (rs := [3]) (by kernel_rfl) (by simp) (AllReadyH.cons (o := ⟨some 6, .makeMap 67 none, 67, _, _, none⟩) rfl (fun K hK => ?_) AllReadyH.nil)
   go_simp
   obtain ⟨x423, hx423⟩ : ∃ uu : World, uu = x42.alloc (.map #[] 0) := ⟨_, rfl⟩
   rw [← hx423]
   have bx423 : Below x42.heap.size x42 x423 := by rw [hx423]; exact (Below.refl _ _).alloc (Nat.le_refl _) _
   have M3x423 : Hid (x423.ownsMap Tryz.prog 9 tokR x42.heap.size 0 (mapD [])) := by show World.ownsMap _ _ _ _ _ _ _; rw [hx423]; exact World.ownsMap_made x42 Tryz.prog 9 tokR
   clear hx423
   have Lx423 : Below w.heap.size w x423 := Lx42.trans (bx423.mono Lx42.size)
   have Xx423 : Below x.heap.size x x423 := Xx42.trans (bx423.mono Xx42.size)
   have M4x423 := hidI (mp_below M4x42.out bx423 (mp_lt M4x42.out))
   have Px423 := hidI (ownsRow_below Px42.out bx423)
   clear hHeld
   refine hK.out _ _ ?_ (fun hHeld => ?_)
   · exact (Xx423.cell (p := ⟨w.heap.size, 0, none⟩) hq0).trans q0
   clear hK K
   try simp only [qq]
   refine tq 5 hHeld ?_
   try simp only [qq]
   refine rq 6 (fun K hK => ?_)
   go_simp
   obtain ⟨z, hz⟩ : ∃ uu : World, uu = x423.alloc (.cells #[.slice a fs.length cap, .slice pa ms.length pc, .map (some x42.heap.size), .map (some x.heap.size), .slice none 0 0] 71) := ⟨_, rfl⟩
   rw [← hz]
   have bz : Below x423.heap.size x423 z := by rw [hz]; exact (Below.refl _ _).alloc (Nat.le_refl _) _
   have CK : Hid (Cl z x423.heap.size 71 [.slice a fs.length cap, .slice pa ms.length pc, .map (some x42.heap.size), .map (some x.heap.size), .slice none 0 0]) := by show Cl _ _ _ _; rw [hz]; exact cl_new x423 _ 71
   have Lz : Below w.heap.size w z := Lx423.trans (bz.mono Lx423.size)
   have Xz : Below x.heap.size x z := Xx423.trans (bz.mono Xx423.size)
   have PZ := hidI (ownsRow_below Px423.out bz)
   have M3z := hidI (mp_below M3x423.out bz (mp_lt M3x423.out))
   have M4z := hidI (mp_below M4x423.out bz (mp_lt M4x423.out))
   clear hz
   clear hHeld
   refine hK.out _ _ ?_ (fun hHeld => ?_)
   · exact (Xz.cell (p := ⟨w.heap.size, 0, none⟩) hq0).trans q0
   clear hK K
   try simp only [qq]
   refine tq 7 hHeld ?_
   try simp only [qq]
   refine wpAnyH_done (by kernel_rfl) ?_ _
   have hne : x42.heap.size ≠ x.heap.size := by
    have h1 := mp_lt M4x4.out
    have h2 : x4.heap.size ≤ x42.heap.size := bx42.size
    omega
   have HRES : Hid (New18 w fs (.slice a fs.length cap) (.returned (pt x423.heap.size)) z) := hidI ⟨_, _, _, _, ms, rfl, CK.out, M3z.out, M4z.out, PZ.out, HPT.out, Lx423.size, (by have := mp_lt M3z.out; exact Lx42.size), Lx.size, hne, Lz⟩
   clear hne hHeld
   go_wp2
   go_ret
   exact HRES.out
 go_simp
 obtain ⟨x43, hx43⟩ : ∃ uu : World, uu = x4.alloc (.map #[] 0) := ⟨_, rfl⟩
 rw [← hx43]
 have bx43 : Below x4.heap.size x4 x43 := by rw [hx43]; exact (Below.refl _ _).alloc (Nat.le_refl _) _
 have M3x43 : Hid (x43.ownsMap Tryz.prog 9 tokR x4.heap.size 0 (mapD [])) := by show World.ownsMap _ _ _ _ _ _ _; rw [hx43]; exact World.ownsMap_made x4 Tryz.prog 9 tokR
 clear hx43
 have Lx43 : Below w.heap.size w x43 := Lx4.trans (bx43.mono Lx4.size)
 have Xx43 : Below x.heap.size x x43 := Xx4.trans (bx43.mono Xx4.size)
 have M4x43 := hidI (mp_below M4x4.out bx43 (mp_lt M4x4.out))
 clear hHeld
 refine hK.out _ _ ?_ (fun hHeld => ?_)
 · exact (Xx43.cell (p := ⟨w.heap.size, 0, none⟩) hq0).trans q0
 clear hK K
 try simp only [qq]
 refine wpAnyH_ready (rs := [2]) (by kernel_rfl) (by simp) (AllReadyH.cons (o := ⟨some 5, .call ⟨.value (.func 29), #[.tmp 4], #[31]⟩, 61, _, _, none⟩) rfl (fun K hK => ?_) AllReadyH.nil)
 go_simp
 refine (G.c29 a cap fs x43 hfl HFS.out (G.T.files_below HAT.out Lx43) (HVZ.out x43 Lx43)).mono ?_
 rintro e x432 ⟨⟨ms, pv, rfl, hrow, hpt⟩, bx432⟩
 obtain ⟨pa, pc, hpv, _⟩ := G.own3_form hrow
 subst hpv
 have Px432 : Hid (x432.ownsRow w.heap.size 44 3 (.slice pa ms.length pc) ms.length (G.mkCells ms)) := hidI (row_mono hrow Lx43.size)
 have HPT := hidI hpt
 clear hrow hpt
 go_simp
 have Lx432 : Below w.heap.size w x432 := Lx43.trans (bx432.mono Lx43.size)
 have Xx432 : Below x.heap.size x x432 := Xx43.trans (bx432.mono Xx43.size)
 have M4x432 := hidI (mp_below M4x43.out bx432 (mp_lt M4x43.out))
 have M3x432 := hidI (mp_below M3x43.out bx432 (mp_lt M3x43.out))
 clear hHeld
 refine hK.out _ _ ?_ (fun hHeld => ?_)
 · exact (Xx432.cell (p := ⟨w.heap.size, 0, none⟩) hq0).trans q0
 clear hK K
 try simp only [qq]
 refine tq 5 hHeld ?_
 try simp only [qq]
 refine rq 6 (fun K hK => ?_)
 go_simp
 obtain ⟨z, hz⟩ : ∃ uu : World, uu = x432.alloc (.cells #[.slice a fs.length cap, .slice pa ms.length pc, .map (some x4.heap.size), .map (some x.heap.size), .slice none 0 0] 71) := ⟨_, rfl⟩
 rw [← hz]
 have bz : Below x432.heap.size x432 z := by rw [hz]; exact (Below.refl _ _).alloc (Nat.le_refl _) _
 have CK : Hid (Cl z x432.heap.size 71 [.slice a fs.length cap, .slice pa ms.length pc, .map (some x4.heap.size), .map (some x.heap.size), .slice none 0 0]) := by show Cl _ _ _ _; rw [hz]; exact cl_new x432 _ 71
 have Lz : Below w.heap.size w z := Lx432.trans (bz.mono Lx432.size)
 have Xz : Below x.heap.size x z := Xx432.trans (bz.mono Xx432.size)
 have PZ := hidI (ownsRow_below Px432.out bz)
 have M3z := hidI (mp_below M3x432.out bz (mp_lt M3x432.out))
 have M4z := hidI (mp_below M4x432.out bz (mp_lt M4x432.out))
 clear hz
 clear hHeld
 refine hK.out _ _ ?_ (fun hHeld => ?_)
 · exact (Xz.cell (p := ⟨w.heap.size, 0, none⟩) hq0).trans q0
 clear hK K
 try simp only [qq]
 refine tq 7 hHeld ?_
 try simp only [qq]
 refine wpAnyH_done (by kernel_rfl) ?_ _
 have hne : x4.heap.size ≠ x.heap.size := by
  have h1 := mp_lt M4x4.out
  have h2 : x4.heap.size ≤ x4.heap.size := Nat.le_refl _
  omega
 have HRES : Hid (New18 w fs (.slice a fs.length cap) (.returned (pt x432.heap.size)) z) := hidI ⟨_, _, _, _, ms, rfl, CK.out, M3z.out, M4z.out, PZ.out, HPT.out, Lx432.size, (by have := mp_lt M3z.out; exact Lx4.size), Lx.size, hne, Lz⟩
 clear hne hHeld
 go_wp2
 go_ret
 exact HRES.out
end Go.Proofs.YtehddlceipbpeaaGreatDoor
namespace Go.Proofs.YtehddlceipbpeaaGreatDoor
open Go.RowKit
open G (IsPT)
open G.T (F2 f2z treeOk FilesAt)
set_option maxRecDepth 100000
set_option linter.unusedVariables false
open Classical in
noncomputable def ow0 (kb mr mw : Nat) (pv : Value) (k : Nat) : Option Ow := if k = kb then some .kb else if k = mr then some .mr else if k = mw then some .mw else if pv.ownBlock = some k then some .pl else none
noncomputable def gh0 (kb mr mw : Nat) (pv : Value) : Gh := ⟨[], [], .slice none 0 0, ow0 kb mr mw pv, [], []⟩
theorem shp0 {w w' : World} {a : Option Addr} {cap : Nat} {fs : List F2} {kb mr mw : Nat} {pv : Value} {ms : List G.M3} (hk : Cl w' kb 71 [.slice a fs.length cap, pv, .map (some mr), .map (some mw), .slice none 0 0]) (h1 : w'.ownsMap Tryz.prog 9 tokR mr 0 (mapD [])) (h2 : w'.ownsMap Tryz.prog 9 tokR mw 0 (mapD [])) (hp : w'.ownsRow w.heap.size 44 3 pv ms.length (G.mkCells ms)) (l1 : w.heap.size ≤ kb) (l2 : w.heap.size ≤ mr) (l3 : w.heap.size ≤ mw) (hne : mr ≠ mw) (hb : Below w.heap.size w w') : Shp ⟨w, kb, mr, mw, a, cap, fs, pv, ms⟩ (gh0 kb mr mw pv) w' := by
 have n1 : kb ≠ mr := cells_ne_map (hk.cell 0) (mp_isMap h1).choose_spec.choose_spec
 have n2 : kb ≠ mw := cells_ne_map (hk.cell 0) (mp_isMap h2).choose_spec.choose_spec
 have hpl : ∀ k, pv.ownBlock = some k → k ≠ kb ∧ k ≠ mr ∧ k ≠ mw ∧ w.heap.size ≤ k := fun k e => by
  obtain ⟨hge, cur, hcu⟩ := own_block hp e
  refine ⟨blk_ne hcu hk (by decide), fun c => ?_, fun c => ?_, hge⟩
  · obtain ⟨es, ck, hm⟩ := mp_isMap h1
    rw [c, hm] at hcu
    cases hcu
  obtain ⟨es, ck, hm⟩ := mp_isMap h2
  rw [c, hm] at hcu
  cases hcu
 exact {
  bl := hb
  oge := fun k o e => by
   show w.heap.size ≤ k
   have e : ow0 kb mr mw pv k = some o := e
   unfold ow0 at e
   split at e
   · omega
   split at e
   · omega
   split at e
   · omega
   split at e
   · exact (hpl k (by assumption)).2.2.2
   cases e
  kb := hk
  okb := by show ow0 kb mr mw pv kb = _; unfold ow0; rw [if_pos rfl]
  mr := h1
  ar := List.Pairwise.nil
  omr := by show ow0 kb mr mw pv mr = _; unfold ow0; rw [if_neg n1.symm, if_pos rfl]
  mw := h2
  aw := List.Pairwise.nil
  omw := by show ow0 kb mr mw pv mw = _; unfold ow0; rw [if_neg n2.symm, if_neg hne.symm, if_pos rfl]
  pl := hp
  opl := fun k e => by
   obtain ⟨q1, q2, q3, _⟩ := hpl k e
   show ow0 kb mr mw pv k = _
   unfold ow0
   rw [if_neg q1, if_neg q2, if_neg q3, if_pos e]
  rd := .inl ⟨rfl, rfl⟩
  ord := fun k e => by cases e
  its := fun it h => by cases h
  ru := fun i x e => by cases e
  oru := fun i x e => by cases e
  wr := fun i x e => by cases e
  owr := fun i x e => by cases e
  wlt := fun i x e => by cases e
  key := fun i x e => by cases e
  only := fun n h => absurd rfl h
  kw := fun i x e => by cases e
  kwo := fun n h => absurd rfl h
  inj := fun i j x y e => by cases e
  qlt := fun it h => by cases h }
theorem lgc0 (E : Env) (kb mr mw : Nat) (pv : Value) : Lgc E (gh0 kb mr mw pv) none :=
 ⟨(fun i x e => by cases e), (fun i j x y e => by cases e), (fun i x e => by cases e), (fun i x e => by cases e), (fun i x e => by cases e), (fun i x e => by cases e), (fun i x e => by cases e), List.nodup_nil, (fun i h => by cases h), (fun i r b7 b5 h => by cases h), (fun i x j e => by cases e), (fun j y e => by cases e)⟩
set_option maxHeartbeats 8000000 in
theorem c7y (a : Option Addr) (cap : Nat) (fs : List F2) (ms : List G.M3) (nm : ByteArray) (w : World) (hat : FilesAt w a fs) (ht : treeOk fs) (hp : IsPT fs ms) (hn : nameOk nm.data.toList = true) (hv : G.VarsZ w) (hsh : ShapesAt w) (hmx : MaxAt w) (hten : 10 ≤ w.heap.size) :
 Calls Tryz.prog 7 #[.agg #[.slice a fs.length cap], .string nm] w fun e w' => e = .returned (.agg #[.int .i64 (wantF (envOf fs ms) nm).code, .string (wantF (envOf fs ms) nm).tx]) ∧ Below w.heap.size w w' := by
 have HAT := hidI hat
 have HT := hidI ht
 have HP := hidI hp
 have HV := hidI hv
 have HSH := hidI hsh
 have HMX := hidI hmx
 have HNM := hidI hn
 have hfl : fs.length ≤ 1048576 := by have := ht.1; omega
 have HF := hidI (tree_le ht)
 have hns : nm.size ≤ 20 := name_le hn
 have hB0 : ∀ o1 o2, Below w.heap.size w ((w.alloc o1).alloc o2) := fun o1 o2 => ((Below.refl _ _).alloc (Nat.le_refl _) _).alloc (by simp) _
 obtain ⟨wr, HWA⟩ : ∃ r, Hid (wantF (envOf fs ms) nm = r) := ⟨_, rfl⟩
 rw [HWA.out]
 obtain ⟨rc, rt⟩ := wr
 dsimp only
 clear hat ht hp hv hsh hmx
 go_enter Tryz.func7, Tryz.ntmps7
 go_wp2_with fail
 refine (G.T.c16 a cap fs _ hfl HF.out (G.T.files_below HAT.out (hB0 _ _))).mono ?_
 rintro e w1 ⟨⟨b, rfl, hb⟩, hb1⟩
 obtain rfl : b = true := hb.2 HT.out
 have hB1 : Below w.heap.size w w1 := (hB0 _ _).trans (hb1.mono (by simp; omega))
 have hx1 : Below (w.heap.size + 2) ((w.alloc (.cells #[.slice a fs.length cap] 31)).alloc (.cells #[.int .i64 0, .string ⟨#[]⟩] 27)) w1 := by have h := hb1; simp at h; exact h
 obtain ⟨q0, ⟨y0, y1⟩, f0, f1⟩ := G.rzU hx1
 have hz1 : w.heap.size + 2 ≤ w1.heap.size := by have := hx1.size; simp at this; omega
 clear hb hb1 hx1 hB0
 go_wp2_with fail
 refine (G.T.c17 nm w1 (by omega)).mono ?_
 rintro e w2 ⟨he, hw2⟩
 obtain rfl := hw2
 have e' : e = .returned (.bool true) := by rw [he]; exact congrArg (fun b => Ending.returned (.bool b)) hn
 subst e'
 clear he
 go_wp2_with fail
 refine (c18 a cap fs _ hfl HF.out (G.T.files_below HAT.out hB1) (HV.out.below hB1)).mono ?_
 rintro e w3 ⟨kb, mr, mw, pv, ms', rfl, hk, hm1, hm2, hrow, hpt, l1, l2, l3, hne, hb3⟩
 obtain rfl := G.isPT_one HP.out hpt
 rw [show pt kb = .pointer (some ⟨kb, 0, none⟩) from rfl]
 have HFK : Hid (Fok ⟨w2, kb, mr, mw, a, cap, fs, pv, ms⟩ (envOf fs ms)) := hidI ⟨by show 10 ≤ w2.heap.size; omega, shapes_base HSH.out hB1 hten, max_base HMX.out hB1 hten, G.T.files_below HAT.out hB1, HT.out, HP.out, rfl⟩
 have hs0 := shp0 (a := a) (cap := cap) (fs := fs) hk hm1 hm2 hrow l1 l2 l3 hne hb3
 have HC := hidI (c19 _ _ HFK.out _ nm w3 hs0 (lgc0 (envOf fs ms) kb mr mw pv) rfl HNM.out)
 have hB3 : Below w.heap.size w w3 := hB1.trans (hb3.mono hB1.size)
 have HB3b : Hid (Below w2.heap.size w2 w3) := hidI hb3
 clear hs0 hk hm1 hm2 hrow hpt l1 l2 l3 hne hb3
 go_wp2_with fail
 refine HC.out.mono ?_
 rintro e w4 ⟨s0, b1, s2, s3, s4, la, ln, lc, wt, he, hb4⟩
 rw [HWA.out] at he
 have he' : e = .returned (.tuple #[.agg #[.string s0, .bool b1, .string s2, .string s3, .string s4, .slice la ln lc, .int .i64 rc, .string rt], .string wt]) := he
 subst he'
 have hb4' : Below w2.heap.size w3 w4 := hb4
 have hB24 : Below w2.heap.size w2 w4 := HB3b.out.trans hb4'
 have hB4 : Below w.heap.size w w4 := hB1.trans (hB24.mono hB1.size)
 have hq1 : w.heap.size + 1 < w2.heap.size := by omega
 have z0 : w4.cell? ⟨w.heap.size + 1, 0, none⟩ = some (.int .i64 0) := (hB24.cell (p := ⟨w.heap.size + 1, 0, none⟩) hq1).trans y0
 have z1 : w4.cell? ⟨w.heap.size + 1, 1, none⟩ = some (.string ⟨#[]⟩) := (hB24.cell (p := ⟨w.heap.size + 1, 1, none⟩) hq1).trans y1
 have k0 : w4.frozen? ⟨w.heap.size + 1, 0, none⟩ = false := (hB24.frozen (p := ⟨w.heap.size + 1, 0, none⟩) hq1).trans f0
 have k1 : w4.frozen? ⟨w.heap.size + 1, 1, none⟩ = false := (hB24.frozen (p := ⟨w.heap.size + 1, 1, none⟩) hq1).trans f1
 have hz4 : w.heap.size + 1 < w4.heap.size := Nat.lt_of_lt_of_le hq1 hB24.size
 clear he hb4 hb4' hB24 y0 y1 f0 f1 q0 HC HB3b hB3
 go_wp2
 have F := G.set2_at' w4 (w.heap.size + 1) (.int .i64 rc) (.string rt) _ _ z0 z1
 have hBU : Below w.heap.size w ((w4.setCell ⟨w.heap.size + 1, 0, none⟩ (.int .i64 rc)).setCell ⟨w.heap.size + 1, 1, none⟩ (.string rt)) := (hB4.setCell (by simp) _).setCell (by simp) _
 have hszU : w.heap.size + 1 < ((w4.setCell ⟨w.heap.size + 1, 0, none⟩ (.int .i64 rc)).setCell ⟨w.heap.size + 1, 1, none⟩ (.string rt)).heap.size := by simpa using hz4
 generalize ((w4.setCell ⟨w.heap.size + 1, 0, none⟩ (.int .i64 rc)).setCell ⟨w.heap.size + 1, 1, none⟩ (.string rt)) = U at *
 have F1 := fun o => (G.cell_al hszU 0 o).trans F.1
 have F2 := fun o => (G.cell_al hszU 1 o).trans F.2
 refine bodyPost_ret (v := .agg #[.int .i64 rc, .string rt]) (by simp [results, Tryz.results7, go_sem, F1, F2]) rfl ⟨rfl, ?_⟩
 exact hBU.alloc hBU.size _
set_option maxHeartbeats 4000000 in
theorem c7n (a : Option Addr) (cap : Nat) (fs : List F2) (nm : ByteArray) (w : World) (hl : fs.length ≤ 1048576) (hs : ∀ i, (fs.getD i f2z).le 1048576) (hat : FilesAt w a fs) (hns : nm.size ≤ 1048576) (hno : ¬ treeOk fs ∨ nameOk nm.data.toList = false) :
 Calls Tryz.prog 7 #[.agg #[.slice a fs.length cap], .string nm] w fun e w' => e = .returned (.agg #[.int .i64 2, .string ⟨#[]⟩]) ∧ Below w.heap.size w w' := by
 have HAT := hidI hat
 have HF := hidI hs
 have HN := hidI hno
 have hB0 : ∀ o1 o2, Below w.heap.size w ((w.alloc o1).alloc o2) := fun o1 o2 => ((Below.refl _ _).alloc (Nat.le_refl _) _).alloc (by simp) _
 clear hat hs hno
 go_enter Tryz.func7, Tryz.ntmps7
 go_wp2_with fail
 refine (G.T.c16 a cap fs _ hl HF.out (G.T.files_below HAT.out (hB0 _ _))).mono ?_
 rintro e w1 ⟨⟨b, rfl, hb⟩, hb1⟩
 have hB1 : Below w.heap.size w w1 := (hB0 _ _).trans (hb1.mono (by simp; omega))
 have hx1 : Below (w.heap.size + 2) ((w.alloc (.cells #[.slice a fs.length cap] 31)).alloc (.cells #[.int .i64 0, .string ⟨#[]⟩] 27)) w1 := by have h := hb1; simp at h; exact h
 obtain ⟨q0, ⟨y0, y1⟩, f0, f1⟩ := G.rzU hx1
 have HBT := hidI hb
 clear hb hb1 hx1 hB0
 have F := G.set2_at' w1 (w.heap.size + 1) (.int .i64 2) (.string ⟨#[]⟩) _ _ y0 y1
 have hBF : Below w.heap.size w ((w1.setCell ⟨w.heap.size + 1, 0, none⟩ (.int .i64 2)).setCell ⟨w.heap.size + 1, 1, none⟩ (.string ⟨#[]⟩)) := (hB1.setCell (by simp) _).setCell (by simp) _
 have HF := hidI F
 clear F
 cases b
 · go_wp2
   refine bodyPost_ret (v := .agg #[.int .i64 2, .string ⟨#[]⟩]) (by simp [results, Tryz.results7, go_sem, HF.out.1, HF.out.2]) rfl ⟨rfl, hBF⟩
 have hn : nameOk nm.data.toList = false := by
  rcases HN.out with h | h
  · exact absurd (HBT.out.1 rfl) h
  exact h
 go_wp2_with fail
 refine (G.T.c17 nm w1 (by omega)).mono ?_
 rintro e w2 ⟨he, rfl⟩
 have e' : e = .returned (.bool false) := by rw [he]; exact congrArg (fun b => Ending.returned (.bool b)) hn
 subst e'
 clear he
 go_wp2
 refine bodyPost_ret (v := .agg #[.int .i64 2, .string ⟨#[]⟩]) (by simp [results, Tryz.results7, go_sem, HF.out.1, HF.out.2]) rfl ⟨rfl, hBF⟩
end Go.Proofs.YtehddlceipbpeaaGreatDoor
namespace Go.Proofs.YtehddlceipbpeaaGreatDoor
open Go.RowKit
open G (IsPT)
open G.T (F2 f2z treeOk FilesAt)
set_option maxRecDepth 100000
set_option linter.unusedVariables false
theorem isPT_ex (fs : List F2) : ∃ ms, IsPT fs ms := by
 by_cases ht : treeOk fs
 · by_cases hf : G.Free fs G.planA
   · exact ⟨[], .inr (.inl ⟨ht, hf, rfl⟩)⟩
   obtain ⟨i, hi, hn⟩ : ∃ i, i < fs.length ∧ (fs.getD i f2z).nm = G.planA := Classical.byContradiction fun h => hf fun i hi e => h ⟨i, hi, e⟩
   obtain ⟨ks, ok, hp⟩ : ∃ ks ok, G.IsPlan (fs.getD i f2z).tx.data.toList ks ok := by
    by_cases h : ∃ js, G.planOk js = true ∧ js.flatMap G.makeL = (fs.getD i f2z).tx.data.toList ∧ (fs.getD i f2z).tx.data.toList.length ≤ 300
    · obtain ⟨js, h1, h2, h3⟩ := h
      exact ⟨js, true, fun _ => ⟨h1, h2, h3⟩, fun c => by cases c⟩
    exact ⟨[], false, (fun c => by cases c), fun _ => ⟨rfl, fun js h1 h2 => Nat.lt_of_not_le fun h3 => h ⟨js, h1, h2, h3⟩⟩⟩
   by_cases h : ok = true ∧ G.FreeAll fs ks
   · exact ⟨ks, .inr (.inr ⟨ht, i, hi, hn, ks, ok, hp, .inl ⟨h.1, h.2, rfl⟩⟩)⟩
   exact ⟨[], .inr (.inr ⟨ht, i, hi, hn, ks, ok, hp, .inr ⟨h, rfl⟩⟩)⟩
 exact ⟨[], .inl ⟨ht, rfl⟩⟩
theorem alike (fs : List F2) (nm : ByteArray) (hl : fs.length ≤ 1048576) (hs : ∀ i, (fs.getD i f2z).le 1048576) (hns : nm.size ≤ 1048576) : ∃ r : R2,
 (∀ (a : Option Addr) (cap : Nat) (w : World), FilesAt w a fs → Calls Tryz.prog 5 #[.agg #[.slice a fs.length cap], .string nm] w fun e w' => e = .returned (.agg #[.int .i64 r.code, .string r.tx]) ∧ Below w.heap.size w w') ∧
 (∀ (a : Option Addr) (cap : Nat) (w : World), FilesAt w a fs → G.VarsZ w → ShapesAt w → MaxAt w → 10 ≤ w.heap.size → Calls Tryz.prog 7 #[.agg #[.slice a fs.length cap], .string nm] w fun e w' => e = .returned (.agg #[.int .i64 r.code, .string r.tx]) ∧ Below w.heap.size w w') := by
 by_cases h : treeOk fs ∧ nameOk nm.data.toList = true
 · obtain ⟨ms, hp⟩ := isPT_ex fs
   exact ⟨wantF (envOf fs ms) nm, fun a cap w hat => c5y a cap fs ms nm w hat h.1 hp h.2, fun a cap w hat hv hsh hmx hten => c7y a cap fs ms nm w hat h.1 hp h.2 hv hsh hmx hten⟩
 have hno : ¬ treeOk fs ∨ nameOk nm.data.toList = false := by
  by_cases ht : treeOk fs
  · exact .inr (by cases hn : nameOk nm.data.toList; rfl; exact absurd ⟨ht, hn⟩ h)
  exact .inl ht
 exact ⟨⟨2, ⟨#[]⟩⟩, fun a cap w hat => c5n a cap fs nm w hl hs hat hns hno, fun a cap w hat _ _ _ _ => c7n a cap fs nm w hl hs hat hns hno⟩
set_option maxHeartbeats 8000000 in
theorem c3 (a : Option Addr) (cap : Nat) (fs : List F2) (nm : ByteArray) (w : World) (hs : ∀ i, (fs.getD i f2z).le 9223372036854775807) (hl : fs.length ≤ 9223372036854775807) (hat : FilesAt w a fs) (hv : G.VarsZ w) (hsh : ShapesAt w) (hmx : MaxAt w) (hten : 10 ≤ w.heap.size) :
 Calls Tryz.prog 3 #[.agg #[.slice a fs.length cap], .string nm] w fun e w' => e = .returned (.bool true) ∧ Below w.heap.size w w' := by
 have HV := hidI hv
 have HSH := hidI hsh
 have HMX := hidI hmx
 have HAT := hidI hat
 have hB0 : Below w.heap.size w (w.alloc (.cells #[.slice a fs.length cap] 24)) := (Below.refl _ _).alloc (Nat.le_refl _) _
 have h4 := G.T.c4 a cap fs _ hs hl (G.T.files_below hat hB0)
 clear hv hsh hmx hat
 by_cases hnl : nm.size ≤ 1048576
 · go_enter Tryz.func3, Tryz.ntmps3
   go_wp2_with fail
   refine h4.mono ?_
   rintro e w1 ⟨⟨r, rfl, hr⟩, hb1⟩
   have hx1 : Below (w.heap.size + 1) (w.alloc (.cells #[.slice a fs.length cap] 24)) w1 := by have h := hb1; simp at h; exact h
   have hB1 : Below w.heap.size w w1 := hB0.trans (hx1.mono (by omega))
   have hz1 : w.heap.size + 1 ≤ w1.heap.size := by have := hx1.size; simpa using this
   have t1 : w1.cell? ⟨w.heap.size, 0, none⟩ = some (.slice a fs.length cap) := (hx1.cell (p := ⟨w.heap.size, 0, none⟩) (by simp)).trans (by simp [go_sem])
   clear hb1 h4 hx1
   by_cases h0 : 0 ≤ r
   · obtain ⟨hl', hs', hr'⟩ := hr h0
     obtain ⟨wr, hS5, hS7⟩ := alike fs nm hl' hs' hnl
     have HS5 := hidI hS5
     have HS7 := hidI hS7
     obtain ⟨rc, rt⟩ := wr
     dsimp only at HS5 HS7
     clear hr hs hl hs' hS5 hS7
     have h6 := G.T.c6 a cap fs w1 hl' (G.T.files_below HAT.out hB1)
     go_wp2_with fail
     refine h6.mono ?_
     rintro e wa ⟨⟨a1, rfl, hatA⟩, hba⟩
     have hza : w1.heap.size ≤ wa.heap.size := hba.size
     have hBa : Below w.heap.size w wa := hB1.trans (hba.mono hB1.size)
     have hqa : w.heap.size < w1.heap.size := by omega
     have ta := (hba.cell (p := ⟨w.heap.size, 0, none⟩) hqa).trans t1
     have h5 := HS5.out a1 fs.length wa hatA
     clear h6 hba
     go_wp2_with fail
     refine h5.mono ?_
     rintro e wb ⟨rfl, hbb⟩
     have hBb : Below w.heap.size w wb := hBa.trans (hbb.mono hBa.size)
     have hqb : w.heap.size < wa.heap.size := by omega
     have tb := (hbb.cell (p := ⟨w.heap.size, 0, none⟩) hqb).trans ta
     have hzb : wa.heap.size ≤ wb.heap.size := hbb.size
     clear h5 hbb ta t1 hatA
     go_upto_region 8 with fail
     obtain ⟨wb1, hwb1⟩ : ∃ u : World, u = wb.alloc (.cells #[.int .i64 rc, .string rt] 27) := ⟨_, rfl⟩
     rw [← hwb1]
     have hbb1 : Below wb.heap.size wb wb1 := by rw [hwb1]; exact (Below.refl _ _).alloc (Nat.le_refl _) _
     have C6 : Hid (Cl wb1 wb.heap.size 27 [.int .i64 rc, .string rt]) := by show Cl _ _ _ _; rw [hwb1]; exact cl_new wb _ 27
     have hBb1 : Below w.heap.size w wb1 := hBb.trans (hbb1.mono hBb.size)
     have hqc : w.heap.size < wb.heap.size := by omega
     have tb1 := (hbb1.cell (p := ⟨w.heap.size, 0, none⟩) hqc).trans tb
     have hzb1 : wb.heap.size < wb1.heap.size := C6.out.lt
     clear hwb1 hbb1 tb
     have h6 := G.T.c6 a cap fs wb1 hl' (G.T.files_below HAT.out hBb1)
     go_wp2_with fail
     refine h6.mono ?_
     rintro e wc ⟨⟨a2, rfl, hatC⟩, hbc⟩
     have hzc : wb1.heap.size ≤ wc.heap.size := hbc.size
     have hBc : Below w.heap.size w wc := hBb1.trans (hbc.mono hBb1.size)
     have hqd : w.heap.size < wb1.heap.size := by omega
     have tc := (hbc.cell (p := ⟨w.heap.size, 0, none⟩) hqd).trans tb1
     have C6c := hidI (C6.out.below hbc C6.out.lt)
     clear h6 hbc tb1 C6
     go_upto_region 9 with fail
     obtain ⟨wc1, hwc1⟩ : ∃ u : World, u = wc.alloc (.cells #[.slice a2 fs.length fs.length] 31) := ⟨_, rfl⟩
     rw [← hwc1]
     have hbc1 : Below wc.heap.size wc wc1 := by rw [hwc1]; exact (Below.refl _ _).alloc (Nat.le_refl _) _
     have C7 : Hid (Cl wc1 wc.heap.size 31 [.slice a2 fs.length fs.length]) := by show Cl _ _ _ _; rw [hwc1]; exact cl_new wc _ 31
     have hBc1 : Below w.heap.size w wc1 := hBc.trans (hbc1.mono hBc.size)
     have hqe : w.heap.size < wc.heap.size := by omega
     have tc1 := (hbc1.cell (p := ⟨w.heap.size, 0, none⟩) hqe).trans tc
     have x1 : wc1.cell? ⟨wc.heap.size, 0, none⟩ = some (.slice a2 fs.length fs.length) := C7.out.cell 0
     have C6d := hidI (C6c.out.below hbc1 C6c.out.lt)
     have HATC := hidI (G.T.files_below hatC hbc1)
     have hzc1 : wc.heap.size < wc1.heap.size := C7.out.lt
     clear hwc1 hbc1 tc hatC C6c C7
     have h7 := HS7.out a2 fs.length wc1 HATC.out (HV.out.below hBc1) (shapes_base HSH.out hBc1 hten) (max_base HMX.out hBc1 hten) (by omega)
     go_wp2_with fail
     refine h7.mono ?_
     rintro e wd ⟨rfl, hbd⟩
     have hBd : Below w.heap.size w wd := hBc1.trans (hbd.mono hBc1.size)
     have hqf : w.heap.size < wc1.heap.size := by omega
     have td := (hbd.cell (p := ⟨w.heap.size, 0, none⟩) hqf).trans tc1
     have xd := (hbd.cell (p := ⟨wc.heap.size, 0, none⟩) hzc1).trans x1
     have C6e := hidI (C6d.out.below hbd C6d.out.lt)
     have HATD := hidI (G.T.files_below HATC.out hbd)
     have hzd : wc1.heap.size ≤ wd.heap.size := hbd.size
     clear h7 hbd tc1 x1 C6d HATC
     go_upto_region 10 with fail
     obtain ⟨we, hwe⟩ : ∃ u : World, u = wd.alloc (.cells #[.int .i64 rc, .string rt] 27) := ⟨_, rfl⟩
     rw [← hwe]
     have hbe : Below wd.heap.size wd we := by rw [hwe]; exact (Below.refl _ _).alloc (Nat.le_refl _) _
     have C8 : Hid (Cl we wd.heap.size 27 [.int .i64 rc, .string rt]) := by show Cl _ _ _ _; rw [hwe]; exact cl_new wd _ 27
     have hBe0 : Below w.heap.size w we := hBd.trans (hbe.mono hBd.size)
     have hqg : w.heap.size < wd.heap.size := by omega
     have hqh : wc.heap.size < wd.heap.size := by omega
     have te := (hbe.cell (p := ⟨w.heap.size, 0, none⟩) hqg).trans td
     have xe := (hbe.cell (p := ⟨wc.heap.size, 0, none⟩) hqh).trans xd
     have C6f := hidI (C6e.out.below hbe C6e.out.lt)
     have HATE := hidI (G.T.files_below HATD.out hbe)
     have g0 : we.cell? ⟨wd.heap.size, 0, none⟩ = some (.int .i64 rc) := C8.out.cell 0
     have g1 : we.cell? ⟨wd.heap.size, 1, none⟩ = some (.string rt) := C8.out.cell 1
     have g2 : we.cell? ⟨wb.heap.size, 0, none⟩ = some (.int .i64 rc) := C6f.out.cell 0
     have g3 : we.cell? ⟨wb.heap.size, 1, none⟩ = some (.string rt) := C6f.out.cell 1
     have hze : wd.heap.size < we.heap.size := C8.out.lt
     clear hwe hbe td xd C6e HATD
     go_wp2_with fail
     refine (M.c8 rc rt we).mono ?_
     rintro e wf ⟨rfl, hbf⟩
     have hBe : Below w.heap.size w wf := hBe0.trans (hbf.mono hBe0.size)
     have hqi : w.heap.size < we.heap.size := by omega
     have hqj : wc.heap.size < we.heap.size := by omega
     have te := (hbf.cell (p := ⟨w.heap.size, 0, none⟩) hqi).trans te
     have xe := (hbf.cell (p := ⟨wc.heap.size, 0, none⟩) hqj).trans xe
     have HATX := hidI (G.T.files_below HATE.out hbf)
     have hzf : we.heap.size ≤ wf.heap.size := hbf.size
     have hq0 : w.heap.size < wf.heap.size := by omega
     have hq1 : wc.heap.size < wf.heap.size := by omega
     clear hbf g0 g1 g2 g3 C6f C8 HATE
     go_upto_region 12 with fail
     refine wp_region_held_drew (S := fun u => u.cell? ⟨w.heap.size, 0, none⟩ = some (.slice a fs.length cap) ∧ u.cell? ⟨wc.heap.size, 0, none⟩ = some (.slice a2 fs.length fs.length)) (by kernel_rfl) ?_ (fun hHeld => ?_)
     · exact ⟨te, xe⟩
     obtain ⟨y0, hy0⟩ : ∃ x : World, x = wf.drew := ⟨_, rfl⟩
     rw [← hy0] at hHeld ⊢
     have Ly : Below wf.heap.size wf y0 := by rw [hy0]; exact (Below.refl _ wf).drew
     clear hy0
     refine tq 0 hHeld ?_ (v := ?_) (hv := ?e)
     case e => intro wq hSw; (try dsimp only at hSw); obtain ⟨s1, s2⟩ := hSw; go_simp; try with_reducible rfl
     try simp only [qq]
     refine tq 1 hHeld ?_ (v := ?_) (hv := ?e)
     case e => intro wq hSw; (try dsimp only at hSw); obtain ⟨s1, s2⟩ := hSw; go_simp; try with_reducible rfl
     try simp only [qq]
     refine rq 2 (fun K hK => ?_)
     go_simp
     refine (G.T.c6 a cap fs y0 hl' (G.T.files_below HAT.out (hBe.trans (Ly.mono hBe.size)))).mono ?_
     rintro e y1 ⟨⟨a3, rfl, hat3⟩, hb1⟩
     have L1 : Below wf.heap.size wf y1 := Ly.trans (hb1.mono Ly.size)
     go_simp
     clear hHeld
     refine hK.out _ _ ?_ (fun hHeld => ?_)
     · exact ⟨(L1.cell (p := ⟨w.heap.size, 0, none⟩) hq0).trans te, (L1.cell (p := ⟨wc.heap.size, 0, none⟩) hq1).trans xe⟩
     clear hK K
     try simp only [qq]
     refine rq 3 (fun K hK => ?_)
     go_simp
     refine (G.T.c9 a2 a3 fs.length fs.length fs y1 hl' (G.T.files_below HATX.out L1) hat3).mono ?_
     rintro e y2 ⟨rfl, hb2⟩
     have L2 : Below wf.heap.size wf y2 := L1.trans (hb2.mono L1.size)
     go_simp
     clear hHeld
     refine hK.out _ _ ?_ (fun hHeld => ?_)
     · exact ⟨(L2.cell (p := ⟨w.heap.size, 0, none⟩) hq0).trans te, (L2.cell (p := ⟨wc.heap.size, 0, none⟩) hq1).trans xe⟩
     clear hK K
     try simp only [qq]
     refine tq 4 hHeld ?_
     try simp only [qq]
     refine wpAnyH_done (by kernel_rfl) ?_ _
     have hBf : Below w.heap.size w y2 := hBe.trans (L2.mono hBe.size)
     clear hHeld
     go_wp2
     go_ret
     exact ⟨rfl, hBf⟩
   go_wp2
   go_ret
   exact ⟨rfl, hB1⟩
 clear h4
 go_enter Tryz.func3, Tryz.ntmps3
 go_wp2
 go_ret
 exact ⟨rfl, hB0⟩
end Go.Proofs.YtehddlceipbpeaaGreatDoor
namespace Go.Proofs.YtehddlceipbpeaaGreatDoor.LO
open Go.ChangeShapes Go.WideShapes Go.ChangeAt Go.RowKit
set_option linter.unusedVariables false
open G.T (F2 f2z FilesAt)
theorem own : ownKnob Tryz.prog.godebug = none := by kernel_rfl
theorem laidOut : laidOutB Tryz.prog = true := by kernel_rfl
def cell1 : DataW Unit → Value
 | .lit (.int k n) => .int k n
 | .lit (.bool b) => .bool b
 | .lit (.string l) => .string ⟨l.toArray⟩
 | _ => .bool false
def cells1 : DataW Unit → List Value
 | .agg es => es.map cell1
 | d => [cell1 d]
def cells2 : DataW Unit → Array Value
 | .agg ds => (ds.flatMap cells1).toArray
 | _ => #[]
def withTab (g : Nat) (t : Array Value) (w : World) : World := { w with heap := w.heap.modify g fun
 | .cells _ ty frozen => .cells t ty frozen
 | o => o }
theorem cells9 : Tryz.prog.cellsOf 9 = 1 := by kernel_rfl
theorem add_none (b off i : Nat) : (⟨b, off, none⟩ : Addr).add i = ⟨b, off + i, none⟩ := by unfold Addr.add; split <;> simp_all
theorem cells55 : Tryz.prog.cellsOf 55 = 2 := by kernel_rfl
theorem list2 {α : Type} {l : List α} (h : l.length = 2) : ∃ a b, l = [a, b] := by
 rcases l with _ | ⟨a, _ | ⟨b, _ | ⟨c, l⟩⟩⟩
 · cases h
 · cases h
 · exact ⟨a, b, rfl⟩
 simp at h
theorem file_cells {H : Type} {enc : TypeId × Value → H} {w : World} {base : Nat} {sp : Nat → Bool} {held : Bool} {fuel : Nat} {cs : List Value} {y : DataW H × List MemPlace}
 (h : DataW.trod enc Tryz.prog w base sp held fuel 55 cs = some y) : ∃ x : F2, cs = [.string x.nm, .string x.tx] ∧ x.le maxLen := by
 obtain ⟨y0, y1, n, hx, hlen, h0, h1⟩ := trod_struct2 Tryz.underlying55 h
 rw [cells55] at hlen
 obtain ⟨c0, c1, rfl⟩ := list2 hlen
 simp only [cells9] at h0 h1
 obtain ⟨n0, e0, _, hn⟩ := DataW.trod_string Tryz.underlying9 h0
 obtain ⟨s, e1, _, hs⟩ := DataW.trod_string Tryz.underlying9 h1
 simp at e0 e1
 exact ⟨⟨n0, s⟩, by rw [e0, e1], ⟨hn, hs⟩⟩
theorem opened {H : Type} {enc : TypeId × Value → H} {W : World} {fuel : Nat} {cs : List Value} {y : DataW H × List MemPlace}
 (hf : DataW.trod enc Tryz.prog W 0 (fun _ => true) true fuel 22 cs = some y) :
 ∃ (a : Option Addr) (cap : Nat) (is : List F2), cs = [.slice a is.length cap] ∧ is.length ≤ maxLen ∧ (∀ i, (is.getD i f2z).le maxLen) ∧ FilesAt W a is := by
 rcases Go.Deep.open_slice Tryz.underlying22 hf with ⟨rfl, _⟩ | ⟨a, len, cap, m, n, D, Pl, rfl, _, hl, hm, hmm, _, hx⟩
 · exact ⟨none, 0, [], rfl, Nat.zero_le _, fun i => ⟨by simp [f2z, ByteArray.size], by simp [f2z, ByteArray.size]⟩, .inl rfl⟩
 simp only [if_true] at hmm
 subst hmm
 have hex : ∀ i, i < m → ∃ x : F2, W.cells? 0 (a.add (i * 2)) 2 = some [.string x.nm, .string x.tx] ∧ x.le maxLen := fun i hi => by
  obtain ⟨cs', h1, h2⟩ := hx i hi
  obtain ⟨x, rfl, hs⟩ := file_cells h2
  rw [cells55] at h1
  exact ⟨x, h1, hs⟩
 obtain ⟨V, hV⟩ := @Go.Deep.choose_lt F2 ⟨f2z⟩ m (fun i x => W.cells? 0 (a.add (i * 2)) 2 = some [.string x.nm, .string x.tx] ∧ x.le maxLen) hex
 have hlen : ((List.range len).map V).length = len := by simp
 have hget : ∀ i, i < len → ((List.range len).map V).getD i f2z = V i := fun i hi => by simp [List.getD, hi]
 refine ⟨some a, m, (List.range len).map V, by rw [hlen], by rw [hlen]; omega, G.T.getD_small2 (fun i hi => ?_), ?_⟩
 · rw [hlen] at hi
   rw [hget i hi]
   exact (hV i (by omega)).2
 rcases Nat.eq_zero_or_pos len with h0 | h0
 · exact .inl (by rw [h0]; rfl)
 obtain ⟨b, off, spot⟩ := a
 obtain ⟨_, _, hc⟩ := World.cells?_some (hV 0 (by omega)).1
 have hc0 := hc 0 (by omega)
 have hspot : spot = none := by simpa [Addr.add] using World.cell?_spot hc0
 subst hspot
 refine .inr ⟨b, off, rfl, ?_, fun i hi => ?_⟩
 · rw [add_none, add_none] at hc0
   rcases Nat.lt_or_ge b W.heap.size with h | h
   · exact h
   simp [World.cell?, Array.getElem?_eq_none h] at hc0
 rw [hlen] at hi
 rw [hget i hi]
 obtain ⟨_, _, hc⟩ := World.cells?_some (hV i (by omega)).1
 have e0 := hc 0 (by omega)
 have e1 := hc 1 (by omega)
 rw [add_none, add_none] at e0 e1
 exact ⟨e0, e1⟩
theorem cells24 : Tryz.prog.cellsOf 24 = 1 := by kernel_rfl
theorem cells22 : Tryz.prog.cellsOf 22 = 1 := by kernel_rfl
end Go.Proofs.YtehddlceipbpeaaGreatDoor.LO

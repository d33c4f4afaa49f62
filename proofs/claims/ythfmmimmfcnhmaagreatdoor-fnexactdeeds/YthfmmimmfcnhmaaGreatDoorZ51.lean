import Derived.Test.YthfmmimmfcnhmaaGreatDoorZ49
import Derived.ProofKit
import Derived.ShutString
import Derived.ChangeOld
import Derived.SliceStrings
import Derived.Deep.Slices
import Derived.OpenVars
import Derived.HandedShaped
import Derived.Shelf.Vars
import Derived.Deep.DeepHandedRow
import Derived.Deep.DeepWitnessRowRef
import Derived.SevenTiedAt
import Derived.ChangeArms
import Derived.LaidMore
import Derived.LaidOnce
import Derived.LaidHandle
set_option linter.unusedVariables false
set_option maxHeartbeats 8000000
set_option maxRecDepth 100000
namespace Go.Proofs.YthfmmimmfcnhmaaGreatDoor
open Proofs.Tryz
open Go.RowKit
open G (IsPT)
open G.T (F2 f2z treeOk FilesAt)
def New18 (w:World) (fs:List F2) (tv:Value) (e:Ending) (w':World):Prop:=∃ (kb mr mw:Nat) (pv:Value) (ms:List M3),e=.returned (pt kb)/\Cl w' kb 88 [tv,pv,.map (some mr),.map (some mw),.slice none 0 0]/\w'.ownsMap prog 9 tokR mr 0 (mapD [])/\w'.ownsMap prog 9 tokR mw 0 (mapD [])/\w'.ownsRow w.heap.size 50 3 pv ms.length (G.mkCells ms)/\IsPT fs ms/\w.heap.size<=kb/\w.heap.size<=mr/\w.heap.size<=mw/\mr≠mw/\Below w.heap.size w w'
theorem mk67 (u:World):(Instr.makeMap 84 none).run prog u=.ok (.map (some u.heap.size)) (u.alloc (.map #[] 0)):=by kernel_rfl
theorem mk68 (u:World):(Instr.makeMap 85 none).run prog u=.ok (.map (some u.heap.size)) (u.alloc (.map #[] 0)):=by kernel_rfl
theorem c22 (a:Option Addr) (cap:Nat) (fs:List F2) (w:World) (hfl:fs.length<=1048576) (hs:∀ i,(fs.getD i f2z).le 1048576) (hat:FilesAt w a fs) (hv:G.VarsZ w):
 Calls prog 22 #[.agg #[.slice a fs.length cap]] w fun e w'=>New18 w fs (.slice a fs.length cap) e w':=by
 have hmk67:=mk67
 have hmk68:=mk68
 have HAT:=hidI hat
 have HFS:=hidI hs
 have HVZ:Hid (∀ u,Below w.heap.size w u->G.VarsZ u):=fun u hb=>hv.below hb
 obtain ⟨w1,hw1⟩:∃ u:World,u=w.alloc (.cells #[.slice a fs.length cap] 30):=⟨_,rfl⟩
 have HW1:=hidI hw1
 have hb1:Below w.heap.size w w1:=by rw [hw1];exact (Below.refl _ _).alloc (Nat.le_refl _) _
 have C1:Cl w1 w.heap.size 30 [.slice a fs.length cap]:=by rw [hw1];exact cl_new w _ 30
 have q1:w1.cell? ⟨w.heap.size,0,none⟩=some (.slice a fs.length cap):=C1.cell 0
 have hq1:w.heap.size<w1.heap.size:=C1.lt
 clear hat hs hv hw1 C1
 go_enter func22,ntmps22
 go_upto_region 1 with fail
 rw [<- HW1.out]
 clear HW1
 refine wp_region_held_drew (S:=fun u=>u.cell? ⟨w.heap.size,0,none⟩=some (.slice a fs.length cap)) (by kernel_rfl) ?_ (fun hH=>?_)
 · exact q1
 obtain ⟨x,hx⟩:∃ x:World,x=w1.drew:=⟨_,rfl⟩
 rw [<- hx] at hH ⊢
 have Lx:Below w.heap.size w x:=by rw [hx];exact hb1.drew
 have q0:x.cell? ⟨w.heap.size,0,none⟩=some (.slice a fs.length cap):=hH
 have hq0:w.heap.size<x.heap.size:=by rw [hx];exact hq1
 clear hx q1 hb1 hq1
 have Xx:Below x.heap.size x x:=Below.refl _ _
 refine tq 0 hH ?_
 refine tq 1 hH ?_
 try simp only [qq]
 refine wpAnyH_ready (rs:=[2,3,4]) (by kernel_rfl) (by simp) (AllReadyH.cons (o:=⟨some 5,.call ⟨.value (.func 44),#[.tmp 4],#[30]⟩,73,_,_,none⟩) rfl (fun K hK=>?_) (AllReadyH.cons (o:=⟨some 6,.makeMap 84 none,84,_,_,none⟩) rfl (fun K hK=>?_) (AllReadyH.cons (o:=⟨some 7,.makeMap 85 none,85,_,_,none⟩) rfl (fun K hK=>?_) AllReadyH.nil)))
 · go_simp
   refine (G.c44 a cap fs x hfl HFS.out (G.T.files_below HAT.out Lx) (HVZ.out x Lx)).mono ?_
   rintro e x2 ⟨⟨ms,pv,rfl,hrow,hpt⟩,bx2⟩
   obtain ⟨pa,pc,hpv,_⟩:=G.own3_form hrow
   subst hpv
   have Px2:Hid (x2.ownsRow w.heap.size 50 3 (.slice pa ms.length pc) ms.length (G.mkCells ms)):=hidI (owns_mono hrow Lx.size)
   have HPT:=hidI hpt
   clear hrow hpt
   go_simp
   have Lx2:Below w.heap.size w x2:=Lx.trans (bx2.mono Lx.size)
   have Xx2:Below x.heap.size x x2:=Xx.trans (bx2.mono Xx.size)
   clear hH
   refine hK.out _ _ ?_ (fun hH=>?_)
   · exact (Xx2.cell (p:=⟨w.heap.size,0,none⟩) hq0).trans q0
   clear hK K
   try simp only [qq]
   refine wpAnyH_ready (rs:=[3,4]) (by kernel_rfl) (by simp) (AllReadyH.cons (o:=⟨some 6,.makeMap 84 none,84,_,_,none⟩) rfl (fun K hK=>?_) (AllReadyH.cons (o:=⟨some 7,.makeMap 85 none,85,_,_,none⟩) rfl (fun K hK=>?_) AllReadyH.nil))
   · go_simp
     obtain ⟨x23,hx23⟩:∃ uu:World,uu=x2.alloc (.map #[] 0):=⟨_,rfl⟩
     rw [<- hx23]
     have bx23:Below x2.heap.size x2 x23:=by rw [hx23];exact (Below.refl _ _).alloc (Nat.le_refl _) _
     have M3x23:Hid (x23.ownsMap prog 9 tokR x2.heap.size 0 (mapD [])):=by show World.ownsMap _ _ _ _ _ _ _;rw [hx23];exact World.ownsMap_made x2 prog 9 tokR
     clear hx23
     have Lx23:Below w.heap.size w x23:=Lx2.trans (bx23.mono Lx2.size)
     have Xx23:Below x.heap.size x x23:=Xx2.trans (bx23.mono Xx2.size)
     have Px23:=hidI (ownsRow_below Px2.out bx23)
     clear hH
     refine hK.out _ _ ?_ (fun hH=>?_)
     · exact (Xx23.cell (p:=⟨w.heap.size,0,none⟩) hq0).trans q0
     clear hK K
     try simp only [qq]
     refine wpAnyH_ready (rs:=[4]) (by kernel_rfl) (by simp) (AllReadyH.cons (o:=⟨some 7,.makeMap 85 none,85,_,_,none⟩) rfl (fun K hK=>?_) AllReadyH.nil)
     go_simp
     obtain ⟨x234,hx234⟩:∃ uu:World,uu=x23.alloc (.map #[] 0):=⟨_,rfl⟩
     rw [<- hx234]
     have bx234:Below x23.heap.size x23 x234:=by rw [hx234];exact (Below.refl _ _).alloc (Nat.le_refl _) _
     have M4x234:Hid (x234.ownsMap prog 9 tokR x23.heap.size 0 (mapD [])):=by show World.ownsMap _ _ _ _ _ _ _;rw [hx234];exact World.ownsMap_made x23 prog 9 tokR
     clear hx234
     have Lx234:Below w.heap.size w x234:=Lx23.trans (bx234.mono Lx23.size)
     have Xx234:Below x.heap.size x x234:=Xx23.trans (bx234.mono Xx23.size)
     have Px234:=hidI (ownsRow_below Px23.out bx234)
     have M3x234:=hidI (mp_below M3x23.out bx234 (mp_lt M3x23.out))
     clear hH
     refine hK.out _ _ ?_ (fun hH=>?_)
     · exact (Xx234.cell (p:=⟨w.heap.size,0,none⟩) hq0).trans q0
     clear hK K
     refine tq 5 hH ?_
     try simp only [qq]
     refine rq 6 (fun K hK=>?_)
     go_simp
     obtain ⟨z,hz⟩:∃ uu:World,uu=x234.alloc (.cells #[.slice a fs.length cap,.slice pa ms.length pc,.map (some x2.heap.size),.map (some x23.heap.size),.slice none 0 0] 88):=⟨_,rfl⟩
     rw [<- hz]
     have bz:Below x234.heap.size x234 z:=by rw [hz];exact (Below.refl _ _).alloc (Nat.le_refl _) _
     have CK:Hid (Cl z x234.heap.size 88 [.slice a fs.length cap,.slice pa ms.length pc,.map (some x2.heap.size),.map (some x23.heap.size),.slice none 0 0]):=by show Cl _ _ _ _;rw [hz];exact cl_new x234 _ 88
     have Lz:Below w.heap.size w z:=Lx234.trans (bz.mono Lx234.size)
     have Xz:Below x.heap.size x z:=Xx234.trans (bz.mono Xx234.size)
     have PZ:=hidI (ownsRow_below Px234.out bz)
     have M3z:=hidI (mp_below M3x234.out bz (mp_lt M3x234.out))
     have M4z:=hidI (mp_below M4x234.out bz (mp_lt M4x234.out))
     clear hz
     clear hH
     refine hK.out _ _ ?_ (fun hH=>?_)
     · exact (Xz.cell (p:=⟨w.heap.size,0,none⟩) hq0).trans q0
     clear hK K
     refine tq 7 hH ?_
     try simp only [qq]
     refine wpAnyH_done (by kernel_rfl) ?_ _
     have hne:x2.heap.size≠x23.heap.size:=by
      have h1:=mp_lt M3x23.out
      have h2:x23.heap.size<=x23.heap.size:=Nat.le_refl _
      omega
     have HRES:Hid (New18 w fs (.slice a fs.length cap) (.returned (pt x234.heap.size)) z):=hidI ⟨_,_,_,_,ms,rfl,CK.out,M3z.out,M4z.out,PZ.out,HPT.out,Lx234.size,(by have:=mp_lt M3z.out;exact Lx2.size),Lx23.size,hne,Lz⟩
     clear hne hH
     go_wp2
     go_ret
     exact HRES.out
   go_simp
   obtain ⟨x24,hx24⟩:∃ uu:World,uu=x2.alloc (.map #[] 0):=⟨_,rfl⟩
   rw [<- hx24]
   have bx24:Below x2.heap.size x2 x24:=by rw [hx24];exact (Below.refl _ _).alloc (Nat.le_refl _) _
   have M4x24:Hid (x24.ownsMap prog 9 tokR x2.heap.size 0 (mapD [])):=by show World.ownsMap _ _ _ _ _ _ _;rw [hx24];exact World.ownsMap_made x2 prog 9 tokR
   clear hx24
   have Lx24:Below w.heap.size w x24:=Lx2.trans (bx24.mono Lx2.size)
   have Xx24:Below x.heap.size x x24:=Xx2.trans (bx24.mono Xx2.size)
   have Px24:=hidI (ownsRow_below Px2.out bx24)
   clear hH
   refine hK.out _ _ ?_ (fun hH=>?_)
   · exact (Xx24.cell (p:=⟨w.heap.size,0,none⟩) hq0).trans q0
   clear hK K
   try simp only [qq]
   refine wpAnyH_ready (rs:=[3]) (by kernel_rfl) (by simp) (AllReadyH.cons (o:=⟨some 6,.makeMap 84 none,84,_,_,none⟩) rfl (fun K hK=>?_) AllReadyH.nil)
   go_simp
   obtain ⟨x243,hx243⟩:∃ uu:World,uu=x24.alloc (.map #[] 0):=⟨_,rfl⟩
   rw [<- hx243]
   have bx243:Below x24.heap.size x24 x243:=by rw [hx243];exact (Below.refl _ _).alloc (Nat.le_refl _) _
   have M3x243:Hid (x243.ownsMap prog 9 tokR x24.heap.size 0 (mapD [])):=by show World.ownsMap _ _ _ _ _ _ _;rw [hx243];exact World.ownsMap_made x24 prog 9 tokR
   clear hx243
   have Lx243:Below w.heap.size w x243:=Lx24.trans (bx243.mono Lx24.size)
   have Xx243:Below x.heap.size x x243:=Xx24.trans (bx243.mono Xx24.size)
   have Px243:=hidI (ownsRow_below Px24.out bx243)
   have M4x243:=hidI (mp_below M4x24.out bx243 (mp_lt M4x24.out))
   clear hH
   refine hK.out _ _ ?_ (fun hH=>?_)
   · exact (Xx243.cell (p:=⟨w.heap.size,0,none⟩) hq0).trans q0
   clear hK K
   refine tq 5 hH ?_
   try simp only [qq]
   refine rq 6 (fun K hK=>?_)
   go_simp
   obtain ⟨z,hz⟩:∃ uu:World,uu=x243.alloc (.cells #[.slice a fs.length cap,.slice pa ms.length pc,.map (some x24.heap.size),.map (some x2.heap.size),.slice none 0 0] 88):=⟨_,rfl⟩
   rw [<- hz]
   have bz:Below x243.heap.size x243 z:=by rw [hz];exact (Below.refl _ _).alloc (Nat.le_refl _) _
   have CK:Hid (Cl z x243.heap.size 88 [.slice a fs.length cap,.slice pa ms.length pc,.map (some x24.heap.size),.map (some x2.heap.size),.slice none 0 0]):=by show Cl _ _ _ _;rw [hz];exact cl_new x243 _ 88
   have Lz:Below w.heap.size w z:=Lx243.trans (bz.mono Lx243.size)
   have Xz:Below x.heap.size x z:=Xx243.trans (bz.mono Xx243.size)
   have PZ:=hidI (ownsRow_below Px243.out bz)
   have M3z:=hidI (mp_below M3x243.out bz (mp_lt M3x243.out))
   have M4z:=hidI (mp_below M4x243.out bz (mp_lt M4x243.out))
   clear hz
   clear hH
   refine hK.out _ _ ?_ (fun hH=>?_)
   · exact (Xz.cell (p:=⟨w.heap.size,0,none⟩) hq0).trans q0
   clear hK K
   refine tq 7 hH ?_
   try simp only [qq]
   refine wpAnyH_done (by kernel_rfl) ?_ _
   have hne:x24.heap.size≠x2.heap.size:=by
    have h1:=mp_lt M4x24.out
    have h2:x24.heap.size<=x24.heap.size:=Nat.le_refl _
    omega
   have HRES:Hid (New18 w fs (.slice a fs.length cap) (.returned (pt x243.heap.size)) z):=hidI ⟨_,_,_,_,ms,rfl,CK.out,M3z.out,M4z.out,PZ.out,HPT.out,Lx243.size,(by have:=mp_lt M3z.out;exact Lx24.size),Lx2.size,hne,Lz⟩
   clear hne hH
   go_wp2
   go_ret
   exact HRES.out
 · go_simp
   obtain ⟨x3,hx3⟩:∃ uu:World,uu=x.alloc (.map #[] 0):=⟨_,rfl⟩
   rw [<- hx3]
   have bx3:Below x.heap.size x x3:=by rw [hx3];exact (Below.refl _ _).alloc (Nat.le_refl _) _
   have M3x3:Hid (x3.ownsMap prog 9 tokR x.heap.size 0 (mapD [])):=by show World.ownsMap _ _ _ _ _ _ _;rw [hx3];exact World.ownsMap_made x prog 9 tokR
   clear hx3
   have Lx3:Below w.heap.size w x3:=Lx.trans (bx3.mono Lx.size)
   have Xx3:Below x.heap.size x x3:=Xx.trans (bx3.mono Xx.size)
   clear hH
   refine hK.out _ _ ?_ (fun hH=>?_)
   · exact (Xx3.cell (p:=⟨w.heap.size,0,none⟩) hq0).trans q0
   clear hK K
   try simp only [qq]
   refine wpAnyH_ready (rs:=[2,4]) (by kernel_rfl) (by simp) (AllReadyH.cons (o:=⟨some 5,.call ⟨.value (.func 44),#[.tmp 4],#[30]⟩,73,_,_,none⟩) rfl (fun K hK=>?_) (AllReadyH.cons (o:=⟨some 7,.makeMap 85 none,85,_,_,none⟩) rfl (fun K hK=>?_) AllReadyH.nil))
   · go_simp
     refine (G.c44 a cap fs x3 hfl HFS.out (G.T.files_below HAT.out Lx3) (HVZ.out x3 Lx3)).mono ?_
     rintro e x32 ⟨⟨ms,pv,rfl,hrow,hpt⟩,bx32⟩
     obtain ⟨pa,pc,hpv,_⟩:=G.own3_form hrow
     subst hpv
     have Px32:Hid (x32.ownsRow w.heap.size 50 3 (.slice pa ms.length pc) ms.length (G.mkCells ms)):=hidI (owns_mono hrow Lx3.size)
     have HPT:=hidI hpt
     clear hrow hpt
     go_simp
     have Lx32:Below w.heap.size w x32:=Lx3.trans (bx32.mono Lx3.size)
     have Xx32:Below x.heap.size x x32:=Xx3.trans (bx32.mono Xx3.size)
     have M3x32:=hidI (mp_below M3x3.out bx32 (mp_lt M3x3.out))
     clear hH
     refine hK.out _ _ ?_ (fun hH=>?_)
     · exact (Xx32.cell (p:=⟨w.heap.size,0,none⟩) hq0).trans q0
     clear hK K
     try simp only [qq]
     refine wpAnyH_ready (rs:=[4]) (by kernel_rfl) (by simp) (AllReadyH.cons (o:=⟨some 7,.makeMap 85 none,85,_,_,none⟩) rfl (fun K hK=>?_) AllReadyH.nil)
     go_simp
     obtain ⟨x324,hx324⟩:∃ uu:World,uu=x32.alloc (.map #[] 0):=⟨_,rfl⟩
     rw [<- hx324]
     have bx324:Below x32.heap.size x32 x324:=by rw [hx324];exact (Below.refl _ _).alloc (Nat.le_refl _) _
     have M4x324:Hid (x324.ownsMap prog 9 tokR x32.heap.size 0 (mapD [])):=by show World.ownsMap _ _ _ _ _ _ _;rw [hx324];exact World.ownsMap_made x32 prog 9 tokR
     clear hx324
     have Lx324:Below w.heap.size w x324:=Lx32.trans (bx324.mono Lx32.size)
     have Xx324:Below x.heap.size x x324:=Xx32.trans (bx324.mono Xx32.size)
     have M3x324:=hidI (mp_below M3x32.out bx324 (mp_lt M3x32.out))
     have Px324:=hidI (ownsRow_below Px32.out bx324)
     clear hH
     refine hK.out _ _ ?_ (fun hH=>?_)
     · exact (Xx324.cell (p:=⟨w.heap.size,0,none⟩) hq0).trans q0
     clear hK K
     refine tq 5 hH ?_
     try simp only [qq]
     refine rq 6 (fun K hK=>?_)
     go_simp
     obtain ⟨z,hz⟩:∃ uu:World,uu=x324.alloc (.cells #[.slice a fs.length cap,.slice pa ms.length pc,.map (some x.heap.size),.map (some x32.heap.size),.slice none 0 0] 88):=⟨_,rfl⟩
     rw [<- hz]
     have bz:Below x324.heap.size x324 z:=by rw [hz];exact (Below.refl _ _).alloc (Nat.le_refl _) _
     have CK:Hid (Cl z x324.heap.size 88 [.slice a fs.length cap,.slice pa ms.length pc,.map (some x.heap.size),.map (some x32.heap.size),.slice none 0 0]):=by show Cl _ _ _ _;rw [hz];exact cl_new x324 _ 88
     have Lz:Below w.heap.size w z:=Lx324.trans (bz.mono Lx324.size)
     have Xz:Below x.heap.size x z:=Xx324.trans (bz.mono Xx324.size)
     have PZ:=hidI (ownsRow_below Px324.out bz)
     have M3z:=hidI (mp_below M3x324.out bz (mp_lt M3x324.out))
     have M4z:=hidI (mp_below M4x324.out bz (mp_lt M4x324.out))
     clear hz
     clear hH
     refine hK.out _ _ ?_ (fun hH=>?_)
     · exact (Xz.cell (p:=⟨w.heap.size,0,none⟩) hq0).trans q0
     clear hK K
     refine tq 7 hH ?_
     try simp only [qq]
     refine wpAnyH_done (by kernel_rfl) ?_ _
     have hne:x.heap.size≠x32.heap.size:=by
      have h1:=mp_lt M3x3.out
      have h2:x3.heap.size<=x32.heap.size:=bx32.size
      omega
     have HRES:Hid (New18 w fs (.slice a fs.length cap) (.returned (pt x324.heap.size)) z):=hidI ⟨_,_,_,_,ms,rfl,CK.out,M3z.out,M4z.out,PZ.out,HPT.out,Lx324.size,(by have:=mp_lt M3z.out;exact Lx.size),Lx32.size,hne,Lz⟩
     clear hne hH
     go_wp2
     go_ret
     exact HRES.out
   go_simp
   obtain ⟨x34,hx34⟩:∃ uu:World,uu=x3.alloc (.map #[] 0):=⟨_,rfl⟩
   rw [<- hx34]
   have bx34:Below x3.heap.size x3 x34:=by rw [hx34];exact (Below.refl _ _).alloc (Nat.le_refl _) _
   have M4x34:Hid (x34.ownsMap prog 9 tokR x3.heap.size 0 (mapD [])):=by show World.ownsMap _ _ _ _ _ _ _;rw [hx34];exact World.ownsMap_made x3 prog 9 tokR
   clear hx34
   have Lx34:Below w.heap.size w x34:=Lx3.trans (bx34.mono Lx3.size)
   have Xx34:Below x.heap.size x x34:=Xx3.trans (bx34.mono Xx3.size)
   have M3x34:=hidI (mp_below M3x3.out bx34 (mp_lt M3x3.out))
   clear hH
   refine hK.out _ _ ?_ (fun hH=>?_)
   · exact (Xx34.cell (p:=⟨w.heap.size,0,none⟩) hq0).trans q0
   clear hK K
   try simp only [qq]
   refine wpAnyH_ready (rs:=[2]) (by kernel_rfl) (by simp) (AllReadyH.cons (o:=⟨some 5,.call ⟨.value (.func 44),#[.tmp 4],#[30]⟩,73,_,_,none⟩) rfl (fun K hK=>?_) AllReadyH.nil)
   go_simp
   refine (G.c44 a cap fs x34 hfl HFS.out (G.T.files_below HAT.out Lx34) (HVZ.out x34 Lx34)).mono ?_
   rintro e x342 ⟨⟨ms,pv,rfl,hrow,hpt⟩,bx342⟩
   obtain ⟨pa,pc,hpv,_⟩:=G.own3_form hrow
   subst hpv
   have Px342:Hid (x342.ownsRow w.heap.size 50 3 (.slice pa ms.length pc) ms.length (G.mkCells ms)):=hidI (owns_mono hrow Lx34.size)
   have HPT:=hidI hpt
   clear hrow hpt
   go_simp
   have Lx342:Below w.heap.size w x342:=Lx34.trans (bx342.mono Lx34.size)
   have Xx342:Below x.heap.size x x342:=Xx34.trans (bx342.mono Xx34.size)
   have M3x342:=hidI (mp_below M3x34.out bx342 (mp_lt M3x34.out))
   have M4x342:=hidI (mp_below M4x34.out bx342 (mp_lt M4x34.out))
   clear hH
   refine hK.out _ _ ?_ (fun hH=>?_)
   · exact (Xx342.cell (p:=⟨w.heap.size,0,none⟩) hq0).trans q0
   clear hK K
   refine tq 5 hH ?_
   try simp only [qq]
   refine rq 6 (fun K hK=>?_)
   go_simp
   obtain ⟨z,hz⟩:∃ uu:World,uu=x342.alloc (.cells #[.slice a fs.length cap,.slice pa ms.length pc,.map (some x.heap.size),.map (some x3.heap.size),.slice none 0 0] 88):=⟨_,rfl⟩
   rw [<- hz]
   have bz:Below x342.heap.size x342 z:=by rw [hz];exact (Below.refl _ _).alloc (Nat.le_refl _) _
   have CK:Hid (Cl z x342.heap.size 88 [.slice a fs.length cap,.slice pa ms.length pc,.map (some x.heap.size),.map (some x3.heap.size),.slice none 0 0]):=by show Cl _ _ _ _;rw [hz];exact cl_new x342 _ 88
   have Lz:Below w.heap.size w z:=Lx342.trans (bz.mono Lx342.size)
   have Xz:Below x.heap.size x z:=Xx342.trans (bz.mono Xx342.size)
   have PZ:=hidI (ownsRow_below Px342.out bz)
   have M3z:=hidI (mp_below M3x342.out bz (mp_lt M3x342.out))
   have M4z:=hidI (mp_below M4x342.out bz (mp_lt M4x342.out))
   clear hz
   clear hH
   refine hK.out _ _ ?_ (fun hH=>?_)
   · exact (Xz.cell (p:=⟨w.heap.size,0,none⟩) hq0).trans q0
   clear hK K
   refine tq 7 hH ?_
   try simp only [qq]
   refine wpAnyH_done (by kernel_rfl) ?_ _
   have hne:x.heap.size≠x3.heap.size:=by
    have h1:=mp_lt M3x3.out
    have h2:x3.heap.size<=x3.heap.size:=Nat.le_refl _
    omega
   have HRES:Hid (New18 w fs (.slice a fs.length cap) (.returned (pt x342.heap.size)) z):=hidI ⟨_,_,_,_,ms,rfl,CK.out,M3z.out,M4z.out,PZ.out,HPT.out,Lx342.size,(by have:=mp_lt M3z.out;exact Lx.size),Lx3.size,hne,Lz⟩
   clear hne hH
   go_wp2
   go_ret
   exact HRES.out
 go_simp
 obtain ⟨x4,hx4⟩:∃ uu:World,uu=x.alloc (.map #[] 0):=⟨_,rfl⟩
 rw [<- hx4]
 have bx4:Below x.heap.size x x4:=by rw [hx4];exact (Below.refl _ _).alloc (Nat.le_refl _) _
 have M4x4:Hid (x4.ownsMap prog 9 tokR x.heap.size 0 (mapD [])):=by show World.ownsMap _ _ _ _ _ _ _;rw [hx4];exact World.ownsMap_made x prog 9 tokR
 clear hx4
 have Lx4:Below w.heap.size w x4:=Lx.trans (bx4.mono Lx.size)
 have Xx4:Below x.heap.size x x4:=Xx.trans (bx4.mono Xx.size)
 clear hH
 refine hK.out _ _ ?_ (fun hH=>?_)
 · exact (Xx4.cell (p:=⟨w.heap.size,0,none⟩) hq0).trans q0
 clear hK K
 try simp only [qq]
 refine wpAnyH_ready (rs:=[2,3]) (by kernel_rfl) (by simp) (AllReadyH.cons (o:=⟨some 5,.call ⟨.value (.func 44),#[.tmp 4],#[30]⟩,73,_,_,none⟩) rfl (fun K hK=>?_) (AllReadyH.cons (o:=⟨some 6,.makeMap 84 none,84,_,_,none⟩) rfl (fun K hK=>?_) AllReadyH.nil))
 · go_simp
   refine (G.c44 a cap fs x4 hfl HFS.out (G.T.files_below HAT.out Lx4) (HVZ.out x4 Lx4)).mono ?_
   rintro e x42 ⟨⟨ms,pv,rfl,hrow,hpt⟩,bx42⟩
   obtain ⟨pa,pc,hpv,_⟩:=G.own3_form hrow
   subst hpv
   have Px42:Hid (x42.ownsRow w.heap.size 50 3 (.slice pa ms.length pc) ms.length (G.mkCells ms)):=hidI (owns_mono hrow Lx4.size)
   have HPT:=hidI hpt
   clear hrow hpt
   go_simp
   have Lx42:Below w.heap.size w x42:=Lx4.trans (bx42.mono Lx4.size)
   have Xx42:Below x.heap.size x x42:=Xx4.trans (bx42.mono Xx4.size)
   have M4x42:=hidI (mp_below M4x4.out bx42 (mp_lt M4x4.out))
   clear hH
   refine hK.out _ _ ?_ (fun hH=>?_)
   · exact (Xx42.cell (p:=⟨w.heap.size,0,none⟩) hq0).trans q0
   clear hK K
   try simp only [qq]
   refine wpAnyH_ready (rs:=[3]) (by kernel_rfl) (by simp) (AllReadyH.cons (o:=⟨some 6,.makeMap 84 none,84,_,_,none⟩) rfl (fun K hK=>?_) AllReadyH.nil)
   go_simp
   obtain ⟨x423,hx423⟩:∃ uu:World,uu=x42.alloc (.map #[] 0):=⟨_,rfl⟩
   rw [<- hx423]
   have bx423:Below x42.heap.size x42 x423:=by rw [hx423];exact (Below.refl _ _).alloc (Nat.le_refl _) _
   have M3x423:Hid (x423.ownsMap prog 9 tokR x42.heap.size 0 (mapD [])):=by show World.ownsMap _ _ _ _ _ _ _;rw [hx423];exact World.ownsMap_made x42 prog 9 tokR
   clear hx423
   have Lx423:Below w.heap.size w x423:=Lx42.trans (bx423.mono Lx42.size)
   have Xx423:Below x.heap.size x x423:=Xx42.trans (bx423.mono Xx42.size)
   have M4x423:=hidI (mp_below M4x42.out bx423 (mp_lt M4x42.out))
   have Px423:=hidI (ownsRow_below Px42.out bx423)
   clear hH
   refine hK.out _ _ ?_ (fun hH=>?_)
   · exact (Xx423.cell (p:=⟨w.heap.size,0,none⟩) hq0).trans q0
   clear hK K
   refine tq 5 hH ?_
   try simp only [qq]
   refine rq 6 (fun K hK=>?_)
   go_simp
   obtain ⟨z,hz⟩:∃ uu:World,uu=x423.alloc (.cells #[.slice a fs.length cap,.slice pa ms.length pc,.map (some x42.heap.size),.map (some x.heap.size),.slice none 0 0] 88):=⟨_,rfl⟩
   rw [<- hz]
   have bz:Below x423.heap.size x423 z:=by rw [hz];exact (Below.refl _ _).alloc (Nat.le_refl _) _
   have CK:Hid (Cl z x423.heap.size 88 [.slice a fs.length cap,.slice pa ms.length pc,.map (some x42.heap.size),.map (some x.heap.size),.slice none 0 0]):=by show Cl _ _ _ _;rw [hz];exact cl_new x423 _ 88
   have Lz:Below w.heap.size w z:=Lx423.trans (bz.mono Lx423.size)
   have Xz:Below x.heap.size x z:=Xx423.trans (bz.mono Xx423.size)
   have PZ:=hidI (ownsRow_below Px423.out bz)
   have M3z:=hidI (mp_below M3x423.out bz (mp_lt M3x423.out))
   have M4z:=hidI (mp_below M4x423.out bz (mp_lt M4x423.out))
   clear hz
   clear hH
   refine hK.out _ _ ?_ (fun hH=>?_)
   · exact (Xz.cell (p:=⟨w.heap.size,0,none⟩) hq0).trans q0
   clear hK K
   refine tq 7 hH ?_
   try simp only [qq]
   refine wpAnyH_done (by kernel_rfl) ?_ _
   have hne:x42.heap.size≠x.heap.size:=by
    have h1:=mp_lt M4x4.out
    have h2:x4.heap.size<=x42.heap.size:=bx42.size
    omega
   have HRES:Hid (New18 w fs (.slice a fs.length cap) (.returned (pt x423.heap.size)) z):=hidI ⟨_,_,_,_,ms,rfl,CK.out,M3z.out,M4z.out,PZ.out,HPT.out,Lx423.size,(by have:=mp_lt M3z.out;exact Lx42.size),Lx.size,hne,Lz⟩
   clear hne hH
   go_wp2
   go_ret
   exact HRES.out
 go_simp
 obtain ⟨x43,hx43⟩:∃ uu:World,uu=x4.alloc (.map #[] 0):=⟨_,rfl⟩
 rw [<- hx43]
 have bx43:Below x4.heap.size x4 x43:=by rw [hx43];exact (Below.refl _ _).alloc (Nat.le_refl _) _
 have M3x43:Hid (x43.ownsMap prog 9 tokR x4.heap.size 0 (mapD [])):=by show World.ownsMap _ _ _ _ _ _ _;rw [hx43];exact World.ownsMap_made x4 prog 9 tokR
 clear hx43
 have Lx43:Below w.heap.size w x43:=Lx4.trans (bx43.mono Lx4.size)
 have Xx43:Below x.heap.size x x43:=Xx4.trans (bx43.mono Xx4.size)
 have M4x43:=hidI (mp_below M4x4.out bx43 (mp_lt M4x4.out))
 clear hH
 refine hK.out _ _ ?_ (fun hH=>?_)
 · exact (Xx43.cell (p:=⟨w.heap.size,0,none⟩) hq0).trans q0
 clear hK K
 try simp only [qq]
 refine wpAnyH_ready (rs:=[2]) (by kernel_rfl) (by simp) (AllReadyH.cons (o:=⟨some 5,.call ⟨.value (.func 44),#[.tmp 4],#[30]⟩,73,_,_,none⟩) rfl (fun K hK=>?_) AllReadyH.nil)
 go_simp
 refine (G.c44 a cap fs x43 hfl HFS.out (G.T.files_below HAT.out Lx43) (HVZ.out x43 Lx43)).mono ?_
 rintro e x432 ⟨⟨ms,pv,rfl,hrow,hpt⟩,bx432⟩
 obtain ⟨pa,pc,hpv,_⟩:=G.own3_form hrow
 subst hpv
 have Px432:Hid (x432.ownsRow w.heap.size 50 3 (.slice pa ms.length pc) ms.length (G.mkCells ms)):=hidI (owns_mono hrow Lx43.size)
 have HPT:=hidI hpt
 clear hrow hpt
 go_simp
 have Lx432:Below w.heap.size w x432:=Lx43.trans (bx432.mono Lx43.size)
 have Xx432:Below x.heap.size x x432:=Xx43.trans (bx432.mono Xx43.size)
 have M4x432:=hidI (mp_below M4x43.out bx432 (mp_lt M4x43.out))
 have M3x432:=hidI (mp_below M3x43.out bx432 (mp_lt M3x43.out))
 clear hH
 refine hK.out _ _ ?_ (fun hH=>?_)
 · exact (Xx432.cell (p:=⟨w.heap.size,0,none⟩) hq0).trans q0
 clear hK K
 refine tq 5 hH ?_
 try simp only [qq]
 refine rq 6 (fun K hK=>?_)
 go_simp
 obtain ⟨z,hz⟩:∃ uu:World,uu=x432.alloc (.cells #[.slice a fs.length cap,.slice pa ms.length pc,.map (some x4.heap.size),.map (some x.heap.size),.slice none 0 0] 88):=⟨_,rfl⟩
 rw [<- hz]
 have bz:Below x432.heap.size x432 z:=by rw [hz];exact (Below.refl _ _).alloc (Nat.le_refl _) _
 have CK:Hid (Cl z x432.heap.size 88 [.slice a fs.length cap,.slice pa ms.length pc,.map (some x4.heap.size),.map (some x.heap.size),.slice none 0 0]):=by show Cl _ _ _ _;rw [hz];exact cl_new x432 _ 88
 have Lz:Below w.heap.size w z:=Lx432.trans (bz.mono Lx432.size)
 have Xz:Below x.heap.size x z:=Xx432.trans (bz.mono Xx432.size)
 have PZ:=hidI (ownsRow_below Px432.out bz)
 have M3z:=hidI (mp_below M3x432.out bz (mp_lt M3x432.out))
 have M4z:=hidI (mp_below M4x432.out bz (mp_lt M4x432.out))
 clear hz
 clear hH
 refine hK.out _ _ ?_ (fun hH=>?_)
 · exact (Xz.cell (p:=⟨w.heap.size,0,none⟩) hq0).trans q0
 clear hK K
 refine tq 7 hH ?_
 try simp only [qq]
 refine wpAnyH_done (by kernel_rfl) ?_ _
 have hne:x4.heap.size≠x.heap.size:=by
  have h1:=mp_lt M4x4.out
  have h2:x4.heap.size<=x4.heap.size:=Nat.le_refl _
  omega
 have HRES:Hid (New18 w fs (.slice a fs.length cap) (.returned (pt x432.heap.size)) z):=hidI ⟨_,_,_,_,ms,rfl,CK.out,M3z.out,M4z.out,PZ.out,HPT.out,Lx432.size,(by have:=mp_lt M3z.out;exact Lx4.size),Lx.size,hne,Lz⟩
 clear hne hH
 go_wp2
 go_ret
 exact HRES.out
end Go.Proofs.YthfmmimmfcnhmaaGreatDoor
namespace Go.Proofs.YthfmmimmfcnhmaaGreatDoor.LO
open Proofs.Tryz
open Go.ChangeShapes Go.WideShapes Go.ChangeAt Go.RowKit
open G.T (F2 f2z FilesAt)
variable {H α:Type} {W w:World} {base fuel:Nat} {cs:List Value}
theorem own:ownKnob prog.godebug=none:=by kernel_rfl
theorem laidOut:laidOutB prog=true:=by kernel_rfl
def cell1:DataW Unit->Value
 | .lit (.int k n)=>.int k n
 | .lit (.bool b)=>.bool b
 | .lit (.string l)=>.string ⟨l.toArray⟩
 | _=>.bool false
def cells1:DataW Unit->List Value
 | .agg es=>es.map cell1
 | d=>[cell1 d]
def cells2:DataW Unit->Array Value
 | .agg ds=>(ds.flatMap cells1).toArray
 | _=>#[]
def withTab (g:Nat) (t:Array Value) (w:World):World:={ w with heap:=w.heap.modify g fun
 | .cells _ ty frozen=>.cells t ty frozen
 | o=>o }
theorem cells9:prog.cellsOf 9=1:=by kernel_rfl
theorem add_none (b off i:Nat):(⟨b,off,none⟩:Addr).add i=⟨b,off+i,none⟩:=by unfold Addr.add;split <;> simp_all
theorem cells62:prog.cellsOf 62=2:=by kernel_rfl
theorem list2 {l:List α} (h:l.length=2):∃ a b,l=[a,b]:=by
 rcases l with _ | ⟨a,_ | ⟨b,_ | ⟨c,l⟩⟩⟩
 · cases h
 · cases h
 · exact ⟨a,b,rfl⟩
 simp at h
theorem file_cells {enc:TypeId×Value->H} {sp:Nat->Bool} {held:Bool} {y:DataW H×List MemPlace}
 (h:DataW.trod enc prog w base sp held fuel 62 cs=some y):∃ x:F2,cs=[.string x.nm,.string x.tx]/\x.le maxLen:=by
 obtain ⟨y0,y1,n,hx,hlen,h0,h1⟩:=trod_struct2 underlying62 h
 rw [cells62] at hlen
 obtain ⟨c0,c1,rfl⟩:=list2 hlen
 simp only [cells9] at h0 h1
 obtain ⟨n0,e0,_,hn⟩:=DataW.trod_string underlying9 h0
 obtain ⟨s,e1,_,hs⟩:=DataW.trod_string underlying9 h1
 simp at e0 e1
 exact ⟨⟨n0,s⟩,by rw [e0,e1],⟨hn,hs⟩⟩
theorem opened {enc:TypeId×Value->H} {y:DataW H×List MemPlace}
 (hf:DataW.trod enc prog W 0 (fun _=>true) true fuel 22 cs=some y):
 ∃ (a:Option Addr) (cap:Nat) (is:List F2),cs=[.slice a is.length cap]/\is.length<=maxLen/\(∀ i,(is.getD i f2z).le maxLen)/\FilesAt W a is:=by
 rcases Go.Deep.open_slice underlying22 hf with ⟨rfl,_⟩ | ⟨a,len,cap,m,n,D,Pl,rfl,_,hl,hm,hmm,_,hx⟩
 · exact ⟨none,0,[],rfl,Nat.zero_le _,fun i=>⟨by simp [f2z,ByteArray.size],by simp [f2z,ByteArray.size]⟩,.inl rfl⟩
 simp only [if_true] at hmm
 subst hmm
 have hex:∀ i,i<m->∃ x:F2,W.cells? 0 (a.add (i*2)) 2=some [.string x.nm,.string x.tx]/\x.le maxLen:=fun i hi=>by
  obtain ⟨cs',h1,h2⟩:=hx i hi
  obtain ⟨x,rfl,hs⟩:=file_cells h2
  rw [cells62] at h1
  exact ⟨x,h1,hs⟩
 obtain ⟨V,hV⟩:=@Go.Deep.choose_lt F2 ⟨f2z⟩ m (fun i x=>W.cells? 0 (a.add (i*2)) 2=some [.string x.nm,.string x.tx]/\x.le maxLen) hex
 have hlen:((List.range len).map V).length=len:=by simp
 have hget:∀ i,i<len->((List.range len).map V).getD i f2z=V i:=fun i hi=>by simp [List.getD,hi]
 refine ⟨some a,m,(List.range len).map V,by rw [hlen],by rw [hlen];omega,G.T.getD_small2 (fun i hi=>?_),?_⟩
 · rw [hlen] at hi
   rw [hget i hi]
   exact (hV i (by omega)).2
 rcases Nat.eq_zero_or_pos len with h0 | h0
 · exact .inl (by rw [h0];rfl)
 obtain ⟨b,off,spot⟩:=a
 obtain ⟨_,_,hc⟩:=World.cells?_some (hV 0 (by omega)).1
 have hc0:=hc 0 (by omega)
 have hspot:spot=none:=by simpa [Addr.add] using World.cell?_spot hc0
 subst hspot
 refine .inr ⟨b,off,rfl,?_,fun i hi=>?_⟩
 · rw [add_none,add_none] at hc0
   rcases Nat.lt_or_ge b W.heap.size with h | h
   · exact h
   simp [World.cell?,Array.getElem?_eq_none h] at hc0
 rw [hlen] at hi
 rw [hget i hi]
 obtain ⟨_,_,hc⟩:=World.cells?_some (hV i (by omega)).1
 have e0:=hc 0 (by omega)
 have e1:=hc 1 (by omega)
 rw [add_none,add_none] at e0 e1
 exact ⟨e0,e1⟩
theorem cells24:prog.cellsOf 24=1:=by kernel_rfl
theorem cells22:prog.cellsOf 22=1:=by kernel_rfl
end Go.Proofs.YthfmmimmfcnhmaaGreatDoor.LO

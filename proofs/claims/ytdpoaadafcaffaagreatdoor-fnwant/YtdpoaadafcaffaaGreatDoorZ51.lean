import Derived.Test.YtdpoaadafcaffaaGreatDoorZ49
import Derived.ProofKit
import Derived.ShutString
import Derived.ChangeOld
import Derived.SliceStrings
import Derived.Deep.Slices
import Derived.OpenVars
import Derived.HandedShaped
import Derived.Shelf.Vars
import Derived.Deep.DeepHandedRow
import Derived.Deep.DeepWitnessRowRef
import Derived.SevenTiedAt
import Derived.ChangeArms
import Derived.LaidMore
import Derived.LaidOnce
import Derived.LaidHandle
set_option linter.unusedVariables false
set_option maxHeartbeats 8000000
set_option maxRecDepth 100000
namespace Go.Proofs.YtdpoaadafcaffaaGreatDoor
open Proofs.Tryz
open Go.RowKit
open G (Q6)
open G.T (F2 L6 Y3 U3)
def vk (w:World) (fs:List F2) (tv:Value) (e:Ending) (w':World):Prop:=∃ (kb mr mw:Nat) (pv:Value) (ms:List M3),e=.returned (pt kb)/\Cl w' kb 90 [tv,pv,.map (some mr),.map (some mw),.slice none 0 0]/\w'.ownsMap prog 9 Z8 mr 0 (mapD [])/\w'.ownsMap prog 9 Z8 mw 0 (mapD [])/\w'.ownsRow w.heap.size 35 3 pv ms.length (G.F5 ms)/\Q6 fs ms/\w.heap.size<=kb/\w.heap.size<=mr/\w.heap.size<=mw/\mr≠mw/\Below w.heap.size w w'
theorem iJ (u:World):(Instr.makeMap 86 none).run prog u=.ok (.map (some u.heap.size)) (u.alloc (.map #[] 0)):=I1
theorem rJ (u:World):(Instr.makeMap 87 none).run prog u=.ok (.map (some u.heap.size)) (u.alloc (.map #[] 0)):=I1
theorem c19 (a:Option Addr) (cap:Nat) (fs:List F2) (w:World) (hfl:fs.length<=1048576) (hs:∀ i,(fs.getD i L6).le 1048576) (hat:U3 w a fs) (hv:G.ng w):
 Calls prog 19 #[.agg #[.slice a fs.length cap]] w fun e w'=>vk w fs (.slice a fs.length cap) e w':=by
 have a3l:=iJ;have a3m:=rJ;have HAT:=Q0 hat;have HFS:=Q0 hs;have HVZ:Hid (∀ u,Below w.heap.size w u->G.ng u):=fun u hb=>hv.below hb;obtain ⟨w1,hw1⟩:∃ u:World,u=w.alloc (.cells #[.slice a fs.length cap] 25):=⟨_,rfl⟩;have HW1:=Q0 hw1;have hb1:Below w.heap.size w w1:=by rw [hw1];exact bA
 have C1:Cl w1 w.heap.size 25 [.slice a fs.length cap]:=by rw [hw1];exact F3 w _ 25
 have q1:w1.cell? ⟨w.heap.size,0,none⟩=some (.slice a fs.length cap):=C1.cell 0;have hq1:w.heap.size<w1.heap.size:=C1.lt;clear hat hs hv hw1 C1;go_enter func19,ntmps19
 go_upto_region 1 with fail
 rw [<- HW1.out];clear HW1;refine wp_region_held_drew (S:=fun u=>u.cell? ⟨w.heap.size,0,none⟩=some (.slice a fs.length cap)) I1 ?_ fun hH=>?_
 · exact q1
 obtain ⟨x,hx⟩:∃ x:World,x=w1.drew:=⟨_,rfl⟩;rw [<- hx] at hH ⊢;have Lx:Below w.heap.size w x:=by rw [hx];exact hb1.drew
 have q0:x.cell? ⟨w.heap.size,0,none⟩=some (.slice a fs.length cap):=hH;have hq0:w.heap.size<x.heap.size:=by rw [hx];exact hq1
 clear hx q1 hb1 hq1;have Xx:Below x.heap.size x x:=Below.refl _ _;refine tq 0 hH ?_;refine tq 1 hH ?_
 try simp only [qq]
 refine wpAnyH_ready (rs:=[2,3,4]) I1 U0 (AllReadyH.cons (o:=⟨some 5,.call ⟨.value (.func 39),#[.tmp 4],#[25]⟩,84,_,_,none⟩) rfl (fun K hK=>?_) (AllReadyH.cons (o:=⟨some 6,.makeMap 86 none,86,_,_,none⟩) rfl (fun K hK=>?_) (AllReadyH.cons (o:=⟨some 7,.makeMap 87 none,87,_,_,none⟩) rfl (fun K hK=>?_) AllReadyH.nil)))
 · go_simp
   refine (G.KH a cap fs x hfl HFS.out (G.T.X0 HAT.out Lx) (HVZ.out x Lx)).mono ?_;rintro e x2 ⟨⟨ms,pv,rfl,hrow,hpt⟩,bx2⟩;obtain ⟨pa,pc,hpv,_⟩:=G.U6 hrow;subst hpv;have Px2:Hid (x2.ownsRow w.heap.size 35 3 (.slice pa ms.length pc) ms.length (G.F5 ms)):=Q0 (V4 hrow Lx.size);have MS:=Q0 hpt;clear hrow hpt;go_simp;have XL:=bT Lx bx2;have Xx2:=bT Xx bx2;clear hH;refine hK.out _ _ ?_ fun hH=>?_
   · exact (Xx2.cell (p:=⟨w.heap.size,0,none⟩) hq0).trans q0
   clear hK K
   try simp only [qq]
   refine wpAnyH_ready (rs:=[3,4]) I1 U0 (AllReadyH.cons (o:=⟨some 6,.makeMap 86 none,86,_,_,none⟩) rfl (fun K hK=>?_) (AllReadyH.cons (o:=⟨some 7,.makeMap 87 none,87,_,_,none⟩) rfl (fun K hK=>?_) AllReadyH.nil))
   · go_simp
     obtain ⟨x23,QU⟩:∃ uu:World,uu=x2.alloc (.map #[] 0):=⟨_,rfl⟩;rw [<- QU];have IY:Below x2.heap.size x2 x23:=by rw [QU];exact bA
     have kT:Hid (x23.ownsMap prog 9 Z8 x2.heap.size 0 (mapD [])):=by show World.ownsMap _ _ _ _ _ _ _;rw [QU];exact World.ownsMap_made x2 prog 9 Z8
     clear QU;have a1f:=bT XL IY;have a1g:=bT Xx2 IY;have a2W:=Q0 (ownsRow_below Px2.out IY);clear hH;refine hK.out _ _ ?_ fun hH=>?_
     · exact (a1g.cell (p:=⟨w.heap.size,0,none⟩) hq0).trans q0
     clear hK K
     try simp only [qq]
     refine wpAnyH_ready (rs:=[4]) I1 U0 (AllReadyH.cons (o:=⟨some 7,.makeMap 87 none,87,_,_,none⟩) rfl (fun K hK=>?_) AllReadyH.nil);go_simp;obtain ⟨fP,nQ⟩:∃ uu:World,uu=x23.alloc (.map #[] 0):=⟨_,rfl⟩;rw [<- nQ];have oQ:Below x23.heap.size x23 fP:=by rw [nQ];exact bA
     have lT:Hid (fP.ownsMap prog 9 Z8 x23.heap.size 0 (mapD [])):=by show World.ownsMap _ _ _ _ _ _ _;rw [nQ];exact World.ownsMap_made x23 prog 9 Z8
     clear nQ;have FV:=bT a1f oQ;have GV:=bT a1g oQ;have a1h:=Q0 (ownsRow_below a2W.out oQ);have nT:=Q0 (U5 kT.out oQ (I6 kT.out));clear hH;refine hK.out _ _ ?_ fun hH=>?_
     · exact (GV.cell (p:=⟨w.heap.size,0,none⟩) hq0).trans q0
     clear hK K;refine tq 5 hH ?_
     try simp only [qq]
     refine rq 6 fun K hK=>?_;go_simp;obtain ⟨z,hz⟩:∃ uu:World,uu=fP.alloc (.cells #[.slice a fs.length cap,.slice pa ms.length pc,.map (some x2.heap.size),.map (some x23.heap.size),.slice none 0 0] 90):=⟨_,rfl⟩;rw [<- hz];have bz:Below fP.heap.size fP z:=by rw [hz];exact bA
     have CK:Hid (Cl z fP.heap.size 90 [.slice a fs.length cap,.slice pa ms.length pc,.map (some x2.heap.size),.map (some x23.heap.size),.slice none 0 0]):=by show Cl _ _ _ _;rw [hz];exact F3 fP _ 90
     have Lz:=bT FV bz;have Xz:=bT GV bz;have PZ:=Q0 (ownsRow_below a1h.out bz);have gP:=Q0 (U5 nT.out bz (I6 nT.out));have rT:=Q0 (U5 lT.out bz (I6 lT.out));clear hz;clear hH;refine hK.out _ _ ?_ fun hH=>?_
     · exact (Xz.cell (p:=⟨w.heap.size,0,none⟩) hq0).trans q0
     clear hK K;refine tq 7 hH ?_
     try simp only [qq]
     refine wpAnyH_done I1 ?_ _;have hne:x2.heap.size≠x23.heap.size:=by
      have h1:=I6 kT.out;have h2:x23.heap.size<=x23.heap.size:=Nat.le_refl _;omega
     have ZL:Hid (vk w fs (.slice a fs.length cap) (.returned (pt fP.heap.size)) z):=Q0 ⟨_,_,_,_,ms,rfl,CK.out,gP.out,rT.out,PZ.out,MS.out,FV.size,(by have:=I6 gP.out;exact XL.size),a1f.size,hne,Lz⟩;clear hne hH;go_wp2;go_ret;exact ZL.out
   go_simp;obtain ⟨x24,hx24⟩:∃ uu:World,uu=x2.alloc (.map #[] 0):=⟨_,rfl⟩;rw [<- hx24];have JY:Below x2.heap.size x2 x24:=by rw [hx24];exact bA
   have tT:Hid (x24.ownsMap prog 9 Z8 x2.heap.size 0 (mapD [])):=by show World.ownsMap _ _ _ _ _ _ _;rw [hx24];exact World.ownsMap_made x2 prog 9 Z8
   clear hx24;have a1i:=bT XL JY;have a1j:=bT Xx2 JY;have a2X:=Q0 (ownsRow_below Px2.out JY);clear hH;refine hK.out _ _ ?_ fun hH=>?_
   · exact (a1j.cell (p:=⟨w.heap.size,0,none⟩) hq0).trans q0
   clear hK K
   try simp only [qq]
   refine wpAnyH_ready (rs:=[3]) I1 U0 (AllReadyH.cons (o:=⟨some 6,.makeMap 86 none,86,_,_,none⟩) rfl (fun K hK=>?_) AllReadyH.nil);go_simp;obtain ⟨iP,pQ⟩:∃ uu:World,uu=x24.alloc (.map #[] 0):=⟨_,rfl⟩;rw [<- pQ];have qQ:Below x24.heap.size x24 iP:=by rw [pQ];exact bA
   have uT:Hid (iP.ownsMap prog 9 Z8 x24.heap.size 0 (mapD [])):=by show World.ownsMap _ _ _ _ _ _ _;rw [pQ];exact World.ownsMap_made x24 prog 9 Z8
   clear pQ;have IV:=bT a1i qQ;have JV:=bT a1j qQ;have a1k:=Q0 (ownsRow_below a2X.out qQ);have vT:=Q0 (U5 tT.out qQ (I6 tT.out));clear hH;refine hK.out _ _ ?_ fun hH=>?_
   · exact (JV.cell (p:=⟨w.heap.size,0,none⟩) hq0).trans q0
   clear hK K;refine tq 5 hH ?_
   try simp only [qq]
   refine rq 6 fun K hK=>?_;go_simp;obtain ⟨z,hz⟩:∃ uu:World,uu=iP.alloc (.cells #[.slice a fs.length cap,.slice pa ms.length pc,.map (some x24.heap.size),.map (some x2.heap.size),.slice none 0 0] 90):=⟨_,rfl⟩;rw [<- hz];have bz:Below iP.heap.size iP z:=by rw [hz];exact bA
   have CK:Hid (Cl z iP.heap.size 90 [.slice a fs.length cap,.slice pa ms.length pc,.map (some x24.heap.size),.map (some x2.heap.size),.slice none 0 0]):=by show Cl _ _ _ _;rw [hz];exact F3 iP _ 90
   have Lz:=bT IV bz;have Xz:=bT JV bz;have PZ:=Q0 (ownsRow_below a1k.out bz);have gP:=Q0 (U5 uT.out bz (I6 uT.out));have rT:=Q0 (U5 vT.out bz (I6 vT.out));clear hz;clear hH;refine hK.out _ _ ?_ fun hH=>?_
   · exact (Xz.cell (p:=⟨w.heap.size,0,none⟩) hq0).trans q0
   clear hK K;refine tq 7 hH ?_
   try simp only [qq]
   refine wpAnyH_done I1 ?_ _;have hne:x24.heap.size≠x2.heap.size:=by
    have h1:=I6 tT.out;have h2:x24.heap.size<=x24.heap.size:=Nat.le_refl _;omega
   have ZL:Hid (vk w fs (.slice a fs.length cap) (.returned (pt iP.heap.size)) z):=Q0 ⟨_,_,_,_,ms,rfl,CK.out,gP.out,rT.out,PZ.out,MS.out,IV.size,(by have:=I6 gP.out;exact a1i.size),XL.size,hne,Lz⟩;clear hne hH;go_wp2;go_ret;exact ZL.out
 · go_simp
   obtain ⟨x3,hx3⟩:∃ uu:World,uu=x.alloc (.map #[] 0):=⟨_,rfl⟩;rw [<- hx3];have bx3:Below x.heap.size x x3:=by rw [hx3];exact bA
   have nR:Hid (x3.ownsMap prog 9 Z8 x.heap.size 0 (mapD [])):=by show World.ownsMap _ _ _ _ _ _ _;rw [hx3];exact World.ownsMap_made x prog 9 Z8
   clear hx3;have bM:=bT Lx bx3;have Xx3:=bT Xx bx3;clear hH;refine hK.out _ _ ?_ fun hH=>?_
   · exact (Xx3.cell (p:=⟨w.heap.size,0,none⟩) hq0).trans q0
   clear hK K
   try simp only [qq]
   refine wpAnyH_ready (rs:=[2,4]) I1 U0 (AllReadyH.cons (o:=⟨some 5,.call ⟨.value (.func 39),#[.tmp 4],#[25]⟩,84,_,_,none⟩) rfl (fun K hK=>?_) (AllReadyH.cons (o:=⟨some 7,.makeMap 87 none,87,_,_,none⟩) rfl (fun K hK=>?_) AllReadyH.nil))
   · go_simp
     refine (G.KH a cap fs x3 hfl HFS.out (G.T.X0 HAT.out bM) (HVZ.out x3 bM)).mono ?_;rintro e x32 ⟨⟨ms,pv,rfl,hrow,hpt⟩,RU⟩;obtain ⟨pa,pc,hpv,_⟩:=G.U6 hrow;subst hpv;have a2Y:Hid (x32.ownsRow w.heap.size 35 3 (.slice pa ms.length pc) ms.length (G.F5 ms)):=Q0 (V4 hrow bM.size);have MS:=Q0 hpt;clear hrow hpt;go_simp;have a1l:=bT bM RU;have a1m:=bT Xx3 RU;have KV:=Q0 (U5 nR.out RU (I6 nR.out));clear hH;refine hK.out _ _ ?_ fun hH=>?_
     · exact (a1m.cell (p:=⟨w.heap.size,0,none⟩) hq0).trans q0
     clear hK K
     try simp only [qq]
     refine wpAnyH_ready (rs:=[4]) I1 U0 (AllReadyH.cons (o:=⟨some 7,.makeMap 87 none,87,_,_,none⟩) rfl (fun K hK=>?_) AllReadyH.nil);go_simp;obtain ⟨jP,rQ⟩:∃ uu:World,uu=x32.alloc (.map #[] 0):=⟨_,rfl⟩;rw [<- rQ];have sQ:Below x32.heap.size x32 jP:=by rw [rQ];exact bA
     have wT:Hid (jP.ownsMap prog 9 Z8 x32.heap.size 0 (mapD [])):=by show World.ownsMap _ _ _ _ _ _ _;rw [rQ];exact World.ownsMap_made x32 prog 9 Z8
     clear rQ;have MV:=bT a1l sQ;have NV:=bT a1m sQ;have yT:=Q0 (U5 KV.out sQ (I6 KV.out));have a1n:=Q0 (ownsRow_below a2Y.out sQ);clear hH;refine hK.out _ _ ?_ fun hH=>?_
     · exact (NV.cell (p:=⟨w.heap.size,0,none⟩) hq0).trans q0
     clear hK K;refine tq 5 hH ?_
     try simp only [qq]
     refine rq 6 fun K hK=>?_;go_simp;obtain ⟨z,hz⟩:∃ uu:World,uu=jP.alloc (.cells #[.slice a fs.length cap,.slice pa ms.length pc,.map (some x.heap.size),.map (some x32.heap.size),.slice none 0 0] 90):=⟨_,rfl⟩;rw [<- hz];have bz:Below jP.heap.size jP z:=by rw [hz];exact bA
     have CK:Hid (Cl z jP.heap.size 90 [.slice a fs.length cap,.slice pa ms.length pc,.map (some x.heap.size),.map (some x32.heap.size),.slice none 0 0]):=by show Cl _ _ _ _;rw [hz];exact F3 jP _ 90
     have Lz:=bT MV bz;have Xz:=bT NV bz;have PZ:=Q0 (ownsRow_below a1n.out bz);have gP:=Q0 (U5 yT.out bz (I6 yT.out));have rT:=Q0 (U5 wT.out bz (I6 wT.out));clear hz;clear hH;refine hK.out _ _ ?_ fun hH=>?_
     · exact (Xz.cell (p:=⟨w.heap.size,0,none⟩) hq0).trans q0
     clear hK K;refine tq 7 hH ?_
     try simp only [qq]
     refine wpAnyH_done I1 ?_ _;have hne:x.heap.size≠x32.heap.size:=by
      have h1:=I6 nR.out;have h2:x3.heap.size<=x32.heap.size:=RU.size;omega
     have ZL:Hid (vk w fs (.slice a fs.length cap) (.returned (pt jP.heap.size)) z):=Q0 ⟨_,_,_,_,ms,rfl,CK.out,gP.out,rT.out,PZ.out,MS.out,MV.size,(by have:=I6 gP.out;exact Lx.size),a1l.size,hne,Lz⟩;clear hne hH;go_wp2;go_ret;exact ZL.out
   go_simp;obtain ⟨x34,hx34⟩:∃ uu:World,uu=x3.alloc (.map #[] 0):=⟨_,rfl⟩;rw [<- hx34];have KY:Below x3.heap.size x3 x34:=by rw [hx34];exact bA
   have OV:Hid (x34.ownsMap prog 9 Z8 x3.heap.size 0 (mapD [])):=by show World.ownsMap _ _ _ _ _ _ _;rw [hx34];exact World.ownsMap_made x3 prog 9 Z8
   clear hx34;have TU:=bT bM KY;have a1o:=bT Xx3 KY;have PV:=Q0 (U5 nR.out KY (I6 nR.out));clear hH;refine hK.out _ _ ?_ fun hH=>?_
   · exact (a1o.cell (p:=⟨w.heap.size,0,none⟩) hq0).trans q0
   clear hK K
   try simp only [qq]
   refine wpAnyH_ready (rs:=[2]) I1 U0 (AllReadyH.cons (o:=⟨some 5,.call ⟨.value (.func 39),#[.tmp 4],#[25]⟩,84,_,_,none⟩) rfl (fun K hK=>?_) AllReadyH.nil);go_simp;refine (G.KH a cap fs x34 hfl HFS.out (G.T.X0 HAT.out TU) (HVZ.out x34 TU)).mono ?_;rintro e NP ⟨⟨ms,pv,rfl,hrow,hpt⟩,tQ⟩;obtain ⟨pa,pc,hpv,_⟩:=G.U6 hrow;subst hpv;have a1p:Hid (NP.ownsRow w.heap.size 35 3 (.slice pa ms.length pc) ms.length (G.F5 ms)):=Q0 (V4 hrow TU.size);have MS:=Q0 hpt;clear hrow hpt;go_simp;have QV:=bT TU tQ;have RV:=bT a1o tQ;have zT:=Q0 (U5 PV.out tQ (I6 PV.out));have DT:=Q0 (U5 OV.out tQ (I6 OV.out));clear hH;refine hK.out _ _ ?_ fun hH=>?_
   · exact (RV.cell (p:=⟨w.heap.size,0,none⟩) hq0).trans q0
   clear hK K;refine tq 5 hH ?_
   try simp only [qq]
   refine rq 6 fun K hK=>?_;go_simp;obtain ⟨z,hz⟩:∃ uu:World,uu=NP.alloc (.cells #[.slice a fs.length cap,.slice pa ms.length pc,.map (some x.heap.size),.map (some x3.heap.size),.slice none 0 0] 90):=⟨_,rfl⟩;rw [<- hz];have bz:Below NP.heap.size NP z:=by rw [hz];exact bA
   have CK:Hid (Cl z NP.heap.size 90 [.slice a fs.length cap,.slice pa ms.length pc,.map (some x.heap.size),.map (some x3.heap.size),.slice none 0 0]):=by show Cl _ _ _ _;rw [hz];exact F3 NP _ 90
   have Lz:=bT QV bz;have Xz:=bT RV bz;have PZ:=Q0 (ownsRow_below a1p.out bz);have gP:=Q0 (U5 zT.out bz (I6 zT.out));have rT:=Q0 (U5 DT.out bz (I6 DT.out));clear hz;clear hH;refine hK.out _ _ ?_ fun hH=>?_
   · exact (Xz.cell (p:=⟨w.heap.size,0,none⟩) hq0).trans q0
   clear hK K;refine tq 7 hH ?_
   try simp only [qq]
   refine wpAnyH_done I1 ?_ _;have hne:x.heap.size≠x3.heap.size:=by
    have h1:=I6 nR.out;have h2:x3.heap.size<=x3.heap.size:=Nat.le_refl _;omega
   have ZL:Hid (vk w fs (.slice a fs.length cap) (.returned (pt NP.heap.size)) z):=Q0 ⟨_,_,_,_,ms,rfl,CK.out,gP.out,rT.out,PZ.out,MS.out,QV.size,(by have:=I6 gP.out;exact Lx.size),bM.size,hne,Lz⟩;clear hne hH;go_wp2;go_ret;exact ZL.out
 go_simp;obtain ⟨x4,hx4⟩:∃ uu:World,uu=x.alloc (.map #[] 0):=⟨_,rfl⟩;rw [<- hx4];have bx4:Below x.heap.size x x4:=by rw [hx4];exact bA
 have pR:Hid (x4.ownsMap prog 9 Z8 x.heap.size 0 (mapD [])):=by show World.ownsMap _ _ _ _ _ _ _;rw [hx4];exact World.ownsMap_made x prog 9 Z8
 clear hx4;have jN:=bT Lx bx4;have Xx4:=bT Xx bx4;clear hH;refine hK.out _ _ ?_ fun hH=>?_
 · exact (Xx4.cell (p:=⟨w.heap.size,0,none⟩) hq0).trans q0
 clear hK K
 try simp only [qq]
 refine wpAnyH_ready (rs:=[2,3]) I1 U0 (AllReadyH.cons (o:=⟨some 5,.call ⟨.value (.func 39),#[.tmp 4],#[25]⟩,84,_,_,none⟩) rfl (fun K hK=>?_) (AllReadyH.cons (o:=⟨some 6,.makeMap 86 none,86,_,_,none⟩) rfl (fun K hK=>?_) AllReadyH.nil))
 · go_simp
   refine (G.KH a cap fs x4 hfl HFS.out (G.T.X0 HAT.out jN) (HVZ.out x4 jN)).mono ?_;rintro e UU ⟨⟨ms,pv,rfl,hrow,hpt⟩,VU⟩;obtain ⟨pa,pc,hpv,_⟩:=G.U6 hrow;subst hpv;have a2Z:Hid (UU.ownsRow w.heap.size 35 3 (.slice pa ms.length pc) ms.length (G.F5 ms)):=Q0 (V4 hrow jN.size);have MS:=Q0 hpt;clear hrow hpt;go_simp;have a1q:=bT jN VU;have a1r:=bT Xx4 VU;have SV:=Q0 (U5 pR.out VU (I6 pR.out));clear hH;refine hK.out _ _ ?_ fun hH=>?_
   · exact (a1r.cell (p:=⟨w.heap.size,0,none⟩) hq0).trans q0
   clear hK K
   try simp only [qq]
   refine wpAnyH_ready (rs:=[3]) I1 U0 (AllReadyH.cons (o:=⟨some 6,.makeMap 86 none,86,_,_,none⟩) rfl (fun K hK=>?_) AllReadyH.nil);go_simp;obtain ⟨mP,uQ⟩:∃ uu:World,uu=UU.alloc (.map #[] 0):=⟨_,rfl⟩;rw [<- uQ];have vQ:Below UU.heap.size UU mP:=by rw [uQ];exact bA
   have ET:Hid (mP.ownsMap prog 9 Z8 UU.heap.size 0 (mapD [])):=by show World.ownsMap _ _ _ _ _ _ _;rw [uQ];exact World.ownsMap_made UU prog 9 Z8
   clear uQ;have TV:=bT a1q vQ;have UV:=bT a1r vQ;have FT:=Q0 (U5 SV.out vQ (I6 SV.out));have a1s:=Q0 (ownsRow_below a2Z.out vQ);clear hH;refine hK.out _ _ ?_ fun hH=>?_
   · exact (UV.cell (p:=⟨w.heap.size,0,none⟩) hq0).trans q0
   clear hK K;refine tq 5 hH ?_
   try simp only [qq]
   refine rq 6 fun K hK=>?_;go_simp;obtain ⟨z,hz⟩:∃ uu:World,uu=mP.alloc (.cells #[.slice a fs.length cap,.slice pa ms.length pc,.map (some UU.heap.size),.map (some x.heap.size),.slice none 0 0] 90):=⟨_,rfl⟩;rw [<- hz];have bz:Below mP.heap.size mP z:=by rw [hz];exact bA
   have CK:Hid (Cl z mP.heap.size 90 [.slice a fs.length cap,.slice pa ms.length pc,.map (some UU.heap.size),.map (some x.heap.size),.slice none 0 0]):=by show Cl _ _ _ _;rw [hz];exact F3 mP _ 90
   have Lz:=bT TV bz;have Xz:=bT UV bz;have PZ:=Q0 (ownsRow_below a1s.out bz);have gP:=Q0 (U5 ET.out bz (I6 ET.out));have rT:=Q0 (U5 FT.out bz (I6 FT.out));clear hz;clear hH;refine hK.out _ _ ?_ fun hH=>?_
   · exact (Xz.cell (p:=⟨w.heap.size,0,none⟩) hq0).trans q0
   clear hK K;refine tq 7 hH ?_
   try simp only [qq]
   refine wpAnyH_done I1 ?_ _;have hne:UU.heap.size≠x.heap.size:=by
    have h1:=I6 pR.out;have h2:x4.heap.size<=UU.heap.size:=VU.size;omega
   have ZL:Hid (vk w fs (.slice a fs.length cap) (.returned (pt mP.heap.size)) z):=Q0 ⟨_,_,_,_,ms,rfl,CK.out,gP.out,rT.out,PZ.out,MS.out,TV.size,(by have:=I6 gP.out;exact a1q.size),Lx.size,hne,Lz⟩;clear hne hH;go_wp2;go_ret;exact ZL.out
 go_simp;obtain ⟨x43,WU⟩:∃ uu:World,uu=x4.alloc (.map #[] 0):=⟨_,rfl⟩;rw [<- WU];have LY:Below x4.heap.size x4 x43:=by rw [WU];exact bA
 have VV:Hid (x43.ownsMap prog 9 Z8 x4.heap.size 0 (mapD [])):=by show World.ownsMap _ _ _ _ _ _ _;rw [WU];exact World.ownsMap_made x4 prog 9 Z8
 clear WU;have XU:=bT jN LY;have a1t:=bT Xx4 LY;have WV:=Q0 (U5 pR.out LY (I6 pR.out));clear hH;refine hK.out _ _ ?_ fun hH=>?_
 · exact (a1t.cell (p:=⟨w.heap.size,0,none⟩) hq0).trans q0
 clear hK K
 try simp only [qq]
 refine wpAnyH_ready (rs:=[2]) I1 U0 (AllReadyH.cons (o:=⟨some 5,.call ⟨.value (.func 39),#[.tmp 4],#[25]⟩,84,_,_,none⟩) rfl (fun K hK=>?_) AllReadyH.nil);go_simp;refine (G.KH a cap fs x43 hfl HFS.out (G.T.X0 HAT.out XU) (HVZ.out x43 XU)).mono ?_;rintro e OP ⟨⟨ms,pv,rfl,hrow,hpt⟩,wQ⟩;obtain ⟨pa,pc,hpv,_⟩:=G.U6 hrow;subst hpv;have a1u:Hid (OP.ownsRow w.heap.size 35 3 (.slice pa ms.length pc) ms.length (G.F5 ms)):=Q0 (V4 hrow XU.size);have MS:=Q0 hpt;clear hrow hpt;go_simp;have XV:=bT XU wQ;have YV:=bT a1t wQ;have KT:=Q0 (U5 WV.out wQ (I6 WV.out));have NT:=Q0 (U5 VV.out wQ (I6 VV.out));clear hH;refine hK.out _ _ ?_ fun hH=>?_
 · exact (YV.cell (p:=⟨w.heap.size,0,none⟩) hq0).trans q0
 clear hK K;refine tq 5 hH ?_
 try simp only [qq]
 refine rq 6 fun K hK=>?_;go_simp;obtain ⟨z,hz⟩:∃ uu:World,uu=OP.alloc (.cells #[.slice a fs.length cap,.slice pa ms.length pc,.map (some x4.heap.size),.map (some x.heap.size),.slice none 0 0] 90):=⟨_,rfl⟩;rw [<- hz];have bz:Below OP.heap.size OP z:=by rw [hz];exact bA
 have CK:Hid (Cl z OP.heap.size 90 [.slice a fs.length cap,.slice pa ms.length pc,.map (some x4.heap.size),.map (some x.heap.size),.slice none 0 0]):=by show Cl _ _ _ _;rw [hz];exact F3 OP _ 90
 have Lz:=bT XV bz;have Xz:=bT YV bz;have PZ:=Q0 (ownsRow_below a1u.out bz);have gP:=Q0 (U5 NT.out bz (I6 NT.out));have rT:=Q0 (U5 KT.out bz (I6 KT.out));clear hz;clear hH;refine hK.out _ _ ?_ fun hH=>?_
 · exact (Xz.cell (p:=⟨w.heap.size,0,none⟩) hq0).trans q0
 clear hK K;refine tq 7 hH ?_
 try simp only [qq]
 refine wpAnyH_done I1 ?_ _;have hne:x4.heap.size≠x.heap.size:=by
  have h1:=I6 pR.out;have h2:x4.heap.size<=x4.heap.size:=Nat.le_refl _;omega
 have ZL:Hid (vk w fs (.slice a fs.length cap) (.returned (pt OP.heap.size)) z):=Q0 ⟨_,_,_,_,ms,rfl,CK.out,gP.out,rT.out,PZ.out,MS.out,XV.size,(by have:=I6 gP.out;exact jN.size),Lx.size,hne,Lz⟩;clear hne hH;go_wp2;go_ret;exact ZL.out
end Go.Proofs.YtdpoaadafcaffaaGreatDoor
namespace Go.Proofs.YtdpoaadafcaffaaGreatDoor.LO
open Proofs.Tryz
open Go.ChangeShapes Go.WideShapes Go.ChangeAt Go.RowKit
open G.T (F2 L6 U3)
variable {H α:Type} {W w:World} {base fuel:Nat} {cs:List Value}
theorem own:ownKnob prog.godebug=none:=I1
theorem laidOut:laidOutB prog=true:=I1
def cell1:DataW Unit->Value
 | .lit (.int k n)=>.int k n
 | .lit (.bool b)=>.bool b
 | .lit (.string l)=>.string ⟨l.toArray⟩
 | _=>.bool false
def UF:DataW Unit->List Value
 | .agg es=>es.map cell1
 | d=>[cell1 d]
def jm:DataW Unit->Array Value
 | .agg ds=>(ds.flatMap UF).toArray
 | _=>#[]
def Ai (g:Nat) (t:Array Value) (w:World):World:={ w with heap:=w.heap.modify g fun
 | .cells _ ty frozen=>.cells t ty frozen
 | o=>o }
theorem xA:prog.cellsOf 9=1:=I1
end Go.Proofs.YtdpoaadafcaffaaGreatDoor.LO

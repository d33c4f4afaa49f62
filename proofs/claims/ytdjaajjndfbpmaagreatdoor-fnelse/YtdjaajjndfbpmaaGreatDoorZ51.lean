import Derived.Test.YtdjaajjndfbpmaaGreatDoorDB
import Derived.ProofKit
import Derived.ShutString
import Derived.ChangeOld
import Derived.SliceStrings
import Derived.Deep.Slices
import Derived.OpenVars
import Derived.HandedShaped
import Derived.Shelf.Vars
import Derived.Deep.DeepHandedRow
import Derived.Deep.DeepWitnessRowRef
import Derived.SevenTiedAt
import Derived.ChangeArms
import Derived.LaidMore
import Derived.LaidOnce
import Derived.LaidHandle
set_option linter.unusedVariables false
set_option maxHeartbeats 8000000
set_option maxRecDepth 100000
namespace Go.Proofs.YtdjaajjndfbpmaaGreatDoor
open Proofs.Tryz
open Go.RowKit
open G (H6)
open G.T (F2 P6 X3 F3)
def Ho (w:World) (fs:List F2) (tv:Value) (e:Ending) (w':World):Prop:=∃ (kb mr mw:Nat) (pv:Value) (ms:List M3),e=.returned (pt kb)/\Cl w' kb 98 [tv,pv,.map (some mr),.map (some mw),.slice none 0 0]/\w'.ownsMap prog 9 X9 mr 0 (mapD [])/\w'.ownsMap prog 9 X9 mw 0 (mapD [])/\w'.ownsRow w.heap.size 47 3 pv ms.length (G.R5 ms)/\H6 fs ms/\w.heap.size<=kb/\w.heap.size<=mr/\w.heap.size<=mw/\mr≠mw/\Below w.heap.size w w'
theorem vO (u:World):(Instr.makeMap 94 none).run prog u=.ok (.map (some u.heap.size)) (u.alloc (.map #[] 0)):=U2
theorem oO (u:World):(Instr.makeMap 95 none).run prog u=.ok (.map (some u.heap.size)) (u.alloc (.map #[] 0)):=U2
theorem c21 (a:Option Addr) (cap:Nat) (fs:List F2) (w:World) (hfl:fs.length<=1048576) (hs:∀ i,(fs.getD i P6).le 1048576) (hat:F3 w a fs) (hv:G.Zj w):
 Calls prog 21 #[.agg #[.slice a fs.length cap]] w fun e w'=>Ho w fs (.slice a fs.length cap) e w':=by
 have a3B:=vO;have a3C:=oO;have HAT:=Q0 hat;have HFS:=Q0 hs;have HVZ:Hid (∀ u,Below w.heap.size w u->G.Zj u):=fun u hb=>hv.below hb;obtain ⟨w1,hw1⟩:∃ u:World,u=w.alloc (.cells #[.slice a fs.length cap] 25):=⟨_,rfl⟩;have HW1:=Q0 hw1;have hb1:Below w.heap.size w w1:=by rw [hw1];exact bA
 have C1:Cl w1 w.heap.size 25 [.slice a fs.length cap]:=by rw [hw1];exact U1 w _ 25
 have q1:w1.cell? ⟨w.heap.size,0,none⟩=some (.slice a fs.length cap):=C1.cell 0;have hq1:w.heap.size<w1.heap.size:=C1.lt;clear hat hs hv hw1 C1;go_enter func21,ntmps21
 go_upto_region 1 with fail
 rw [<- HW1.out];clear HW1;refine F7 (S:=fun u=>u.cell? ⟨w.heap.size,0,none⟩=some (.slice a fs.length cap)) U2 ?_ fun b=>?_
 · exact q1
 obtain ⟨x,hx⟩:∃ x:World,x=w1.drew:=⟨_,rfl⟩;rw [<- hx] at b ⊢;have J:Below w.heap.size w x:=by rw [hx];exact hb1.drew
 have h:x.cell? ⟨w.heap.size,0,none⟩=some (.slice a fs.length cap):=b;have k:w.heap.size<x.heap.size:=by rw [hx];exact hq1
 clear hx q1 hb1 hq1;have Xx:Below x.heap.size x x:=F4 _ _;refine tq 0 b ?_;refine I4 1 b ?_;refine Ma (rs:=[2,3,4]) U2 X0 (x8 (o:=⟨some 5,.call ⟨.value (.func 28),#[.tmp 4],#[25]⟩,44,_,_,none⟩) rfl (fun K c=>?_) (x8 (o:=⟨some 6,.makeMap 94 none,94,_,_,none⟩) rfl (fun K c=>?_) (x8 (o:=⟨some 7,.makeMap 95 none,95,_,_,none⟩) rfl (fun K c=>?_) Ra)))
 · go_simp
   refine (G.c28 a cap fs x hfl HFS.out (G.T.U0 HAT.out J) (HVZ.out x J)).mono ?_;rintro e m ⟨⟨ms,pv,rfl,l,t⟩,bx2⟩;obtain ⟨j,pc,N,_⟩:=G.J7 l;subst N;have Px2:Hid (m.ownsRow w.heap.size 47 3 (.slice j ms.length pc) ms.length (G.R5 ms)):=Q0 (D5 l J.size);have L:=Q0 t;clear l t;go_simp;have Lx2:=bT J bx2;have Xx2:=bT Xx bx2;clear b;refine Z6 c ?_ fun b=>?_
   · exact (Xx2.cell (p:=⟨w.heap.size,0,none⟩) k).trans h
   clear c K;refine Ma (rs:=[3,4]) U2 X0 (x8 (o:=⟨some 6,.makeMap 94 none,94,_,_,none⟩) rfl (fun K c=>?_) (x8 (o:=⟨some 7,.makeMap 95 none,95,_,_,none⟩) rfl (fun K c=>?_) Ra))
   · go_simp
     obtain ⟨y,uW⟩:∃ f:World,f=m.alloc (.map #[] 0):=⟨_,rfl⟩;rw [<- uW];have EZ:Below m.heap.size m y:=by rw [uW];exact bA
     have jV:Hid (y.ownsMap prog 9 X9 m.heap.size 0 (mapD [])):=by show World.ownsMap _ _ _ _ _ _ _;rw [uW];exact Tj m prog 9 X9
     clear uW;have a1s:=bT Lx2 EZ;have a1t:=bT Xx2 EZ;have a3n:=Q0 (ownsRow_below Px2.out EZ);clear b;refine Z6 c ?_ fun b=>?_
     · exact (a1t.cell (p:=⟨w.heap.size,0,none⟩) k).trans h
     clear c K;refine Ma (rs:=[4]) U2 X0 (x8 (o:=⟨some 7,.makeMap 95 none,95,_,_,none⟩) rfl (fun K c=>?_) Ra);go_simp;obtain ⟨R,PT⟩:∃ f:World,f=y.alloc (.map #[] 0):=⟨_,rfl⟩;rw [<- PT];have QT:Below y.heap.size y R:=by rw [PT];exact bA
     have kV:Hid (R.ownsMap prog 9 X9 y.heap.size 0 (mapD [])):=by show World.ownsMap _ _ _ _ _ _ _;rw [PT];exact Tj y prog 9 X9
     clear PT;have lX:=bT a1s QT;have mX:=bT a1t QT;have a1u:=Q0 (ownsRow_below a3n.out QT);have lV:=Q0 (M6 jV.out QT (Y6 jV.out));clear b;refine c.out _ _ ?_ fun b=>?_
     · exact (mX.cell (p:=⟨w.heap.size,0,none⟩) k).trans h
     clear c K;refine I4 5 b ?_;refine rq 6 fun K c=>?_;go_simp;obtain ⟨z,g⟩:∃ f:World,f=R.alloc (.cells #[.slice a fs.length cap,.slice j ms.length pc,.map (some m.heap.size),.map (some y.heap.size),.slice none 0 0] 98):=⟨_,rfl⟩;rw [<- g];have d:Below R.heap.size R z:=by rw [g];exact bA
     have F:Hid (Cl z R.heap.size 98 [.slice a fs.length cap,.slice j ms.length pc,.map (some m.heap.size),.map (some y.heap.size),.slice none 0 0]):=by show Cl _ _ _ _;rw [g];exact U1 R _ 98
     have D:=bT lX d;have A:=bT mX d;have B:=Q0 (ownsRow_below a1u.out d);have q:=Q0 (M6 lV.out d (Y6 lV.out));have C:=Q0 (M6 kV.out d (Y6 kV.out));clear g;clear b;refine c.out _ _ ?_ fun b=>?_
     · exact (A.cell (p:=⟨w.heap.size,0,none⟩) k).trans h
     clear c K;refine I4 7 b ?_;refine a_ ?_;have n:m.heap.size≠y.heap.size:=by
      have h1:=Y6 jV.out;have h2:y.heap.size<=y.heap.size:=Q6 _;omega
     have E:Hid (Ho w fs (.slice a fs.length cap) (.returned (pt R.heap.size)) z):=Q0 ⟨_,_,_,_,ms,rfl,F.out,q.out,C.out,B.out,L.out,lX.size,(by have:=Y6 q.out;exact Lx2.size),a1s.size,n,D⟩;clear n b;go_wp2;go_ret;exact E.out
   go_simp;obtain ⟨v,hx24⟩:∃ f:World,f=m.alloc (.map #[] 0):=⟨_,rfl⟩;rw [<- hx24];have FZ:Below m.heap.size m v:=by rw [hx24];exact bA
   have mV:Hid (v.ownsMap prog 9 X9 m.heap.size 0 (mapD [])):=by show World.ownsMap _ _ _ _ _ _ _;rw [hx24];exact Tj m prog 9 X9
   clear hx24;have a1v:=bT Lx2 FZ;have a1w:=bT Xx2 FZ;have a3o:=Q0 (ownsRow_below Px2.out FZ);clear b;refine Z6 c ?_ fun b=>?_
   · exact (a1w.cell (p:=⟨w.heap.size,0,none⟩) k).trans h
   clear c K;refine Ma (rs:=[3]) U2 X0 (x8 (o:=⟨some 6,.makeMap 94 none,94,_,_,none⟩) rfl (fun K c=>?_) Ra);go_simp;obtain ⟨Q,TT⟩:∃ f:World,f=v.alloc (.map #[] 0):=⟨_,rfl⟩;rw [<- TT];have UT:Below v.heap.size v Q:=by rw [TT];exact bA
   have nV:Hid (Q.ownsMap prog 9 X9 v.heap.size 0 (mapD [])):=by show World.ownsMap _ _ _ _ _ _ _;rw [TT];exact Tj v prog 9 X9
   clear TT;have nX:=bT a1v UT;have pX:=bT a1w UT;have a1x:=Q0 (ownsRow_below a3o.out UT);have oV:=Q0 (M6 mV.out UT (Y6 mV.out));clear b;refine c.out _ _ ?_ fun b=>?_
   · exact (pX.cell (p:=⟨w.heap.size,0,none⟩) k).trans h
   clear c K;refine I4 5 b ?_;refine rq 6 fun K c=>?_;go_simp;obtain ⟨z,g⟩:∃ f:World,f=Q.alloc (.cells #[.slice a fs.length cap,.slice j ms.length pc,.map (some v.heap.size),.map (some m.heap.size),.slice none 0 0] 98):=⟨_,rfl⟩;rw [<- g];have d:Below Q.heap.size Q z:=by rw [g];exact bA
   have F:Hid (Cl z Q.heap.size 98 [.slice a fs.length cap,.slice j ms.length pc,.map (some v.heap.size),.map (some m.heap.size),.slice none 0 0]):=by show Cl _ _ _ _;rw [g];exact U1 Q _ 98
   have D:=bT nX d;have A:=bT pX d;have B:=Q0 (ownsRow_below a1x.out d);have q:=Q0 (M6 nV.out d (Y6 nV.out));have C:=Q0 (M6 oV.out d (Y6 oV.out));clear g;clear b;refine c.out _ _ ?_ fun b=>?_
   · exact (A.cell (p:=⟨w.heap.size,0,none⟩) k).trans h
   clear c K;refine I4 7 b ?_;refine a_ ?_;have n:v.heap.size≠m.heap.size:=by
    have h1:=Y6 mV.out;have h2:v.heap.size<=v.heap.size:=Q6 _;omega
   have E:Hid (Ho w fs (.slice a fs.length cap) (.returned (pt Q.heap.size)) z):=Q0 ⟨_,_,_,_,ms,rfl,F.out,q.out,C.out,B.out,L.out,nX.size,(by have:=Y6 q.out;exact a1v.size),Lx2.size,n,D⟩;clear n b;go_wp2;go_ret;exact E.out
 · go_simp
   obtain ⟨s,hx3⟩:∃ f:World,f=x.alloc (.map #[] 0):=⟨_,rfl⟩;rw [<- hx3];have bx3:Below x.heap.size x s:=by rw [hx3];exact bA
   have X:Hid (s.ownsMap prog 9 X9 x.heap.size 0 (mapD [])):=by show World.ownsMap _ _ _ _ _ _ _;rw [hx3];exact Tj x prog 9 X9
   clear hx3;have Z:=bT J bx3;have Xx3:=bT Xx bx3;clear b;refine Z6 c ?_ fun b=>?_
   · exact (Xx3.cell (p:=⟨w.heap.size,0,none⟩) k).trans h
   clear c K;refine Ma (rs:=[2,4]) U2 X0 (x8 (o:=⟨some 5,.call ⟨.value (.func 28),#[.tmp 4],#[25]⟩,44,_,_,none⟩) rfl (fun K c=>?_) (x8 (o:=⟨some 7,.makeMap 95 none,95,_,_,none⟩) rfl (fun K c=>?_) Ra))
   · go_simp
     refine (G.c28 a cap fs s hfl HFS.out (G.T.U0 HAT.out Z) (HVZ.out s Z)).mono ?_;rintro e I ⟨⟨ms,pv,rfl,l,t⟩,vW⟩;obtain ⟨j,pc,N,_⟩:=G.J7 l;subst N;have a3p:Hid (I.ownsRow w.heap.size 47 3 (.slice j ms.length pc) ms.length (G.R5 ms)):=Q0 (D5 l Z.size);have L:=Q0 t;clear l t;go_simp;have a1y:=bT Z vW;have a1z:=bT Xx3 vW;have qX:=Q0 (M6 X.out vW (Y6 X.out));clear b;refine Z6 c ?_ fun b=>?_
     · exact (a1z.cell (p:=⟨w.heap.size,0,none⟩) k).trans h
     clear c K;refine Ma (rs:=[4]) U2 X0 (x8 (o:=⟨some 7,.makeMap 95 none,95,_,_,none⟩) rfl (fun K c=>?_) Ra);go_simp;obtain ⟨P,VT⟩:∃ f:World,f=I.alloc (.map #[] 0):=⟨_,rfl⟩;rw [<- VT];have WT:Below I.heap.size I P:=by rw [VT];exact bA
     have pV:Hid (P.ownsMap prog 9 X9 I.heap.size 0 (mapD [])):=by show World.ownsMap _ _ _ _ _ _ _;rw [VT];exact Tj I prog 9 X9
     clear VT;have rX:=bT a1y WT;have tX:=bT a1z WT;have qV:=Q0 (M6 qX.out WT (Y6 qX.out));have a1A:=Q0 (ownsRow_below a3p.out WT);clear b;refine c.out _ _ ?_ fun b=>?_
     · exact (tX.cell (p:=⟨w.heap.size,0,none⟩) k).trans h
     clear c K;refine I4 5 b ?_;refine rq 6 fun K c=>?_;go_simp;obtain ⟨z,g⟩:∃ f:World,f=P.alloc (.cells #[.slice a fs.length cap,.slice j ms.length pc,.map (some x.heap.size),.map (some I.heap.size),.slice none 0 0] 98):=⟨_,rfl⟩;rw [<- g];have d:Below P.heap.size P z:=by rw [g];exact bA
     have F:Hid (Cl z P.heap.size 98 [.slice a fs.length cap,.slice j ms.length pc,.map (some x.heap.size),.map (some I.heap.size),.slice none 0 0]):=by show Cl _ _ _ _;rw [g];exact U1 P _ 98
     have D:=bT rX d;have A:=bT tX d;have B:=Q0 (ownsRow_below a1A.out d);have q:=Q0 (M6 qV.out d (Y6 qV.out));have C:=Q0 (M6 pV.out d (Y6 pV.out));clear g;clear b;refine c.out _ _ ?_ fun b=>?_
     · exact (A.cell (p:=⟨w.heap.size,0,none⟩) k).trans h
     clear c K;refine I4 7 b ?_;refine a_ ?_;have n:x.heap.size≠I.heap.size:=by
      have h1:=Y6 X.out;have h2:s.heap.size<=I.heap.size:=vW.size;omega
     have E:Hid (Ho w fs (.slice a fs.length cap) (.returned (pt P.heap.size)) z):=Q0 ⟨_,_,_,_,ms,rfl,F.out,q.out,C.out,B.out,L.out,rX.size,(by have:=Y6 q.out;exact J.size),a1y.size,n,D⟩;clear n b;go_wp2;go_ret;exact E.out
   go_simp;obtain ⟨x34,hx34⟩:∃ f:World,f=s.alloc (.map #[] 0):=⟨_,rfl⟩;rw [<- hx34];have GZ:Below s.heap.size s x34:=by rw [hx34];exact bA
   have uX:Hid (x34.ownsMap prog 9 X9 s.heap.size 0 (mapD [])):=by show World.ownsMap _ _ _ _ _ _ _;rw [hx34];exact Tj s prog 9 X9
   clear hx34;have wW:=bT Z GZ;have a1B:=bT Xx3 GZ;have vX:=Q0 (M6 X.out GZ (Y6 X.out));clear b;refine Z6 c ?_ fun b=>?_
   · exact (a1B.cell (p:=⟨w.heap.size,0,none⟩) k).trans h
   clear c K;refine Ma (rs:=[2]) U2 X0 (x8 (o:=⟨some 5,.call ⟨.value (.func 28),#[.tmp 4],#[25]⟩,44,_,_,none⟩) rfl (fun K c=>?_) Ra);go_simp;refine (G.c28 a cap fs x34 hfl HFS.out (G.T.U0 HAT.out wW) (HVZ.out x34 wW)).mono ?_;rintro e V ⟨⟨ms,pv,rfl,l,t⟩,XT⟩;obtain ⟨j,pc,N,_⟩:=G.J7 l;subst N;have a1C:Hid (V.ownsRow w.heap.size 47 3 (.slice j ms.length pc) ms.length (G.R5 ms)):=Q0 (D5 l wW.size);have L:=Q0 t;clear l t;go_simp;have wX:=bT wW XT;have xX:=bT a1B XT;have rV:=Q0 (M6 vX.out XT (Y6 vX.out));have sV:=Q0 (M6 uX.out XT (Y6 uX.out));clear b;refine c.out _ _ ?_ fun b=>?_
   · exact (xX.cell (p:=⟨w.heap.size,0,none⟩) k).trans h
   clear c K;refine I4 5 b ?_;refine rq 6 fun K c=>?_;go_simp;obtain ⟨z,g⟩:∃ f:World,f=V.alloc (.cells #[.slice a fs.length cap,.slice j ms.length pc,.map (some x.heap.size),.map (some s.heap.size),.slice none 0 0] 98):=⟨_,rfl⟩;rw [<- g];have d:Below V.heap.size V z:=by rw [g];exact bA
   have F:Hid (Cl z V.heap.size 98 [.slice a fs.length cap,.slice j ms.length pc,.map (some x.heap.size),.map (some s.heap.size),.slice none 0 0]):=by show Cl _ _ _ _;rw [g];exact U1 V _ 98
   have D:=bT wX d;have A:=bT xX d;have B:=Q0 (ownsRow_below a1C.out d);have q:=Q0 (M6 rV.out d (Y6 rV.out));have C:=Q0 (M6 sV.out d (Y6 sV.out));clear g;clear b;refine c.out _ _ ?_ fun b=>?_
   · exact (A.cell (p:=⟨w.heap.size,0,none⟩) k).trans h
   clear c K;refine I4 7 b ?_;refine a_ ?_;have n:x.heap.size≠s.heap.size:=by
    have h1:=Y6 X.out;have h2:s.heap.size<=s.heap.size:=Q6 _;omega
   have E:Hid (Ho w fs (.slice a fs.length cap) (.returned (pt V.heap.size)) z):=Q0 ⟨_,_,_,_,ms,rfl,F.out,q.out,C.out,B.out,L.out,wX.size,(by have:=Y6 q.out;exact J.size),Z.size,n,D⟩;clear n b;go_wp2;go_ret;exact E.out
 go_simp;obtain ⟨r,hx4⟩:∃ f:World,f=x.alloc (.map #[] 0):=⟨_,rfl⟩;rw [<- hx4];have bx4:Below x.heap.size x r:=by rw [hx4];exact bA
 have W:Hid (r.ownsMap prog 9 X9 x.heap.size 0 (mapD [])):=by show World.ownsMap _ _ _ _ _ _ _;rw [hx4];exact Tj x prog 9 X9
 clear hx4;have Y:=bT J bx4;have Xx4:=bT Xx bx4;clear b;refine Z6 c ?_ fun b=>?_
 · exact (Xx4.cell (p:=⟨w.heap.size,0,none⟩) k).trans h
 clear c K;refine Ma (rs:=[2,3]) U2 X0 (x8 (o:=⟨some 5,.call ⟨.value (.func 28),#[.tmp 4],#[25]⟩,44,_,_,none⟩) rfl (fun K c=>?_) (x8 (o:=⟨some 6,.makeMap 94 none,94,_,_,none⟩) rfl (fun K c=>?_) Ra))
 · go_simp
   refine (G.c28 a cap fs r hfl HFS.out (G.T.U0 HAT.out Y) (HVZ.out r Y)).mono ?_;rintro e H ⟨⟨ms,pv,rfl,l,t⟩,xW⟩;obtain ⟨j,pc,N,_⟩:=G.J7 l;subst N;have a3q:Hid (H.ownsRow w.heap.size 47 3 (.slice j ms.length pc) ms.length (G.R5 ms)):=Q0 (D5 l Y.size);have L:=Q0 t;clear l t;go_simp;have a1D:=bT Y xW;have a1E:=bT Xx4 xW;have yX:=Q0 (M6 W.out xW (Y6 W.out));clear b;refine Z6 c ?_ fun b=>?_
   · exact (a1E.cell (p:=⟨w.heap.size,0,none⟩) k).trans h
   clear c K;refine Ma (rs:=[3]) U2 X0 (x8 (o:=⟨some 6,.makeMap 94 none,94,_,_,none⟩) rfl (fun K c=>?_) Ra);go_simp;obtain ⟨O,YT⟩:∃ f:World,f=H.alloc (.map #[] 0):=⟨_,rfl⟩;rw [<- YT];have ZT:Below H.heap.size H O:=by rw [YT];exact bA
   have tV:Hid (O.ownsMap prog 9 X9 H.heap.size 0 (mapD [])):=by show World.ownsMap _ _ _ _ _ _ _;rw [YT];exact Tj H prog 9 X9
   clear YT;have AX:=bT a1D ZT;have BX:=bT a1E ZT;have uV:=Q0 (M6 yX.out ZT (Y6 yX.out));have a1F:=Q0 (ownsRow_below a3q.out ZT);clear b;refine c.out _ _ ?_ fun b=>?_
   · exact (BX.cell (p:=⟨w.heap.size,0,none⟩) k).trans h
   clear c K;refine I4 5 b ?_;refine rq 6 fun K c=>?_;go_simp;obtain ⟨z,g⟩:∃ f:World,f=O.alloc (.cells #[.slice a fs.length cap,.slice j ms.length pc,.map (some H.heap.size),.map (some x.heap.size),.slice none 0 0] 98):=⟨_,rfl⟩;rw [<- g];have d:Below O.heap.size O z:=by rw [g];exact bA
   have F:Hid (Cl z O.heap.size 98 [.slice a fs.length cap,.slice j ms.length pc,.map (some H.heap.size),.map (some x.heap.size),.slice none 0 0]):=by show Cl _ _ _ _;rw [g];exact U1 O _ 98
   have D:=bT AX d;have A:=bT BX d;have B:=Q0 (ownsRow_below a1F.out d);have q:=Q0 (M6 tV.out d (Y6 tV.out));have C:=Q0 (M6 uV.out d (Y6 uV.out));clear g;clear b;refine c.out _ _ ?_ fun b=>?_
   · exact (A.cell (p:=⟨w.heap.size,0,none⟩) k).trans h
   clear c K;refine I4 7 b ?_;refine a_ ?_;have n:H.heap.size≠x.heap.size:=by
    have h1:=Y6 W.out;have h2:r.heap.size<=H.heap.size:=xW.size;omega
   have E:Hid (Ho w fs (.slice a fs.length cap) (.returned (pt O.heap.size)) z):=Q0 ⟨_,_,_,_,ms,rfl,F.out,q.out,C.out,B.out,L.out,AX.size,(by have:=Y6 q.out;exact a1D.size),J.size,n,D⟩;clear n b;go_wp2;go_ret;exact E.out
 go_simp;obtain ⟨x43,zW⟩:∃ f:World,f=r.alloc (.map #[] 0):=⟨_,rfl⟩;rw [<- zW];have IZ:Below r.heap.size r x43:=by rw [zW];exact bA
 have EX:Hid (x43.ownsMap prog 9 X9 r.heap.size 0 (mapD [])):=by show World.ownsMap _ _ _ _ _ _ _;rw [zW];exact Tj r prog 9 X9
 clear zW;have CW:=bT Y IZ;have a1G:=bT Xx4 IZ;have FX:=Q0 (M6 W.out IZ (Y6 W.out));clear b;refine Z6 c ?_ fun b=>?_
 · exact (a1G.cell (p:=⟨w.heap.size,0,none⟩) k).trans h
 clear c K;refine Ma (rs:=[2]) U2 X0 (x8 (o:=⟨some 5,.call ⟨.value (.func 28),#[.tmp 4],#[25]⟩,44,_,_,none⟩) rfl (fun K c=>?_) Ra);go_simp;refine (G.c28 a cap fs x43 hfl HFS.out (G.T.U0 HAT.out CW) (HVZ.out x43 CW)).mono ?_;rintro e U ⟨⟨ms,pv,rfl,l,t⟩,aU⟩;obtain ⟨j,pc,N,_⟩:=G.J7 l;subst N;have a1H:Hid (U.ownsRow w.heap.size 47 3 (.slice j ms.length pc) ms.length (G.R5 ms)):=Q0 (D5 l CW.size);have L:=Q0 t;clear l t;go_simp;have GX:=bT CW aU;have IX:=bT a1G aU;have vV:=Q0 (M6 FX.out aU (Y6 FX.out));have wV:=Q0 (M6 EX.out aU (Y6 EX.out));clear b;refine c.out _ _ ?_ fun b=>?_
 · exact (IX.cell (p:=⟨w.heap.size,0,none⟩) k).trans h
 clear c K;refine I4 5 b ?_;refine rq 6 fun K c=>?_;go_simp;obtain ⟨z,g⟩:∃ f:World,f=U.alloc (.cells #[.slice a fs.length cap,.slice j ms.length pc,.map (some r.heap.size),.map (some x.heap.size),.slice none 0 0] 98):=⟨_,rfl⟩;rw [<- g];have d:Below U.heap.size U z:=by rw [g];exact bA
 have F:Hid (Cl z U.heap.size 98 [.slice a fs.length cap,.slice j ms.length pc,.map (some r.heap.size),.map (some x.heap.size),.slice none 0 0]):=by show Cl _ _ _ _;rw [g];exact U1 U _ 98
 have D:=bT GX d;have A:=bT IX d;have B:=Q0 (ownsRow_below a1H.out d);have q:=Q0 (M6 wV.out d (Y6 wV.out));have C:=Q0 (M6 vV.out d (Y6 vV.out));clear g;clear b;refine c.out _ _ ?_ fun b=>?_
 · exact (A.cell (p:=⟨w.heap.size,0,none⟩) k).trans h
 clear c K;refine I4 7 b ?_;refine a_ ?_;have n:r.heap.size≠x.heap.size:=by
  have h1:=Y6 W.out;have h2:r.heap.size<=r.heap.size:=Q6 _;omega
 have E:Hid (Ho w fs (.slice a fs.length cap) (.returned (pt U.heap.size)) z):=Q0 ⟨_,_,_,_,ms,rfl,F.out,q.out,C.out,B.out,L.out,GX.size,(by have:=Y6 q.out;exact Y.size),J.size,n,D⟩;clear n b;go_wp2;go_ret;exact E.out
end Go.Proofs.YtdjaajjndfbpmaaGreatDoor
namespace Go.Proofs.YtdjaajjndfbpmaaGreatDoor.LO
open Proofs.Tryz
open Go.ChangeShapes Go.WideShapes Go.ChangeAt Go.RowKit
open G.T (F2 P6 F3)
variable {H α:Type} {W w:World} {base fuel:Nat} {cs:List Value}
theorem own:ownKnob prog.godebug=none:=U2
theorem laidOut:laidOutB prog=true:=U2
def cell1:DataW Unit->Value
 | .lit (.int k n)=>.int k n
 | .lit (.bool b)=>.bool b
 | .lit (.string l)=>.string ⟨l.toArray⟩
 | _=>.bool false
def SK:DataW Unit->List Value
 | .agg es=>es.map cell1
 | d=>[cell1 d]
def Hr:DataW Unit->Array Value
 | .agg ds=>(ds.flatMap SK).toArray
 | _=>#[]
def qm (g:Nat) (t:Array Value) (w:World):World:={ w with heap:=w.heap.modify g fun
 | .cells _ ty frozen=>.cells t ty frozen
 | o=>o }
theorem bG:prog.cellsOf 9=1:=U2
end Go.Proofs.YtdjaajjndfbpmaaGreatDoor.LO

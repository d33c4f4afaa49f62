import Derived.Test.YtchjpjmcnhjbcaaGreatDoorwG
import Derived.Test.YtchjpjmcnhjbcaaGreatDooryM
import Derived.Test.YtchjpjmcnhjbcaaGreatDoorvW
set_option linter.unusedVariables false
set_option maxHeartbeats 8000000
set_option maxRecDepth 100000
namespace Go.Proofs.YtchjpjmcnhjbcaaGreatDoor
open Proofs.Tryz Go.RowKit
def JbI (b:Bs):Prop:=∀ i,i<b.jb.length->(∀ t,t<i->¬ Zk (b.jb.getD i Jc) (b.jb.getD t Jc))/\Hw b (b.jb.getD i Jc)
theorem mP {w:World} {b off k:Nat} {l:List Jb} (hk:k<=l.length) (hl:b<w.heap.size) (h:∀ i,i<l.length->Bc w b (off+i*3) (VT (l.getD i Jc))):Bl w (some ⟨b,off,none⟩) (l.take k):=.inr ⟨b,off,rfl,hl,fun i a=>by
 have h1:i<l.length:=by simp at a;omega
 have h2:i<k:=by simp at a;omega
 have e:(l.take k).getD i Jc=l.getD i Jc:=by simp [List.getD,h1,h2]
 rw [e];exact h i h1⟩
theorem c77 (b:Bs) (q:Ba) (w:World) (hl:Gj b 1048576) (hcp:b.jb.length<=q.jc) (hn1:0<=b.now) (hn2:b.now<=1000000) (A:Oh w b q):
 Calls prog 77 #[.agg #[.int .i64 b.wd,.bool b.up,.int .i64 b.now,.int .i64 b.ep,.int .i64 b.ed,.slice q.sa b.sf.length q.sc,.slice q.la b.lo.length q.lc,.slice q.fa b.fs.length q.fc,.int .i64 b.s.wd,.slice q.ta b.s.ts.length q.tc,.slice q.ra b.s.rs.length q.rc,.slice q.ha b.hd.length q.hc,.slice q.oa b.rt.length q.oc,.slice q.na b.rn.length q.nc,.slice q.ja b.jb.length q.jc]] w fun e w'=>Rb (JbI b) e/\Bw w w':=by
 have HA:=U0 A;have HL0:=U0 hl;have hjl:=hl.jl;obtain ⟨Q,P,hc⟩:=N_ A.jb;have HC:=U0 hc;clear A hl hc;go_enter func77,ntmps77
 go_upto_region 1 with fail
 have C0:=U0 (Y4 w [vI b.wd,.bool b.up,vI b.now,vI b.ep,vI b.ed,vL q.sa b.sf.length q.sc,vL q.la b.lo.length q.lc,vL q.fa b.fs.length q.fc,vI b.s.wd,vL q.ta b.s.ts.length q.tc,vL q.ra b.s.rs.length q.rc,vL q.ha b.hd.length q.hc,vL q.oa b.rt.length q.oc,vL q.na b.rn.length q.nc,vL q.ja b.jb.length q.jc] 47);have B0:=U0 (P6 (w:=w) (o:=.cells #[vI b.wd,.bool b.up,vI b.now,vI b.ep,vI b.ed,vL q.sa b.sf.length q.sc,vL q.la b.lo.length q.lc,vL q.fa b.fs.length q.fc,vI b.s.wd,vL q.ta b.s.ts.length q.tc,vL q.ra b.s.rs.length q.rc,vL q.ha b.hd.length q.hc,vL q.oa b.rt.length q.oc,vL q.na b.rn.length q.nc,vL q.ja b.jb.length q.jc] 47));generalize w.alloc (.cells #[vI b.wd,.bool b.up,vI b.now,vI b.ep,vI b.ed,vL q.sa b.sf.length q.sc,vL q.la b.lo.length q.lc,vL q.fa b.fs.length q.fc,vI b.s.wd,vL q.ta b.s.ts.length q.tc,vL q.ra b.s.rs.length q.rc,vL q.ha b.hd.length q.hc,vL q.oa b.rt.length q.oc,vL q.na b.rn.length q.nc,vL q.ja b.jb.length q.jc] 47)=V0 at*;have a:=C0.out.cell 14;simp only [@gz Value] at a;by_cases v:b.jb.length=0
 · have H:Hid (JbI b):=fun i r=>absurd r O0;rw [v] at a
   go_wp2_with fail
   go_loop [9] (fun i=>i=.int .i64 0) (fun _=>0)
   case atStart=>rfl
   case round=>
    obtain rfl:=hrel;go_wp2;go_ret;exact ⟨u_ H.out,B0.out⟩
 rcases HC.out with hss | ⟨ha,y,R⟩
 · rw [hss] at v;exact absurd rfl v
 have p:Hid (∀ u,Bw w u->∀ t,t<b.jb.length->Bc u Q (P+t*3) (VT (b.jb.getD t Jc))):=fun u hu t ht=>(R t ht).below y hu;rw [ha] at a;have Z:=U0 ha;clear ha R
 go_wp2_with fail
 go_loopw [9] (fun i wr=>∃ k:Nat,k<=b.jb.length/\i=.int .i64 k/\Hid (∀ i,i<k->(∀ t,t<i->¬ Zk (b.jb.getD i Jc) (b.jb.getD t Jc))/\Hw b (b.jb.getD i Jc))/\Hid (Cl wr w.heap.size 47 [.int .i64 b.wd,.bool b.up,.int .i64 b.now,.int .i64 b.ep,.int .i64 b.ed,.slice q.sa b.sf.length q.sc,.slice q.la b.lo.length q.lc,.slice q.fa b.fs.length q.fc,.int .i64 b.s.wd,.slice q.ta b.s.ts.length q.tc,.slice q.ra b.s.rs.length q.rc,.slice q.ha b.hd.length q.hc,.slice q.oa b.rt.length q.oc,.slice q.na b.rn.length q.nc,.slice q.ja b.jb.length q.jc])/\Below w.heap.size w wr) (fun i _=>b.jb.length - (RowKit.intOf i).toNat)
 case atStart=>exact ⟨0,J4 _,rfl,fun j h=>absurd h (J8 _),C0,B0.out⟩
 case round=>
  obtain ⟨k,g,rfl,hd,K,S⟩:=hrel;have f:=U0 S;clear S;clear a;have a:=K.out.cell 14;simp only [@gz Value] at a;rw [Z.out] at a;by_cases m:k<b.jb.length;rotate_left
  · obtain rfl:k=b.jb.length:=O0;have H:Hid (JbI b):=hd.out;go_wp2;go_ret;exact ⟨u_ H.out,f.out⟩
  have a4s:=O9 y f.out.size;have g0:=p.out wr f.out k m 0 _ rfl;have g1:=p.out wr f.out k m 1 _ rfl;have g2:=p.out wr f.out k m 2 _ rfl;dsimp only [Nat.add_zero] at g0;have X:Hid (¬ ((∀ t,t<k->¬ Zk (b.jb.getD k Jc) (b.jb.getD t Jc))/\Hw b (b.jb.getD k Jc))->¬ JbI b):=fun d h=>d (h k m);have HD:Hid (((∀ t,t<k->¬ Zk (b.jb.getD k Jc) (b.jb.getD t Jc))/\Hw b (b.jb.getD k Jc))->∀ i,i<k+1->(∀ t,t<i->¬ Zk (b.jb.getD i Jc) (b.jb.getD t Jc))/\Hw b (b.jb.getD i Jc)):=fun d j hj=>by
   rcases Q7 j k with h | h
   · exact hd.out j h
   · obtain rfl:j=k:=O0;exact d
  have W:Hid (∀ j:Jb,(∃ i,i<(b.jb.take k).length/\Zk j ((b.jb.take k).getD i Jc))↔¬ ∀ t,t<k->¬ Zk j (b.jb.getD t Jc)):=fun j=>by
   constructor
   · rintro ⟨i,r,h⟩ d;have h2:i<k:=by simp at r;omega
     have h1:i<b.jb.length:=O0;rw [show (b.jb.take k).getD i Jc=b.jb.getD i Jc by simp [List.getD,h1,h2]] at h;exact d i h2 h
   · intro d;obtain ⟨t,h⟩:=Classical.not_forall.1 d;obtain ⟨h2,h⟩:=Classical.not_imp.1 h;have h1:t<b.jb.length:=O0;refine ⟨t,U7,?_⟩;rw [show (b.jb.take k).getD t Jc=b.jb.getD t Jc by simp [List.getD,h1,h2]];exact NI.1 h
  generalize b.jb.getD k Jc=j at*;clear hd
  go_upto_region 4 with fail
  have l:=U0 (Y4 wr [vS j.nm,vI j.wk,vI j.un] 107);have BV:=U0 (P6 (w:=wr) (o:=.cells #[vS j.nm,vI j.wk,vI j.un] 107));generalize wr.alloc (.cells #[vS j.nm,vI j.wk,vI j.un] 107)=V at*;have N:=U0 (K.out.below BV.out K.out.lt);have I:=U0 (X5 f.out BV.out);clear g0 g1 g2 a;have a:=N.out.cell 14;simp only [@gz Value] at a;have D:=l.out.cell 0;have C:=l.out.cell 1;simp only [@gz Value] at D C;rw [Z.out] at a;have hkc:k<=q.jc:=O0;have x:=a2o (some (aA Q P)) q.jc (b.jb.take k) j wr.heap.size V (by rw [Po g];omega) (mP g (O9 y I.out.size) (p.out V I.out)) D C l.out.lt;rw [Po g] at x;have Y:=U0 x;clear x
  go_wp2_with fail
  refine Y.out.mono ?_;rintro e w1 ⟨⟨E,rfl,c⟩,n⟩;have L:=U0 (N.out.below n N.out.lt);have D2:=U0 (l.out.below n l.out.lt);have F:=U0 (X5 I.out n);clear n a D C Y
  cases E with
  | true=>
   have J:=U0 (X.out (fun h=>(W.out j).1 (by rw [Po g];exact c.1 rfl) h.1));clear c;go_wp2;go_ret;exact ⟨G5 J.out,F.out⟩
  | false=>
  have HO:Hid (∀ t,t<k->¬ Zk j (b.jb.getD t Jc)):=by
   refine NI.1 fun h=>?_;have:=c.2 (by have O:=(W.out j).2 h;rw [Po g] at O;exact O);cases this
  clear c
  go_wp2_with (first | (refine Au rfl 47 _ rfl (B:=w.heap.size) rfl L.out underlying47 rfl Y2 ?_) | (refine Au rfl 107 _ rfl (B:=wr.heap.size) rfl D2.out underlying107 rfl Y2 ?_))
  refine (a3h b q j w1 HL0.out hn1 hn2 (Le HA.out.rn F.out)).mono ?_;rintro e w2 ⟨⟨E,rfl,c⟩,z⟩;have C3:=U0 (L.out.below z L.out.lt);have U:=U0 (X5 F.out z);clear z
  cases E with
  | false=>
   have J:=U0 (X.out (fun h=>by have:=c.2 h.2;cases this));clear c;go_wp2;go_ret;exact ⟨G5 J.out,U.out⟩
  | true=>
   have HD1:=U0 (HD.out ⟨HO.out,c.1 rfl⟩);clear c;go_wp2;go_roundw
   case rel=>exact ⟨k+1,O0,by go_num,HD1,C3,U.out⟩
   case measure=>simp [RowKit.intOf];omega
theorem a0r {w:World} {b:Nat} {cd:Int} {m:MS} {fa ta ra:OA} {fc tc rc:Nat} (h:Me w b cd m [.int .i64 cd,.int .i64 m.ep,.slice fa m.fs.length fc,.int .i64 m.s.wd,.slice ta m.s.ts.length tc,.slice ra m.s.rs.length rc]):Kp b w fun u=>T.G6 u fa m.fs/\Ig u ta ra m.s:=fun u a c=>by
 obtain ⟨_,_,_,_,_,_,e,f,d⟩:=(h.keep a c).rd;simp at e;obtain ⟨⟨rfl,rfl⟩,⟨rfl,rfl⟩,rfl,rfl⟩:=e;exact ⟨f,d⟩
theorem a3n (a:OA) (b:Nat) (es:LB) (W:Int) (w:World) (hl:es.length<=1048576) (c:∀ i,(es.getD i ByteArray.empty).size<=1048576) (g:P7 w a es) (d:Dc w):
 Calls prog 70 #[.slice a es.length b,.int .i64 W] w fun e w'=>(∃ cd m fa fc ta tc ra rc,e=.returned (.agg #[.int .i64 cd,.int .i64 m.ep,.slice fa m.fs.length fc,.int .i64 m.s.wd,.slice ta m.s.ts.length tc,.slice ra m.s.rs.length rc])/\Out RE es W cd m/\Kp w.heap.size w' fun u=>T.G6 u fa m.fs/\Ig u ta ra m.s)/\Bw w w':=by
 refine (a3V a b es W w hl c g d).mono ?_;rintro e w' ⟨⟨cd,m,vs,rfl,h1,h2⟩,f⟩;have h:=h2;obtain ⟨fa,fc,ta,tc,ra,rc,rfl,_,_⟩:=h2;exact ⟨⟨cd,m,fa,fc,ta,tc,ra,rc,rfl,h1,a0r h⟩,f⟩
theorem a2Q (a:OA) (k:Nat) (es:LB) (W:Int) (w:World) (hl:es.length<=1048576) (f:∀ i,(es.getD i ByteArray.empty).size<=1048576) (p:P7 w a es):
 Calls prog 56 #[.slice a es.length k,.int .i64 W] w fun e w'=>(∃ cd m fa fc ta tc ra rc,e=.returned (.agg #[.int .i64 cd,.int .i64 m.ep,.slice fa m.fs.length fc,.int .i64 m.s.wd,.slice ta m.s.ts.length tc,.slice ra m.s.rs.length rc])/\Out RES es W cd m/\Kp w.heap.size w' fun u=>T.G6 u fa m.fs/\Ig u ta ra m.s)/\Bw w w':=by
 refine (c56 a k es W w hl f p).mono ?_;rintro e w' ⟨⟨vs,rfl,h⟩,n⟩;refine ⟨?_,n⟩;rcases h with ⟨h1,rfl⟩ | ⟨h1,o,h2,c⟩
 · exact ⟨1,DX,none,0,none,0,none,0,rfl,⟨YK,.inl ⟨h1,rfl,rfl⟩⟩,fun u _ _=>⟨.inl rfl,.inl rfl,.inl rfl⟩⟩
 rcases c with ⟨rfl,rfl⟩ | ⟨m,rfl,c⟩
 · exact ⟨2,DX,none,0,none,0,none,0,rfl,⟨YK,.inr ⟨h1,_,h2,.inl ⟨rfl,rfl,rfl⟩⟩⟩,fun u _ _=>⟨.inl rfl,.inl rfl,.inl rfl⟩⟩
 obtain ⟨fv,tv,rv,rfl,b,d⟩:=c.ex;obtain ⟨fa,fc,rfl,hf⟩:=Wu b;obtain ⟨ta,tc,rfl⟩:=I_ d.1;have t:=d;obtain ⟨_,vs0,l⟩:=d;obtain ⟨ra,rc,rfl⟩:=I_ l.row;refine ⟨0,m,fa,fc,ta,tc,ra,rc,rfl,⟨KP c.ok,.inr ⟨h1,_,h2,.inr ⟨rfl,rfl⟩⟩⟩,fun u f j=>⟨?_,vz (t.keep j)⟩⟩;have r:=o7 (u':=u) b (fun q g=>j q (J6 b g) (Xe b g));obtain ⟨fa',fc',e,hf⟩:=Wu r;injection e with e;subst e;exact hf
structure MT (R:List UInt8->g_->Bool->Prop) (w:World) (b:Bs) (q:Ba) (A:Nat) (cd:Int) (m:MS) (fa ta ra:OA) (fc tc rc:Nat) (u:World):Prop where
 out:Out R (b.sf++b.lo) b.wd cd m
 cm:Cl u A 95 [.int .i64 cd,.int .i64 m.ep,.slice fa m.fs.length fc,.int .i64 m.s.wd,.slice ta m.s.ts.length tc,.slice ra m.s.rs.length rc]
 cb:Cl u w.heap.size 47 (bsV b q)
 fl:T.G6 u fa m.fs
 st:Ig u ta ra m.s
 bel:Bw w u
def Pre (b:Bs):Prop:=(0<=b.now/\b.now<=1000000)/\Hrd b.hd b.now
def Upp (b:Bs) (m:MS):Prop:=gY b m/\(0<=b.ed/\b.ed<=1000)/\mJ b.rt/\∃ ms,G.Jj b.fs ms/\WC ms b.rn/\JbI b
def VM (b:Bs) (m:MS):Prop:=(b.up=true/\Upp b m)\/(b.up=false/\iC b)
theorem XU (b:Bs) (q:Ba) (w:World) (hl:Gj b 1048576) (hsl:b.sf.length+b.lo.length<=1048576) (hcp:yS b q) (hv:G.Vr w) (hat:Oh w b q):
 Calls prog 27 #[.agg (bsV b q).toArray] w fun e w'=>((e=.returned (.bool false)/\¬ Pre b)\/∃ cd m,Out RE (b.sf++b.lo) b.wd cd m/\Rb (Pre b/\cd=0/\VM b m) e)/\Bw w w':=by
 have J:=U0 hat;have F:=U0 hl;have HV:=U0 hv;have HCP:=U0 hcp;have HES:Hid (∀ i,((b.sf++b.lo).getD i ByteArray.empty).size<=1048576):=fun i=>by
  by_cases h:i<b.sf.length
  · rw [show (b.sf++b.lo).getD i ByteArray.empty=b.sf.getD i ByteArray.empty by simp [List.getD,S_ h]];exact hl.ss i
  · rw [show (b.sf++b.lo).getD i ByteArray.empty=b.lo.getD (i - b.sf.length) ByteArray.empty by simp [List.getD,Ue (Tv h)]];exact hl.ls _
 clear hat hl hv hcp;go_enter func27,ntmps27
 go_upto_region 1 with fail
 have W:=U0 (Y4 w (bsV b q) 47);have N:=U0 (P6 (w:=w) (o:=.cells (bsV b q).toArray 47));generalize w.alloc (.cells (bsV b q).toArray 47)=V at*;have a2:=W.out.cell 2;have a11:=W.out.cell 11;simp only [@gz Value] at a2 a11;by_cases h1:b.now<0
 · have U:Hid (¬ Pre b):=fun h=>by have:=h.1.1;omega
   go_wp2;go_ret;exact ⟨.inl ⟨rfl,U.out⟩,N.out⟩
 by_cases h2:1000000<b.now
 · have U:Hid (¬ Pre b):=fun h=>by have:=h.1.2;omega
   go_wp2;go_ret;exact ⟨.inl ⟨rfl,U.out⟩,N.out⟩
 go_wp2_with fail
 refine (c69 q.ha q.hc b.hd b.now V F.out.hl (oh J.out.hd N.out)).mono ?_;rintro e V' ⟨⟨D,rfl,f⟩,hw⟩;obtain rfl:=hw.symm
 cases D with
 | false=>
  have U:Hid (¬ Pre b):=fun h=>by have:=f.2 h.2;cases this
  clear f;go_wp2;go_ret;exact ⟨.inl ⟨rfl,U.out⟩,N.out⟩
 | true=>
 have HPR:Hid (Pre b):=⟨⟨O0,O0⟩,f.1 rfl⟩;clear f a2 a11
 go_upto_region 3 with fail
 go_cut [3] from 4 (fun s3 wx=>∃ A cd m fa ta ra fc tc rc,s3=.pointer (some (aA A 0))/\Hid (MT RE w b q A cd m fa ta ra fc tc rc wx))
 case first=>
  have l:Hid (∀ u,Bw V u->u.cell? (aW w 0)=some (vI b.wd)/\u.cell? (aW w 5)=some (vL q.sa b.sf.length q.sc)/\u.cell? (aW w 6)=some (vL q.la b.lo.length q.lc)):=fun u p=>have h:=W.out.below p W.out.lt;⟨h.cell 0,h.cell 5,h.cell 6⟩
  have bd:Bw V V.drew:=(Z4 _ _).drew;have HCA:Hid (∀ u,Bw V u->Calls prog 71 #[.agg #[.slice q.sa b.sf.length q.sc,.slice q.la b.lo.length q.lc]] u fun e w'=>(∃ a c,e=.returned (vL a (b.sf++b.lo).length c)/\P7 w' a (b.sf++b.lo))/\Bw u w'):=fun u p=>c71 b.sf b.lo q.sa q.la q.sc q.lc u hsl (U5 J.out.sf (X5 N.out p)) (U5 J.out.lo (X5 N.out p));have HCB:Hid (∀ u a c,Bw V u->P7 u a (b.sf++b.lo)->Calls prog 70 #[.slice a (b.sf.length+b.lo.length) c,.int .i64 b.wd] u fun e w'=>(∃ cd m fa fc ta tc ra rc,e=.returned (.agg #[vI cd,vI m.ep,vL fa m.fs.length fc,vI m.s.wd,vL ta m.s.ts.length tc,vL ra m.s.rs.length rc])/\Out RE (b.sf++b.lo) b.wd cd m/\Kp u.heap.size w' fun u=>T.G6 u fa m.fs/\Ig u ta ra m.s)/\Bw u w'):=fun u a c p h=>by
   have hc:=a3n a c (b.sf++b.lo) b.wd u (by rw [D9];exact hsl) HES.out h (x9 HV.out.vr.mx (X5 N.out p));rw [D9] at hc;exact hc
  have HMK:Hid (∀ (y z:World) (A:Nat) (cd:Int) (m:MS) (fa ta ra:OA) (fc tc rc:Nat),Bw V y->V.heap.size<=A->uy A y z->Cl z A 95 [vI cd,vI m.ep,vL fa m.fs.length fc,vI m.s.wd,vL ta m.s.ts.length tc,vL ra m.s.rs.length rc]->Out RE (b.sf++b.lo) b.wd cd m->T.G6 z fa m.fs/\Ig z ta ra m.s->MT RE w b q A cd m fa ta ra fc tc rc z):=fun y z A cd m fa ta ra fc tc rc h1 h2 Z Y h5 h6=>by
   have h7:=h1.trans (Z.below h2);exact ⟨h5,Y,W.out.below h7 W.out.lt,h6.1,h6.2,X5 N.out h7⟩
  refine wp_region_held_drew (S:=fun u=>u.cell? (aW w 0)=some (vI b.wd)/\u.cell? (aW w 5)=some (vL q.sa b.sf.length q.sc)/\u.cell? (aW w 6)=some (vL q.la b.lo.length q.lc)) Y2 (l.out _ bd) fun hH=>?_;refine Y0 0 ?_;refine Y0 1 ?_;refine Y0 3 ?_;refine Y0 4 ?_;refine wpAnyH_ready (rs:=[2,6]) Y2 X4 (AllReadyH.cons (o:=⟨some 22,.call ⟨.value (.func 71),#[.tmp 21],#[37]⟩,22,_,_,none⟩) rfl (fun K d=>?_) (AllReadyH.cons (o:=⟨some 3,.alloc 95,0,_,_,none⟩) rfl (fun K d=>?_) AllReadyH.nil))
  · go_simp;refine (HCA.out _ bd).mono ?_;rintro e X ⟨⟨H,k1,rfl,h1⟩,n⟩;have E:=bd.trans n;have S1:=U0 h1;clear h1 n
    go_wp2_with fail
    refine E8 d (l.out _ E) fun hH=>?_;clear d K;refine wpAnyH_ready (rs:=[5,6]) Y2 X4 (AllReadyH.cons (o:=⟨some 25,.call ⟨.value (.func 70),#[.tmp 22,.tmp 24],#[22,3]⟩,95,_,_,none⟩) rfl (fun K d=>?_) (AllReadyH.cons (o:=⟨some 3,.alloc 95,0,_,_,none⟩) rfl (fun K d=>?_) AllReadyH.nil))
    · go_simp;refine (HCB.out X H k1 E S1.out).mono ?_;rintro e P ⟨⟨cd,m,fa,fc,ta,tc,ra,rc,rfl,ho,O⟩,n⟩;have g:=X5 E n;have x:=U0 ho;have HK:=U0 O;clear ho O n
      go_wp2_with fail
      refine E8 d (l.out _ g) fun hH=>?_;clear d K;refine rq 6 fun K d=>?_;go_simp;have L:=U0 (Y4 P [vO,vO,vN,vO,vN,vN] 95);have R:Bw V (P.alloc (.cells #[vO,vO,vN,vO,vN,vN] 95)):=g.alloc g.size _;refine E8 d (l.out _ R) fun hH=>?_;clear d K;refine rq 7 fun K d=>?_;refine t_ rfl 95 _ _ rfl (B:=P.heap.size) (j:=0) rfl (vs:=[vI cd,vI m.ep,vL fa m.fs.length fc,vI m.s.wd,vL ta m.s.ts.length tc,vL ra m.s.rs.length rc]) rfl L.out H8 (Ij rfl rfl rfl rfl rfl rfl) Y2 ?_;intro z cz C;have t:=U0 (HMK.out _ z P.heap.size cd m fa ta ra fc tc rc R g.size C cz x.out (HK.out z (by have:=C.size;simp at this;omega) (fun q _ hq=>(C.block q O0).trans (Lib.alloc_old P _ q hq))));refine E8 d (l.out _ (R.trans (C.below g.size))) fun hH=>?_;clear d K;refine wdn ?_
      go_wp2_with fail
      go_meet
      case rel=>exact ⟨_,_,_,_,_,_,_,_,_,rfl,t⟩
    go_simp;have L:=U0 (Y4 X [vO,vO,vN,vO,vN,vN] 95);have g:Bw V (X.alloc (.cells #[vO,vO,vN,vO,vN,vN] 95)):=E.alloc E.size _;have S2:=U0 (U5 S1.out (P6 (w:=X) (o:=.cells #[vO,vO,vN,vO,vN,vN] 95)));refine E8 d (l.out _ g) fun hH=>?_;clear d K;refine rq 5 fun K d=>?_;go_simp;refine (HCB.out _ H k1 g S2.out).mono ?_;rintro e y3 ⟨⟨cd,m,fa,fc,ta,tc,ra,rc,rfl,ho,O⟩,n⟩;have Q:=X5 g n;have x:=U0 ho;have HK:=U0 O;have a4y:=U0 (L.out.below n L.out.lt);have hAl:=U0 L.out.lt;clear ho O n
    go_wp2_with fail
    refine E8 d (l.out _ Q) fun hH=>?_;clear d K;refine rq 7 fun K d=>?_;refine t_ rfl 95 _ _ rfl (B:=X.heap.size) (j:=0) rfl (vs:=[vI cd,vI m.ep,vL fa m.fs.length fc,vI m.s.wd,vL ta m.s.ts.length tc,vL ra m.s.rs.length rc]) rfl a4y.out H8 (Ij rfl rfl rfl rfl rfl rfl) Y2 ?_;intro z cz C;have t:=U0 (HMK.out _ z X.heap.size cd m fa ta ra fc tc rc Q E.size C cz x.out (HK.out.on C hAl.out).now);refine E8 d (l.out _ (Q.trans (C.below E.size))) fun hH=>?_;clear d K;refine wdn ?_
    go_wp2_with fail
    go_meet
    case rel=>exact ⟨_,_,_,_,_,_,_,_,_,rfl,t⟩
  go_simp;have CA0:=U0 (Y4 V.drew [vO,vO,vN,vO,vN,vN] 95);have E:Bw V (V.drew.alloc (.cells #[vO,vO,vN,vO,vN,vN] 95)):=bd.alloc H8 _;refine E8 d (l.out _ E) fun hH=>?_;clear d K;refine rq 2 fun K d=>?_;go_simp;refine (HCA.out _ E).mono ?_;rintro e P ⟨⟨H,k1,rfl,h1⟩,n⟩;have g:=X5 E n;have L:=U0 (CA0.out.below n CA0.out.lt);have S1:=U0 h1;clear h1 n
  go_wp2_with fail
  refine E8 d (l.out _ g) fun hH=>?_;clear d K;refine rq 5 fun K d=>?_;go_simp;refine (HCB.out P H k1 g S1.out).mono ?_;rintro e y3 ⟨⟨cd,m,fa,fc,ta,tc,ra,rc,rfl,ho,O⟩,n⟩;have Q:=X5 g n;have x:=U0 ho;have HK:=U0 O;have a4y:=U0 (L.out.below n L.out.lt);have hAl:=U0 L.out.lt;clear ho O n
  go_wp2_with fail
  refine E8 d (l.out _ Q) fun hH=>?_;clear d K;refine rq 7 fun K d=>?_;refine t_ rfl 95 _ _ rfl (B:=V.drew.heap.size) (j:=0) rfl (vs:=[vI cd,vI m.ep,vL fa m.fs.length fc,vI m.s.wd,vL ta m.s.ts.length tc,vL ra m.s.rs.length rc]) rfl a4y.out H8 (Ij rfl rfl rfl rfl rfl rfl) Y2 ?_;intro z cz C;have t:=U0 (HMK.out _ z V.drew.heap.size cd m fa ta ra fc tc rc Q H8 C cz x.out (HK.out.on C hAl.out).now);refine E8 d (l.out _ (Q.trans (C.below H8))) fun hH=>?_;clear d K;refine wdn ?_
  go_wp2_with fail
  go_meet
  case rel=>exact ⟨_,_,_,_,_,_,_,_,_,rfl,t⟩
 obtain ⟨A,cd,m,fa,ta,ra,fc,tc,rc,rfl,t⟩:=hcut;have x:=U0 t.out.out;have CM:=U0 t.out.cm;have CB:=U0 t.out.cb;have r:=U0 t.out.bel;have HF:=U0 t.out.fl;have HSt:=U0 t.out.st;have HSM:=U0 t.out.out.1;clear t W N;have m0:=CM.out.cell 0;simp only [@gz Value] at m0;have H:=CB.out.cell 1;simp only [@gz Value] at H;by_cases hcd:cd=0;rotate_left
 · have U:Hid (¬ (Pre b/\cd=0/\VM b m)):=fun h=>hcd h.2.1;go_wp2;go_ret;exact ⟨.inr ⟨cd,m,x.out,G5 U.out⟩,r.out⟩
 rw [hcd] at m0;have HCD:=U0 hcd;clear hcd
 cases hup:b.up with
 | false=>
  rw [hup] at H;have HUP:=U0 hup;clear hup
  go_wp2_with (refine Y9 rfl (X8 47 _ rfl (B:=w.heap.size) (j:=0) (cs:=(bsV b q)) rfl (fun q v e=>by rw [L8];exact (CB.out.cell q).trans e) underlying47 rfl Y2) ?_)
  refine (c72 b q wc F.out HPR.out.2.1 (J.out.below r.out)).mono ?_;rintro e w2 ⟨⟨D,rfl,f⟩,hb2⟩;have HE:Hid (D=true↔Pre b/\cd=0/\VM b m):=⟨fun h=>⟨HPR.out,HCD.out,.inr ⟨HUP.out,f.1 h⟩⟩,fun h=>f.2 (by rcases h.2.2 with ⟨k,_⟩ | ⟨_,k⟩;(rw [HUP.out] at k;cases k);exact k)⟩;have B2:=U0 (X5 r.out hb2);clear f hb2;go_wp2;go_ret;exact ⟨.inr ⟨cd,m,x.out,_,rfl,HE.out⟩,B2.out⟩
 | true=>
 rw [hup] at H;have HUP:=U0 hup;clear hup;have HNO:Hid (¬ Upp b m->¬ (Pre b/\cd=0/\VM b m)):=fun h k=>by
  rcases k.2.2 with ⟨_,k⟩ | ⟨k,_⟩
  · exact h k
  rw [HUP.out] at k;cases k
 have HYE:Hid (Upp b m->Pre b/\cd=0/\VM b m):=fun h=>⟨HPR.out,HCD.out,.inl ⟨HUP.out,h⟩⟩
 go_upto_region 8 with fail
 clear m0 H;have l:Hid (∀ u,Bw wc u->Cl u w.heap.size 47 (bsV b q)/\Cl u A 95 [vI cd,vI m.ep,vL fa m.fs.length fc,vI m.s.wd,vL ta m.s.ts.length tc,vL ra m.s.rs.length rc]/\u.cell? (aW w 4)=some (vI b.ed)/\u.cell? (aW w 7)=some (vL q.fa b.fs.length q.fc)/\u.cell? (aW w 12)=some (vL q.oa b.rt.length q.oc)/\u.cell? (aW w 13)=some (vL q.na b.rn.length q.nc)):=fun u p=>by
  have h1:=CB.out.below p CB.out.lt;have h2:=CM.out.below p CM.out.lt;exact ⟨h1,h2,h1.cell 4,h1.cell 7,h1.cell 12,h1.cell 13⟩
 have hvd:Bw wc wc.drew:=(Z4 _ _).drew;refine wp_region_held_drew (S:=fun u=>Cl u w.heap.size 47 (bsV b q)/\Cl u A 95 [vI cd,vI m.ep,vL fa m.fs.length fc,vI m.s.wd,vL ta m.s.ts.length tc,vL ra m.s.rs.length rc]/\u.cell? (aW w 4)=some (vI b.ed)/\u.cell? (aW w 7)=some (vL q.fa b.fs.length q.fc)/\u.cell? (aW w 12)=some (vL q.oa b.rt.length q.oc)/\u.cell? (aW w 13)=some (vL q.na b.rn.length q.nc)) Y2 (l.out _ hvd) fun hH=>?_;refine tq 0 hH ?_ (hv:=fun u p=>X8 47 _ rfl (B:=w.heap.size) (j:=0) (cs:=(bsV b q)) rfl (fun q v e=>by rw [L8];exact (p.1.cell q).trans e) underlying47 rfl Y2)
 try simp only [qq]
 refine tq 1 hH ?_ (hv:=fun u p=>X8 95 _ rfl (B:=A) (j:=0) (cs:=[vI cd,vI m.ep,vL fa m.fs.length fc,vI m.s.wd,vL ta m.s.ts.length tc,vL ra m.s.rs.length rc]) rfl (fun q v e=>by rw [L8];exact (p.2.1.cell q).trans e) underlying95 rfl Y2)
 try simp only [qq]
 refine rq 2 fun K d=>?_;go_simp;have a5x:=U0 (c73 b q cd m fa ta ra fc tc rc wc.drew F.out HSM.out (J.out.below (X5 r.out hvd)) (T.J5 HF.out hvd) (HSt.out.below hvd));refine a5x.out.mono ?_;rintro e w2 ⟨⟨D,rfl,f⟩,hb2⟩;have g:=hvd.trans (hb2.mono H8);clear hb2 a5x
 go_wp2_with fail
 refine E8 d (l.out _ g) fun hH=>?_;clear d K
 cases D with
 | false=>
  have I:=U0 (HNO.out (fun h=>by have:=f.2 h.1;cases this));clear f;refine Y0 3 ?_;refine E5 4 ?_;refine E5 5 ?_;refine E5 6 ?_;refine Y0 7 ?_;refine Y0 8 ?_;refine E5 9 ?_;refine E5 10 ?_;refine E5 11 ?_;refine Y0 12 ?_;refine Y0 13 ?_;refine E5 14 ?_;refine E5 15 ?_;refine E5 16 ?_;refine Y0 17 ?_;refine Y0 18 ?_;refine E5 19 ?_;refine E5 20 ?_;refine E5 21 ?_;refine E5 22 ?_;refine E5 23 ?_;refine E5 24 ?_;refine Y0 25 ?_;refine Y0 26 ?_;refine E5 27 ?_;refine E5 28 ?_;refine Y0 29 ?_;refine Y0 30 ?_;refine wdn ?_;go_wp2;go_ret;exact ⟨.inr ⟨cd,m,x.out,G5 I.out⟩,X5 r.out g⟩
 | true=>
 have HR:=U0 (f.1 rfl);clear f;refine Y0 3 ?_;refine Y0 4 ?_;refine Y0 5 ?_;by_cases Z:0<=b.ed;rotate_left
 · have I:=U0 (HNO.out (fun h=>Z h.2.1.1));have z:b.ed<0:=O0;refine Y0 6 ?_
   try rw [S9 Z]
   refine Y0 7 ?_;refine Y0 8 ?_;refine E5 9 ?_;refine E5 10 ?_;refine E5 11 ?_;refine Y0 12 ?_;refine Y0 13 ?_;refine E5 14 ?_;refine E5 15 ?_;refine E5 16 ?_;refine Y0 17 ?_;refine Y0 18 ?_;refine E5 19 ?_;refine E5 20 ?_;refine E5 21 ?_;refine E5 22 ?_;refine E5 23 ?_;refine E5 24 ?_;refine Y0 25 ?_;refine Y0 26 ?_;refine E5 27 ?_;refine E5 28 ?_;refine Y0 29 ?_;refine Y0 30 ?_;refine wdn ?_;go_wp2;go_ret;exact ⟨.inr ⟨cd,m,x.out,G5 I.out⟩,X5 r.out g⟩
 refine Y0 6 ?_
 try rw [C_ Z]
 refine Y0 7 ?_;refine Y0 8 ?_;refine Y0 9 ?_;refine Y0 10 ?_;by_cases Y:b.ed<=1000;rotate_left
 · have I:=U0 (HNO.out (fun h=>Y h.2.1.2));have z:1000<b.ed:=O0;refine Y0 11 ?_
   try rw [S9 Y]
   refine Y0 12 ?_;refine Y0 13 ?_;refine E5 14 ?_;refine E5 15 ?_;refine E5 16 ?_;refine Y0 17 ?_;refine Y0 18 ?_;refine E5 19 ?_;refine E5 20 ?_;refine E5 21 ?_;refine E5 22 ?_;refine E5 23 ?_;refine E5 24 ?_;refine Y0 25 ?_;refine Y0 26 ?_;refine E5 27 ?_;refine E5 28 ?_;refine Y0 29 ?_;refine Y0 30 ?_;refine wdn ?_;go_wp2;go_ret;exact ⟨.inr ⟨cd,m,x.out,G5 I.out⟩,X5 r.out g⟩
 refine Y0 11 ?_
 try rw [C_ Y]
 refine Y0 12 ?_;refine Y0 13 ?_;refine Y0 14 ?_;refine Y0 15 ?_;refine rq 16 fun K d=>?_;go_simp;refine (c74 q.oa q.oc b.rt w2 HCP.out.1 F.out.rl F.out.rs (U5 J.out.rt (X5 r.out g))).mono ?_;rintro e w3 ⟨⟨D,rfl,f⟩,hw3⟩;obtain rfl:=hw3.symm
 go_wp2_with fail
 refine E8 d (l.out _ g) fun hH=>?_;clear d K
 cases D with
 | false=>
  have I:=U0 (HNO.out (fun h=>by have:=f.2 h.2.2.1;cases this));clear f;refine Y0 17 ?_;refine Y0 18 ?_;refine E5 19 ?_;refine E5 20 ?_;refine E5 21 ?_;refine E5 22 ?_;refine E5 23 ?_;refine E5 24 ?_;refine Y0 25 ?_;refine Y0 26 ?_;refine E5 27 ?_;refine E5 28 ?_;refine Y0 29 ?_;refine Y0 30 ?_;refine wdn ?_;go_wp2;go_ret;exact ⟨.inr ⟨cd,m,x.out,G5 I.out⟩,X5 r.out g⟩
 | true=>
 have HRT:=U0 (f.1 rfl);clear f;refine Y0 17 ?_;refine Y0 18 ?_;refine Y0 19 ?_;refine Y0 20 ?_;refine Y0 21 ?_;refine Y0 22 ?_;refine rq 23 fun K d=>?_;go_simp;refine (G.c76 q.fa q.fc b.fs w2 F.out.fl F.out.fz (T.J5 J.out.fs (X5 r.out g)) (HV.out.below (X5 r.out g))).mono ?_;rintro e w3 ⟨⟨ms,v,rfl,hrow,hpt⟩,hb3⟩;obtain ⟨pa,pc,rfl,hmk⟩:=G.Dp hrow;have R:=X5 g hb3;have HPT:=U0 hpt;have HMK:=U0 hmk;clear hb3 hrow hpt hmk
 go_wp2_with fail
 refine E8 d (l.out _ R) fun hH=>?_;clear d K;refine rq 24 fun K d=>?_;go_simp;refine (c75 q.na pa q.nc pc b.rn ms w3 F.out.nl F.out.ns (G.iG HPT.out) (G.wR HPT.out) (Le J.out.rn (X5 r.out R)) HMK.out).mono ?_;rintro e w4 ⟨⟨D,rfl,f⟩,hb4⟩;have b4:=X5 R hb4;clear hb4
 go_wp2_with fail
 refine E8 d (l.out _ b4) fun hH=>?_;clear d K
 cases D with
 | false=>
  have I:=U0 (HNO.out (fun h=>by
   obtain ⟨ms',h5,h6,_⟩:=h.2.2.2;obtain rfl:=G.Xy h5 HPT.out;have:=f.2 h6;cases this))
  clear f;refine Y0 25 ?_;refine Y0 26 ?_;refine E5 27 ?_;refine E5 28 ?_;refine Y0 29 ?_;refine Y0 30 ?_;refine wdn ?_;go_wp2;go_ret;exact ⟨.inr ⟨cd,m,x.out,G5 I.out⟩,X5 r.out b4⟩
 | true=>
 have HRN:=U0 (f.1 rfl);clear f;refine Y0 25 ?_;refine Y0 26 ?_;refine tq 27 hH ?_ (hv:=fun u p=>X8 47 _ rfl (B:=w.heap.size) (j:=0) (cs:=(bsV b q)) rfl (fun q v e=>by rw [L8];exact (p.1.cell q).trans e) underlying47 rfl Y2)
 try simp only [qq]
 refine rq 28 fun K d=>?_;go_simp;refine (c77 b q w4 F.out HCP.out.2.1 HPR.out.1.1 HPR.out.1.2 (J.out.below (X5 r.out b4))).mono ?_;rintro e w5 ⟨⟨D,rfl,f⟩,hb5⟩;have b5:=X5 b4 hb5;have HE:Hid (D=true↔Pre b/\cd=0/\VM b m):=⟨fun h=>HYE.out ⟨HR.out,⟨Z,Y⟩,HRT.out,ms,HPT.out,HRN.out,f.1 h⟩,fun h=>f.2 (by
  rcases h.2.2 with ⟨_,k⟩ | ⟨k,_⟩
  · obtain ⟨_,_,_,k⟩:=k.2.2.2;exact k
  rw [HUP.out] at k;cases k)⟩
 have B5:=U0 (X5 r.out b5);clear hb5 f
 go_wp2_with fail
 refine E8 d (l.out _ b5) fun hH=>?_;clear d K;refine Y0 29 ?_;refine Y0 30 ?_;refine wdn ?_;go_wp2;go_ret;exact ⟨.inr ⟨cd,m,x.out,_,rfl,HE.out⟩,B5.out⟩

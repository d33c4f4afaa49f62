import Derived.Test.YtbgdfcmeheaiiaaGreatDoorwG
set_option linter.unusedVariables false
set_option linter.unusedSimpArgs false
set_option maxHeartbeats 8000000
set_option maxRecDepth 100000
namespace Go.Proofs.YtbgdfcmeheaiiaaGreatDoor
open Proofs.Tryz Go.RowKit
def JbI(b:Bs):Prop:=∀i,i<b.jb.length->(∀t,t<i->¬ul (b.jb.getD i Zd) (b.jb.getD t Zd))/\Ox b (b.jb.getD i Zd)
theorem eP{w:World}{b off k:Nat}{l:List Jb}(hk:k<=l.length)(hl:b<w.heap.size)(h:∀i,i<l.length->Bc w b (off+i*3) (IU (l.getD i Zd))):Jl w (some ⟨b,off,none⟩) (l.take k):=.inr ⟨b,off,rfl,hl,λi a=>by
 have h1:i<l.length:=by simp at a;omega
 have h2:i<k:=by simp at a;omega
 have e:(l.take k).getD i Zd=l.getD i Zd:=by simp[List.getD,h1,h2]
 rw[e];exact h i h1⟩
theorem c71(b:Bs)(q:Ba)(w:World)(hl:Bo b 1048576)(hcp:b.jb.length<=q.jc)(hn1:0<=b.now)(hn2:b.now<=1000000)(A:Dn w b q):
 Calls prog 71 #[.agg #[.int .i64 b.wd,.bool b.up,.int .i64 b.now,.int .i64 b.ep,.int .i64 b.ed,.slice q.sa b.sf.length q.sc,.slice q.la b.lo.length q.lc,.slice q.fa b.fs.length q.fc,.int .i64 b.s.wd,.slice q.ta b.s.ts.length q.tc,.slice q.ra b.s.rs.length q.rc,.slice q.ha b.hd.length q.hc,.slice q.oa b.rt.length q.oc,.slice q.na b.rn.length q.nc,.slice q.ja b.jb.length q.jc]] w λe w'=>Rb (JbI b) e/\Bw w w':=by
 have HA:=U0 A;have HL0:=U0 hl;have hjl:=hl.jl;obtain⟨Q,P,hc⟩:=J8 A.jb;have HC:=U0 hc;clear A hl hc
 go_in
 go_upto_region 1 with fail
 have C0:=U0 (U3 w [vI b.wd,.bool b.up,vI b.now,vI b.ep,vI b.ed,vL q.sa b.sf.length q.sc,vL q.la b.lo.length q.lc,vL q.fa b.fs.length q.fc,vI b.s.wd,vL q.ta b.s.ts.length q.tc,vL q.ra b.s.rs.length q.rc,vL q.ha b.hd.length q.hc,vL q.oa b.rt.length q.oc,vL q.na b.rn.length q.nc,vL q.ja b.jb.length q.jc] 53);have B0:=U0 (P6 (w:=w) (o:=.cells #[vI b.wd,.bool b.up,vI b.now,vI b.ep,vI b.ed,vL q.sa b.sf.length q.sc,vL q.la b.lo.length q.lc,vL q.fa b.fs.length q.fc,vI b.s.wd,vL q.ta b.s.ts.length q.tc,vL q.ra b.s.rs.length q.rc,vL q.ha b.hd.length q.hc,vL q.oa b.rt.length q.oc,vL q.na b.rn.length q.nc,vL q.ja b.jb.length q.jc] 53));generalize w.alloc (.cells #[vI b.wd,.bool b.up,vI b.now,vI b.ep,vI b.ed,vL q.sa b.sf.length q.sc,vL q.la b.lo.length q.lc,vL q.fa b.fs.length q.fc,vI b.s.wd,vL q.ta b.s.ts.length q.tc,vL q.ra b.s.rs.length q.rc,vL q.ha b.hd.length q.hc,vL q.oa b.rt.length q.oc,vL q.na b.rn.length q.nc,vL q.ja b.jb.length q.jc] 53)=V0 at*;have a:=C0.out.cell 14;simp only[gz]at a;by_cases v:b.jb.length=0
 ·have H:Hid (JbI b):=λi r=>absurd r O0;rw[v]at a;go_wp2;go_loop[9] (λi=>i=.int .i64 0) (λ_=>0)
  case atStart=>rfl
  obtain rfl:=hrel;go_wp2;go_ret;exact⟨F_ H,B0⟩
 rcases HC.out with hss|⟨ha,y,R⟩
 ·rw[hss]at v;exact absurd rfl v
 have p:Hid (∀u,Bw w u->∀t,t<b.jb.length->Bc u Q (P+t*3) (IU (b.jb.getD t Zd))):=λu hu t ht=>(R t ht).below y hu;rw[ha]at a;have Z:=U0 ha;clear ha R;go_wp2;go_loopw[9] (λi wr=>∃k:Nat,k<=b.jb.length/\i=.int .i64 k/\Hid (∀i,i<k->(∀t,t<i->¬ul (b.jb.getD i Zd) (b.jb.getD t Zd))/\Ox b (b.jb.getD i Zd))/\Hid (Cl wr w.heap.size 53 [.int .i64 b.wd,.bool b.up,.int .i64 b.now,.int .i64 b.ep,.int .i64 b.ed,.slice q.sa b.sf.length q.sc,.slice q.la b.lo.length q.lc,.slice q.fa b.fs.length q.fc,.int .i64 b.s.wd,.slice q.ta b.s.ts.length q.tc,.slice q.ra b.s.rs.length q.rc,.slice q.ha b.hd.length q.hc,.slice q.oa b.rt.length q.oc,.slice q.na b.rn.length q.nc,.slice q.ja b.jb.length q.jc])/\Below w.heap.size w wr) (λi _=>b.jb.length-(RowKit.intOf i).toNat);exact⟨0,I4 _,rfl,λj h=>absurd h (U7 _),C0,B0.out⟩;obtain⟨k,g,rfl,hd,K,S⟩:=hrel;have f:=U0 S;clear S;clear a;have a:=K.out.cell 14;simp only[gz]at a;rw[Z.out]at a;by_cases m:k<b.jb.length;rotate_left
 ·obtain rfl:k=b.jb.length:=O0;have H:Hid (JbI b):=hd.out;go_wp2;go_ret;exact⟨F_ H,f⟩
 have a5p:=G9 y f.out.size;have g0:=p.out wr f k m 0 _ rfl;have g1:=p.out wr f k m 1 _ rfl;have g2:=p.out wr f k m 2 _ rfl;dsimp only[Nat.add_zero]at g0;have X:Hid (¬((∀t,t<k->¬ul (b.jb.getD k Zd) (b.jb.getD t Zd))/\Ox b (b.jb.getD k Zd))->¬JbI b):=λd h=>d (h k m);have HD:Hid (((∀t,t<k->¬ul (b.jb.getD k Zd) (b.jb.getD t Zd))/\Ox b (b.jb.getD k Zd))->∀i,i<k+1->(∀t,t<i->¬ul (b.jb.getD i Zd) (b.jb.getD t Zd))/\Ox b (b.jb.getD i Zd)):=λd j hj=>by
  rcases P7 j k with h|h
  ·exact hd j h
  obtain rfl:j=k:=O0;exact d
 have W:Hid (∀j:Jb,(∃i,i<(b.jb.take k).length/\ul j ((b.jb.take k).getD i Zd))↔¬∀t,t<k->¬ul j (b.jb.getD t Zd)):=λj=>by
  constructor
  ·rintro⟨i,r,h⟩ d;have h2:i<k:=by simp at r;omega
   have h1:i<b.jb.length:=O0;rw[show(b.jb.take k).getD i Zd=b.jb.getD i Zd by simp[List.getD,h1,h2]]at h;exact d i h2 h
  intro d;obtain⟨t,h⟩:=Classical.not_forall.1 d;obtain⟨h2,h⟩:=Classical.not_imp.1 h;have h1:t<b.jb.length:=O0;refine⟨t,X7,?_⟩;rw[show(b.jb.take k).getD t Zd=b.jb.getD t Zd by simp[List.getD,h1,h2]];exact tJ.1 h
 generalize b.jb.getD k Zd=j at*;clear hd
 go_upto_region 4 with fail
 have l:=U0 (U3 wr [vS j.nm,vI j.wk,vI j.un] 183);have BV:=U0 (P6 (w:=wr) (o:=.cells #[vS j.nm,vI j.wk,vI j.un] 183));generalize wr.alloc (.cells #[vS j.nm,vI j.wk,vI j.un] 183)=V at*;have N:=U0 (K.out.below BV K.out.lt);have I:=U0 (P5 f BV);clear g0 g1 g2 a;have a:=N.out.cell 14;simp only[gz]at a;have D:=l.out.cell 0;have C:=l.out.cell 1;simp only[gz]at D C;rw[Z.out]at a;have hkc:k<=q.jc:=O0;have x:=c131 (some (aA Q P)) q.jc (b.jb.take k) j wr.heap.size V (by rw[Xo g];omega) (eP g (G9 y I.out.size) (p V I)) D C l.out.lt;rw[Xo g]at x;have Y:=U0 x;clear x
 go_wp2_with fail
 refine Y.out.mono ?_;rintro e w1⟨⟨E,rfl,c⟩,n⟩;have L:=U0 (N.out.below n N.out.lt);have D2:=U0 (l.out.below n l.out.lt);have F:=U0 (P5 I n);clear n a D C Y
 cases E with
 | true=>
  have J:=U0 (X.out (λh=>(W j).1 (by rw[Xo g];exact c.1 rfl) h.1));clear c;go_wp2;go_ret;exact⟨I5 J,F⟩
 | false=>
 have HO:Hid (∀t,t<k->¬ul j (b.jb.getD t Zd)):=by
  refine tJ.1 λh=>?_;have:=c.2 (by have O:=(W.out j).2 h;rw[Xo g]at O;exact O);cases this
 clear c
 go_wp2_with(first|(refine mD rfl 53 _ rfl (B:=w.heap.size) rfl L.out underlying53 rfl Y0 ?_)|(refine mD rfl 183 _ rfl (B:=wr.heap.size) rfl D2.out underlying183 rfl Y0 ?_))
 refine(a4I b q j w1 HL0 hn1 hn2 (Ve HA.out.rn F)).mono ?_;rintro e w2⟨⟨E,rfl,c⟩,z⟩;have C3:=U0 (L.out.below z L.out.lt);have U:=U0 (P5 F z);clear z
 cases E with
 | false=>
  have J:=U0 (X.out (λh=>by have:=c.2 h.2;cases this));clear c;go_wp2;go_ret;exact⟨I5 J,U⟩
 | true=>
  have HD1:=U0 (HD.out ⟨HO,c.1 rfl⟩);clear c;go_wp2;go_roundw;exact⟨k+1,O0,by go_num,HD1,C3,U.out⟩;exact P9
theorem a1u{w:World}{b:Nat}{cd:Int}{m:MS}{fa ta ra:OA}{fc tc rc:Nat}(h:Me w b cd m [.int .i64 cd,.int .i64 m.ep,.slice fa m.fs.length fc,.int .i64 m.s.wd,.slice ta m.s.ts.length tc,.slice ra m.s.rs.length rc]):Kp b w λu=>T.U5 u fa m.fs/\Ig u ta ra m.s:=λu a c=>by
 obtain⟨_,_,_,_,_,_,e,f,d⟩:=(h.keep a c).rd;simp at e;obtain⟨⟨rfl,rfl⟩,⟨rfl,rfl⟩,rfl,rfl⟩:=e;exact⟨f,d⟩
theorem a3f(a:OA)(b:Nat)(es:LB)(W:Int)(w:World)(hl:es.length<=1048576)(c:∀i,(es.getD i ByteArray.empty).size<=1048576)(g:o8 w a es)(d:Oc w):
 Calls prog 64 #[.slice a es.length b,.int .i64 W] w λe w'=>(∃cd m fa fc ta tc ra rc,e=.returned (.agg #[.int .i64 cd,.int .i64 m.ep,.slice fa m.fs.length fc,.int .i64 m.s.wd,.slice ta m.s.ts.length tc,.slice ra m.s.rs.length rc])/\Out RE es W cd m/\Kp w.heap.size w' λu=>T.U5 u fa m.fs/\Ig u ta ra m.s)/\Bw w w':=by
 refine(a4g a b es W w hl c g d).mono ?_;rintro e w'⟨⟨cd,m,vs,rfl,h1,h2⟩,f⟩;have h:=h2;obtain⟨fa,fc,ta,tc,ra,rc,rfl,_,_⟩:=h2;exact⟨⟨cd,m,fa,fc,ta,tc,ra,rc,rfl,h1,a1u h⟩,f⟩
theorem a3J(a:OA)(k:Nat)(es:LB)(W:Int)(w:World)(hl:es.length<=1048576)(f:∀i,(es.getD i ByteArray.empty).size<=1048576)(p:o8 w a es):
 Calls prog 39 #[.slice a es.length k,.int .i64 W] w λe w'=>(∃cd m fa fc ta tc ra rc,e=.returned (.agg #[.int .i64 cd,.int .i64 m.ep,.slice fa m.fs.length fc,.int .i64 m.s.wd,.slice ta m.s.ts.length tc,.slice ra m.s.rs.length rc])/\Out RES es W cd m/\Kp w.heap.size w' λu=>T.U5 u fa m.fs/\Ig u ta ra m.s)/\Bw w w':=by
 refine(c39 a k es W w hl f p).mono ?_;rintro e w'⟨⟨vs,rfl,h⟩,n⟩;refine⟨?_,n⟩;rcases h with⟨h1,rfl⟩|⟨h1,o,h2,c⟩
 ·exact⟨1,PY,none,0,none,0,none,0,rfl,⟨BL,.inl ⟨h1,rfl,rfl⟩⟩,λu _ _=>⟨.inl rfl,.inl rfl,.inl rfl⟩⟩
 rcases c with⟨rfl,rfl⟩|⟨m,rfl,c⟩
 ·exact⟨2,PY,none,0,none,0,none,0,rfl,⟨BL,.inr ⟨h1,_,h2,.inl ⟨rfl,rfl,rfl⟩⟩⟩,λu _ _=>⟨.inl rfl,.inl rfl,.inl rfl⟩⟩
 obtain⟨fv,tv,rv,rfl,b,d⟩:=c.ex;obtain⟨fa,fc,rfl,hf⟩:=Jv b;obtain⟨ta,tc,rfl⟩:=Eb d.1;have t:=d;obtain⟨_,vs0,l⟩:=d;obtain⟨ra,rc,rfl⟩:=Eb l.row;refine⟨0,m,fa,fc,ta,tc,ra,rc,rfl,⟨OQ c.ok,.inr ⟨h1,_,h2,.inr ⟨rfl,rfl⟩⟩⟩,λu f j=>⟨?_,Pz (t.keep j)⟩⟩;have r:=G7 (u':=u) b (λq g=>j q (Y6 b g) (Oe b g));obtain⟨fa',fc',e,hf⟩:=Jv r;injection e with e;subst e;exact hf
structure MT(R:List UInt8->u_->Bool->Prop)(w:World)(b:Bs)(q:Ba)(A:Nat)(cd:Int)(m:MS)(fa ta ra:OA)(fc tc rc:Nat)(u:World):Prop where
 out:Out R (b.sf++b.lo) b.wd cd m
 cm:Cl u A 117 [.int .i64 cd,.int .i64 m.ep,.slice fa m.fs.length fc,.int .i64 m.s.wd,.slice ta m.s.ts.length tc,.slice ra m.s.rs.length rc]
 cb:Cl u w.heap.size 53 (bsV b q)
 fl:T.U5 u fa m.fs
 st:Ig u ta ra m.s
 bel:Bw w u
def Pre(b:Bs):Prop:=(0<=b.now/\b.now<=1000000)/\Hrd b.hd b.now
def Upp(b:Bs)(m:MS):Prop:=DY b m/\(0<=b.ed/\b.ed<=1000)/\JJ b.rt/\∃ms,G.Bg b.fs ms/\QE ms b.rn/\JbI b
def VM(b:Bs)(m:MS):Prop:=(b.up=true/\Upp b m)\/(b.up=false/\kD b)
theorem c23(b:Bs)(q:Ba)(w:World)(hl:Bo b 1048576)(hsl:b.sf.length+b.lo.length<=1048576)(hcp:qO b q)(hv:G.Yo w)(hat:Dn w b q):
 Calls prog 23 #[.agg (bsV b q).toArray] w λe w'=>((e=.returned (.bool false)/\¬Pre b)\/∃cd m,Out RE (b.sf++b.lo) b.wd cd m/\Rb (Pre b/\cd=0/\VM b m) e)/\Bw w w':=by
 have I:=U0 hat;have F:=U0 hl;have HV:=U0 hv;have HCP:=U0 hcp;have HES:Hid (∀i,((b.sf++b.lo).getD i ByteArray.empty).size<=1048576):=λi=>by
  by_cases h:i<b.sf.length
  ·rw[show(b.sf++b.lo).getD i ByteArray.empty=b.sf.getD i ByteArray.empty by simp[List.getD,R_ h]];exact hl.ss i
  rw[show(b.sf++b.lo).getD i ByteArray.empty=b.lo.getD (i-b.sf.length) ByteArray.empty by simp[List.getD,rf (Vw h)]];exact hl.ls _
 clear hat hl hv hcp
 go_in
 go_upto_region 1 with fail
 have R:=U0 (U3 w (bsV b q) 53);have L:=U0 (P6 (w:=w) (o:=.cells (bsV b q).toArray 53));generalize w.alloc (.cells (bsV b q).toArray 53)=V at*;have a2:=R.out.cell 2;have a11:=R.out.cell 11;simp only[gz]at a2 a11;by_cases h1:b.now<0
 ·have Q:Hid (¬Pre b):=λh=>by have:=h.1.1;omega
  go_wp2;go_ret;exact⟨.inl ⟨rfl,Q.out⟩,L.out⟩
 by_cases h2:1000000<b.now
 ·have Q:Hid (¬Pre b):=λh=>by have:=h.1.2;omega
  go_wp2;go_ret;exact⟨.inl ⟨rfl,Q.out⟩,L.out⟩
 go_wp2_with fail
 refine(c63 q.ha q.hc b.hd b.now V F.out.hl (zh I.out.hd L.out)).mono ?_;rintro e V'⟨⟨D,rfl,f⟩,hw⟩;obtain rfl:=hw.symm
 cases D with
 | false=>
  have Q:Hid (¬Pre b):=λh=>by have:=f.2 h.2;cases this
  clear f;go_wp2;go_ret;exact⟨.inl ⟨rfl,Q.out⟩,L.out⟩
 | true=>
 have HPR:Hid (Pre b):=⟨⟨O0,O0⟩,f.1 rfl⟩;clear f a2 a11
 go_upto_region 3 with fail
 go_cut[3] from 4 (λs3 wx=>∃A cd m fa ta ra fc tc rc,s3=.pointer (some (aA A 0))/\Hid (MT RE w b q A cd m fa ta ra fc tc rc wx))
 case first=>
  have l:Hid (∀u,Bw V u->u.cell? (aW w 0)=some (vI b.wd)/\u.cell? (aW w 5)=some (vL q.sa b.sf.length q.sc)/\u.cell? (aW w 6)=some (vL q.la b.lo.length q.lc)):=λu p=>have h:=R.out.below p R.out.lt;⟨h.cell 0,h.cell 5,h.cell 6⟩
  have bd:Bw V V.drew:=(J4 _ _).drew;have HCA:Hid (∀u,Bw V u->Calls prog 65 #[.agg #[.slice q.sa b.sf.length q.sc,.slice q.la b.lo.length q.lc]] u λe w'=>(∃a c,e=.returned (vL a (b.sf++b.lo).length c)/\o8 w' a (b.sf++b.lo))/\Bw u w'):=λu p=>c65 b.sf b.lo q.sa q.la q.sc q.lc u hsl (X5 I.out.sf (P5 L.out p)) (X5 I.out.lo (P5 L.out p));have HCB:Hid (∀u a c,Bw V u->o8 u a (b.sf++b.lo)->Calls prog 64 #[.slice a (b.sf.length+b.lo.length) c,.int .i64 b.wd] u λe w'=>(∃cd m fa fc ta tc ra rc,e=.returned (.agg #[vI cd,vI m.ep,vL fa m.fs.length fc,vI m.s.wd,vL ta m.s.ts.length tc,vL ra m.s.rs.length rc])/\Out RE (b.sf++b.lo) b.wd cd m/\Kp u.heap.size w' λu=>T.U5 u fa m.fs/\Ig u ta ra m.s)/\Bw u w'):=λu a c p h=>by
   have hc:=a3f a c (b.sf++b.lo) b.wd u (by rw[L9];exact hsl) HES.out h (H9 HV.out.vr.mx (P5 L.out p));rw[L9]at hc;exact hc
  have HMK:Hid (∀(y z:World)(A:Nat)(cd:Int)(m:MS)(fa ta ra:OA)(fc tc rc:Nat),Bw V y->V.heap.size<=A->Wx A y z->Cl z A 117 [vI cd,vI m.ep,vL fa m.fs.length fc,vI m.s.wd,vL ta m.s.ts.length tc,vL ra m.s.rs.length rc]->Out RE (b.sf++b.lo) b.wd cd m->T.U5 z fa m.fs/\Ig z ta ra m.s->MT RE w b q A cd m fa ta ra fc tc rc z):=λy z A cd m fa ta ra fc tc rc h1 h2 X W h5 h6=>by
   have h7:=h1.trans (X.below h2);exact⟨h5,W,R.out.below h7 R.out.lt,h6.1,h6.2,P5 L.out h7⟩
  refine FO l bd Y0 λhH=>?_;refine U8 0 ?_;refine U8 1 ?_;refine U8 3 ?_;refine U8 4 ?_;refine wpAnyH_ready (rs:=[2,6]) Y0 O4 (AllReadyH.cons (o:=⟨some 22,.call ⟨.value (.func 65),#[.tmp 21],#[43]⟩,22,_,_,none⟩) rfl (λK d=>?_) (AllReadyH.cons (o:=⟨some 3,.alloc 117,0,_,_,none⟩) rfl (λK d=>?_) AllReadyH.nil))
  ·go_simp;refine(HCA _ bd).mono ?_;rintro e Z⟨⟨a1,k1,rfl,h1⟩,n⟩;have E:=bd.trans n;have S1:=U0 h1;clear h1 n
   go_wp2_with fail
   refine X8 d (l _ E) λhH=>?_;clear d K;refine wpAnyH_ready (rs:=[5,6]) Y0 O4 (AllReadyH.cons (o:=⟨some 25,.call ⟨.value (.func 64),#[.tmp 22,.tmp 24],#[22,3]⟩,117,_,_,none⟩) rfl (λK d=>?_) (AllReadyH.cons (o:=⟨some 3,.alloc 117,0,_,_,none⟩) rfl (λK d=>?_) AllReadyH.nil))
   ·go_simp;refine(HCB Z a1 k1 E S1).mono ?_;rintro e U⟨⟨cd,m,fa,fc,ta,tc,ra,rc,rfl,ho,N⟩,n⟩;have g:=P5 E n;have x:=U0 ho;have HK:=U0 N;clear ho N n
    go_wp2_with fail
    refine X8 d (l _ g) λhH=>?_;clear d K;refine rq 6 λK d=>?_;go_simp;have J:=U0 (U3 U [vO,vO,vN,vO,vN,vN] 117);have P:Bw V (U.alloc (.cells #[vO,vO,vN,vO,vN,vN] 117)):=g.alloc g.size _;refine X8 d (l _ P) λhH=>?_;clear d K;refine rq 7 λK d=>?_;refine Va rfl 117 _ _ rfl (j:=0) rfl rfl J Y8 (Ef rfl rfl rfl rfl rfl rfl) Y0 ?_;intro z cz C;have t:=U0 (HMK.out _ z U.heap.size cd m fa ta ra fc tc rc P g.size C cz x (HK z (by have:=C.size;simp at this;omega) (λq _ hq=>(C.block q O0).trans (Lib.alloc_old U _ q hq))));refine X8 d (l _ (P.trans (C.below g.size))) λhH=>?_;clear d K;refine wdn ?_
    go_wp2_with fail
    go_meet
    exact⟨_,_,_,_,_,_,_,_,_,rfl,t⟩
   go_simp;have J:=U0 (U3 Z [vO,vO,vN,vO,vN,vN] 117);have g:Bw V (Z.alloc (.cells #[vO,vO,vN,vO,vN,vN] 117)):=E.alloc E.size _;have S2:=U0 (X5 S1 (P6 (w:=Z) (o:=.cells #[vO,vO,vN,vO,vN,vN] 117)));refine X8 d (l _ g) λhH=>?_;clear d K;refine rq 5 λK d=>?_;go_simp;refine(HCB _ a1 k1 g S2).mono ?_;rintro e y3⟨⟨cd,m,fa,fc,ta,tc,ra,rc,rfl,ho,N⟩,n⟩;have O:=P5 g n;have x:=U0 ho;have HK:=U0 N;have a5q:=U0 (J.out.below n J.out.lt);have hAl:=U0 J.out.lt;clear ho N n
   go_wp2_with fail
   refine X8 d (l _ O) λhH=>?_;clear d K;refine rq 7 λK d=>?_;refine Va rfl 117 _ _ rfl (j:=0) rfl rfl a5q Y8 (Ef rfl rfl rfl rfl rfl rfl) Y0 ?_;intro z cz C;have t:=U0 (HMK.out _ z Z.heap.size cd m fa ta ra fc tc rc O E.size C cz x (HK.out.on C hAl).now);refine X8 d (l _ (O.trans (C.below E.size))) λhH=>?_;clear d K;refine wdn ?_
   go_wp2_with fail
   go_meet
   exact⟨_,_,_,_,_,_,_,_,_,rfl,t⟩
  go_simp;have CA0:=U0 (U3 V.drew [vO,vO,vN,vO,vN,vN] 117);have E:Bw V (V.drew.alloc (.cells #[vO,vO,vN,vO,vN,vN] 117)):=bd.alloc Y8 _;refine X8 d (l _ E) λhH=>?_;clear d K;refine rq 2 λK d=>?_;go_simp;refine(HCA _ E).mono ?_;rintro e U⟨⟨a1,k1,rfl,h1⟩,n⟩;have g:=P5 E n;have J:=U0 (CA0.out.below n CA0.out.lt);have S1:=U0 h1;clear h1 n
  go_wp2_with fail
  refine X8 d (l _ g) λhH=>?_;clear d K;refine rq 5 λK d=>?_;go_simp;refine(HCB U a1 k1 g S1).mono ?_;rintro e y3⟨⟨cd,m,fa,fc,ta,tc,ra,rc,rfl,ho,N⟩,n⟩;have O:=P5 g n;have x:=U0 ho;have HK:=U0 N;have a5q:=U0 (J.out.below n J.out.lt);have hAl:=U0 J.out.lt;clear ho N n
  go_wp2_with fail
  refine X8 d (l _ O) λhH=>?_;clear d K;refine rq 7 λK d=>?_;refine Va rfl 117 _ _ rfl (j:=0) rfl rfl a5q Y8 (Ef rfl rfl rfl rfl rfl rfl) Y0 ?_;intro z cz C;have t:=U0 (HMK.out _ z V.drew.heap.size cd m fa ta ra fc tc rc O Y8 C cz x (HK.out.on C hAl).now);refine X8 d (l _ (O.trans (C.below Y8))) λhH=>?_;clear d K;refine wdn ?_
  go_wp2_with fail
  go_meet
  exact⟨_,_,_,_,_,_,_,_,_,rfl,t⟩
 obtain⟨A,cd,m,fa,ta,ra,fc,tc,rc,rfl,t⟩:=hcut;have x:=U0 t.out.out;have CM:=U0 t.out.cm;have CB:=U0 t.out.cb;have r:=U0 t.out.bel;have HF:=U0 t.out.fl;have HSt:=U0 t.out.st;have HSM:=U0 t.out.out.1;clear t R L;have m0:=CM.out.cell 0;simp only[gz]at m0;have a1:=CB.out.cell 1;simp only[gz]at a1;by_cases hcd:cd=0;rotate_left
 ·have Q:Hid (¬(Pre b/\cd=0/\VM b m)):=λh=>hcd h.2.1;go_wp2;go_ret;exact⟨.inr ⟨cd,m,x,I5 Q⟩,r⟩
 rw[hcd]at m0;have HCD:=U0 hcd;clear hcd
 cases hup:b.up with
 | false=>
  rw[hup]at a1;have Y:=U0 hup;clear hup
  go_wp2_with(refine b_ rfl (I7 53 _ rfl (B:=w.heap.size) (j:=0) (cs:=(bsV b q)) rfl (λq v e=>by rw[l7];exact(CB.out.cell q).trans e) underlying53 rfl Y0) ?_)
  refine(c66 b q wc F HPR.out.2.1 (I.out.below r)).mono ?_;rintro e w2⟨⟨D,rfl,f⟩,hb2⟩;have HE:Hid (D=true↔Pre b/\cd=0/\VM b m):=⟨λh=>⟨HPR,HCD,.inr ⟨Y,f.1 h⟩⟩,λh=>f.2 (by rcases h.2.2 with⟨k,_⟩|⟨_,k⟩;(rw[Y.out]at k;cases k);exact k)⟩;have B2:=U0 (P5 r hb2);clear f hb2;go_wp2;go_ret;exact⟨.inr ⟨cd,m,x,_,rfl,HE⟩,B2⟩
 | true=>
 rw[hup]at a1;have Y:=U0 hup;clear hup;have HNO:Hid (¬Upp b m->¬(Pre b/\cd=0/\VM b m)):=λh k=>by
  rcases k.2.2 with⟨_,k⟩|⟨k,_⟩
  ·exact h k
  rw[Y.out]at k;cases k
 have HYE:Hid (Upp b m->Pre b/\cd=0/\VM b m):=λh=>⟨HPR,HCD,.inl ⟨Y,h⟩⟩
 go_upto_region 8 with fail
 clear m0 a1;have l:Hid (∀u,Bw wc u->Cl u w.heap.size 53 (bsV b q)/\Cl u A 117 [vI cd,vI m.ep,vL fa m.fs.length fc,vI m.s.wd,vL ta m.s.ts.length tc,vL ra m.s.rs.length rc]/\u.cell? (aW w 4)=some (vI b.ed)/\u.cell? (aW w 7)=some (vL q.fa b.fs.length q.fc)/\u.cell? (aW w 12)=some (vL q.oa b.rt.length q.oc)/\u.cell? (aW w 13)=some (vL q.na b.rn.length q.nc)):=λu p=>by
  have h1:=CB.out.below p CB.out.lt;have h2:=CM.out.below p CM.out.lt;exact⟨h1,h2,h1.cell 4,h1.cell 7,h1.cell 12,h1.cell 13⟩
 have hvd:Bw wc wc.drew:=(J4 _ _).drew;refine wp_region_held_drew (S:=λu=>Cl u w.heap.size 53 (bsV b q)/\Cl u A 117 [vI cd,vI m.ep,vL fa m.fs.length fc,vI m.s.wd,vL ta m.s.ts.length tc,vL ra m.s.rs.length rc]/\u.cell? (aW w 4)=some (vI b.ed)/\u.cell? (aW w 7)=some (vL q.fa b.fs.length q.fc)/\u.cell? (aW w 12)=some (vL q.oa b.rt.length q.oc)/\u.cell? (aW w 13)=some (vL q.na b.rn.length q.nc)) Y0 (l _ hvd) λhH=>?_;refine tq 0 hH ?_ (hv:=λu p=>I7 53 _ rfl (B:=w.heap.size) (j:=0) (cs:=(bsV b q)) rfl (λq v e=>by rw[l7];exact(p.1.cell q).trans e) underlying53 rfl Y0)
 try simp only[qq]
 refine tq 1 hH ?_ (hv:=λu p=>I7 117 _ rfl (B:=A) (j:=0) (cs:=[vI cd,vI m.ep,vL fa m.fs.length fc,vI m.s.wd,vL ta m.s.ts.length tc,vL ra m.s.rs.length rc]) rfl (λq v e=>by rw[l7];exact(p.2.1.cell q).trans e) underlying117 rfl Y0)
 try simp only[qq]
 refine rq 2 λK d=>?_;go_simp;have a6m:=U0 (c67 b q cd m fa ta ra fc tc rc wc.drew F HSM (I.out.below (P5 r hvd)) (T.X4 HF hvd) (HSt.out.below hvd));refine a6m.out.mono ?_;rintro e w2⟨⟨D,rfl,f⟩,hb2⟩;have g:=hvd.trans (hb2.mono Y8);clear hb2 a6m
 go_wp2_with fail
 refine X8 d (l _ g) λhH=>?_;clear d K
 cases D with
 | false=>
  have H:=U0 (HNO.out (λh=>by have:=f.2 h.1;cases this));clear f
  iterate 28 refine sq ?_
  refine wdn ?_;go_wp2;go_ret;exact⟨.inr ⟨cd,m,x,I5 H⟩,P5 r g⟩
 | true=>
 have HR:=U0 (f.1 rfl);clear f
 iterate 3 refine sq ?_
 by_cases X:0<=b.ed;rotate_left
 ·have H:=U0 (HNO.out (λh=>X h.2.1.1));have z:b.ed<0:=O0;refine sq ?_
  try rw[y9 X]
  iterate 24 refine sq ?_
  refine wdn ?_;go_wp2;go_ret;exact⟨.inr ⟨cd,m,x,I5 H⟩,P5 r g⟩
 refine sq ?_
 try rw[m_ X]
 iterate 4 refine sq ?_
 by_cases W:b.ed<=1000;rotate_left
 ·have H:=U0 (HNO.out (λh=>W h.2.1.2));have z:1000<b.ed:=O0;refine sq ?_
  try rw[y9 W]
  iterate 19 refine sq ?_
  refine wdn ?_;go_wp2;go_ret;exact⟨.inr ⟨cd,m,x,I5 H⟩,P5 r g⟩
 refine sq ?_
 try rw[m_ W]
 iterate 4 refine sq ?_
 refine rq 16 λK d=>?_;go_simp;refine(c68 q.oa q.oc b.rt w2 HCP.out.1 F.out.rl F.out.rs (X5 I.out.rt (P5 r g))).mono ?_;rintro e w3⟨⟨D,rfl,f⟩,hw3⟩;obtain rfl:=hw3.symm
 go_wp2_with fail
 refine X8 d (l _ g) λhH=>?_;clear d K
 cases D with
 | false=>
  have H:=U0 (HNO.out (λh=>by have:=f.2 h.2.2.1;cases this));clear f
  iterate 14 refine sq ?_
  refine wdn ?_;go_wp2;go_ret;exact⟨.inr ⟨cd,m,x,I5 H⟩,P5 r g⟩
 | true=>
 have HRT:=U0 (f.1 rfl);clear f
 iterate 6 refine sq ?_
 refine rq 23 λK d=>?_;go_simp;refine(G.c70 q.fa q.fc b.fs w2 F.out.fl F.out.fz (T.X4 I.out.fs (P5 r g)) (HV.out.below (P5 r g))).mono ?_;rintro e w3⟨⟨ms,v,rfl,hrow,hpt⟩,hb3⟩;obtain⟨pa,pc,rfl,hmk⟩:=G.Qp hrow;have P:=P5 g hb3;have HPT:=U0 hpt;have HMK:=U0 hmk;clear hb3 hrow hpt hmk
 go_wp2_with fail
 refine X8 d (l _ P) λhH=>?_;clear d K;refine rq 24 λK d=>?_;go_simp;refine(c69 q.na pa q.nc pc b.rn ms w3 F.out.nl F.out.ns (G.JH HPT) (G.pU HPT) (Ve I.out.rn (P5 r P)) HMK).mono ?_;rintro e w4⟨⟨D,rfl,f⟩,hb4⟩;have b4:=P5 P hb4;clear hb4
 go_wp2_with fail
 refine X8 d (l _ b4) λhH=>?_;clear d K
 cases D with
 | false=>
  have H:=U0 (HNO.out (λh=>by
   obtain⟨ms',h5,h6,_⟩:=h.2.2.2;obtain rfl:=G.TA h5 HPT.out;have:=f.2 h6;cases this))
  clear f
  iterate 6 refine sq ?_
  refine wdn ?_;go_wp2;go_ret;exact⟨.inr ⟨cd,m,x,I5 H⟩,P5 r b4⟩
 | true=>
 have HRN:=U0 (f.1 rfl);clear f
 iterate 2 refine sq ?_
 refine tq 27 hH ?_ (hv:=λu p=>I7 53 _ rfl (B:=w.heap.size) (j:=0) (cs:=(bsV b q)) rfl (λq v e=>by rw[l7];exact(p.1.cell q).trans e) underlying53 rfl Y0)
 try simp only[qq]
 refine rq 28 λK d=>?_;go_simp;refine(c71 b q w4 F HCP.out.2.1 HPR.out.1.1 HPR.out.1.2 (I.out.below (P5 r b4))).mono ?_;rintro e w5⟨⟨D,rfl,f⟩,hb5⟩;have b5:=P5 b4 hb5;have HE:Hid (D=true↔Pre b/\cd=0/\VM b m):=⟨λh=>HYE.out ⟨HR,⟨X,W⟩,HRT,ms,HPT,HRN,f.1 h⟩,λh=>f.2 (by
  rcases h.2.2 with⟨_,k⟩|⟨k,_⟩
  ·obtain⟨_,_,_,k⟩:=k.2.2.2;exact k
  rw[Y.out]at k;cases k)⟩
 have B5:=U0 (P5 r b5);clear hb5 f
 go_wp2_with fail
 refine X8 d (l _ b5) λhH=>?_;clear d K
 iterate 2 refine sq ?_
 refine wdn ?_;go_wp2;go_ret;exact⟨.inr ⟨cd,m,x,_,rfl,HE⟩,B5⟩

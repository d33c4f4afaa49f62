import Derived.Test.YtdgneicbmalnpaaGreatDoorzR
set_option linter.all false
set_option maxHeartbeats 0
set_option maxRecDepth 99999
open Go.Value renaming slice->Sa,string->Sb,int->Sc,pointer->Sd
open Go.IntKind renaming i64->Se
open Go.Ending renaming returned->Sf
open Go.Obj renaming cells->Sg
namespace Go.Proofs.YtdgneicbmalnpaaGreatDoor
open Proofs.Tryz Go.RowKit
variable{b:Bs}{u u' w:World}{A c:Nat}{q:Ba}{x:BY}
@[go_sem] abbrev diV(c:Int)(bv:List Value):List Value:=Sc Se c::(bv++[Sa none 0 0,Sa none 0 0])
def Vh(b:Bs)(x:BY)(r:Bool):Int×Option Bs:=if r=false then(1,none) else if (b.up&&Y5 x.data.toList)=false then(2,none) else if G.QA b.rt x=true then(0,some b) else if b.rt.length=10 then(3,none) else(0,some (uF b x))
def Zu(A:Nat)(o:Int×Option Bs)(e:Ending)(w:World):Prop:=match o.2 with
 | none=>e=Sf (.agg (diV o.1 bz).toArray)
 | some b'=>∃q',e=Sf (.agg (diV o.1 (bsV b' q')).toArray)/\WC A w b' q'
theorem jV(h:VSp b true)(a:b.up=true):b.rt.length<=10:=by
 rcases h with⟨h,_⟩|⟨_,m,_,h⟩
 ·cases h
 rcases(h.1 rfl).2.2 with⟨_,k⟩|⟨k,_⟩
 ·exact k.2.2.1.1
 rw[a]at k;cases k
theorem a0J{row:Option Nat}(a:Bw w u)(b:u.grownBy u' row)(hr:∀p,row=some p->w.heap.size<=p):Bw w u':=⟨b.os.trans a.os,b.tape.trans a.tape,b.output.trans a.output,X7 a.size b.size,λk hk=>(b.block k (P9 hk a.size) (λe=>by have:=hr k e.symm;omega)).trans (a.block k hk)⟩
theorem a0h{f:OA}(hR:WC A w b q)(hs:w.heap.size<=u'.heap.size)(m:∀p t,oh w p t->t≠139->(Sa q.oa b.rt.length q.oc).ownBlock≠some p->u'.heap[p]?=w.heap[p]?)(ho:u'.ownsRow A 9 1 (Sa f (b.rt.length+1) c) (b.rt.length+1) (b.rt.map Sb++[Sb x]))(hv:(Sa f (b.rt.length+1) c).ownBlock=(Sa q.oa b.rt.length q.oc).ownBlock\/∃p,w.heap.size<=p/\(Sa f (b.rt.length+1) c).ownBlock=some p):WC A u' (uF b x) {q with oa:=f,oc:=c}:=by
 have d:∀p t,oh w p t->t≠9/\t≠139->u'.heap[p]?=w.heap[p]?:=λp t hT ht=>m p t hT ht.2 (λe=>ht.1 (N8 hT (X6 hR.rt e)));have l:∀v:Value,(∀p,v.ownBlock=some p->p<w.heap.size/\(Sa q.oa b.rt.length q.oc).ownBlock≠some p)->NE v (Sa f (b.rt.length+1) c):=λv h p a he=>by
  obtain⟨o,y⟩:=h p a;rcases hv with e|⟨p',h',e⟩
  ·exact y (e.symm.trans he)
  rw[e]at he;injection he with he;omega
 have e1:b.rt.length+1=(b.rt++[x]).length:=by simp
 rw[e1]at ho l;exact
  { sf:=Z4 hR.sf (λp a=>m p 9 (X6 hR.sf a) U5 (hR.n4 p a))
    lo:=Z4 hR.lo (λp a=>m p 9 (X6 hR.lo a) U5 (hR.n5 p a))
    fs:=by
      obtain⟨hf,E⟩:=hR.fs;rcases E with h0|⟨g,n,D,⟨hl,hc,z⟩,cur,ht⟩
      ·exact⟨.inl h0,.inl h0⟩
      have e1:=d g 169 ⟨cur,_,ht⟩ U5;have s:g<u'.heap.size:=P9 hl hs;refine⟨hf.imp id λ⟨b1,off,o,_,u⟩=>?_,.inr ⟨g,n,D,⟨s,λj B=>by rw[yg e1];exact hc j B,λj=>by rw[aF e1];exact z j⟩,cur,e1.trans ht⟩⟩;have:=n.symm.trans o;cases this;exact⟨g,_,n,s,λi C=>by rw[yg e1,yg e1];exact u i C⟩
    st:=⟨Z4 hR.st.1 (λp a=>m p 9 (X6 hR.st.1 a) U5 (hR.n6 p a)),hR.st.2.imp λvs k=>k.keep (λp t hT ht _=>d p t hT (by rcases ht with rfl|rfl<;>decide))⟩
    hd:=Z4 hR.hd (λp a=>d p 3 (X6 hR.hd a) U5)
    rt:=by rw[show(uF b x).rt=b.rt++[x] from rfl,Nl];exact ho
    rn:=hR.rn.imp λ_ r=>r.keep (λp t hT ht _=>d p t hT (by rcases ht with rfl|rfl<;>decide))
    jb:=Z4 hR.jb (λp a=>d p 124 (X6 hR.jb a) U5)
    n1:=hR.n1
    n2:=hR.n2
    n3:=hR.n3
    n4:=l _ (λp a=>⟨o_ hR.sf a,hR.n4 p a⟩)
    n5:=l _ (λp a=>⟨o_ hR.lo a,hR.n5 p a⟩)
    n6:=l _ (λp a=>⟨o_ hR.st.1 a,hR.n6 p a⟩) }
theorem a0u{d:OA}(hR:WC A w b q)(a:Bw w u)(f:u.grownBy u' (Sa q.oa b.rt.length q.oc).ownBlock)(ho:u'.ownsRow A 9 1 (Sa d (b.rt.length+1) c) (b.rt.length+1) (b.rt.map Sb++[Sb x]))(hv:(Sa d (b.rt.length+1) c).ownBlock=(Sa q.oa b.rt.length q.oc).ownBlock\/(Sa d (b.rt.length+1) c).ownBlock=some u.heap.size):WC A u' (uF b x) {q with oa:=d,oc:=c}:=a0h hR (X7 a.size f.size) (λp t hT _ g=>(f.block p (P9 (Ld hT) a.size) (λe=>g e.symm)).trans (a.block p (Ld hT))) ho (hv.imp id λe=>⟨_,a.size,e⟩)
theorem c5(b:Bs)(q:Ba)(x:BY)(w:World)(hl:lg b 1048576)(hx:x.size<=1048576)(hsl:b.sf.length+b.lo.length<=1048576)(hcp:PN b q)(hat:jh w b q):
 Calls prog 5 #[.agg (bsV b q).toArray,Sb x] w λe w'=>(∃r,VSp b r/\Zu w.heap.size (Vh b x r) e w')/\Bw w w':=by
 have HA:=U0 hat;clear hat
 go_in
 go_upto_region 1 with fail
 have R:=U0 (E8 (I4 w (bsV b q) 47) (Sg #[Sc Se 0,Sc Se 0,.bool false,Sc Se 0,Sc Se 0,Sc Se 0,Sa none 0 0,Sa none 0 0,Sa none 0 0,Sc Se 0,Sa none 0 0,Sa none 0 0,Sa none 0 0,Sa none 0 0,Sa none 0 0,Sa none 0 0,Sa none 0 0,Sa none 0 0] 51));have D0:Hid (Cl ((w.alloc (Sg (bsV b q).toArray 47)).alloc (Sg #[Sc Se 0,Sc Se 0,.bool false,Sc Se 0,Sc Se 0,Sc Se 0,Sa none 0 0,Sa none 0 0,Sa none 0 0,Sc Se 0,Sa none 0 0,Sa none 0 0,Sa none 0 0,Sa none 0 0,Sa none 0 0,Sa none 0 0,Sa none 0 0,Sa none 0 0] 51)) (w.heap.size+1) 51 (diV 0 bz)):=by
  have h:=I4 (w.alloc (Sg (bsV b q).toArray 47)) [Sc Se 0,Sc Se 0,.bool false,Sc Se 0,Sc Se 0,Sc Se 0,Sa none 0 0,Sa none 0 0,Sa none 0 0,Sc Se 0,Sa none 0 0,Sa none 0 0,Sa none 0 0,Sa none 0 0,Sa none 0 0,Sa none 0 0,Sa none 0 0,Sa none 0 0] 51;rw[show(w.alloc (Sg (bsV b q).toArray 47)).heap.size=w.heap.size+1 from J4]at h;exact h
 have B0:Hid (Bw w ((w.alloc (Sg (bsV b q).toArray 47)).alloc (Sg #[Sc Se 0,Sc Se 0,.bool false,Sc Se 0,Sc Se 0,Sc Se 0,Sa none 0 0,Sa none 0 0,Sa none 0 0,Sc Se 0,Sa none 0 0,Sa none 0 0,Sa none 0 0,Sa none 0 0,Sa none 0 0,Sa none 0 0,Sa none 0 0,Sa none 0 0] 51))):=U6.alloc J4 _;generalize (w.alloc (Sg (bsV b q).toArray 47)).alloc (Sg #[Sc Se 0,Sc Se 0,.bool false,Sc Se 0,Sc Se 0,Sc Se 0,Sa none 0 0,Sa none 0 0,Sa none 0 0,Sc Se 0,Sa none 0 0,Sa none 0 0,Sa none 0 0,Sa none 0 0,Sa none 0 0,Sa none 0 0,Sa none 0 0,Sa none 0 0] 51)=V0 at*
 go_wp2_with(refine yc R.o rfl 47 _ rfl rfl underlying47 rfl Y0 ?_)
 refine(c20 b q V0 hl hsl hcp (HA.o.below B0.o)).mono ?_;rintro e V⟨h,m⟩;obtain⟨r,rfl,hs⟩:=a2c h;have B:=U0 hs;have D:=U0 (E5 B0.o m);have Q:=U0 (R.o.below m R.o.lt);have C:=U0 (D0.o.below m D0.o.lt);clear h hs m B0 R D0
 cases r with
 | false=>
  go_wp2_with(first|(refine N7 rfl 51 _ _ rfl (j:=0) rfl rfl C.o A8 (X5 rfl) Y0 ?_;intro z f d))
  have i:Cl z (w.heap.size+1) 51 (diV 1 (bz)):=f;have k:Bw w z:=D.o.trans (d.below (Hq _));exact P7 (l7 (P:=prog) (ty:=51) rfl _ z (w.heap.size+1) (diV 1 (bz)) _ rfl i.blk underlying51 rfl Y0) rfl ⟨⟨_,B.o,rfl⟩,k⟩
 | true=>
 by_cases I:b.up=true;rotate_left
 ·have F:Hid (b.up=false):=Uf.2 I;have n:Hid (Vh b x true=(2,none)):=by show _=_;unfold Vh;rw[F.o];rfl
  clear I
  go_wp2_with(first|(refine J7 Q.o rfl _ _ rfl rfl (G7 (λx=>some (Value.bool x)) F.o) Y0 ?_)|(refine N7 rfl 51 _ _ rfl (j:=0) rfl rfl C.o A8 (X5 rfl) Y0 ?_;intro z f d))
  have i:Cl z (w.heap.size+1) 51 (diV 2 (bz)):=f;have k:Bw w z:=D.o.trans (d.below (Hq _));exact P7 (l7 (P:=prog) (ty:=51) rfl _ z (w.heap.size+1) (diV 2 (bz)) _ rfl i.blk underlying51 rfl Y0) rfl ⟨⟨_,B.o,by rw[n.o];rfl⟩,k⟩
 have F:=U0 I;have H10:=U0 (jV B.o I);clear I
 go_wp2_with(refine J7 Q.o rfl _ _ rfl rfl (G7 (λx=>some (Value.bool x)) F.o) Y0 ?_)
 refine(c21 x V (by omega)).mono ?_;rintro e V'⟨rfl,hw⟩;obtain rfl:=hw.symm;by_cases J:Y5 x.data.toList=true;rotate_left
 ·have n:Hid (Vh b x true=(2,none)):=by show _=_;unfold Vh;rw[F.o,Bool.eq_false_iff.2 J];rfl
  rw[Uf.2 J]
  go_wp2_with(first|(refine N7 rfl 51 _ _ rfl (j:=0) rfl rfl C.o A8 (X5 rfl) Y0 ?_;intro z f d))
  have i:Cl z (w.heap.size+1) 51 (diV 2 (bz)):=f;have k:Bw w z:=D.o.trans (d.below (Hq _));exact P7 (l7 (P:=prog) (ty:=51) rfl _ z (w.heap.size+1) (diV 2 (bz)) _ rfl i.blk underlying51 rfl Y0) rfl ⟨⟨_,B.o,by rw[n.o];rfl⟩,k⟩
 have HK:Hid ((b.up&&Y5 x.data.toList)=true):=by show _=true;rw[F.o,J];rfl
 rw[J];clear J
 go_wp2_with(refine yc Q.o rfl 47 _ rfl rfl underlying47 rfl Y0 ?_)
 refine(c22 b q V hl (HA.o.below D.o)).mono ?_;rintro e E⟨⟨a,rfl,hr⟩,m⟩;have R2:=U0 hr;have B2:=U0 (E5 D.o m);have B2n:=U0 m.size;have O:=U0 (C.o.below m C.o.lt);have B1s:=U0 D.o.size;have HN:=U0 C.o.lt;clear hr m D C Q
 go_upto_region 6 with(refine N7 rfl 47 _ _ rfl (j:=0) rfl rfl (I4 E bz 47) A8 (X5 rfl) Y0 ?_;intro U f d)
 have K:Bw E U:=(U6 (w:=E) (o:=Sg bz.toArray 47)).trans (d.below (Y7 _));have y:Hid (Cl U E.heap.size 47 (bsV b a)):=f;have R3:=U0 (R2.o.mv (.below K) (Y7 _));have S:=U0 (E5 B2.o K)
 replace B2n:=U0 (X7 B2n.o K.size)
 have N:=U0 (O.o.below K O.o.lt);have hD3:Hid (E.heap.size≠w.heap.size+1):=λe=>by have:=O.o.lt;omega
 have HMw:=U0 B2.o.size;clear f d R2 B2 O K;have HNV:=U0 B2n.o;generalize E.heap.size=M at*;generalize hNN:V.heap.size=NN at*;generalize U=A at*
 go_wp2_with(refine J7 y.o rfl _ _ rfl rfl rfl Y0 ?_)
 refine(G.c23 a.oa a.oc b.rt x A (by have:=hl.rl;have:=H10.o;omega) (uM R3.o.rt)).mono ?_;rintro e V'⟨rfl,hw⟩;obtain rfl:=hw.symm;by_cases hm:G.QA b.rt x=true
 ·have n:Hid (Vh b x true=(0,some b)):=by show _=_;unfold Vh;rw[HK.o,hm];rfl
  rw[hm]
  go_wp2_with(first|(refine yc y.o rfl 47 _ rfl rfl underlying47 rfl Y0 ?_)|(refine N7 rfl 51 _ _ rfl (j:=0) rfl rfl N.o A8 (X5 rfl) Y0 ?_;intro z f d))
  have i:Cl z (w.heap.size+1) 51 (diV 0 (bsV b a)):=f;have k:Bw w z:=S.o.trans (d.below (Hq _));exact P7 (l7 (P:=prog) (ty:=51) rfl _ z (w.heap.size+1) (diV 0 (bsV b a)) _ rfl i.blk underlying51 rfl Y0) rfl ⟨⟨_,B.o,by rw[n.o];exact⟨a,rfl,R3.o.mv (Fq.on d (.inl HN.o)) B1s.o⟩⟩,k⟩
 have Z:=U0 (Uf.2 hm);rw[Z.o];clear hm;by_cases h10:b.rt.length=10
 ·have n:Hid (Vh b x true=(3,none)):=by show _=_;unfold Vh;rw[HK.o,Z.o,if_pos h10];rfl
  have zt:(10:Int)<=b.rt.length:=O0
  go_wp2_with(first|(refine J7 y.o rfl _ _ rfl rfl rfl Y0 ?_)|(refine N7 rfl 51 _ _ rfl (j:=0) rfl rfl N.o A8 (X5 rfl) Y0 ?_;intro z f d))
  have i:Cl z (w.heap.size+1) 51 (diV 3 (bz)):=f;have k:Bw w z:=S.o.trans (d.below (Hq _));exact P7 (l7 (P:=prog) (ty:=51) rfl _ z (w.heap.size+1) (diV 3 (bz)) _ rfl i.blk underlying51 rfl Y0) rfl ⟨⟨_,B.o,by rw[n.o];rfl⟩,k⟩
 have n:Hid (Vh b x true=(0,some (uF b x))):=by show _=_;unfold Vh;rw[HK.o,Z.o,if_neg h10];rfl
 have zt:¬(10:Int)<=b.rt.length:=by have:=H10.o;omega
 go_upto_region 10 with(refine J7 y.o rfl _ _ rfl rfl rfl Y0 ?_)
 have HSx:=U0 (I4 A [Sb x] 9);have H:=U0 (U6 (w:=A) (o:=Sg #[Sb x] 9));have HD:Hid (∀t c,oh A c t->t≠9->some c≠(Sa a.oa b.rt.length a.oc).ownBlock):=λt c hT ht e=>ht (N8 hT (X6 R3.o.rt e.symm));have Y:Hid (∀u c t xs,(A.alloc (Sg #[Sb x] 9)).grownBy u (Sa a.oa b.rt.length a.oc).ownBlock->Cl A c t xs->t≠9->Cl u c t xs):=λu c t xs v hC ht=>(hC.below H.o hC.lt).gr v (HD.o t c hC.t ht)
 go_upto_region 11 with(first|(refine Lc rfl _ _ 22 rfl NN 9 1 underlying22 (Jc Y0) U5 _ b.rt.length (b.rt.map Sb) rfl (own_below R3.o.rt H.o) _ 1 [Sb x] rfl (.inr ⟨⟨A.heap.size,0,none⟩,1,rfl,rfl,yh HSx.o⟩) (X5 rfl) O0 (X7 HNV.o H.o.size) ?_;intro v' w2 W v hv;obtain⟨oa,oc,rfl⟩:=x9 W;have X:=U0 (Y.o w2 _ _ _ v y.o U5);have D4:=U0 (Y.o w2 _ _ _ v N.o U5);have R4:=U0 (a0u R3.o H.o v W hv);have B4:=U0 (a0J (E5 S.o H.o) v (λp hp=>X7 B1s.o (X4 R3.o.rt hp)));clear W v hv)|(refine Qc rfl 22 _ _ rfl (g:=M) (p:=12) rfl rfl Y0 X.o (by simp) ?_;intro z4 cz4 L)|(refine J7 y.o rfl _ _ rfl rfl rfl Y0 ?_))
 have eL:Hid ([Sc Se b.wd,.bool b.up,Sc Se b.now,Sc Se b.ep,Sc Se b.ed,Sa a.sa b.sf.length a.sc,Sa a.la b.lo.length a.lc,Sa a.fa b.fs.length a.fc,Sc Se b.s.wd,Sa a.ta b.s.ts.length a.tc,Sa a.ra b.s.rs.length a.rc,Sa a.ha b.hd.length a.hc,Sa oa (b.rt.length+1) oc,Sa a.na b.rn.length a.nc,Sa a.ja b.jb.length a.jc]=bsV (uF b x) {a with oa:=oa,oc:=oc}):=by
  show _=_;rw[show b.rt.length+1=(b.rt++[x]).length by simp];rfl
 have XZ:Hid (Cl z4 M 47 [Sc Se b.wd,.bool b.up,Sc Se b.now,Sc Se b.ep,Sc Se b.ed,Sa a.sa b.sf.length a.sc,Sa a.la b.lo.length a.lc,Sa a.fa b.fs.length a.fc,Sc Se b.s.wd,Sa a.ta b.s.ts.length a.tc,Sa a.ra b.s.rs.length a.rc,Sa a.ha b.hd.length a.hc,Sa oa (b.rt.length+1) oc,Sa a.na b.rn.length a.nc,Sa a.ja b.jb.length a.jc]):=cz4;have D5:=U0 (D4.o.on L (λe=>hD3.o e.symm));have R5:=U0 (R4.o.mv (Fq.on L (.inr X.o.t)) (Y7 _));have B5:=U0 (B4.o.trans (L.below HMw.o));clear cz4 L X D4 R4 B4 y N R3 S Y HD H HSx
 go_wp2_with(first|(refine yc XZ.o rfl 47 _ rfl rfl underlying47 rfl Y0 ?_)|(refine N7 rfl 51 _ _ rfl (j:=0) rfl rfl D5.o A8 (X5 rfl) Y0 ?_;intro z f d))
 have i:Cl z (w.heap.size+1) 51 (diV 0 ([Sc Se b.wd,.bool b.up,Sc Se b.now,Sc Se b.ep,Sc Se b.ed,Sa a.sa b.sf.length a.sc,Sa a.la b.lo.length a.lc,Sa a.fa b.fs.length a.fc,Sc Se b.s.wd,Sa a.ta b.s.ts.length a.tc,Sa a.ra b.s.rs.length a.rc,Sa a.ha b.hd.length a.hc,Sa oa (b.rt.length+1) oc,Sa a.na b.rn.length a.nc,Sa a.ja b.jb.length a.jc])):=f;have k:Bw w z:=B5.o.trans (d.below (Hq _));exact P7 (l7 (P:=prog) (ty:=51) rfl _ z (w.heap.size+1) (diV 0 ([Sc Se b.wd,.bool b.up,Sc Se b.now,Sc Se b.ep,Sc Se b.ed,Sa a.sa b.sf.length a.sc,Sa a.la b.lo.length a.lc,Sa a.fa b.fs.length a.fc,Sc Se b.s.wd,Sa a.ta b.s.ts.length a.tc,Sa a.ra b.s.rs.length a.rc,Sa a.ha b.hd.length a.hc,Sa oa (b.rt.length+1) oc,Sa a.na b.rn.length a.nc,Sa a.ja b.jb.length a.jc])) _ rfl i.blk underlying51 rfl Y0) rfl ⟨⟨_,B.o,by rw[n.o];exact⟨_,G7 (λl=>Sf (.agg (diV 0 l).toArray)) eL.o,R5.o.mv (Fq.on d (.inl HN.o)) B1s.o⟩⟩,k⟩
theorem a6m(a b:OA)(c d:Nat)(w:World):Calls prog 34 #[Sa a 0 c,Sa b 0 d] w λe w'=>e=Sf (.bool true)/\Bw w w':=by
 go_in
 go_wp2;go_loopw[5] (λi wr=>i=Sc Se 0/\wr=w) (λ_ _=>0);exact⟨rfl,rfl⟩;obtain⟨rfl,rfl⟩:=hrel;go_wp2;go_ret;exact⟨rfl,O4 _ _⟩
theorem a5F(a b:OA)(c d:Nat)(w:World):Calls prog 35 #[Sa a 0 c,Sa b 0 d] w λe w'=>e=Sf (.bool true)/\Bw w w':=by
 go_in
 go_wp2;go_loopw[5] (λi wr=>i=Sc Se 0/\wr=w) (λ_ _=>0);exact⟨rfl,rfl⟩;obtain⟨rfl,rfl⟩:=hrel;go_wp2;go_ret;exact⟨rfl,O4 _ _⟩
theorem a5G(a:OA)(c:Nat)(k:Int)(w:World):Calls prog 50 #[Sa a 0 c,Sc Se k] w λe w'=>e=Sf (Sc Se k)/\w'=w:=by
 go_in
 go_wp2;go_loopw[1,5] (λk' i wr=>k'=Sc Se k/\i=Sc Se 0/\wr=w) (λ_ _ _=>0);exact⟨rfl,rfl,rfl⟩;obtain⟨rfl,rfl,rfl⟩:=hrel;go_wp2;go_ret;exact⟨rfl,rfl⟩
theorem a5d(a:OA)(c:Nat)(k:Int)(w:World):Calls prog 51 #[Sa a 0 c,Sc Se k] w λe w'=>e=Sf (Sc Se k)/\w'=w:=by
 go_in
 go_wp2;go_loopw[1,5] (λk' i wr=>k'=Sc Se k/\i=Sc Se 0/\wr=w) (λ_ _ _=>0);exact⟨rfl,rfl,rfl⟩;obtain⟨rfl,rfl,rfl⟩:=hrel;go_wp2;go_ret;exact⟨rfl,rfl⟩
theorem a6v(a:OA)(c:Nat)(k:Int)(w:World):Calls prog 53 #[Sa a 0 c,Sc Se k] w λe w'=>e=Sf (Sc Se k)/\w'=w:=by
 go_in
 go_wp2;go_loopw[1,5] (λk' i wr=>k'=Sc Se k/\i=Sc Se 0/\wr=w) (λ_ _ _=>0);exact⟨rfl,rfl,rfl⟩;obtain⟨rfl,rfl,rfl⟩:=hrel;go_wp2;go_ret;exact⟨rfl,rfl⟩
theorem a5h(a:OA)(c:Nat)(k:Int)(w:World):Calls prog 54 #[Sa a 0 c,Sc Se k] w λe w'=>e=Sf (Sc Se k)/\w'=w:=by
 go_in
 go_wp2;go_loopw[1,5] (λk' i wr=>k'=Sc Se k/\i=Sc Se 0/\wr=w) (λ_ _ _=>0);exact⟨rfl,rfl,rfl⟩;obtain⟨rfl,rfl,rfl⟩:=hrel;go_wp2;go_ret;exact⟨rfl,rfl⟩
end Go.Proofs.YtdgneicbmalnpaaGreatDoor
namespace Go.Proofs
open Go.Shelf
def Tryz.ND:Go.Shelf.Ren:=⟨λ| 7=>188|10=>248|n=>n, λ| 23=>132|26=>9|3=>134|28=>266|0=>0|27=>265|33=>67|4=>4|n=>n, λ| n=>n⟩
theorem Tryz.a0t:Go.Proofs.SlLaysZ.n7 prog Tryz.ND:={
 mixed:=Y0
 f7:=⟨Tryz.f188.name,U5,func188.trans (G7 some Y0)⟩
 f10:=⟨Tryz.f248.name,U5,func248.trans (G7 some Y0)⟩
 t0:=underlying0
 a0:=Tryz.isAgg0
 z0:=Tryz.sizeOf0
 v0:=Tryz.zeroValue0
 t4:=underlying4
 a4:=Tryz.isAgg4
 z4:=Tryz.sizeOf4
 v4:=Tryz.zeroValue4
 t23:=underlying132
 a23:=Tryz.isAgg132
 z23:=Tryz.sizeOf132
 v23:=Tryz.zeroValue132
 t26:=underlying9
 a26:=Tryz.isAgg9
 z26:=Tryz.sizeOf9
 v26:=Tryz.zeroValue9
 t27:=underlying265
 a27:=Tryz.isAgg265
 z27:=Tryz.sizeOf265
 v27:=Tryz.zeroValue265
 t28:=underlying266
 a28:=Tryz.isAgg266
 z28:=Tryz.sizeOf266
 v28:=Tryz.zeroValue266
 t33:=underlying67
 a33:=Tryz.isAgg67
 z33:=Tryz.sizeOf67
 v33:=Tryz.zeroValue67 }
def Tryz.yD:Go.Shelf.Ren:=⟨λ| 7=>191|10=>249|n=>n, λ| 23=>133|26=>9|3=>124|28=>266|0=>0|27=>265|33=>67|4=>4|n=>n, λ| n=>n⟩
theorem Tryz.YZ:Go.Proofs.SlLaysZ.n7 prog Tryz.yD:={
 mixed:=Y0
 f7:=⟨Tryz.f191.name,U5,func191.trans (G7 some Y0)⟩
 f10:=⟨Tryz.f249.name,U5,func249.trans (G7 some Y0)⟩
 t0:=underlying0
 a0:=Tryz.isAgg0
 z0:=Tryz.sizeOf0
 v0:=Tryz.zeroValue0
 t4:=underlying4
 a4:=Tryz.isAgg4
 z4:=Tryz.sizeOf4
 v4:=Tryz.zeroValue4
 t23:=underlying133
 a23:=Tryz.isAgg133
 z23:=Tryz.sizeOf133
 v23:=Tryz.zeroValue133
 t26:=underlying9
 a26:=Tryz.isAgg9
 z26:=Tryz.sizeOf9
 v26:=Tryz.zeroValue9
 t27:=underlying265
 a27:=Tryz.isAgg265
 z27:=Tryz.sizeOf265
 v27:=Tryz.zeroValue265
 t28:=underlying266
 a28:=Tryz.isAgg266
 z28:=Tryz.sizeOf266
 v28:=Tryz.zeroValue266
 t33:=underlying67
 a33:=Tryz.isAgg67
 z33:=Tryz.sizeOf67
 v33:=Tryz.zeroValue67 }
end Go.Proofs
namespace Go.Proofs.YtdgneicbmalnpaaGreatDoor
open Proofs.Tryz Go.RowKit Go.Maps Go.Sort Go.Shelf
variable{u u1 u2 w:World}{b:Bs}{js:List Jb}{A D j m1 m2 n:Nat}{q:Ba}{pv:Value}{vs:List Value}{Rs:List Nat}
attribute [local go_sem] Oper.semAt_some
theorem a2m(S j h b B:Nat)(l:List (ByteArray×Value))(w:World)(hA:Asc l)(hks:∀p∈l,p.1.size<=maxLen)(hl:l.length<=1000)(x:h<w.heap.size)(hm:w.cell? ⟨h,0,none⟩=some (.map (some b)))(t:w.ownsMap prog 9 h_ b B (mapD l))(hTm:oh w h 132)(hSB:h≠S)(hSw:S<w.heap.size)(hbS:b≠S)(O:fB w S j=none):
 SeqStopsK Fence.wide 10 prog 186 #[Sd (some ⟨h,0,none⟩)] (λi:Fin l.length=>#[(l[i.1]'(i.2)).2]) (Ar S j 119) (λxs=>xs=List.finRange l.length) (λ_=>True) l.length w:=λL J Jx W f hJ hJx R h0=>by
 have I:=(f.cell (by exact x)).trans hm;have q:=U9 t f t.lt;have K:fB W S j=none:=by unfold fB;rw[f.cell (p:=⟨S,j,none⟩) hSw];exact O
 have V:=P9 x f.size;have hbl:=q.lt;clear hm t O;have D:SeqGives Fence.wide 6 prog 248 #[Sd (some ⟨W.heap.size,0,none⟩)] encStr (λss=>ss.Perm (strKeys (mapD l))) (Maps.size (mapD l)) (W.alloc (Sg #[.map (some b)] 132)):=
  AnyZ.keys_gives (ρ:=Tryz.ND) { Tryz.a0t with } Fence.wide _ trivial rfl O0 W.heap.size b B (mapD l) _ J4 J4 (q.alloc _)
 have Y:∀n W,CallsIn Fence.wide 9 prog 188 #[.map n] W λe w'=>e=Sf (.func (.func 248) #[] #[Sd (some ⟨W.heap.size,0,none⟩)])/\w'=W.alloc (Sg #[.map n] 132):=λn W=>AnyZ.keys_in Tryz.a0t Fence.wide 9 trivial rfl n W;have y:=AnyZ.sorted_in Tryz.sortedA Fence.wide 9 trivial trivial trivial trivial rfl O0 (CJ _) (enters_of func247 Y0 rfl) 248 #[Sd (some ⟨W.heap.size,0,none⟩)] trivial (enters_of func248 Y0 rfl) _ _ (by rw[O_];unfold maxLen;omega) (by rw[O_];omega) _ D;change CallsIn _ _ prog 187 _ _ _ at y;have X:CallsIn Fence.wide 9 prog 187 #[.func (.func 248) #[] #[Sd (some ⟨W.heap.size,0,none⟩)]] (W.alloc (Sg #[.map (some b)] 132)) λe w'=>∃va m,e=Sf (Sa va l.length m)/\Hid (w'.ownsRow (W.heap.size+1) 9 1 (Sa va l.length m) l.length (l.map λp=>Sb p.1))/\Bw W w':=by
  refine y.mono ?_;rintro e w'⟨v,ss,rfl,U,c,hnil,d⟩;have hlen:ss.length=l.length:=by rw[U.length_eq];rw[Zr];simp
  rw[Bq hA U]at c;rw[Gp,show(encStr∘λp:BY×Value=>p.1.data.toList)=λp=>Sb p.1 from funext λp=>yB p.1]at c;rw[hlen]at c;have E:=I7 c (base':=W.heap.size+1) J4;obtain⟨va,m,rfl⟩:=x9 E;exact⟨va,m,rfl,E,((O4 _ W).alloc A8 _).trans (d.mono J4)⟩
 have hfK:Fence.wide.fn 188:=trivial;have hfS:Fence.wide.fn 187:=trivial;clear y D;refine callsIn_of_wp func186 rfl trivial ?_ rfl;simp only[ntmps186,Wp,f_,Fb,Nat.reduceAdd,Nat.reduceSub,Lp,Qq,Hr,Iq,Y9,jd]
 gi_wp2_with (first
  | (gi_at_call 188;refine(Y _ _).mono ?_;rintro e w'⟨rfl,rfl⟩)
  | (gi_at_call 187;refine X.mono ?_;rintro e s⟨va,m,rfl,c,d⟩))
 clear Y X;have hJ1:J [] s:=hJ [] W s none h0 (Yd d) (λ_ e=>by cases e);have hT1:=(hTm.below f x).below d V;have hm1:=(d.cell (by exact V)).trans I;have H:=U9 q d hbl;have N:fB s S j=none:=by unfold fB;rw[d.cell (p:=⟨S,j,none⟩) (Nat.lt_of_lt_of_le hSw f.size)];exact K
 have P:=Jo c.o;have hSW1:=P9 hSw f.size;have HO:=U0 H;have A:=U0 N;have HC:=U0 P;clear H N P c q K I
 gi_loopw[9] (λi wr=>∃k:Nat,k<=l.length/\i=Sc Se k/\J ((List.finRange l.length).take k) wr/\Ar S j 119 s wr) (λi _=>l.length-(Go.RowKit.intOf i).toNat)
 case atStart=>exact⟨0,Y4 _,rfl,hJ1,Ar.refl _ _ _ _⟩
 case round=>
  obtain⟨k,hk,rfl,u,r⟩:=hrel;by_cases a:k<l.length
  ·rcases HC.o with h0'|⟨g,Z,hgW,hgw,hTg,hcell⟩
   ·omega
   subst Z;have hgS:g≠S:=O0;have Q:=(r.cell A.o (p:=⟨g,k,none⟩) hgS hTg U5).trans (hcell k a);have hb3:=(r.cell A.o (p:=⟨h,0,none⟩) hSB hT1 U5).trans hm1;have F:=r.map A.o hbS HO.o;have o:=BB (k:=(l[k]'(a)).1) (z:=Sd none) F underlying132 Y0 (hks _ (dh a));rw[Ik hA (k:=(l[k]'(a)).1) (v:=(l[k]'(a)).2) (dh a)]at o;rw[Dc]at o;rw[KG l a]at Q;obtain⟨fn,tmps,assign,body,C,hR⟩:=R _ ⟨k,a⟩ wr u (by rw[L_,JG];omega);dsimp only at C;clear R F;generalize hgk:(l[k]'(a)).1=kk at o Q;generalize hvk:(l[k]'(a)).2=vk at o C
   gi_wp2
   refine hR.mono ?_;rintro e W3 (⟨rfl,hJ3,hk3⟩|⟨rfl,hJx3⟩)
   ·gi_wp2
    go_roundw;exact⟨k+1,O0,by go_num,by rw[Yu a];exact hJ3,r.trans hk3⟩;exact V9
   gi_wp2
   refine P7 (RF rfl _ _ _) rfl ?_;exact⟨⟨_,rfl⟩,.inr ⟨_,trivial,hJx3⟩⟩
  obtain rfl:k=l.length:=O0
  gi_wp2
  go_end0
  exact⟨⟨_,rfl⟩,.inl ⟨_,rfl,by rw[p_ J4]at u;exact u⟩⟩
theorem c131(a:Option Nat)(n:Nat)(w:World):CallsIn Fence.wide n prog 131 #[.map a] w λe w'=>e=Sf (.func (.func 186) #[] #[Sd (some ⟨w.heap.size,0,none⟩)])/\w'=w.alloc (Sg #[.map a] 132):=by
 refine callsIn_of_wp func131 rfl trivial ?_ rfl;simp only[ntmps131,Wp,f_,Fb,Nat.reduceAdd,Nat.reduceSub,Lp,Qq,Hr,Iq,Y9,jd]
 gi_wp2
 go_ret;exact⟨rfl,rfl⟩
theorem a2v(S j h b B:Nat)(l:List (ByteArray×Value))(w:World)(hA:Asc l)(hks:∀p∈l,p.1.size<=maxLen)(hl:l.length<=1000)(x:h<w.heap.size)(hm:w.cell? ⟨h,0,none⟩=some (.map (some b)))(t:w.ownsMap prog 9 h_ b B (mapD l))(hTm:oh w h 133)(hSB:h≠S)(hSw:S<w.heap.size)(hbS:b≠S)(O:fB w S j=none):
 SeqStopsK Fence.wide 10 prog 190 #[Sd (some ⟨h,0,none⟩)] (λi:Fin l.length=>#[(l[i.1]'(i.2)).2]) (Ar S j 124) (λxs=>xs=List.finRange l.length) (λ_=>True) l.length w:=λL J Jx W f hJ hJx R h0=>by
 have I:=(f.cell (by exact x)).trans hm;have q:=U9 t f t.lt;have K:fB W S j=none:=by unfold fB;rw[f.cell (p:=⟨S,j,none⟩) hSw];exact O
 have V:=P9 x f.size;have hbl:=q.lt;clear hm t O;have D:SeqGives Fence.wide 6 prog 249 #[Sd (some ⟨W.heap.size,0,none⟩)] encStr (λss=>ss.Perm (strKeys (mapD l))) (Maps.size (mapD l)) (W.alloc (Sg #[.map (some b)] 133)):=
  AnyZ.keys_gives (ρ:=Tryz.yD) { Tryz.YZ with } Fence.wide _ trivial rfl O0 W.heap.size b B (mapD l) _ J4 J4 (q.alloc _)
 have Y:∀n W,CallsIn Fence.wide 9 prog 191 #[.map n] W λe w'=>e=Sf (.func (.func 249) #[] #[Sd (some ⟨W.heap.size,0,none⟩)])/\w'=W.alloc (Sg #[.map n] 133):=λn W=>AnyZ.keys_in Tryz.YZ Fence.wide 9 trivial rfl n W;have y:=AnyZ.sorted_in Tryz.sortedA Fence.wide 9 trivial trivial trivial trivial rfl O0 (CJ _) (enters_of func247 Y0 rfl) 249 #[Sd (some ⟨W.heap.size,0,none⟩)] trivial (enters_of func249 Y0 rfl) _ _ (by rw[O_];unfold maxLen;omega) (by rw[O_];omega) _ D;change CallsIn _ _ prog 187 _ _ _ at y;have X:CallsIn Fence.wide 9 prog 187 #[.func (.func 249) #[] #[Sd (some ⟨W.heap.size,0,none⟩)]] (W.alloc (Sg #[.map (some b)] 133)) λe w'=>∃va m,e=Sf (Sa va l.length m)/\Hid (w'.ownsRow (W.heap.size+1) 9 1 (Sa va l.length m) l.length (l.map λp=>Sb p.1))/\Bw W w':=by
  refine y.mono ?_;rintro e w'⟨v,ss,rfl,U,c,hnil,d⟩;have hlen:ss.length=l.length:=by rw[U.length_eq];rw[Zr];simp
  rw[Bq hA U]at c;rw[Gp,show(encStr∘λp:BY×Value=>p.1.data.toList)=λp=>Sb p.1 from funext λp=>yB p.1]at c;rw[hlen]at c;have E:=I7 c (base':=W.heap.size+1) J4;obtain⟨va,m,rfl⟩:=x9 E;exact⟨va,m,rfl,E,((O4 _ W).alloc A8 _).trans (d.mono J4)⟩
 have hfK:Fence.wide.fn 191:=trivial;have hfS:Fence.wide.fn 187:=trivial;clear y D;refine callsIn_of_wp func190 rfl trivial ?_ rfl;simp only[ntmps190,Wp,f_,Fb,Nat.reduceAdd,Nat.reduceSub,Lp,Qq,Hr,Iq,Y9,jd]
 gi_wp2_with (first
  | (gi_at_call 191;refine(Y _ _).mono ?_;rintro e w'⟨rfl,rfl⟩)
  | (gi_at_call 187;refine X.mono ?_;rintro e s⟨va,m,rfl,c,d⟩))
 clear Y X;have hJ1:J [] s:=hJ [] W s none h0 (Yd d) (λ_ e=>by cases e);have hT1:=(hTm.below f x).below d V;have hm1:=(d.cell (by exact V)).trans I;have H:=U9 q d hbl;have N:fB s S j=none:=by unfold fB;rw[d.cell (p:=⟨S,j,none⟩) (Nat.lt_of_lt_of_le hSw f.size)];exact K
 have P:=Jo c.o;have hSW1:=P9 hSw f.size;have HO:=U0 H;have A:=U0 N;have HC:=U0 P;clear H N P c q K I
 gi_loopw[9] (λi wr=>∃k:Nat,k<=l.length/\i=Sc Se k/\J ((List.finRange l.length).take k) wr/\Ar S j 124 s wr) (λi _=>l.length-(Go.RowKit.intOf i).toNat)
 case atStart=>exact⟨0,Y4 _,rfl,hJ1,Ar.refl _ _ _ _⟩
 case round=>
  obtain⟨k,hk,rfl,u,r⟩:=hrel;by_cases a:k<l.length
  ·rcases HC.o with h0'|⟨g,Z,hgW,hgw,hTg,hcell⟩
   ·omega
   subst Z;have hgS:g≠S:=O0;have Q:=(r.cell A.o (p:=⟨g,k,none⟩) hgS hTg U5).trans (hcell k a);have hb3:=(r.cell A.o (p:=⟨h,0,none⟩) hSB hT1 U5).trans hm1;have F:=r.map A.o hbS HO.o;have o:=BB (k:=(l[k]'(a)).1) (z:=.agg #[Sb ⟨#[]⟩,Sc Se 0,Sc Se 0]) F underlying133 Y0 (hks _ (dh a));rw[Ik hA (k:=(l[k]'(a)).1) (v:=(l[k]'(a)).2) (dh a)]at o;rw[Dc]at o;rw[KG l a]at Q;obtain⟨fn,tmps,assign,body,C,hR⟩:=R _ ⟨k,a⟩ wr u (by rw[L_,JG];omega);dsimp only at C;clear R F;generalize hgk:(l[k]'(a)).1=kk at o Q;generalize hvk:(l[k]'(a)).2=vk at o C
   gi_wp2
   refine hR.mono ?_;rintro e W3 (⟨rfl,hJ3,hk3⟩|⟨rfl,hJx3⟩)
   ·gi_wp2
    go_roundw;exact⟨k+1,O0,by go_num,by rw[Yu a];exact hJ3,r.trans hk3⟩;exact V9
   gi_wp2
   refine P7 (RF rfl _ _ _) rfl ?_;exact⟨⟨_,rfl⟩,.inr ⟨_,trivial,hJx3⟩⟩
  obtain rfl:k=l.length:=O0
  gi_wp2
  go_end0
  exact⟨⟨_,rfl⟩,.inl ⟨_,rfl,by rw[p_ J4]at u;exact u⟩⟩
theorem a4v(a:Option Nat)(n:Nat)(w:World):CallsIn Fence.wide n prog 133 #[.map a] w λe w'=>e=Sf (.func (.func 190) #[] #[Sd (some ⟨w.heap.size,0,none⟩)])/\w'=w.alloc (Sg #[.map a] 133):=by
 refine callsIn_of_wp func133 rfl trivial ?_ rfl;simp only[ntmps133,Wp,f_,Fb,Nat.reduceAdd,Nat.reduceSub,Lp,Qq,Hr,Iq,Y9,jd]
 gi_wp2
 go_ret;exact⟨rfl,rfl⟩
attribute [local go_sem] Oper.semAt_some
def gJ(x:Jb):BY×Value:=(x.nm,.agg #[Sb x.nm,Sc Se x.wk,Sc Se x.un])
def NK(js:List Jb)(n:Nat)(i:Fin n):Jb:=js.getD i.1 Ea
theorem a1D(js:List Jb)(x:Fin (js.map gJ).length):((js.map gJ)[x.1]'(x.2)).2=.agg #[Sb (NK js (js.map gJ).length x).nm,Sc Se (NK js (js.map gJ).length x).wk,Sc Se (NK js (js.map gJ).length x).un]:=by
 have hx:x.1<js.length:=by have:=x.2;simpa using this
 rw[qx];have e:NK js (js.map gJ).length x=js[x.1]:=by unfold NK;simp only[List.getD,List.getElem?_eq_getElem hx,Option.getD_some]
 rw[e];rfl
structure Cj(w:World)(js:List Jb)(n:Nat)(pre:List (Fin n))(W:World):Prop where
 ex:∃a c,Cl W w.heap.size 45 [Sa a pre.length c]/\W.ownsRow (w.heap.size+1) 124 3 (Sa a pre.length c) pre.length (pre.flatMap λi=>Kq (NK js n i))
 bw:Bw w W
 sz:w.heap.size+1<=W.heap.size
theorem wS(w:World)(js:List Jb)(n B:Nat)(hB:w.heap.size+1<=B):OwnFrom B (λpre W=>Cj w js n pre W):=λs W W' row h b hr=>by
 have d:∀r,row=some r->∃o:Obj,W.heap[r]?=some o/\o.isCells=false:=λr e=>(hr r e).2;obtain⟨a,c,h1,h2⟩:=h.ex;exact⟨⟨a,c,h1.nc b d,Tf h2 b d⟩,h.bw.trans (m_ b (λj e=>by have:=(hr j e).1;omega) h.bw.size),X7 h.sz b.size⟩
theorem PY{b:World}(h:Cj w js (js.map gJ).length (List.finRange (js.map gJ).length) b):∃a c,Cl b w.heap.size 45 [Sa a js.length c]/\b.ownsRow (w.heap.size+1) 124 3 (Sa a js.length c) js.length (js.flatMap Kq):=by
 obtain⟨a,c,h1,h2⟩:=h.ex;have e1:(List.finRange (js.map gJ).length).length=js.length:=J4;have f:((List.finRange (js.map gJ).length).flatMap λi=>Kq (NK js (js.map gJ).length i))=js.flatMap Kq:=by
  rw[zq,zq]
  congr 1
  apply xu
  ·simp
  intro i hi1 d;have e:i<js.length:=by simpa using d
  simp[NK,List.getD,V8 e]
 rw[e1]at h1 h2;rw[f]at h2;exact⟨a,c,h1,h2⟩
theorem cZ{b f g:World}{B:Nat}{pre:List (Fin n)}{x:Fin n}{a a2:OA}{c c2:Nat}{y:Jb}(h:Cj w js n pre b)(l:Cl b w.heap.size 45 [Sa a pre.length c])(ho:b.ownsRow (w.heap.size+1) 124 3 (Sa a pre.length c) pre.length (pre.flatMap λi=>Kq (NK js n i)))(u:y=NK js n x)
 (z:f.ownsRow (w.heap.size+1) 124 3 (Sa a2 (pre.length+1) c2) (pre.length+1) ((pre.flatMap λi=>Kq (NK js n i))++[Sb y.nm,Sc Se y.wk,Sc Se y.un])) (d:(b.alloc (Sg #[Sb y.nm,Sc Se y.wk,Sc Se y.un] 124)).grownBy f (Sa a pre.length c).ownBlock) (A:(Sa a2 (pre.length+1) c2).ownBlock=(Sa a pre.length c).ownBlock\/(Sa a2 (pre.length+1) c2).ownBlock=some (b.heap.size+1)) (C:g=f.setCell ⟨w.heap.size,0,none⟩ (Sa a2 (pre.length+1) c2)):
 (KeepsFrom B b g/\Ar w.heap.size 0 124 b g)/\Cj w js n (pre++[x]) g:=by
 have hz:=h.sz;have s:Bw b (b.alloc (Sg #[Sb y.nm,Sc Se y.wk,Sc Se y.un] 124)):=U6;have sG:=d.size;have sN:(b.alloc (Sg #[Sb y.nm,Sc Se y.wk,Sc Se y.un] 124)).heap.size=b.heap.size+1:=J4;have o:=((l.below s O0).gr d (row_ne ho O0)).set 0 (Sa a2 (pre.length+1) c2);have o3:=u_ f w.heap.size 0 (Sa a2 (pre.length+1) c2);have p:(f.setCell ⟨w.heap.size,0,none⟩ (Sa a2 (pre.length+1) c2)).ownsRow (w.heap.size+1) 124 3 (Sa a2 (pre.length+1) c2) (pre.length+1) ((pre.flatMap λi=>Kq (NK js n i))++[Sb y.nm,Sc Se y.wk,Sc Se y.un]):=Tv z _ _ (by show w.heap.size<w.heap.size+1;omega);rw[<- C]at o o3 p;have s3:=o3.size;have H:∀k,k<b.heap.size->k≠w.heap.size->(Sa a pre.length c).ownBlock≠some k->g.heap[k]?=b.heap[k]?:=λk hk m hf=>(o3.block k m).trans ((d.block k O0 (λe=>hf e.symm)).trans (s.block k hk));have hf:=Ll (j:=0) l rfl;refine⟨Dl O0 (λk hk m h _=>H k hk m (hf▸h)) l.t (λq v=>⟨124,X6 ho (hf▸v)⟩) ?_,?_⟩
 ·rw[Ll o rfl,hf];rcases A with e|e
  ·exact .inl e
  exact .inr ⟨_,e,O0⟩
 have r:(pre++[x]).length=pre.length+1:=J4;refine⟨⟨a2,c2,?_,?_⟩,?_,O0⟩
 ·rw[r];exact o
 ·rw[r,Vo,Xf,vJ,Vt,<- u];exact p
 exact⟨o3.os.trans (d.os.trans h.bw.os),o3.tape.trans (d.tape.trans h.bw.tape),o3.output.trans (d.output.trans h.bw.output),by have:=h.bw.size;omega,λk hk=>(H k O0 O0 (λe=>by have:=X4 ho e;omega)).trans (h.bw.block k hk)⟩
theorem ER:(prog.info? 124).map (λi=>(i.zero,i.size,i.bytes))=some (some (.agg #[Sb ⟨#[]⟩,Sc Se 0,Sc Se 0]),3,32):=Y0
theorem a4I(u b V:Nat)(js:List Jb)(w:World)(hA:Asc (js.map gJ))(hks:∀p∈js.map gJ,p.1.size<=maxLen)(hl:js.length<=1000)(hm:Cl w u 133 [.map (some b)])(i:w.ownsMap prog 9 h_ b V (mapD (js.map gJ))):
 Calls prog 189 #[Sa none 0 0,.func (.func 190) #[] #[Sd (some ⟨u,0,none⟩)]] w λe w'=>(∃a c,e=Sf (Sa a js.length c)/\w'.ownsRow w.heap.size 124 3 (Sa a js.length c) js.length (js.flatMap Kq))/\Bw w w':=by
 have HM:=U0 hm;have HO:=U0 i;have Y:=hm.lt;have lb:=i.lt;have F:Bw w (w.alloc (Sg #[Sa none 0 0] 45)):=U6;have U:=I4 w [Sa none 0 0] 45;have S:=hm.below F Y;have M2:=U0 (U9 i F lb);have hf0:=Ll (j:=0) U rfl;have z3:(w.alloc (Sg #[Sa none 0 0] 45)).heap.size=w.heap.size+1:=J4;have I0:Cj w js (js.map gJ).length [] (w.alloc (Sg #[Sa none 0 0] 45)):=⟨⟨none,0,U,M_ _ _ _ _⟩,F,O0⟩;obtain⟨Z,hi9,hz0,hz1,hz2⟩:=info_parts' ER;clear hm i;refine(callsIn_wide (n:=11)).1 ?_;refine callsIn_of_wp_marks func189 rfl trivial ?_ rfl;simp only[ntmps189,Wp,f_,Fb,Nat.reduceAdd,Nat.reduceSub,Lp,Qq,Hr,Iq,Y9,jd]
 gi_wp2
 generalize w.alloc (Sg #[Sa none 0 0] 45)=O at*;have hm2:=S.cell 0;refine wpIn_rangeFunc_ownH rfl O0 (gf:=190) (lb:=#[Sd (some ⟨u,0,none⟩)]) rfl trivial (enters_of func190 Y0 rfl)
  (a2v w.heap.size 0 u b _ (js.map gJ) O hA hks (by simpa using hl) O0 hm2 M2.o S.t O0 O0 O0 hf0)
  Ar.trans (Nz O0) (O4 _ _) (λ_=>rfl)
  (λpre W'=>Cj w js (js.map gJ).length pre W') (λ_ _ _=>False) (wS w js _ _ O0) (λ_ _ _ _ _ h _ _=>h) I0
  (λx C W'=>∃Bx y,y=NK js (js.map gJ).length x/\w.heap.size+1<=Bx/\Cl W' Bx 124 [Sb y.nm,Sc Se y.wk,Sc Se y.un]/\C={ tmps:=#[Sa none 0 0,.func (.func 190) #[] #[Sd (some ⟨u,0,none⟩)],Sd (some ⟨w.heap.size,0,none⟩),undef,Sa none 0 0,Sd (some ⟨Bx,0,none⟩),.func (.func 190) #[] #[Sd (some ⟨u,0,none⟩)],.agg #[Sb y.nm,Sc Se y.wk,Sc Se y.un],undef,undef,undef,undef,undef],defers:=[] }) ?hax ?assign ?body ?done ?stop
 case hax=>
  rintro x C s d W2 row⟨Bx,y,h1,h2,h3,h5⟩ A hr;have hr2:∀r,row=some r->∃o:Obj,d.heap[r]?=some o/\o.isCells=false:=λr e=>(hr r e).2;exact⟨Bx,y,h1,h2,h3.nc A hr2,h5⟩
 case assign=>
  intro l pre x d K f hK;have H:=a1D js x;rw[H];generalize z:NK js (js.map gJ).length x=y at*;have A:=gG d (Sg #[Sb y.nm,Sc Se y.wk,Sc Se y.un] 124) none;have hi2:=wS w js (js.map gJ).length (w.heap.size+1) A8 pre d _ none f A (λ_ e=>by cases e);have hk2:=Gx (W:=d) w.heap.size 0 124 (by have:=f.sz;omega) (Sg #[Sb y.nm,Sc Se y.wk,Sc Se y.un] 124);have hb2:=I4 d [Sb y.nm,Sc Se y.wk,Sc Se y.un] 124;have hz:=f.sz;clear H
  gi_wp2
  exact hK _ _ ((KeepsOthers.alloc _ _).from _) hk2 hi2 ⟨d.heap.size,y,rfl,hz,hb2,rfl⟩
 case body=>
  rintro l pre x C d hl⟨r,hr⟩ f ⟨Bx,y,z,hBx,bX,rfl⟩ hlt;have HTX:=U0 z;clear z;obtain⟨a,c,m,g⟩:=f.ex;have hz:=f.sz;have x0:=bX.cell 0;have x1:=bX.cell 1;have x2:=bX.cell 2;have y1:=m.cell 0;have f1:=m.opn 0;have HO1:=U0 (g.alloc (Sg #[Sb y.nm,Sc Se y.wk,Sc Se y.un] 124));have Q:Cl (d.alloc (Sg #[Sb y.nm,Sc Se y.wk,Sc Se y.un] 124)) d.heap.size 124 [Sb y.nm,Sc Se y.wk,Sc Se y.un]:=I4 _ _ _;have HR:=U0 (yh Q);have HS0:=U0 f;have R:=U0 m;have P:=U0 g;have hpl:pre.length<=1000:=by have e:(js.map gJ).length=js.length:=Ve ..;omega
  have bN:Bw d (d.alloc (Sg #[Sb y.nm,Sc Se y.wk,Sc Se y.un] 124)):=U6;have sN:(d.alloc (Sg #[Sb y.nm,Sc Se y.wk,Sc Se y.un] 124)).heap.size=d.heap.size+1:=J4;clear f m g bX hr Q;have hmark:=trivial
  gi_wp2_with (gi_at_builtin;refine wpListIn_append_own_at _ rfl _ _ 45 rfl (w.heap.size+1) 124 Z (.agg #[Sb ⟨#[]⟩,Sc Se 0,Sc Se 0]) 3 32 underlying45 hi9 hz0 hz1 hz2 rfl U5 _ _ _ rfl HO1.o ⟨d.heap.size,0,none⟩ 1 1 [Sb y.nm,Sc Se y.wk,Sc Se y.un] rfl rfl HR.o (by simp[Value.oneCell']) (by unfold maxLen;omega) O0 O0 ?_;revert hmark)
  intro v2 w2 i I _ hloc;obtain⟨a2,c2,rfl⟩:=x9 i;have X:=row_ne (k:=w.heap.size) P.o O0;have N:=(R.o.below bN O0).gr I X;have g1:=N.cell 0;have fz:=N.opn 0;have E:=U0 (cZ (B:=O.heap.size) HS0.o R.o P.o HTX.o i I hloc rfl)
  gi_wp2
  exact⟨E.o.1.1,E.o.1.2,E.o.2⟩
 case done=>
  rintro D xs d hD hxs f J;subst hxs;obtain⟨a,c,m,g⟩:=PY f;have hz:=f.sz;have v:=f.bw;have y0:=m.cell 0;have OS:=U0 g;have a7z:Hid ((d.putObj D (.deferred none)).ownsRow w.heap.size 124 3 (Sa a js.length c) js.length (js.flatMap Kq)):=I7 (Z4 g (λq hq=>World.putObj_heap_other (λe=>by obtain⟨cur,fr,L⟩:=X6 g hq;rw[e,J]at L;cases L))) O0;have HBE:Hid (Bw w (d.putObj D (.deferred none))):=⟨v.os,v.tape,v.output,by simp;exact v.size,λk hk=>(World.putObj_heap_other O0).trans (v.block k hk)⟩;clear g m;simp only[]
  gi_wp2
  refine⟨J4,.inl ⟨_,_,rfl,run_takeDeferred J,?_⟩⟩;exact⟨_,results_tmp rfl _ _ _,⟨a,c,rfl,a7z.o⟩,HBE.o⟩
 case stop=>
  rintro D c' pre d _ _ h _;exact h.elim
theorem a5k(d b f:Nat)(js:List Jb)(w:World)(hA:Asc (js.map gJ))(h:∀p∈js.map gJ,p.1.size<=maxLen)(hl:js.length<=1000)(hm:Cl w d 133 [.map (some b)])(g:w.ownsMap prog 9 h_ b f (mapD (js.map gJ))):
 Calls prog 132 #[.func (.func 190) #[] #[Sd (some ⟨d,0,none⟩)]] w λe w'=>(∃a c,e=Sf (Sa a js.length c)/\w'.ownsRow w.heap.size 124 3 (Sa a js.length c) js.length (js.flatMap Kq))/\Bw w w':=by
 go_in
 go_wp2_with(go_at_call 189;refine(a4I d b f js w hA h hl hm g).mono ?_;rintro e w'⟨⟨a,c,rfl,hr⟩,i⟩)
 go_ret;exact⟨⟨_,_,rfl,hr⟩,i⟩
open Go.RowKit Go.Maps
def XV(m1 m2:Nat):List Value:=[Sd none,.map (some m1),.map (some m2),Sd none,Sd none,Sd none,Sd none,Sd none,Sd none,Sd none,Sd none,Sd none,Sd none,Sd none,Sd none,Sd none,Sd none,Sd none,Sd none,Sd none,Sd none,Sd none,Sd none,Sd none,Sd none,Sd none,Sd none,Sd none,Sd none,Sd none,Sd none,Sd none,Sd none,Sc Se 0,Sc Se 0,Sa none 0 0,Sa none 0 0]
def Ku(is:List Rn)(Rs:List Nat):List (ByteArray×Value):=(is.zip Rs).map λp=>(p.1.nm,Sd (some ⟨p.2,0,none⟩))
theorem KQ(is:List Rn)(Rs:List Nat)(R:Nat)(h:Rs.length<is.length):Ku is (Rs++[R])=Ku is Rs++[((is.getD Rs.length L9).nm,Sd (some ⟨R,0,none⟩))]:=by
 unfold Ku;have e:is=is.take Rs.length++is.getD Rs.length L9::is.drop (Rs.length+1):=by
  have:=Zk Rs.length is;rw[Ky h]at this;simp only[List.getD,V8 h,Dc];exact this.symm
 have hl:(is.take Rs.length).length=Rs.length:=by simp;omega
 have e1:is.zip Rs=(is.take Rs.length).zip Rs:=by
  conv=>lhs;rw[e]
  have:=List.zip_append (l₁:=is.take Rs.length) (r₁:=is.getD Rs.length L9::is.drop (Rs.length+1)) (l₂:=Rs) (r₂:=([]:List Nat)) hl;simp only[Vt,List.zip_nil_right]at this;exact this
 have a:is.zip (Rs++[R])=(is.take Rs.length).zip Rs++[(is.getD Rs.length L9,R)]:=by
  conv=>lhs;rw[e]
  have:=List.zip_append (l₁:=is.take Rs.length) (r₁:=is.getD Rs.length L9::is.drop (Rs.length+1)) (l₂:=Rs) (r₂:=[R]) hl;simpa using this
 rw[e1,a];simp
theorem uN(is:List Rn)(Rs:List Nat)(h:Rs.length<=is.length):(Ku is Rs).length=Rs.length:=by
 unfold Ku;simp;omega
theorem a0k{m:Nat}{es:Array MapEntry}(a:w.grownBy u (some m))(hm:w.heap[m]?=some (.map es n)):Fq A w u:=⟨a.size,λp t hT _ _=>a.block p (Ld hT) (dN hT (λr e=>by cases e;exact⟨_,hm,rfl⟩))⟩
structure kD(A:Nat)(b:Bs)(w:World)(D m1 m2:Nat)(q:Ba)(pv:Value)(vs:List Value)(Rs:List Nat)(j:Nat)(u:World):Prop where
 cl:Cl u D 139 (bsV b q++pv::XV m1 m2)
 rw:WC A u b q
 gg:Az Td L9 Rn.ls xw 119 6 213 4 A b.rn vs (Sa q.na b.rn.length q.nc) b.rn.length vs u
 le:Rs.length<=b.rn.length
 rs:∀i,i<Rs.length->Cl u (Rs.getD i 0) 119 (Td (b.rn.getD i L9,vs.getD i undef))
 o1:u.ownsMap prog 9 h_ m1 Rs.length (mapD (Ku b.rn Rs))
 o2:u.ownsMap prog 9 h_ m2 j (mapD ((b.jb.take j).map gJ))
 bw:Bw w u
 hD:w.heap.size<=D
 h1:w.heap.size<=m1
 h2:w.heap.size<=m2
 ne:m1≠m2
theorem kD.below{u':World}(h:kD A b w D m1 m2 q pv vs Rs j u)(a:Bw u u')(hA:A<=u.heap.size):kD A b w D m1 m2 q pv vs Rs j u':=
 { cl:=h.cl.below a h.cl.lt,rw:=h.rw.mv (.below a) (Y7 _),gg:=h.gg.mv (.below a) (Y7 _) U5 U5,le:=h.le,rs:=λi c=>(h.rs i c).below a (h.rs i c).lt,o1:=U9 h.o1 a h.o1.lt,o2:=U9 h.o2 a h.o2.lt,bw:=h.bw.trans (a.mono h.bw.size),hD:=h.hD,h1:=h.h1,h2:=h.h2,ne:=h.ne }
theorem kD.run{R:Nat}(h:kD A b w D m1 m2 q pv vs Rs j u1)(hk:Rs.length<b.rn.length)(hs:∀i,i<Rs.length->Bj (b.rn.getD i L9).nm (b.rn.getD Rs.length L9).nm=true)
 (hC:Cl u1 R 119 (Td (b.rn.getD Rs.length L9,vs.getD Rs.length undef))) (a:u1.grownBy u2 (some m1)) (ho:u2.ownsMap prog 9 h_ m1 (Rs.length+1) ((mapD (Ku b.rn Rs)).put (kS (b.rn.getD Rs.length L9).nm) (.held (Sd (some ⟨R,0,none⟩))))):
 kD A b w D m1 m2 q pv vs (Rs++[R]) j u2:=by
 obtain⟨es,c,hm⟩:=Ic h.o1;have hF:Fq A u1 u2:=a0k a hm;have f:∀r,some m1=some r->∃o:Obj,u1.heap[r]?=some o/\o.isCells=false:=λr e=>by cases e;exact⟨_,hm,rfl⟩
 have n:∀p∈Ku b.rn Rs,Bj p.1 (b.rn.getD Rs.length L9).nm=true:=λp d=>by
  unfold Ku at d;obtain⟨⟨x,r⟩,hx,rfl⟩:=Rh.1 d;obtain⟨i,g,e⟩:=zG.1 hx;have m:i<b.rn.length/\i<Rs.length:=by simp at g;omega
  have:=hs i m.2;rw[List.getElem_zip]at e;have e1:=G7 Prod.fst e;simp only[]at e1;rw[List.getD,V8 m.1,Dc,e1]at this;exact this
 have s:Y_ (Ku b.rn Rs) (b.rn.getD Rs.length L9).nm=none:=by
  unfold Y_;rw[cu.2 (λp d=>?_)]
  ·rfl
  intro e;have:=n p d;rw[TA e,Eh]at this;cases this
 rw[pq _ s,Ew n,<- KQ _ _ _ hk]at ho;have l:(Rs++[R]).length=Rs.length+1:=J4;refine { cl:=h.cl.nc a f,rw:=h.rw.mv hF (Y7 _),gg:=h.gg.mv hF (Y7 _) U5 U5,le:=by rw[l];exact hk,rs:=?_,o1:=by rw[l];exact ho,o2:=?_,bw:=h.bw.trans (m_ a (λk e=>by cases e;exact h.h1) h.bw.size),hD:=h.hD,h1:=h.h1,h2:=h.h2,ne:=h.ne }
 ·intro i g;rw[l]at g;by_cases e:i<Rs.length
  ·have e1:(Rs++[R]).getD i 0=Rs.getD i 0:=by simp[List.getD,D_ e]
   rw[e1];exact(h.rs i e).nc a f
  obtain rfl:i=Rs.length:=O0;have e1:(Rs++[R]).getD Rs.length 0=R:=by simp[List.getD]
  rw[e1];exact hC.nc a f
 exact h.o2.kept a (λe=>h.ne (C_ e).symm)
theorem kD.job(h:kD A b w D m1 m2 q pv vs Rs j u1)(hk:j<b.jb.length)(hs:∀i,i<j->Bj (b.jb.getD i Ea).nm (b.jb.getD j Ea).nm=true)
 (a:u1.grownBy u2 (some m2)) (ho:u2.ownsMap prog 9 h_ m2 (j+1) ((mapD ((b.jb.take j).map gJ)).put (kS (b.jb.getD j Ea).nm) (.held (gJ (b.jb.getD j Ea)).2))):
 kD A b w D m1 m2 q pv vs Rs (j+1) u2:=by
 obtain⟨es,c,hm⟩:=Ic h.o2;have hF:Fq A u1 u2:=a0k a hm;have g:∀r,some m2=some r->∃o:Obj,u1.heap[r]?=some o/\o.isCells=false:=λr e=>by cases e;exact⟨_,hm,rfl⟩
 have n:∀p∈(b.jb.take j).map gJ,Bj p.1 (b.jb.getD j Ea).nm=true:=λp d=>by
  obtain⟨x,hx,rfl⟩:=Rh.1 d;obtain⟨i,f,e⟩:=zG.1 hx;have m:i<b.jb.length/\i<j:=by simp at f;omega
  have:=hs i m.2;rw[IB]at e;rw[List.getD,V8 m.1,Dc,e]at this;exact this
 have s:Y_ ((b.jb.take j).map gJ) (b.jb.getD j Ea).nm=none:=by
  unfold Y_;rw[cu.2 (λp d=>?_)]
  ·rfl
  intro e;have:=n p d;rw[TA e,Eh]at this;cases this
 have t:(b.jb.take (j+1)).map gJ=(b.jb.take j).map gJ++[gJ (b.jb.getD j Ea)]:=by
  rw[Oq,V8 hk,Nl];simp only[List.getD,V8 hk,Dc];rfl
 have l:u2.ownsMap prog 9 h_ m2 (j+1) (mapD (Yg (gJ (b.jb.getD j Ea)) ((b.jb.take j).map gJ))):=by
  rw[pq _ s]at ho;exact ho
 rw[Ew n,<- t]at l;exact { cl:=h.cl.nc a g,rw:=h.rw.mv hF (Y7 _),gg:=h.gg.mv hF (Y7 _) U5 U5,le:=h.le,rs:=λi f=>(h.rs i f).nc a g,o1:=h.o1.kept a (λe=>h.ne (C_ e)),o2:=l,bw:=h.bw.trans (m_ a (λk e=>by cases e;exact h.h2) h.bw.size),hD:=h.hD,h1:=h.h1,h2:=h.h2,ne:=h.ne }
section
variable{l n:Nat}{P:Program}{md:Region.Mode}{ops:Array Oper}{Q:Exit->Act->World->Prop}
theorem Zp(b:¬LetsOut Q)(hd:ops.toList.all (λo=>match o.op with | .defer _=>false|_=>true)=true):∀(k:Nat)(ls:Array Bool)(a:Act)(w:World),wpAny P md ops Q k ls a w->wpAnyIn (Fence.wide.inRound l) n P md ops Q k ls a w
 | 0,_,_,_,h=>h
 | k+1,ls,a,w,h=>⟨h.1,λi m=>by
  have h2:=h.2 i m;unfold wpOp at h2;unfold wpOpIn
  cases ho:ops[i]? with
  | none=>
   simp only[ho]at h2 ⊢;exact Zp b hd k _ a w h2
  | some o=>
   have hm:o∈ops.toList:=Array.mem_toList_iff.2 (Array.mem_of_getElem? ho);have j:∀c,o.op≠.defer c:=λc e=>by
    have:=Uo.1 hd o hm;rw[e]at this;cases this
   simp only[ho]at h2 ⊢;split
   ·rename_i hw;rw[D8 hw]at h2;rcases h2 with h2|⟨_,h2⟩;rotate_left
    ·exact absurd h2 b
    refine⟨λ_ _=>trivial,?_⟩;rw[show o.semAt (Fence.wide.inRound l).round a.eval=execOp a.eval o from Oper.semAt_some l _ _ j];unfold Oper.wp at h2;generalize (execOp a.eval o).run P w=r at h2 ⊢
    cases r with
    | ok x w'=>
     cases x with
     | enter f args=>
      refine⟨(λe=>by cases e),CallsIn.inRound l (callsIn_wide.2 (Calls.mono h2 ?_))⟩;intro e g he
      cases e with
      | returned v=>exact Zp b hd k _ _ _ he
      | _=>exact he
     | row r args=>
      refine⟨(λe=>by cases e),λc cs _=>?_⟩;obtain⟨v,g,hr,s⟩:=h2 c cs;exact⟨v,g,Zp b hd k _ _ _ hr,stepsIn_wide.2 s⟩
     | value v=>exact Zp b hd k _ _ _ h2
     | skip=>exact Zp b hd k _ _ _ h2
     | defer d=>exact Zp b hd k _ _ _ h2
     | _=>exact h2.elim
    | halt x w'=>cases x<;>exact h2
   rename_i hw;rw[U7 hw]at h2;exact⟨λ_ _=>trivial,Zp b hd k _ _ _ h2⟩⟩
theorem rgI{b:Nat}{a:Act}{w:World}(hm:P.follows .mixedOrders=true)(c:¬LetsOut Q)(hd:ops.toList.all (λo=>match o.op with | .defer _=>false|_=>true)=true)(h:wpAny P .any ops Q ops.size (Array.replicate ops.size false) a w.drew):(Code.region b ops true).wpIn (Fence.wide.inRound l) n P Q a w:=wpIn_region_any hm (Zp c hd _ _ _ _ h)
theorem rgL{b T:Nat}{S:World->Prop}{a:Act}{w:World}(hm:P.follows .mixedOrders=true)(c:S w.drew)(d:¬LetsOut Q)(hd:ops.toList.all (λo=>match o.op with | .defer _=>false|_=>true)=true)(h:S w.drew->vw P .any ops Q S T ops.size (Array.replicate ops.size false) a w.drew):(Code.region b ops true).wpIn (Fence.wide.inRound l) n P Q a w:=rgI hm d hd (BN _ _ _ _ (h c))

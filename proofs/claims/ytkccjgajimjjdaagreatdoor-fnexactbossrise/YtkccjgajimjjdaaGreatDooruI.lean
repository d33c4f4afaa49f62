import Derived.Test.YtkccjgajimjjdaaGreatDoorzD
set_option linter.unusedVariables false
set_option maxHeartbeats 8000000
set_option maxRecDepth 100000
namespace Go.Proofs.YtkccjgajimjjdaaGreatDoor
open Proofs.Tryz Go.RowKit
structure BX(w:World)(X:List Value)(V:World):Prop where
 h0:Cl V w.heap.size 47 X
 h1:Cl V (w.heap.size+1) 47 bz
 bw:Bw w V
 hz:w.heap.size+2<=V.heap.size
section
variable{w V u z:World}{X X' xs:List Value}{A m n:Nat}{e:TypeId}{v:Value}{P Q:World->Prop}
theorem BX.call(h:BX w X V)(a:Bw V u):BX w X u:=⟨h.h0.below a h.h0.lt,h.h1.below a h.h1.lt,J5 h.bw a,I8 h.hz a.size⟩
theorem BX.st(h:BX w X V)(b:Cl z w.heap.size 47 X')(a:Jr w.heap.size V z):BX w X' z:=⟨b,h.h1.on a (by omega),h.bw.trans (a.below X7),by rw[a.size];exact h.hz⟩
def Kt(A:Nat)(w:World)(P:World->Prop):Prop:=∀u:World,w.heap.size<=u.heap.size->(∀q t,Ah w q t->t≠111->A<=q->u.heap[q]?=w.heap[q]?)->P u
theorem Kt.now(h:Kt A w P):P w:=h w (J8 _) (λ_ _ _ _ _=>rfl)
theorem Kt.next(h:Kt A w P)(d:w.heap.size<=u.heap.size)(b:∀q t,Ah w q t->t≠111->A<=q->u.heap[q]?=w.heap[q]?):Kt A u P:=λz h1 h2=>h z (I8 d h1) (λq t hT ht a=>(h2 q t (by obtain⟨c,f,e⟩:=hT;exact⟨c,f,(b q t ⟨c,f,e⟩ ht a).trans e⟩) ht a).trans (b q t hT ht a))
theorem Kt.below(h:Kt A w P)(a:Bw w u):Kt A u P:=h.next a.size (λq t hT _ _=>a.block q (Je hT))
theorem Kt.on{B:Nat}(h:Kt A w P)(ho:Jr B w u)(hB:B<A):Kt A u P:=h.next (uh ho.size.symm) (λq t hT _ hq=>ho.block q (by omega))
theorem Kt.on1{B:Nat}(h:Kt A w P)(ho:Jr B w u)(hB:Ah w B 111):Kt A u P:=h.next (uh ho.size.symm) (λq t hT ht hq=>ho.block q (λe=>ht (by subst e;exact Z8 hT hB)))
theorem Ih(h:w.ownsRow A e m v n xs)(he:e≠111:=by decide):Kt A w (λu=>u.ownsRow A e m v n xs):=λu _ h2=>I5 h (λq a=>h2 q e (N7 h a) he (Z4 h a))
theorem Qi(h:Kt A w P)(k:Kt A w Q):Kt A w (λu=>P u/\Q u):=λu h1 h2=>⟨h u h1 h2,k u h1 h2⟩
theorem Z_.kt{ts:LB}{rs:List R3}{tv rv:Value}(h:Z_ w A ts rs tv rv):Kt A w (λu=>Z_ u A ts rs tv rv):=λu _ h2=>⟨I5 h.1 (λq a=>h2 q 9 (N7 h.1 a) Z5 (Z4 h.1 a)),by
 obtain⟨vs,k⟩:=h.2;exact⟨vs,k.keep (λq t hT ht a=>h2 q t hT (by rcases ht with rfl|rfl<;>decide) a)⟩⟩
end
def NE(v v':Value):Prop:=∀p,v.ownBlock=some p->v'.ownBlock≠some p
theorem ne_of{w u:World}{A e b m m' n a:Nat}{v v':Value}{xs xs':List Value}(h:w.ownsRow A e m v n xs)(k:u.ownsRow w.heap.size b m' v' a xs'):NE v v':=λp h1 h2=>by
 have:=X9 h h1;have:=Z4 k h2;omega
structure nG(A:Nat)(u:World)(b:Bs)(q:Ba):Prop where
 sf:u.ownsRow A 9 1 (.slice q.sa b.sf.length q.sc) b.sf.length (b.sf.map .string)
 lo:u.ownsRow A 9 1 (.slice q.la b.lo.length q.lc) b.lo.length (b.lo.map .string)
 fs:T.qo A u q.fa b.fs
 st:Z_ u A b.s.ts b.s.rs (.slice q.ta b.s.ts.length q.tc) (.slice q.ra b.s.rs.length q.rc)
 hd:u.ownsRow A 3 1 (.slice q.ha b.hd.length q.hc) b.hd.length (b.hd.map (.int .i64))
 rt:u.ownsRow A 9 1 (.slice q.oa b.rt.length q.oc) b.rt.length (b.rt.map .string)
 rn:∃vs,YB Ph A_ Rn.ls ny 111 6 138 4 A b.rn vs (.slice q.na b.rn.length q.nc) b.rn.length vs u
 jb:u.ownsRow A 127 3 (.slice q.ja b.jb.length q.jc) b.jb.length (b.jb.flatMap yC)
 n1:NE (.slice q.sa b.sf.length q.sc) (.slice q.la b.lo.length q.lc)
 n2:NE (.slice q.sa b.sf.length q.sc) (.slice q.ta b.s.ts.length q.tc)
 n3:NE (.slice q.la b.lo.length q.lc) (.slice q.ta b.s.ts.length q.tc)
 n4:NE (.slice q.sa b.sf.length q.sc) (.slice q.oa b.rt.length q.oc)
 n5:NE (.slice q.la b.lo.length q.lc) (.slice q.oa b.rt.length q.oc)
 n6:NE (.slice q.ta b.s.ts.length q.tc) (.slice q.oa b.rt.length q.oc)
def Fq(A:Nat)(w u:World):Prop:=w.heap.size<=u.heap.size/\∀p t,Ah w p t->t≠47->A<=p->u.heap[p]?=w.heap[p]?
theorem Fq.below{A:Nat}{w u:World}(h:Bw w u):Fq A w u:=⟨h.size,λp t hT _ _=>h.block p (Je hT)⟩
theorem Fq.on{A B:Nat}{w u:World}(h:Jr B w u)(hB:B<A\/Ah w B 47):Fq A w u:=⟨uh h.size.symm,λp t hT ht hp=>h.block p (λe=>by
 rcases hB with h1|h1
 ·omega
 subst e;exact ht (Z8 hT h1))⟩
theorem Et{w u:World}{A A' e m n:Nat}{v:Value}{xs:List Value}(h:w.ownsRow A e m v n xs)(b:Fq A w u)(hA:A'<=A)(he:e≠47:=by decide):u.ownsRow A' e m v n xs:=P7 (I5 h (λq a=>b.2 q e (N7 h a) he (Z4 h a))) hA
theorem YB.mv{α β:Type}{E:α×Value->List Value}{d:α}{inn:α->List β}{f:β->List Value}{T m TI mi A A' k:Nat}{is:List α}{vs0 vs:List Value}{v:Value}{w u:World}(h:YB E d inn f T m TI mi A is vs0 v k vs w)(b:Fq A w u)(hA:A'<=A)(h1:T≠47)(h2:TI≠47):YB E d inn f T m TI mi A' is vs0 v k vs u:=⟨h.len,Et h.row b hA h1,λi g=>by obtain⟨a,c,e,o⟩:=h.gl i g;exact⟨a,c,e,Et o b hA h2⟩,h.old,h.apart⟩
theorem Z_.mv{w u:World}{A A':Nat}{ts:LB}{rs:List R3}{tv rv:Value}(h:Z_ w A ts rs tv rv)(b:Fq A w u)(hA:A'<=A):Z_ u A' ts rs tv rv:=Be ⟨I5 h.1 (λq a=>b.2 q 9 (N7 h.1 a) Z5 (Z4 h.1 a)),h.2.imp λvs k=>k.keep (λq t hT ht a=>b.2 q t hT (by rcases ht with rfl|rfl<;>decide) a)⟩ hA
theorem PG{w:World}{A c:Nat}{a:OA}{fs:List T.F2}(h:w.ownsRow A 67 2 (.slice a fs.length c) fs.length (T.U3 fs)):T.qo A w a fs:=by
 have f:=h;obtain⟨fa,fc,e,hf⟩:=Ij h;cases e;refine⟨hf,?_⟩;rcases h.2 with⟨hv,_⟩|⟨g,cap,cur,hv,d,b,_,_,_,_⟩
 ·injection hv with _ h0 _;exact .inl (Qb.1 h0)
 cases hv
 obtain⟨ys,c,hl⟩:=YI f;exact .inr ⟨g,rfl,d,⟨c.lt,λj hj=>⟨ys[j],by rw[c.cell,L9 (by omega)]⟩,λj=>c.opn j⟩,⟨_,b⟩⟩
theorem lu{w u:World}{A A':Nat}{a:OA}{fs:List T.F2}(h:T.qo A w a fs)(c:Fq A w u)(hA:A'<=A):T.qo A' u a fs:=by
 obtain⟨hf,h2⟩:=h;rcases h2 with h0|⟨g,rfl,k,⟨hl,hc,ho⟩,cur,ht⟩
 ·exact⟨.inl h0,.inl h0⟩
 have e:=c.2 g 67 ⟨cur,_,ht⟩ Z5 k;have hs:=c.1;refine⟨hf.imp id λ⟨b,off,h1,_,l⟩=>?_,.inr ⟨g,rfl,by omega,⟨by omega,λj d=>by rw[ng e];exact hc j d,λj=>by rw[xE e];exact ho j⟩,cur,e.trans ht⟩⟩;cases h1;exact⟨g,_,rfl,by omega,λi f=>by rw[ng e,ng e];exact l i f⟩
theorem nG.mv{A A':Nat}{w u:World}{b:Bs}{q:Ba}(h:nG A w b q)(a:Fq A w u)(hA:A'<=A):nG A' u b q:=
 { sf:=Et h.sf a hA,lo:=Et h.lo a hA,fs:=lu h.fs a hA,st:=h.st.mv a hA,hd:=Et h.hd a hA,rt:=Et h.rt a hA,rn:=h.rn.imp λ_ r=>r.mv a hA Z5 Z5,jb:=Et h.jb a hA,n1:=h.n1,n2:=h.n2,n3:=h.n3,n4:=h.n4,n5:=h.n5,n6:=h.n6 }
theorem c31(b:Bs)(q:Ba)(w:World)(hl:Ug b 1048576)(hat:Gh w b q):
 Calls prog 31 #[.agg (bsV b q).toArray] w λe w'=>(∃q',e=.returned (.agg (bsV b q').toArray)/\nG w.heap.size w' b q')/\Bw w w':=by
 have W:=U0 hat;have J:=U0 hl
 go_in
 go_upto_region 1 with fail
 have H:Hid (BX w (bsV b q) ((w.alloc (.cells (bsV b q).toArray 47)).alloc (.cells bz.toArray 47))):=⟨U8 (X4 w (bsV b q) 47) _,Ei (xs:=bz) E5,Y6.alloc E5 _,E5⟩;generalize (w.alloc (.cells (bsV b q).toArray 47)).alloc (.cells bz.toArray 47)=V at*;have Y:Hid (∀u,Bw V u->u.cell? ⟨w.heap.size,5,none⟩=some (.slice q.sa b.sf.length q.sc)/\u.cell? ⟨w.heap.size,6,none⟩=some (.slice q.la b.lo.length q.lc)):=λu r=>have h:=(H.out.call r).h0;⟨h.cell 5,h.cell 6⟩
 have hd:Bw V V.drew:=(G5 _ _).drew;refine Qd 10 (S:=λu=>u.cell? ⟨w.heap.size,5,none⟩=some (.slice q.sa b.sf.length q.sc)/\u.cell? ⟨w.heap.size,6,none⟩=some (.slice q.la b.lo.length q.lc)) Y1 (Y _ hd) λhH=>?_
 iterate 3 refine AL ?_
 refine lq 4 hH ?_;refine lq 5 hH ?_;refine lq 6 hH ?_
 try simp only[qq]
 refine uy 3 λK L=>?_;go_simp;refine(LX _ b.sf.length (b.sf.map .string) V.drew J.out.sl (Nc _) (λu r=>Vu (c:=q.sc) W.out.sf (J5 (J5 H.out.bw hd) r))).mono ?_;rintro e w1⟨⟨v1,rfl,o1⟩,l⟩;have b1:=hd.trans (l.mono X7);obtain⟨a1,A,rfl⟩:=D9 o1;have O1:=U0 o1;go_simp;refine A8 L (Y _ b1) λhH=>?_;refine uy 7 λK L=>?_;go_simp;refine(LX _ b.lo.length (b.lo.map .string) w1 J.out.ll (Nc _) (λu r=>Vu (c:=q.lc) W.out.lo (J5 (J5 H.out.bw b1) r))).mono ?_;rintro e w2⟨⟨v2,rfl,o2⟩,l⟩;have b2:=J5 b1 l;obtain⟨a2,c2,rfl⟩:=D9 o2;have O2:=U0 o2;have N12:=U0 (ne_of O1 O2);have hV:=H.out.hz;have hV1:=b1.size;have f:=U0 (Qi ((Ih (P7 O1 hV)).below l) (Ih (P7 O2 (by omega))));go_simp;refine A8 L (Y _ b2) λhH=>?_
 iterate 2 refine AL ?_
 refine iZ λK L=>?_;have H2:=U0 (H.out.call b2);refine t_ rfl 37 _ _ rfl (j:=5) rfl rfl H2.out.h0 E5 (Y5 rfl) Y1 ?_;intro z y o
 replace H:=U0 (H2.out.st y o)
 replace f:=U0 (f.out.on o O0)
 refine L _ _ ?_
 try simp only[qq]
 refine ig Y1 ?_ _;change Hid (BX w (bsV b {q with sa:=a1,sc:=A,la:=a2,lc:=c2}) z)at H
 go_wp2_with(refine H8 H.out.h0 rfl 40 _ rfl (j:=7) [.slice q.fa b.fs.length q.fc] rfl rfl underlying40 rfl Y1 ?_)
 refine(c93 q.fa b.fs q.fc z J.out.fl (T.U5 W.out.fs H.out.bw)).mono ?_;rintro e w3⟨⟨v3,rfl,o3⟩,l⟩;obtain⟨I,c3,rfl⟩:=D9 o3;have hz3:=H.out.hz
 replace H:=U0 (H.out.call l)
 replace f:=U0 (Qi (f.out.below l) (Ih (P7 o3 hz3)))
 go_upto_region 3 with(refine I7 rfl 40 _ _ rfl (j:=7) rfl rfl H.out.h0 E5 (Y5 rfl) Y1 ?_;intro z3 y o)
 replace H:Hid (BX w (bsV b {q with sa:=a1,sc:=A,la:=a2,lc:=c2,fa:=I,fc:=c3}) z3):=H.out.st y o
 replace f:=U0 (f.out.on o O0)
 go_wp2_with(refine H8 H.out.h0 rfl 43 _ rfl (j:=8) [.int .i64 b.s.wd,.slice q.ta b.s.ts.length q.tc,.slice q.ra b.s.rs.length q.rc] rfl rfl underlying43 rfl Y1 ?_)
 refine(c94 b.s q.ta q.ra q.tc q.rc z3 J.out.st.1.1 J.out.st.2.1 (λi=>(J.out.st.2.2 i).2.1) (W.out.st.below H.out.bw)).mono ?_;rintro e w4⟨⟨tv,rv,rfl,Z⟩,l⟩;obtain⟨F,c4,rfl⟩:=D9 Z.1;obtain⟨_,vs4,hr4⟩:=Z;obtain⟨D,c5,rfl⟩:=D9 hr4.row;have hz4:=H.out.hz;have Z:Z_ w4 z3.heap.size b.s.ts b.s.rs (.slice F b.s.ts.length c4) (.slice D b.s.rs.length c5):=⟨by assumption,vs4,hr4⟩;have N1:=U0 (ne_of (f.out.now.1.1) Z.1);have N2:=U0 (ne_of (f.out.now.1.2) Z.1)
 replace H:=U0 (H.out.call l)
 replace f:=U0 (Qi (f.out.below l) (Be Z hz4).kt)
 go_upto_region 4 with(refine I7 rfl 43 _ _ rfl (j:=8) rfl rfl H.out.h0 E5 (Y5 rfl) Y1 ?_;intro z4 y o)
 replace H:Hid (BX w (bsV b {q with sa:=a1,sc:=A,la:=a2,lc:=c2,fa:=I,fc:=c3,ta:=F,tc:=c4,ra:=D,rc:=c5}) z4):=H.out.st y o
 replace f:=U0 (f.out.on o O0)
 go_wp2_with(refine N8 H.out.h0 rfl _ _ rfl rfl rfl Y1 ?_)
 refine(a4f _ b.hd.length (b.hd.map (.int .i64)) z4 J.out.hl (λv hv=>by obtain⟨x,_,rfl⟩:=zl.1 hv;rfl) (λu r=>nH q.hc W.out.hd u (J5 H.out.bw r))).mono ?_;rintro e w5⟨⟨v5,rfl,o5⟩,l⟩;obtain⟨O,N,rfl⟩:=D9 o5;have hz5:=H.out.hz
 replace H:=U0 (H.out.call l)
 replace f:=U0 (Qi (f.out.below l) (Ih (P7 o5 hz5)))
 go_upto_region 5 with(refine Cc rfl 31 _ _ rfl (p:=11) rfl rfl Y1 H.out.h0 E5 ?_;intro z5 y o)
 replace H:Hid (BX w (bsV b {q with sa:=a1,sc:=A,la:=a2,lc:=c2,fa:=I,fc:=c3,ta:=F,tc:=c4,ra:=D,rc:=c5,ha:=O,hc:=N}) z5):=H.out.st y o
 replace f:=U0 (f.out.on o O0)
 go_wp2_with(refine N8 H.out.h0 rfl _ _ rfl rfl rfl Y1 ?_)
 refine(LX _ b.rt.length (b.rt.map .string) z5 J.out.rl (Nc _) (λu r=>Vu (c:=q.oc) W.out.rt (J5 H.out.bw r))).mono ?_;rintro e w6⟨⟨v6,rfl,o6⟩,l⟩;obtain⟨R,Q,rfl⟩:=D9 o6;have hz6:=H.out.hz;have N3:=U0 (ne_of (f.out.now.1.1.1.1) o6);have N4:=U0 (ne_of (f.out.now.1.1.1.2) o6);have N5:=U0 (ne_of (f.out.now.1.2.1) o6)
 replace H:=U0 (H.out.call l)
 replace f:=U0 (Qi (f.out.below l) (Ih (P7 o6 hz6)))
 go_upto_region 6 with(refine Cc rfl 22 _ _ rfl (p:=12) rfl rfl Y1 H.out.h0 E5 ?_;intro z6 y o)
 replace H:Hid (BX w (bsV b {q with sa:=a1,sc:=A,la:=a2,lc:=c2,fa:=I,fc:=c3,ta:=F,tc:=c4,ra:=D,rc:=c5,ha:=O,hc:=N,oa:=R,oc:=Q}) z6):=H.out.st y o
 replace f:=U0 (f.out.on o O0)
 obtain⟨vs0,hv0,hsr,hgv⟩:=UR (E:=Ph) (m:=6) (j:=3) (inn:=Rn.ls) (LS:=S9) q.nc (λ_=>rfl) Z5 (λ_=>rfl) W.out.rn;have HG:=U0 hgv
 go_wp2_with(refine N8 H.out.h0 rfl _ _ rfl rfl rfl Y1 ?_)
 refine(a5n _ b.rn.length (cE Ph A_ b.rn vs0) z6 J.out.nl (dV (λx a n c u r=>by simp[Ph]at r;rcases r with rfl|rfl|rfl|rfl|rfl|rfl<;>rfl) (λi hi=>by obtain⟨ai,ci,e,_⟩:=HG.out i hi;exact⟨_,_,_,e⟩)) (λu r=>hsr u (J5 H.out.bw r))).mono ?_;rintro e w7⟨⟨v7,rfl,o7⟩,l⟩;obtain⟨U,C,rfl⟩:=D9 o7;have hz7:=H.out.hz;have RO:=U0 (P7 o7 hz7)
 replace H:=U0 (H.out.call l)
 replace f:=U0 (f.out.below l)
 go_upto_region 7 with(refine Cc rfl 44 _ _ rfl (p:=13) rfl rfl Y1 H.out.h0 E5 ?_;intro z7 y o)
 replace H:Hid (BX w (bsV b {q with sa:=a1,sc:=A,la:=a2,lc:=c2,fa:=I,fc:=c3,ta:=F,tc:=c4,ra:=D,rc:=c5,ha:=O,hc:=N,oa:=R,oc:=Q,na:=U,nc:=C}) z7):=H.out.st y o
 replace f:=U0 (f.out.on o O0)
 replace RO:=U0 (I5 RO (λq hq=>o.block q (by have:=Z4 RO.out hq;omega)))
 obtain⟨P,KP,HP⟩:∃P:World->Prop,Hid (Kt (w.heap.size+2) z7 P)/\Hid (P=_):=⟨_,f,rfl⟩;have HLS:=U0 J.out.ns;have hnl:=J.out.nl
 go_wp2_with(refine N8 H.out.h0 rfl _ _ rfl rfl rfl Y1 ?_)
 have VS:=U0 hv0;go_loopw[37] (λi wr=>∃(k:Nat)(vs:List Value),k<=b.rn.length/\i=.int .i64 k/\Hid (BX w (bsV b {q with sa:=a1,sc:=A,la:=a2,lc:=c2,fa:=I,fc:=c3,ta:=F,tc:=c4,ra:=D,rc:=c5,ha:=O,hc:=N,oa:=R,oc:=Q,na:=U,nc:=C}) wr)/\Hid (Kt (w.heap.size+2) wr P)/\Hid (YB Ph A_ Rn.ls ny 111 6 138 4 (w.heap.size+2) b.rn vs0 (.slice U b.rn.length C) k vs wr)) (λi _=>b.rn.length-(RowKit.intOf i).toNat);exact⟨0,vs0,J4 _,rfl,H,KP,⟨VS.out,RO.out,λi hi=>absurd hi (y9 _),λ_ _=>rfl,λi j hi=>absurd hi (y9 _)⟩⟩;obtain⟨k,vs,hk,rfl,H,KP,RS⟩:=hrel;by_cases hlt:k<b.rn.length;rotate_left
 ·obtain rfl:k=b.rn.length:=O0
  go_wp2_with(refine N8 H.out.h0 rfl _ _ rfl rfl rfl Y1 ?_)
  refine(a3Z _ b.jb.length (b.jb.flatMap yC) wr J.out.jl (Ou (λx v hv=>by simp[yC]at hv;rcases hv with rfl|rfl|rfl<;>rfl)) (λu r=>jH q.jc W.out.jb u (J5 H.out.bw r))).mono ?_;rintro e w8⟨⟨v8,rfl,o8⟩,l⟩;obtain⟨a9,c9_,rfl⟩:=D9 o8;have O8:=U0 (P7 o8 H.out.hz)
  replace H:=U0 (H.out.call l)
  replace KP:=U0 (KP.out.below l)
  replace RS:=U0 (RS.out.keep (λq t hT _ _=>l.block q (Je hT)))
  go_upto_region 13 with(refine Cc rfl 45 _ _ rfl (p:=14) rfl rfl Y1 H.out.h0 E5 ?_;intro z8 y o)
  have HR:Hid (nG (w.heap.size+2) z8 b {q with sa:=a1,sc:=A,la:=a2,lc:=c2,fa:=I,fc:=c3,ta:=F,tc:=c4,ra:=D,rc:=c5,ha:=O,hc:=N,oa:=R,oc:=Q,na:=U,nc:=C,ja:=a9,jc:=c9_}):=by
   have k:=KP.out.on o O0;have kn:=k.now;rw[HP.out]at kn;obtain⟨⟨⟨⟨⟨k1,k2⟩,k3⟩,k4⟩,k5⟩,k6⟩:=kn;exact { sf:=k1,lo:=k2,fs:=PG k3,st:=k4,hd:=k5,rt:=k6,rn:=⟨vs,RS.out.len,(RS.out.keep (λq t _ _ hq=>o.block q O0)).row,(RS.out.keep (λq t _ _ hq=>o.block q O0)).gl,λ_ _=>rfl,RS.out.apart⟩,jb:=I5 O8 (λq hq=>o.block q (by have:=Z4 O8.out hq;omega)),n1:=N12.out,n2:=N1.out,n3:=N2.out,n4:=N3.out,n5:=N4.out,n6:=N5.out }
  replace H:Hid (BX w (bsV b {q with sa:=a1,sc:=A,la:=a2,lc:=c2,fa:=I,fc:=c3,ta:=F,tc:=c4,ra:=D,rc:=c5,ha:=O,hc:=N,oa:=R,oc:=Q,na:=U,nc:=C,ja:=a9,jc:=c9_}) z8):=H.out.st y o
  go_wp2_with(first|(refine H8 H.out.h0 rfl 47 _ rfl (j:=0) (bsV b {q with sa:=a1,sc:=A,la:=a2,lc:=c2,fa:=I,fc:=c3,ta:=F,tc:=c4,ra:=D,rc:=c5,ha:=O,hc:=N,oa:=R,oc:=Q,na:=U,nc:=C,ja:=a9,jc:=c9_}) rfl rfl underlying47 rfl Y1 ?_)|(refine I7 rfl 47 _ _ rfl (j:=0) rfl rfl H.out.h1 X7 (Y5 rfl) Y1 ?_;intro zz cq oq))
  refine Q7 (J7 (P:=prog) (ty:=47) rfl _ zz (w.heap.size+1) (bsV b {q with sa:=a1,sc:=A,la:=a2,lc:=c2,fa:=I,fc:=c3,ta:=F,tc:=c4,ra:=D,rc:=c5,ha:=O,hc:=N,oa:=R,oc:=Q,na:=U,nc:=C,ja:=a9,jc:=c9_}) _ rfl cq.blk underlying47 rfl Y1) rfl ⟨⟨{q with sa:=a1,sc:=A,la:=a2,lc:=c2,fa:=I,fc:=c3,ta:=F,tc:=c4,ra:=D,rc:=c5,ha:=O,hc:=N,oa:=R,oc:=Q,na:=U,nc:=C,ja:=a9,jc:=c9_},rfl,HR.out.mv (.on oq (.inl O0)) O0⟩,H.out.bw.trans (oq.below O0)⟩
 have q1:=Wn (E:=Ph) (d:=A_) (is:=b.rn) (vs:=vs) (m:=6) (j:=3) (λ_=>rfl) hlt Z5;obtain⟨g,c3',e3,hg,hc⟩:=Oh RS.out.row q1;injection e3 with e3 _ e4;subst e3 e4;obtain⟨ai,ci,hv,hga⟩:=HG.out k hlt;rw[RS.out.old k (J8 _),hv]at hc;have HGA:=U0 hga;have hgN:=Z4 RS.out.row (k:=g) rfl;have OG:=U0 (N7 RS.out.row (k:=g) rfl);have NX:Hid (∀(u:World)(a:OA)(c':Nat),Bw wr u->u.ownsRow wr.heap.size 138 4 (.slice a (Rn.ls (b.rn.getD k A_)).length c') (Rn.ls (b.rn.getD k A_)).length ((Rn.ls (b.rn.getD k A_)).flatMap ny)->YB Ph A_ Rn.ls ny 111 6 138 4 (w.heap.size+2) b.rn vs0 (.slice (some ⟨g,0,none⟩) b.rn.length C) (k+1) (vs.set k (.slice a (Rn.ls (b.rn.getD k A_)).length c')) (u.setCell ⟨g,k*6+3,none⟩ (.slice a (Rn.ls (b.rn.getD k A_)).length c'))):=λu a c' l ho=>RS.out.next (j:=3) (λ_=>rfl) (λ_ _ _=>rfl) Z5 Z5 hlt l ho;have hxl:=(HLS k).2.2.1.1;obtain⟨ys,CG,hyl⟩:=YI RS.out.row;have hCG:=U0 CG;generalize b.rn.getD k A_=x at*
 go_upto_region 10 with fail
 have Y:Hid (∀u,Bw wr u->u.cell? ⟨w.heap.size,13,none⟩=some (.slice (some ⟨g,0,none⟩) b.rn.length C)/\u.cell? ⟨g,k*6+3,none⟩=some (.slice ai x.ls.length ci)):=λu r=>⟨(H.out.call r).h0.cell 13,(r.cell hg).trans hc⟩;have hd:Bw wr wr.drew:=(G5 _ _).drew;refine Qd 12 (S:=λu=>u.cell? ⟨w.heap.size,13,none⟩=some (.slice (some ⟨g,0,none⟩) b.rn.length C)/\u.cell? ⟨g,k*6+3,none⟩=some (.slice ai x.ls.length ci)) Y1 (Y _ hd) λhH=>?_
 iterate 9 refine AL ?_
 try simp only[qq]
 refine uy 9 λK L=>?_;go_simp;refine(a4b _ x.ls.length (x.ls.flatMap ny) _ hxl (Ou (λx v hv=>by simp[ny]at hv;rcases hv with rfl|rfl|rfl|rfl<;>rfl)) (λu r=>wC ci HGA u (J5 (J5 H.out.bw hd) r))).mono ?_;rintro e w5⟨⟨v5_,rfl,ho⟩,l⟩;obtain⟨a5_,c5_,rfl⟩:=D9 ho;have X:=hd.trans (l.mono X7);go_simp;refine A8 L (Y _ X) λhH=>?_;refine uy 10 λK L=>?_;go_simp;refine A8 L (Y _ X) λhH=>?_;refine AL ?_;refine iZ λK L=>?_;have CG5:=U0 (hCG.out.below X hg);refine Gn rfl (Il 70 _ _ rfl (B:=g) (j:=k*6+3) rfl rfl ⟨_,by rw[CG5.out.cell,L9 (show k*6+3<ys.length by omega)]⟩ (CG5.out.opn _) Y1) ?_;change K _ (w5.setCell ⟨g,k*6+3,none⟩ (.slice a5_ x.ls.length c5_));have N5:=U0 (NX.out _ _ _ X (by have h:=ho;simpa using h));have hs:=O_ w5 g (k*6+3) (.slice a5_ x.ls.length c5_);have H5:=H.out.call X;have H6:Hid (BX w (bsV b {q with sa:=a1,sc:=A,la:=a2,lc:=c2,fa:=I,fc:=c3,ta:=F,tc:=c4,ra:=D,rc:=c5,ha:=O,hc:=N,oa:=R,oc:=Q,na:=some ⟨g,0,none⟩,nc:=C}) (w5.setCell ⟨g,k*6+3,none⟩ (.slice a5_ x.ls.length c5_))):=⟨H5.h0.on hs O0,H5.h1.on hs O0,H5.bw.trans (hs.below O0),by have:=H5.hz;have:=hs.size;omega⟩;have K6:=U0 ((KP.out.below X).on1 hs (OG.out.below X hg));generalize w5.setCell ⟨g,k*6+3,none⟩ (.slice a5_ x.ls.length c5_)=w6 at*;refine L _ _ ?_
 try simp only[qq]
 refine ig Y1 ?_ _;go_wp2;go_roundw;exact⟨k+1,_,O0,by go_num,H6,K6,N5⟩;exact Z9
end Go.Proofs.YtkccjgajimjjdaaGreatDoor
namespace Go.Proofs.YtkccjgajimjjdaaGreatDoor
open Proofs.Tryz Go.RowKit
def mP(vs:List Value)(w w':World):Prop:=∀k xs,Cl w k 9 xs->(∀v∈vs,v.ownBlock≠some k)->w'.heap[k]?=w.heap[k]?
section
variable{A B n:Nat}{w w' w'':World}{v:Value}{l:List (Int->Value)}{K:Int}{S:List TypeId}{vs vs':List Value}
theorem mP.md(h:Md A B S w w')(ht:9∉S):mP vs w w':=λk xs C _=>h.ty k 9 xs C ht
theorem mP.tr(h:mP vs w w')(k:mP vs' w' w''):mP (vs++vs') w w'':=λg xs C a=>by
 have e:=h g xs C (λv hv=>a v (JF _ hv));exact(k g xs (e.trans C) (λv hv=>a v (pJ _ hv))).trans e
theorem Mf.fr(h:Mf w 9 l K v n)(k:mP vs w w')(b:∀v'∈vs,NE v v'):Mf w' 9 l K v n:=h.keep (λg ys a C=>k g ys C (λv' hv=>b v' hv g a))
end
theorem kX(A B:Nat)(v:Value)(n:Nat)(K:Int)(w:World)(f:A<=B)(h1:1<=K)(h2:K<=90000000000000)(d:n<=1048576)(ho:Rw A B w 9 1 v n):
 Calls prog 44 #[v,.int .i64 K] w λe w'=>(e=.returned (.int .i64 (K+(n:Int)))/\Mf w' 9 [mT] K v n)/\Md A B [9] w w'/\mP [v] w w':=by
 obtain⟨A',B',hr,c,b,a⟩:=ho.one f;exact(m44 A' B' v n K w h1 h2 d hr).mono λe w' h=>⟨h.1,h.2.mono c b (λ_ h=>h),λg xs C hv=>h.2.block g C.lt (by
  rcases D8 g A' with h1|h1
  ·exact .inl h1
  rcases D8 g B' with h2|h2
  ·exact absurd (a g h1 h2) (hv v (Dk.2 rfl))
  exact .inr h2)⟩
theorem m40(A B:Nat)(sa la:OA)(n sc m lc:Nat)(K:Int)(w:World)(d:A<=B)(hB:B<=w.heap.size)(h1:1<=K)(h2:K<=80000000000000)(g:n<=1048576)(hm:m<=1048576)(ho:Rw A B w 9 1 (.slice sa n sc) n)(hl:Rw A B w 9 1 (.slice la m lc) m):
 Calls prog 40 #[.agg #[.slice sa n sc,.slice la m lc],.int .i64 K] w λe w'=>(e=.returned (.int .i64 (K+(n:Int)+(m:Int)))/\(NE (.slice sa n sc) (.slice la m lc)->Mf w' 9 [mT] K (.slice sa n sc) n)/\Mf w' 9 [mT] (K+(n:Int)) (.slice la m lc) m)/\Md A B [9] w w':=by
 have j:=U0 ho;have i:=U0 hl;clear ho hl
 go_in
 go_upto_region 1 with fail
 have H:=U0 (sF (A:=A) (B:=B) (w:=w) (t:=37) (cs:=[.slice sa n sc,.slice la m lc]));generalize w.alloc (.cells #[.slice sa n sc,.slice la m lc] 37)=V at*
 go_wp2_with(refine N8 H.out.c rfl _ _ rfl rfl rfl Y1 ?_)
 refine(kX A B _ n K V d h1 O0 g (j.out.md H.out.md)).mono ?_;rintro e V1⟨⟨rfl,a⟩,md,_⟩;have b:=U0 a
 replace H:=U0 (H.out.go hB md)
 clear md a
 go_wp2_with(refine N8 H.out.c rfl _ _ rfl rfl rfl Y1 ?_)
 refine(kX A B _ m _ V1 d O0 O0 hm (i.out.md H.out.md)).mono ?_;rintro e h⟨⟨rfl,a⟩,md,fr⟩;have F2:=U0 a
 replace b:Hid (NE (.slice sa n sc) (.slice la m lc)->Mf h 9 [mT] K (.slice sa n sc) n):=λf=>b.out.fr fr (λv' hv=>by rw[Dk.1 hv];exact f)
 replace H:=U0 (H.out.go hB md)
 clear md a fr;go_wp2;go_ret;exact⟨⟨rfl,b.out,F2.out⟩,H.out.fin (by simp)⟩
theorem m41(A B:Nat)(v:Value)(n:Nat)(K:Int)(w:World)(hB:B<=w.heap.size)(h1:1<=K)(h2:K<=80000000000000)(b:n<=1048576)(ho:Rw A B w 67 2 v n):
 Calls prog 41 #[.agg #[v],.int .i64 K] w λe w'=>(e=.returned (.int .i64 (K+2*(n:Int)))/\Mf w' 67 [mT,mT] K v n)/\Md A B [67] w w':=by
 have d:=U0 ho;clear ho
 go_in
 go_upto_region 1 with fail
 have H:=U0 (sF (A:=A) (B:=B) (w:=w) (t:=40) (cs:=[v]));generalize w.alloc (.cells #[v] 40)=V at*
 go_wp2_with(refine N8 H.out.c rfl _ _ rfl rfl rfl Y1 ?_)
 refine(a3X A B v n K V h1 O0 b (d.out.md H.out.md)).mono ?_;rintro e V1⟨⟨rfl,a⟩,m⟩;have f:=U0 a
 replace H:=U0 (H.out.go hB m)
 clear m a;go_wp2;go_ret;exact⟨⟨rfl,f.out⟩,H.out.fin (by simp)⟩
theorem m42(A B:Nat)(tv rv:Value)(n k:Nat)(vr:List Value)(lr:List Nat)(wd K:Int)(w:World)(f:A<=B)(hB:B<=w.heap.size)(h1:1<=K)(h2:K<=40000000000000)(g:n<=1048576)(h:k<=1048576)(ho:Rw A B w 9 1 tv n)(hl:NR A B w 162 3 1 213 3 rv k vr lr):
 Calls prog 42 #[.agg #[.int .i64 wd,tv,rv],.int .i64 K] w λe w'=>(e=.returned (.int .i64 (kQ 2 3 lr (K+(n:Int)) k))/\Mf w' 9 [mT] K tv n/\(Ap k vr->MN w' 162 3 1 213 [mB,mT,mT] 1 rE 2 3 (K+(n:Int)) rv k vr lr))/\Md A B [9,162,213] w w'/\mP [tv] w w':=by
 have j:=U0 ho;have i:=U0 hl;clear ho hl
 go_in
 go_upto_region 1 with fail
 have H:=U0 (sF (A:=A) (B:=B) (w:=w) (t:=43) (cs:=[.int .i64 wd,tv,rv]));have R:Hid (mP [] w (w.alloc (.cells #[.int .i64 wd,tv,rv] 43))):=mP.md (Md.of (A:=0) (B:=0) (S:=[]) Y6) Ho;generalize w.alloc (.cells #[.int .i64 wd,tv,rv] 43)=V at*
 go_wp2_with(refine N8 H.out.c rfl _ _ rfl rfl rfl Y1 ?_)
 refine(kX A B tv n K V f h1 O0 g (j.out.md H.out.md)).mono ?_;rintro e V1⟨⟨rfl,d⟩,m,fr⟩;have a:=U0 d
 replace R:=U0 (R.out.tr fr)
 replace H:=U0 (H.out.go hB m)
 clear m d fr
 go_wp2_with(refine N8 H.out.c rfl _ _ rfl rfl rfl Y1 ?_)
 refine(a4J A B rv k vr lr _ V1 O0 O0 h f (i.out.md H.out.md (by decide))).mono ?_;rintro e V2⟨⟨rfl,b⟩,m⟩;have F2:=U0 b
 replace a:=U0 (a.out.md m (by decide))
 replace R:=U0 (R.out.tr (mP.md (vs:=[]) m (by decide)))
 replace H:=U0 (H.out.go hB m)
 clear m b;go_wp2;go_ret;exact⟨⟨rfl,a.out,F2.out⟩,H.out.fin (by decide),R.out⟩
end Go.Proofs.YtkccjgajimjjdaaGreatDoor
namespace Go.Proofs.YtkccjgajimjjdaaGreatDoor
open Proofs.Tryz Go.RowKit
structure BW(A B:Nat)(w:World)(b:Bs)(q:Ba)(vr:List Value)(lr:List Nat)(vn:List Value)(ln:List Nat):Prop where
 sf:Rw A B w 9 1 (.slice q.sa b.sf.length q.sc) b.sf.length
 lo:Rw A B w 9 1 (.slice q.la b.lo.length q.lc) b.lo.length
 fs:Rw A B w 67 2 (.slice q.fa b.fs.length q.fc) b.fs.length
 ts:Rw A B w 9 1 (.slice q.ta b.s.ts.length q.tc) b.s.ts.length
 rs:NR A B w 162 3 1 213 3 (.slice q.ra b.s.rs.length q.rc) b.s.rs.length vr lr
 hd:Rw A B w 3 1 (.slice q.ha b.hd.length q.hc) b.hd.length
 rt:Rw A B w 9 1 (.slice q.oa b.rt.length q.oc) b.rt.length
 rn:NR A B w 111 6 3 138 4 (.slice q.na b.rn.length q.nc) b.rn.length vn ln
 jb:Rw A B w 127 3 (.slice q.ja b.jb.length q.jc) b.jb.length
structure SS(b:Bs)(q:Ba)(vr vn:List Value):Prop where
 n1:NE (.slice q.sa b.sf.length q.sc) (.slice q.la b.lo.length q.lc)
 n2:NE (.slice q.sa b.sf.length q.sc) (.slice q.ta b.s.ts.length q.tc)
 n3:NE (.slice q.la b.lo.length q.lc) (.slice q.ta b.s.ts.length q.tc)
 n4:NE (.slice q.sa b.sf.length q.sc) (.slice q.oa b.rt.length q.oc)
 n5:NE (.slice q.la b.lo.length q.lc) (.slice q.oa b.rt.length q.oc)
 n6:NE (.slice q.ta b.s.ts.length q.tc) (.slice q.oa b.rt.length q.oc)
 rs:Ap b.s.rs.length vr
 rn:Ap b.rn.length vn
structure BM(w:World)(b:Bs)(q:Ba)(vr:List Value)(lr:List Nat)(vn:List Value)(ln:List Nat):Prop where
 sf:Mf w 9 [mT] 1 (.slice q.sa b.sf.length q.sc) b.sf.length
 lo:Mf w 9 [mT] (1+(b.sf.length:Int)) (.slice q.la b.lo.length q.lc) b.lo.length
 fs:Mf w 67 [mT,mT] (1+(b.sf.length:Int)+(b.lo.length:Int)) (.slice q.fa b.fs.length q.fc) b.fs.length
 ts:Mf w 9 [mT] (1+(b.sf.length:Int)+(b.lo.length:Int)+2*(b.fs.length:Int)) (.slice q.ta b.s.ts.length q.tc) b.s.ts.length
 rs:MN w 162 3 1 213 [mB,mT,mT] 1 rE 2 3 (1+(b.sf.length:Int)+(b.lo.length:Int)+2*(b.fs.length:Int)+(b.s.ts.length:Int)) (.slice q.ra b.s.rs.length q.rc) b.s.rs.length vr lr
 hd:Mf w 3 [mI] (kQ 2 3 lr (1+(b.sf.length:Int)+(b.lo.length:Int)+2*(b.fs.length:Int)+(b.s.ts.length:Int)) b.s.rs.length) (.slice q.ha b.hd.length q.hc) b.hd.length
 rt:Mf w 9 [mT] ((kQ 2 3 lr (1+(b.sf.length:Int)+(b.lo.length:Int)+2*(b.fs.length:Int)+(b.s.ts.length:Int)) b.s.rs.length)+(b.hd.length:Int)) (.slice q.oa b.rt.length q.oc) b.rt.length
 rn:MN w 111 6 3 138 [mB,mT,mI,mT] 3 nE 5 4 ((kQ 2 3 lr (1+(b.sf.length:Int)+(b.lo.length:Int)+2*(b.fs.length:Int)+(b.s.ts.length:Int)) b.s.rs.length)+(b.hd.length:Int)+(b.rt.length:Int)) (.slice q.na b.rn.length q.nc) b.rn.length vn ln
 jb:Mf w 127 [mT,mI,mI] (kQ 5 4 ln ((kQ 2 3 lr (1+(b.sf.length:Int)+(b.lo.length:Int)+2*(b.fs.length:Int)+(b.s.ts.length:Int)) b.s.rs.length)+(b.hd.length:Int)+(b.rt.length:Int)) b.rn.length) (.slice q.ja b.jb.length q.jc) b.jb.length
def bX(b:Bs)(lr ln:List Nat):Int:=((kQ 5 4 ln ((kQ 2 3 lr (1+(b.sf.length:Int)+(b.lo.length:Int)+2*(b.fs.length:Int)+(b.s.ts.length:Int)) b.s.rs.length)+(b.hd.length:Int)+(b.rt.length:Int)) b.rn.length)+3*(b.jb.length:Int))
theorem BM.below{w w':World}{b:Bs}{q:Ba}{vr vn:List Value}{lr ln:List Nat}(h:BM w b q vr lr vn ln)(k:Bw w w'):BM w' b q vr lr vn ln:=⟨h.sf.below k,h.lo.below k,h.fs.below k,h.ts.below k,h.rs.below k,h.hd.below k,h.rt.below k,h.rn.below k,h.jb.below k⟩
theorem m9(A B:Nat)(b:Bs)(q:Ba)(vr:List Value)(lr:List Nat)(vn:List Value)(ln:List Nat)(w:World)(l:A<=B)(hB:B<=w.heap.size)(hl:Ug b 1048576)(ho:BW A B w b q vr lr vn ln):
 Calls prog 9 #[.agg (bsV b q).toArray,.int .i64 1] w λe w'=>(e=.returned (.int .i64 (bX b lr ln))/\0<=bX b lr ln/\(SS b q vr vn->BM w' b q vr lr vn ln))/\Md A B [9,67,162,213,3,111,138,127] w w':=by
 have d:=U0 ho;have n1:=hl.sl;have n2:=hl.ll;have n3:=hl.fl;have n4:=hl.st.1.1;have n5:=hl.st.2.1;have n6:=hl.hl;have n7:=hl.rl;have x:=hl.nl;have v:=hl.jl;have u:=au (c:=2) (e:=3) (K:=(1+(b.sf.length:Int)+(b.lo.length:Int)+2*(b.fs.length:Int)+(b.s.ts.length:Int))) ho.rs.le _ (J8 _);have r:=au (c:=5) (e:=4) (K:=((kQ 2 3 lr (1+(b.sf.length:Int)+(b.lo.length:Int)+2*(b.fs.length:Int)+(b.s.ts.length:Int)) b.s.rs.length)+(b.hd.length:Int)+(b.rt.length:Int))) ho.rn.le _ (J8 _)
 replace u:(1+(b.sf.length:Int)+(b.lo.length:Int)+2*(b.fs.length:Int)+(b.s.ts.length:Int))<=(kQ 2 3 lr (1+(b.sf.length:Int)+(b.lo.length:Int)+2*(b.fs.length:Int)+(b.s.ts.length:Int)) b.s.rs.length)/\(kQ 2 3 lr (1+(b.sf.length:Int)+(b.lo.length:Int)+2*(b.fs.length:Int)+(b.s.ts.length:Int)) b.s.rs.length)<=(1+(b.sf.length:Int)+(b.lo.length:Int)+2*(b.fs.length:Int)+(b.s.ts.length:Int))+3145730*(b.s.rs.length:Int):=u
 replace r:((kQ 2 3 lr (1+(b.sf.length:Int)+(b.lo.length:Int)+2*(b.fs.length:Int)+(b.s.ts.length:Int)) b.s.rs.length)+(b.hd.length:Int)+(b.rt.length:Int))<=(kQ 5 4 ln ((kQ 2 3 lr (1+(b.sf.length:Int)+(b.lo.length:Int)+2*(b.fs.length:Int)+(b.s.ts.length:Int)) b.s.rs.length)+(b.hd.length:Int)+(b.rt.length:Int)) b.rn.length)/\(kQ 5 4 ln ((kQ 2 3 lr (1+(b.sf.length:Int)+(b.lo.length:Int)+2*(b.fs.length:Int)+(b.s.ts.length:Int)) b.s.rs.length)+(b.hd.length:Int)+(b.rt.length:Int)) b.rn.length)<=((kQ 2 3 lr (1+(b.sf.length:Int)+(b.lo.length:Int)+2*(b.fs.length:Int)+(b.s.ts.length:Int)) b.s.rs.length)+(b.hd.length:Int)+(b.rt.length:Int))+4194309*(b.rn.length:Int):=r
 go_in
 go_upto_region 1 with fail
 have H:=U0 (sF (A:=A) (B:=B) (w:=w) (t:=47) (cs:=bsV b q));generalize w.alloc (.cells (bsV b q).toArray 47)=V at*
 go_wp2_with(first|(refine H8 H.out.c rfl 37 _ rfl (j:=5) [.slice q.sa b.sf.length q.sc,.slice q.la b.lo.length q.lc] rfl rfl underlying37 rfl Y1 ?_)|(refine N8 H.out.c rfl _ _ rfl rfl rfl Y1 ?_))
 refine(m40 A B q.sa q.la b.sf.length q.sc b.lo.length q.lc 1 V l (I8 hB H.out.md.size) O0 O0 n1 n2 (d.out.sf.md H.out.md) (d.out.lo.md H.out.md)).mono ?_;rintro e V1⟨⟨rfl,J,I⟩,m⟩;have a:Hid (SS b q vr vn->Mf V1 9 [mT] 1 (.slice q.sa b.sf.length q.sc) b.sf.length):=λh=>J h.n1;have F2:=U0 I
 replace H:=U0 (H.out.go hB m)
 go_wp2_with(first|(refine H8 H.out.c rfl 40 _ rfl (j:=7) [.slice q.fa b.fs.length q.fc] rfl rfl underlying40 rfl Y1 ?_)|(refine N8 H.out.c rfl _ _ rfl rfl rfl Y1 ?_))
 refine(m41 A B _ b.fs.length _ V1 (I8 hB H.out.md.size) O0 O0 n3 (d.out.fs.md H.out.md)).mono ?_;rintro e P⟨⟨rfl,f3⟩,m⟩;have f:=U0 f3
 replace a:=U0 (λh=>(a h).md m (by decide))
 replace F2:=U0 (F2.out.md m (by decide))
 replace H:=U0 (H.out.go hB m)
 go_wp2_with(first|(refine H8 H.out.c rfl 43 _ rfl (j:=8) [.int .i64 b.s.wd,.slice q.ta b.s.ts.length q.tc,.slice q.ra b.s.rs.length q.rc] rfl rfl underlying43 rfl Y1 ?_)|(refine N8 H.out.c rfl _ _ rfl rfl rfl Y1 ?_))
 refine(m42 A B _ _ b.s.ts.length b.s.rs.length vr lr b.s.wd _ P l (I8 hB H.out.md.size) O0 O0 n4 n5 (d.out.ts.md H.out.md) (d.out.rs.md H.out.md (by decide))).mono ?_;rintro e o⟨⟨rfl,F,E⟩,m,fr⟩;have i:=U0 F;have g:Hid (SS b q vr vn->_):=λh=>E h.rs
 replace a:Hid (SS b q vr vn->Mf o 9 [mT] 1 (.slice q.sa b.sf.length q.sc) b.sf.length):=λh=>(a h).fr fr (λv' hv=>by rw[Dk.1 hv];exact h.n2)
 replace F2:Hid (SS b q vr vn->Mf o 9 [mT] (1+(b.sf.length:Int)) (.slice q.la b.lo.length q.lc) b.lo.length):=λh=>F2.out.fr fr (λv' hv=>by rw[Dk.1 hv];exact h.n3)
 replace f:=U0 (f.out.md m (by decide))
 replace H:=U0 (H.out.go hB m)
 go_wp2_with(refine N8 H.out.c rfl _ _ rfl rfl rfl Y1 ?_)
 refine(m43 A B _ b.hd.length _ o O0 O0 n6 (d.out.hd.md H.out.md)).mono ?_;rintro e O⟨⟨rfl,D⟩,m⟩;have k:=U0 D
 replace a:=U0 (λh=>(a h).md m (by decide))
 replace F2:=U0 (λh=>(F2 h).md m (by decide))
 replace f:=U0 (f.out.md m (by decide))
 replace i:=U0 (i.out.md m (by decide))
 replace g:=U0 (λh=>(g h).md m (by decide) (by decide))
 replace H:=U0 (H.out.go hB m)
 go_wp2_with(refine N8 H.out.c rfl _ _ rfl rfl rfl Y1 ?_)
 refine(kX A B _ b.rt.length _ O l O0 O0 n7 (d.out.rt.md H.out.md)).mono ?_;rintro e n⟨⟨rfl,C⟩,m,fr⟩;have p:=U0 C
 replace a:Hid (SS b q vr vn->Mf n 9 [mT] 1 (.slice q.sa b.sf.length q.sc) b.sf.length):=λh=>(a h).fr fr (λv' hv=>by rw[Dk.1 hv];exact h.n4)
 replace F2:Hid (SS b q vr vn->Mf n 9 [mT] (1+(b.sf.length:Int)) (.slice q.la b.lo.length q.lc) b.lo.length):=λh=>(F2 h).fr fr (λv' hv=>by rw[Dk.1 hv];exact h.n5)
 replace f:=U0 (f.out.md m (by decide))
 replace i:Hid (SS b q vr vn->Mf n 9 [mT] (1+(b.sf.length:Int)+(b.lo.length:Int)+2*(b.fs.length:Int)) (.slice q.ta b.s.ts.length q.tc) b.s.ts.length):=λh=>i.out.fr fr (λv' hv=>by rw[Dk.1 hv];exact h.n6)
 replace g:=U0 (λh=>(g h).md m (by decide) (by decide))
 replace k:=U0 (k.out.md m (by decide))
 replace H:=U0 (H.out.go hB m)
 go_wp2_with(refine N8 H.out.c rfl _ _ rfl rfl rfl Y1 ?_)
 refine(m45 A B _ b.rn.length vn ln _ n O0 O0 x l (d.out.rn.md H.out.md (by decide))).mono ?_;rintro e N⟨⟨rfl,z⟩,m⟩;have S:Hid (SS b q vr vn->_):=λh=>z h.rn
 replace a:=U0 (λh=>(a h).md m (by decide))
 replace F2:=U0 (λh=>(F2 h).md m (by decide))
 replace f:=U0 (f.out.md m (by decide))
 replace i:=U0 (λh=>(i h).md m (by decide))
 replace g:=U0 (λh=>(g h).md m (by decide) (by decide))
 replace k:=U0 (k.out.md m (by decide))
 replace p:=U0 (p.out.md m (by decide))
 replace H:=U0 (H.out.go hB m)
 go_wp2_with(refine N8 H.out.c rfl _ _ rfl rfl rfl Y1 ?_)
 refine(m46 A B _ b.jb.length _ N O0 O0 v (d.out.jb.md H.out.md)).mono ?_;rintro e L⟨⟨rfl,y⟩,m⟩;have R:=U0 y;have Q:Hid (SS b q vr vn->BM L b q vr lr vn ln):=λh=>⟨(a h).md m (by decide),(F2 h).md m (by decide),f.out.md m (by decide),(i h).md m (by decide),(g h).md m (by decide) (by decide),k.out.md m (by decide),p.out.md m (by decide),(S h).md m (by decide) (by decide),R⟩
 replace H:=U0 (H.out.go hB m)
 go_wp2;go_ret;exact⟨⟨rfl,by unfold bX;omega,Q.out⟩,H.out.fin (by decide)⟩
theorem bD{w:World}{g L:Nat}(a:Nat){t:TypeId}{ys:List Value}{l:List (Int->Value)}{K:Int}(C:Cl w g t ys)(D:∀j,j<L->ys[j]?=some (fk l j (K+(j:Int))))(e:a=L:=by simp):∀(p:Nat)(x:Value)(u:World),Bw w u->p<a->x=fk l p (K+(p:Int))->u.cell? ⟨g,p,none⟩=some x:=λp x u b c hx=>by rw[(C.below b C.lt).cell,D p (e▸c),hx]
theorem h50(v:Value)(n:Nat)(K:Int)(w:World)(h1:1<=K)(h2:K<=90000000000000)(hn:n<=1048576)(ho:Mf w 3 [mI] K v n):
 Calls prog 50 #[v,.int .i64 K] w λe w'=>e=.returned (.int .i64 (K+(n:Int)))/\Bw w w':=by
 obtain⟨a,cp,rfl,h⟩:=ho
 replace h:=U0 h
 go_in
 go_wp2;go_loopw[1,5] (λq i wr=>∃k:Nat,k<=n/\i=.int .i64 k/\q=.int .i64 (K+(k:Int))/\Below w.heap.size w wr) (λ_ i _=>n-(RowKit.intOf i).toNat);exact⟨0,J4 _,rfl,E5,G5 _ _⟩;obtain⟨k,hk,rfl,rfl,b⟩:=hrel;by_cases hlt:k<n;rotate_left
 ·obtain rfl:k=n:=O0;go_wp2;go_ret;exact⟨rfl,b⟩
 obtain⟨g,ys,rfl,C,D⟩:=h.out.resolve_left (by omega);have c:=U0 (bD (n) C D);clear C D h;have g0:Hid (∀u,Bw wr u->u.cell? ⟨g,k,none⟩=some (.int .i64 (K+(k:Int)))):=λu d=>c.out _ (mI (K+(k:Int))) u (J5 b d) O0 pk1;have bw:Bw wr wr:=G5 _ _;clear c;have q0:=g0.out _ bw;go_wp2;go_roundw;exact⟨k+1,O0,by go_num,by go_num,J5 b bw⟩;exact Z9
theorem h51(v:Value)(n:Nat)(K:Int)(w:World)(h1:1<=K)(h2:K<=90000000000000)(hn:n<=1048576)(ho:Mf w 9 [mT] K v n):
 Calls prog 51 #[v,.int .i64 K] w λe w'=>e=.returned (.int .i64 (K+(n:Int)))/\Bw w w':=by
 obtain⟨a,cp,rfl,h⟩:=ho
 replace h:=U0 h
 go_in
 go_wp2;go_loopw[1,5] (λq i wr=>∃k:Nat,k<=n/\i=.int .i64 k/\q=.int .i64 (K+(k:Int))/\Below w.heap.size w wr) (λ_ i _=>n-(RowKit.intOf i).toNat);exact⟨0,J4 _,rfl,E5,G5 _ _⟩;obtain⟨k,hk,rfl,rfl,b⟩:=hrel;by_cases hlt:k<n;rotate_left
 ·obtain rfl:k=n:=O0;go_wp2;go_ret;exact⟨rfl,b⟩
 obtain⟨g,ys,rfl,C,D⟩:=h.out.resolve_left (by omega);have f:=U0 (bD (n) C D);clear C D h;have g0:Hid (∀u,Bw wr u->u.cell? ⟨g,k,none⟩=some (.string (I4 (109::dec (K+(k:Int)))))):=λu j=>f.out _ (mT (K+(k:Int))) u (J5 b j) O0 pk1;have bw:Bw wr wr:=G5 _ _;clear f;have h0:=λu=>zi (K+(k:Int)) u O0 O0;generalize I4 (109::dec (K+(k:Int)))=m0 at*
 go_wp2_with fail
 have hd:Bw wr wr.drew:=(G5 _ _).drew;refine wp_region_held_drew (S:=λu=>u.cell? ⟨g,k,none⟩=some (.string m0)) Y1 (g0 _ (J5 bw hd)) λhH=>?_
 iterate 5 refine sq ?_
 refine rq 5 λK d=>?_;go_simp;refine(h0 _).mono ?_;rintro e w0⟨rfl,c⟩
 replace bw:=J5 bw (hd.trans (c.mono X7))
 clear hd c h0
 go_wp2_with fail
 refine A8 d (g0 _ bw) λhH=>?_;clear d K;refine sq ?_;refine wdn ?_;go_wp2;go_roundw;exact⟨k+1,O0,by go_num,by go_num,J5 b bw⟩;exact Z9
theorem a5l(v:Value)(n:Nat)(K:Int)(w:World)(h1:1<=K)(h2:K<=90000000000000)(hn:n<=1048576)(ho:Mf w 67 [mT,mT] K v n):
 Calls prog 110 #[v,.int .i64 K] w λe w'=>e=.returned (.int .i64 (K+2*(n:Int)))/\Bw w w':=by
 obtain⟨a,cp,rfl,h⟩:=ho
 replace h:=U0 h
 go_in
 go_wp2;go_loopw[1,5] (λq i wr=>∃k:Nat,k<=n/\i=.int .i64 k/\q=.int .i64 (K+2*(k:Int))/\Below w.heap.size w wr) (λ_ i _=>n-(RowKit.intOf i).toNat);exact⟨0,J4 _,rfl,E5,G5 _ _⟩;obtain⟨k,hk,rfl,rfl,d⟩:=hrel;by_cases hlt:k<n;rotate_left
 ·obtain rfl:k=n:=O0;go_wp2;go_ret;exact⟨rfl,d⟩
 obtain⟨g,ys,rfl,C,D⟩:=h.out.resolve_left (by omega);have j:=U0 (bD (n*2) C D);clear C D h;have g0:Hid (∀u,Bw wr u->u.cell? ⟨g,k*2,none⟩=some (.string (I4 (109::dec (K+2*(k:Int)))))):=λu f=>j.out _ (mT (K+2*(k:Int))) u (J5 d f) O0 (pk 0);have g1:Hid (∀u,Bw wr u->u.cell? ⟨g,k*2+1,none⟩=some (.string (I4 (109::dec (K+2*(k:Int)+1))))):=λu f=>j.out _ (mT (K+2*(k:Int)+1)) u (J5 d f) O0 (pk 1);have bw:Bw wr wr:=G5 _ _;clear j;have h0:=λu=>zi (K+2*(k:Int)) u O0 O0;generalize I4 (109::dec (K+2*(k:Int)))=m0 at*
 go_wp2_with fail
 have hd:Bw wr wr.drew:=(G5 _ _).drew;refine wp_region_held_drew (S:=λu=>u.cell? ⟨g,k*2,none⟩=some (.string m0)) Y1 (g0 _ (J5 bw hd)) λhH=>?_
 iterate 6 refine sq ?_
 refine rq 6 λK c=>?_;go_simp;refine(h0 _).mono ?_;rintro e w0⟨rfl,b⟩
 replace bw:=J5 bw (hd.trans (b.mono X7))
 clear hd b h0
 go_wp2_with fail
 refine A8 c (g0 _ bw) λhH=>?_;clear c K;refine sq ?_;refine wdn ?_;have h1:=λu=>zi (K+2*(k:Int)+1) u O0 O0;generalize I4 (109::dec (K+2*(k:Int)+1))=l at*
 go_wp2_with fail
 have hd:Bw w0 w0.drew:=(G5 _ _).drew;refine wp_region_held_drew (S:=λu=>u.cell? ⟨g,k*2+1,none⟩=some (.string l)) Y1 (g1 _ (J5 bw hd)) λhH=>?_
 iterate 6 refine sq ?_
 refine rq 6 λK c=>?_;go_simp;refine(h1 _).mono ?_;rintro e w1⟨rfl,b⟩
 replace bw:=J5 bw (hd.trans (b.mono X7))
 clear hd b h1
 go_wp2_with fail
 refine A8 c (g1 _ bw) λhH=>?_;clear c K;refine sq ?_;refine wdn ?_;go_wp2;go_roundw;exact⟨k+1,O0,by go_num,by go_num,J5 d bw⟩;exact Z9
theorem h53(v:Value)(n:Nat)(K:Int)(w:World)(h1:1<=K)(h2:K<=90000000000000)(hn:n<=1048576)(ho:Mf w 127 [mT,mI,mI] K v n):
 Calls prog 53 #[v,.int .i64 K] w λe w'=>e=.returned (.int .i64 (K+3*(n:Int)))/\Bw w w':=by
 obtain⟨a,cp,rfl,h⟩:=ho
 replace h:=U0 h
 go_in
 go_wp2;go_loopw[1,5] (λq i wr=>∃k:Nat,k<=n/\i=.int .i64 k/\q=.int .i64 (K+3*(k:Int))/\Below w.heap.size w wr) (λ_ i _=>n-(RowKit.intOf i).toNat);exact⟨0,J4 _,rfl,E5,G5 _ _⟩;obtain⟨k,hk,rfl,rfl,c⟩:=hrel;by_cases hlt:k<n;rotate_left
 ·obtain rfl:k=n:=O0;go_wp2;go_ret;exact⟨rfl,c⟩
 obtain⟨g,ys,rfl,C,D⟩:=h.out.resolve_left (by omega);have d:=U0 (bD (n*3) C D);clear C D h;have g0:Hid (∀u,Bw wr u->u.cell? ⟨g,k*3,none⟩=some (.string (I4 (109::dec (K+3*(k:Int)))))):=λu b=>d.out _ (mT (K+3*(k:Int))) u (J5 c b) O0 (pk 0);have g1:Hid (∀u,Bw wr u->u.cell? ⟨g,k*3+1,none⟩=some (.int .i64 (K+3*(k:Int)+1))):=λu b=>d.out _ (mI (K+3*(k:Int)+1)) u (J5 c b) O0 (pk 1);have g2:Hid (∀u,Bw wr u->u.cell? ⟨g,k*3+2,none⟩=some (.int .i64 (K+3*(k:Int)+1+1))):=λu b=>d.out _ (mI (K+3*(k:Int)+1+1)) u (J5 c b) O0 (pk 2);have bw:Bw wr wr:=G5 _ _;clear d;have h0:=λu=>zi (K+3*(k:Int)) u O0 O0;generalize I4 (109::dec (K+3*(k:Int)))=m0 at*
 go_wp2_with fail
 have hd:Bw wr wr.drew:=(G5 _ _).drew;refine wp_region_held_drew (S:=λu=>u.cell? ⟨g,k*3,none⟩=some (.string m0)) Y1 (g0 _ (J5 bw hd)) λhH=>?_
 iterate 6 refine sq ?_
 refine rq 6 λK j=>?_;go_simp;refine(h0 _).mono ?_;rintro e w0⟨rfl,f⟩
 replace bw:=J5 bw (hd.trans (f.mono X7))
 clear hd f h0
 go_wp2_with fail
 refine A8 j (g0 _ bw) λhH=>?_;clear j K;refine sq ?_;refine wdn ?_;have q1:=g1.out _ bw;have q2:=g2.out _ bw;go_wp2;go_roundw;exact⟨k+1,O0,by go_num,by go_num,J5 c bw⟩;exact Z9
theorem a3u(v:Value)(n:Nat)(K:Int)(w:World)(h1:1<=K)(h2:K<=90000000000000)(hn:n<=1048576)(ho:Mf w 213 [mB,mT,mT] K v n):
 Calls prog 168 #[v,.int .i64 K] w λe w'=>e=.returned (.int .i64 (K+3*(n:Int)))/\Bw w w':=by
 obtain⟨a,cp,rfl,h⟩:=ho
 replace h:=U0 h
 go_in
 go_wp2;go_loopw[1,5] (λq i wr=>∃k:Nat,k<=n/\i=.int .i64 k/\q=.int .i64 (K+3*(k:Int))/\Below w.heap.size w wr) (λ_ i _=>n-(RowKit.intOf i).toNat);exact⟨0,J4 _,rfl,E5,G5 _ _⟩;obtain⟨k,hk,rfl,rfl,d⟩:=hrel;by_cases hlt:k<n;rotate_left
 ·obtain rfl:k=n:=O0;go_wp2;go_ret;exact⟨rfl,d⟩
 obtain⟨g,ys,rfl,C,D⟩:=h.out.resolve_left (by omega);have j:=U0 (bD (n*3) C D);clear C D h;have g0:Hid (∀u,Bw wr u->u.cell? ⟨g,k*3,none⟩=some (.bool ((K)%3==0))):=λu b=>j.out _ (mB (K)) u (J5 d b) O0 pk3;have g1:Hid (∀u,Bw wr u->u.cell? ⟨g,k*3+1,none⟩=some (.string (I4 (109::dec (K+3*(k:Int)+1))))):=λu b=>j.out _ (mT (K+3*(k:Int)+1)) u (J5 d b) O0 (pk 1);have g2:Hid (∀u,Bw wr u->u.cell? ⟨g,k*3+2,none⟩=some (.string (I4 (109::dec (K+3*(k:Int)+1+1))))):=λu b=>j.out _ (mT (K+3*(k:Int)+1+1)) u (J5 d b) O0 (pk 2);have bw:Bw wr wr:=G5 _ _;clear j;have q0:=g0.out _ bw;have h1:=λu=>zi (K+3*(k:Int)+1) u O0 O0;generalize I4 (109::dec (K+3*(k:Int)+1))=m at*
 go_wp2_with fail
 have hd:Bw wr wr.drew:=(G5 _ _).drew;refine wp_region_held_drew (S:=λu=>u.cell? ⟨g,k*3+1,none⟩=some (.string m)) Y1 (g1 _ (J5 bw hd)) λhH=>?_
 iterate 6 refine sq ?_
 refine rq 6 λK f=>?_;go_simp;refine(h1 _).mono ?_;rintro e w1⟨rfl,c⟩
 replace bw:=J5 bw (hd.trans (c.mono X7))
 clear hd c h1
 go_wp2_with fail
 refine A8 f (g1 _ bw) λhH=>?_;clear f K;refine sq ?_;refine wdn ?_;have h2:=λu=>zi (K+3*(k:Int)+1+1) u O0 O0;generalize I4 (109::dec (K+3*(k:Int)+1+1))=l at*
 go_wp2_with fail
 have hd:Bw w1 w1.drew:=(G5 _ _).drew;refine wp_region_held_drew (S:=λu=>u.cell? ⟨g,k*3+2,none⟩=some (.string l)) Y1 (g2 _ (J5 bw hd)) λhH=>?_
 iterate 6 refine sq ?_
 refine rq 6 λK f=>?_;go_simp;refine(h2 _).mono ?_;rintro e w2⟨rfl,c⟩
 replace bw:=J5 bw (hd.trans (c.mono X7))
 clear hd c h2
 go_wp2_with fail
 refine A8 f (g2 _ bw) λhH=>?_;clear f K;refine sq ?_;refine wdn ?_;go_wp2;go_roundw;exact⟨k+1,O0,by go_num,by go_num,J5 d bw⟩;exact Z9
theorem h112(v:Value)(n:Nat)(K:Int)(w:World)(h1:1<=K)(h2:K<=90000000000000)(hn:n<=1048576)(ho:Mf w 138 [mB,mT,mI,mT] K v n):
 Calls prog 112 #[v,.int .i64 K] w λe w'=>e=.returned (.int .i64 (K+4*(n:Int)))/\Bw w w':=by
 obtain⟨a,cp,rfl,h⟩:=ho
 replace h:=U0 h
 go_in
 go_wp2;go_loopw[1,5] (λq i wr=>∃k:Nat,k<=n/\i=.int .i64 k/\q=.int .i64 (K+4*(k:Int))/\Below w.heap.size w wr) (λ_ i _=>n-(RowKit.intOf i).toNat);exact⟨0,J4 _,rfl,E5,G5 _ _⟩;obtain⟨k,hk,rfl,rfl,c⟩:=hrel;by_cases hlt:k<n;rotate_left
 ·obtain rfl:k=n:=O0;go_wp2;go_ret;exact⟨rfl,c⟩
 obtain⟨g,ys,rfl,C,D⟩:=h.out.resolve_left (by omega);have j:=U0 (bD (n*4) C D);clear C D h;have g0:Hid (∀u,Bw wr u->u.cell? ⟨g,k*4,none⟩=some (.bool ((K+4*(k:Int))%3==0))):=λu b=>j.out _ (mB (K+4*(k:Int))) u (J5 c b) O0 (pk 0);have g1:Hid (∀u,Bw wr u->u.cell? ⟨g,k*4+1,none⟩=some (.string (I4 (109::dec (K+4*(k:Int)+1))))):=λu b=>j.out _ (mT (K+4*(k:Int)+1)) u (J5 c b) O0 (pk 1);have g2:Hid (∀u,Bw wr u->u.cell? ⟨g,k*4+2,none⟩=some (.int .i64 (K+4*(k:Int)+1+1))):=λu b=>j.out _ (mI (K+4*(k:Int)+1+1)) u (J5 c b) O0 (pk 2);have g3:Hid (∀u,Bw wr u->u.cell? ⟨g,k*4+3,none⟩=some (.string (I4 (109::dec (K+4*(k:Int)+1+1+1))))):=λu b=>j.out _ (mT (K+4*(k:Int)+1+1+1)) u (J5 c b) O0 (pk 3);have bw:Bw wr wr:=G5 _ _;clear j;have q0:=g0.out _ bw;have h1:=λu=>zi (K+4*(k:Int)+1) u O0 O0;generalize I4 (109::dec (K+4*(k:Int)+1))=o at*
 go_wp2_with fail
 have hd:Bw wr wr.drew:=(G5 _ _).drew;refine wp_region_held_drew (S:=λu=>u.cell? ⟨g,k*4+1,none⟩=some (.string o)) Y1 (g1 _ (J5 bw hd)) λhH=>?_
 iterate 6 refine sq ?_
 refine rq 6 λK f=>?_;go_simp;refine(h1 _).mono ?_;rintro e w1⟨rfl,d⟩
 replace bw:=J5 bw (hd.trans (d.mono X7))
 clear hd d h1
 go_wp2_with fail
 refine A8 f (g1 _ bw) λhH=>?_;clear f K;refine sq ?_;refine wdn ?_;have q2:=g2.out _ bw;have l:=λu=>zi (K+4*(k:Int)+1+1+1) u O0 O0;generalize I4 (109::dec (K+4*(k:Int)+1+1+1))=m at*
 go_wp2_with fail
 have hd:Bw w1 w1.drew:=(G5 _ _).drew;refine wp_region_held_drew (S:=λu=>u.cell? ⟨g,k*4+3,none⟩=some (.string m)) Y1 (g3 _ (J5 bw hd)) λhH=>?_
 iterate 7 refine sq ?_
 refine rq 7 λK f=>?_;go_simp;refine(l _).mono ?_;rintro e w3⟨rfl,d⟩
 replace bw:=J5 bw (hd.trans (d.mono X7))
 clear hd d l
 go_wp2_with fail
 refine A8 f (g3 _ bw) λhH=>?_;clear f K;refine sq ?_;refine wdn ?_;go_wp2;go_roundw;exact⟨k+1,O0,by go_num,by go_num,J5 c bw⟩;exact Z9
theorem a3R(v:Value)(n:Nat)(vs:List Value)(ls:List Nat)(K:Int)(w:World)(h1:1<=K)(h2:K<=50000000000000)(hn:n<=1048576)(ho:MN w 162 3 1 213 [mB,mT,mT] 1 rE 2 3 K v n vs ls):
 Calls prog 111 #[v,.int .i64 K] w λe w'=>e=.returned (.int .i64 (kQ 2 3 ls K n))/\Bw w w':=by
 have r:=U0 ho.le;have x:=U0 ho.inn;obtain⟨a,cp,rfl,h⟩:=ho.row
 replace h:=U0 h
 go_in
 go_wp2;go_loopw[1,5] (λq i wr=>∃k:Nat,k<=n/\i=.int .i64 k/\q=.int .i64 (kQ 2 3 ls K k)/\Below w.heap.size w wr) (λ_ i _=>n-(RowKit.intOf i).toNat);exact⟨0,J4 _,rfl,by rw[Qn],G5 _ _⟩;obtain⟨k,z,rfl,rfl,b⟩:=hrel;by_cases f:k<n;rotate_left
 ·obtain rfl:k=n:=O0;go_wp2;go_ret;exact⟨rfl,b⟩
 obtain⟨g,ys,rfl,C,D⟩:=h.out.resolve_left (by omega);obtain⟨p,t⟩:=D k f
 replace C:=U0 C
 have j:=x.out k f;obtain⟨J,I,H,_⟩:=x.out k f;have s:=au (c:=2) (e:=3) (K:=K) r k z;have B:=U0 (Ru 2 3 ls K k);have E:=r.out k f;rw[H]at j p;generalize ls.getD k 0=L at*;generalize kQ 2 3 ls K k=X at*
 replace s:K<=X/\X<=K+3145730*(k:Int):=s
 replace j:=U0 j
 have g0:Hid (∀u,Bw wr u->u.cell? ⟨g,k*3,none⟩=some (.string (I4 (109::dec (X))))):=λu d=>((C.out.below (J5 b d) C.out.lt).cell _).trans (t 0 _ rfl);have g2:Hid (∀u,Bw wr u->u.cell? ⟨g,k*3+2,none⟩=some (.string (I4 (109::dec (X+1+3*(L:Int)))))):=λu d=>((C.out.below (J5 b d) C.out.lt).cell _).trans (t 2 _ rfl);have F:Hid (∀u,Bw wr u->u.cell? ⟨g,k*3+1,none⟩=some (.slice J L I)):=λu d=>((C.out.below (J5 b d) C.out.lt).cell _).trans p;have bw:Bw wr wr:=G5 _ _;have h0:=λu=>zi (X) u O0 O0;generalize I4 (109::dec (X))=m0 at*
 go_wp2_with fail
 have hd:Bw wr wr.drew:=(G5 _ _).drew;refine wp_region_held_drew (S:=λu=>u.cell? ⟨g,k*3,none⟩=some (.string m0)) Y1 (g0 _ (J5 bw hd)) λhH=>?_
 iterate 6 refine sq ?_
 refine rq 6 λK m=>?_;go_simp;refine(h0 _).mono ?_;rintro e w0⟨rfl,l⟩
 replace bw:=J5 bw (hd.trans (l.mono X7))
 go_wp2_with fail
 refine A8 m (g0 _ bw) λhH=>?_;refine sq ?_;refine wdn ?_;have qi:=F.out _ bw;have hp:¬X+1+3*(L:Int)<0:=O0
 go_wp2_with fail
 refine(a3u _ L _ w0 O0 O0 E (by have h:=j.out.below (J5 b bw);rwa[show X+((1:Nat):Int)=X+1 from by omega]at h)).mono ?_;rintro e o⟨rfl,A⟩
 replace bw:=J5 bw A
 have h2:=λu=>zi (X+1+3*(L:Int)) u O0 O0;generalize I4 (109::dec (X+1+3*(L:Int)))=y at*
 go_wp2_with fail
 have hd:Bw o o.drew:=(G5 _ _).drew;refine wp_region_held_drew (S:=λu=>u.cell? ⟨g,k*3+2,none⟩=some (.string y)) Y1 (g2 _ (J5 bw hd)) λhH=>?_
 iterate 6 refine sq ?_
 refine rq 6 λK m=>?_;go_simp;refine(h2 _).mono ?_;rintro e w2⟨rfl,l⟩
 replace bw:=J5 bw (hd.trans (l.mono X7))
 go_wp2_with fail
 refine A8 m (g2 _ bw) λhH=>?_;refine sq ?_;refine wdn ?_;go_wp2;go_roundw;exact⟨k+1,O0,by go_num,by rw[B.out];go_num,J5 b bw⟩;exact Z9
theorem h52(v:Value)(n:Nat)(vs:List Value)(ls:List Nat)(K:Int)(w:World)(h1:1<=K)(h2:K<=50000000000000)(hn:n<=1048576)(ho:MN w 111 6 3 138 [mB,mT,mI,mT] 3 nE 5 4 K v n vs ls):
 Calls prog 52 #[v,.int .i64 K] w λe w'=>e=.returned (.int .i64 (kQ 5 4 ls K n))/\Bw w w':=by
 have s:=U0 ho.le;have x:=U0 ho.inn;obtain⟨a,cp,rfl,h⟩:=ho.row
 replace h:=U0 h
 go_in
 go_wp2;go_loopw[1,5] (λq i wr=>∃k:Nat,k<=n/\i=.int .i64 k/\q=.int .i64 (kQ 5 4 ls K k)/\Below w.heap.size w wr) (λ_ i _=>n-(RowKit.intOf i).toNat);exact⟨0,J4 _,rfl,by rw[Qn],G5 _ _⟩;obtain⟨k,B,rfl,rfl,d⟩:=hrel;by_cases m:k<n;rotate_left
 ·obtain rfl:k=n:=O0;go_wp2;go_ret;exact⟨rfl,d⟩
 obtain⟨g,ys,rfl,C,D⟩:=h.out.resolve_left (by omega);obtain⟨r,l⟩:=D k m
 replace C:=U0 C
 have o:=x.out k m;obtain⟨P,O,N,_⟩:=x.out k m;have t:=au (c:=5) (e:=4) (K:=K) s k B;have F:=U0 (Ru 5 4 ls K k);have H:=s.out k m;rw[N]at o r;generalize ls.getD k 0=L at*;generalize kQ 5 4 ls K k=X at*
 replace t:K<=X/\X<=K+4194309*(k:Int):=t
 replace o:=U0 o
 have g0:Hid (∀u,Bw wr u->u.cell? ⟨g,k*6,none⟩=some (.string (I4 (109::dec (X))))):=λu b=>((C.out.below (J5 d b) C.out.lt).cell _).trans (l 0 _ rfl);have g1:Hid (∀u,Bw wr u->u.cell? ⟨g,k*6+1,none⟩=some (.int .i64 (X+1))):=λu b=>((C.out.below (J5 d b) C.out.lt).cell _).trans (l 1 _ rfl);have g2:Hid (∀u,Bw wr u->u.cell? ⟨g,k*6+2,none⟩=some (.string (I4 (109::dec (X+1+1))))):=λu b=>((C.out.below (J5 d b) C.out.lt).cell _).trans (l 2 _ rfl);have g4:Hid (∀u,Bw wr u->u.cell? ⟨g,k*6+4,none⟩=some (.int .i64 (X+1+1+1+4*(L:Int)))):=λu b=>((C.out.below (J5 d b) C.out.lt).cell _).trans (l 4 _ rfl);have g5:Hid (∀u,Bw wr u->u.cell? ⟨g,k*6+5,none⟩=some (.string (I4 (109::dec (X+1+1+1+4*(L:Int)+1))))):=λu b=>((C.out.below (J5 d b) C.out.lt).cell _).trans (l 5 _ rfl);have J:Hid (∀u,Bw wr u->u.cell? ⟨g,k*6+3,none⟩=some (.slice P L O)):=λu b=>((C.out.below (J5 d b) C.out.lt).cell _).trans r;have bw:Bw wr wr:=G5 _ _;have h0:=λu=>zi (X) u O0 O0;generalize I4 (109::dec (X))=m0 at*
 go_wp2_with fail
 have hd:Bw wr wr.drew:=(G5 _ _).drew;refine wp_region_held_drew (S:=λu=>u.cell? ⟨g,k*6,none⟩=some (.string m0)) Y1 (g0 _ (J5 bw hd)) λhH=>?_
 iterate 6 refine sq ?_
 refine rq 6 λK j=>?_;go_simp;refine(h0 _).mono ?_;rintro e w0⟨rfl,f⟩
 replace bw:=J5 bw (hd.trans (f.mono X7))
 go_wp2_with fail
 refine A8 j (g0 _ bw) λhH=>?_;refine sq ?_;refine wdn ?_;have q1:=g1.out _ bw;have h2:=λu=>zi (X+1+1) u O0 O0;generalize I4 (109::dec (X+1+1))=A at*
 go_wp2_with fail
 have hd:Bw w0 w0.drew:=(G5 _ _).drew;refine wp_region_held_drew (S:=λu=>u.cell? ⟨g,k*6+2,none⟩=some (.string A)) Y1 (g2 _ (J5 bw hd)) λhH=>?_
 iterate 6 refine sq ?_
 refine rq 6 λK j=>?_;go_simp;refine(h2 _).mono ?_;rintro e y⟨rfl,f⟩
 replace bw:=J5 bw (hd.trans (f.mono X7))
 go_wp2_with fail
 refine A8 j (g2 _ bw) λhH=>?_;refine sq ?_;refine wdn ?_;have qi:=J.out _ bw;have hp:¬X+1+1+1+4*(L:Int)<0:=O0
 go_wp2_with fail
 refine(h112 _ L _ y O0 O0 H (by have h:=o.out.below (J5 d bw);rwa[show X+((3:Nat):Int)=X+1+1+1 from by omega]at h)).mono ?_;rintro e p⟨rfl,E⟩
 replace bw:=J5 bw E
 have q4:=g4.out _ bw;have I:=λu=>zi (X+1+1+1+4*(L:Int)+1) u O0 O0;generalize I4 (109::dec (X+1+1+1+4*(L:Int)+1))=z at*
 go_wp2_with fail
 have hd:Bw p p.drew:=(G5 _ _).drew;refine wp_region_held_drew (S:=λu=>u.cell? ⟨g,k*6+5,none⟩=some (.string z)) Y1 (g5 _ (J5 bw hd)) λhH=>?_
 iterate 7 refine sq ?_
 refine rq 7 λK j=>?_;go_simp;refine(I _).mono ?_;rintro e w5⟨rfl,f⟩
 replace bw:=J5 bw (hd.trans (f.mono X7))
 go_wp2_with fail
 refine A8 j (g5 _ bw) λhH=>?_;refine sq ?_;refine wdn ?_;go_wp2;go_roundw;exact⟨k+1,O0,by go_num,by rw[F.out];go_num,J5 d bw⟩;exact Z9

import Derived.Test.YtkccjgajimjjdaaGreatDooruI
import Derived.Test.YtkccjgajimjjdaaGreatDoorwJ
set_option linter.unusedVariables false
set_option maxHeartbeats 8000000
set_option maxRecDepth 100000
namespace Go.Proofs.YtkccjgajimjjdaaGreatDoor
open Proofs.Tryz Go.RowKit
variable{u w:World}{A c:Nat}{cd:Int}{m:MS}{vs:List Value}{a:OA}{b:Bs}{q:Ba}
theorem Me.mv{A':Nat}(h:Me w A cd m vs)(a:Fq A w u)(hA:A'<=A):Me u A' cd m vs:=by
 obtain⟨fa,fc,ta,tc,ra,rc,e,h1,h2⟩:=h;exact⟨fa,fc,ta,tc,ra,rc,e,lu h1 a hA,h2.mv a hA⟩
theorem uQ{is:List Rn}{vs0:List Value}(h:YB Ph A_ Rn.ls ny 111 6 138 4 A is vs0 (.slice a is.length c) is.length vs w):yj w a is:=by
 by_cases h0:is=[]
 ·exact .inl h0
 have F:=Rl.2 h0;obtain⟨g,c',e,J,_⟩:=Oh h.row (j:=0*6+3) (Wn (E:=Ph) (m:=6) (λ_=>rfl) F Z5);injection e with e _ _;subst e;refine .inr ⟨g,0,rfl,J,λi u=>?_⟩;obtain⟨a1,z,e1,o⟩:=h.gl i u;refine⟨a1,z,λq v hv=>?_,?_⟩
 ·have b:q<6:=(Zi.1 hv).1;obtain⟨_,_,s,_,k⟩:=Oh h.row (j:=i*6+q) (x:=v) (by rw[Wn (E:=Ph) (m:=6) (λ_=>rfl) u b,e1];exact hv);injection s with s _ _;cases s;rw[o9];exact k
 by_cases hl:Rn.ls (is.getD i A_)=[]
 ·exact .inl hl
 have H:=Rl.2 hl;have y:∀j,j<(Rn.ls (is.getD i A_)).length->∀q,q<4->∃g c,Value.slice a1 (Rn.ls (is.getD i A_)).length z=.slice (some ⟨g,0,none⟩) (Rn.ls (is.getD i A_)).length c/\g<w.heap.size/\w.cell? ⟨g,j*4+q,none⟩=(ny ((Rn.ls (is.getD i A_)).getD j M_))[q]?:=λj n q b=>by
  have t:q<(ny ((Rn.ls (is.getD i A_)).getD j M_)).length:=b;obtain⟨g,c,D,C,B⟩:=Oh o (Fh (d:=M_) (f:=ny) (m:=4) (λ_=>rfl) _ j n q _ (L9 t));exact⟨g,c,D,C,by rw[B,L9 t]⟩
 obtain⟨g1,c2,r,I,_⟩:=y 0 H 0 Z5;injection r with r _ _;subst r;refine .inr ⟨g1,0,rfl,I,λj n=>?_⟩;have l:∀q,q<4->w.cell? ⟨g1,j*4+q,none⟩=(ny ((Rn.ls (is.getD i A_)).getD j M_))[q]?:=λq b=>by
  obtain⟨_,_,p,_,k⟩:=y j n q b;injection p with p _ _;cases p;exact k
 rw[o9];exact⟨l 0 Z5,l 1 Z5,l 2 Z5,l 3 Z5⟩
theorem UL{is:List Jb}(h:w.ownsRow A 127 3 (.slice a is.length c) is.length (is.flatMap yC)):ak w a is:=by
 by_cases h0:is=[]
 ·exact .inl h0
 have n:=Rl.2 h0;have l:∀j,j<is.length->∀q v,(yC (is.getD j ve))[q]?=some v->∃g p,Value.slice a is.length c=.slice (some ⟨g,0,none⟩) is.length p/\g<w.heap.size/\w.cell? ⟨g,j*3+q,none⟩=some v:=λj b q v hv=>Oh h (Fh (d:=ve) (f:=yC) (m:=3) (λ_=>rfl) _ j b q _ hv);obtain⟨g1,c2,i,o,_⟩:=l 0 n 0 _ rfl;injection i with i _ _;subst i;refine .inr ⟨g1,0,rfl,o,λj b q v hv=>?_⟩;obtain⟨_,_,e,_,k⟩:=l j b q v hv;injection e with e _ _;cases e;rw[o9];exact k
theorem Vl{ss:LB}(h:w.ownsRow A 9 1 (.slice a ss.length c) ss.length (ss.map .string)):Z7 w a ss:=by
 obtain⟨_,_,e,k⟩:=aG h;cases e;exact k
theorem PL{base:Nat}{ss:List Int}(h:w.ownsRow base 3 1 (.slice a ss.length c) ss.length (ss.map (.int .i64))):Rf w a ss:=by
 by_cases h0:ss=[]
 ·exact .inl h0
 have d:=Rl.2 h0;obtain⟨g,c',e,f,_⟩:=Oh h (j:=0) (x:=.int .i64 (ss[0])) (by simp[d]);injection e with e;subst e;refine .inr ⟨g,0,rfl,f,λi b=>?_⟩;obtain⟨g',c'',e,_,h2⟩:=Oh h (j:=i) (x:=.int .i64 (ss[i])) (by simp[b]);injection e with e;injection e with e;injection e with e;subst e;rw[o9,h2];simp[List.getD,b]
theorem nG.at(h:nG A u b q):Gh u b q:=⟨Vl h.sf,Vl h.lo,h.fs.1,Ep h.st,PL h.hd,Vl h.rt,by
 obtain⟨vs,r⟩:=h.rn;exact uQ r,UL h.jb⟩
theorem a4A(n m sc lc:Nat)(sa la:OA)(w:World)(hn:n+m<=1048576):
 Calls prog 100 #[.agg #[.slice sa n sc,.slice la m lc]] w λe w'=>(∃r,e=.returned (.bool r)/\(r=true↔1000<=n+m))/\Bw w w':=by
 go_in
 go_wp2;go_ret;exact⟨⟨_,rfl,by simp;omega⟩,Y6⟩
def Uj(b:Bs)(m:MS):Bs:=if m.ep+1<=200/\b.sf.length+b.lo.length<1000 then {b with up:=true,ep:=m.ep+1,fs:=m.fs,s:=m.s,lo:=b.lo++[I4 (m_ (J9 (m.ep+1)))]} else b
theorem MV{u':World}{fa ta ra d:OA}{fc tc rc:Nat}{x:BY}(e:Int)(hR:nG A w b q)(C:Bw w u)(hA:A<=w.heap.size)(hm:Me u w.heap.size cd m [.int .i64 cd,.int .i64 m.ep,.slice fa m.fs.length fc,.int .i64 m.s.wd,.slice ta m.s.ts.length tc,.slice ra m.s.rs.length rc])(l:u.grownBy u' (Value.slice q.la b.lo.length q.lc).ownBlock)(ho:u'.ownsRow A 9 1 (.slice d (b.lo.length+1) c) (b.lo.length+1) (b.lo.map .string++[.string x]))(hv:(Value.slice d (b.lo.length+1) c).ownBlock=(Value.slice q.la b.lo.length q.lc).ownBlock\/(Value.slice d (b.lo.length+1) c).ownBlock=some u.heap.size):nG A u' {b with up:=true,ep:=e,fs:=m.fs,s:=m.s,lo:=b.lo++[x]} {q with fa:=fa,fc:=fc,ta:=ta,tc:=tc,ra:=ra,rc:=rc,la:=d,lc:=c}:=by
 obtain⟨_,_,_,_,_,_,he,h1,h2⟩:=hm;cases he;have n:=C.size;have o:∀p,p<w.heap.size->(Value.slice q.la b.lo.length q.lc).ownBlock≠some p->u'.heap[p]?=w.heap[p]?:=λp a H=>(l.block p (U9 a n) (λe=>H e.symm)).trans (C.block p a);have z:∀p,w.heap.size<=p->p<u.heap.size->u'.heap[p]?=u.heap[p]?:=λp a hl=>l.block p hl (λe=>by have:=X9 hR.lo e.symm;omega);have y:∀p t,Ah w p t->t≠9->u'.heap[p]?=w.heap[p]?:=λp t hT ht=>o p (Je hT) (λe=>ht (Z8 hT (N7 hR.lo e)));have f:∀v:Value,(∀p,v.ownBlock=some p->p<u.heap.size/\(Value.slice q.la b.lo.length q.lc).ownBlock≠some p)->∀p,v.ownBlock=some p->(Value.slice d (b.lo.length+1) c).ownBlock≠some p:=λv h p a he=>by
  obtain⟨B,E⟩:=h p a;rcases hv with e|e
  ·exact E (e.symm.trans he)
  rw[e]at he;injection he with he;omega
 have nl:∀p,(Value.slice ta m.s.ts.length tc).ownBlock=some p->w.heap.size<=p/\p<u.heap.size:=λp a=>⟨Z4 h2.1 a,X9 h2.1 a⟩;rw[show b.lo.length+1=(b.lo++[x]).length by simp]at ho f;exact
  { sf:=I5 hR.sf (λp a=>o p (X9 hR.sf a) (hR.n1 p a))
    lo:=by rw[Rk];exact ho
    fs:=by
      obtain⟨hf,N⟩:=h1;rcases N with h0|⟨g,K,L,⟨hl,hc,F⟩,cur,ht⟩
      ·exact⟨.inl h0,.inl h0⟩
      have e1:=z g L hl;cases K;refine⟨hf.imp id λ⟨b1,off,B,_,D⟩=>?_,.inr ⟨g,rfl,by omega,⟨U9 hl l.size,λj I=>by rw[ng e1];exact hc j I,λj=>by rw[xE e1];exact F j⟩,cur,e1.trans ht⟩⟩;cases B;exact⟨g,_,rfl,U9 hl l.size,λi J=>by rw[ng e1,ng e1];exact D i J⟩
    st:=Be ⟨I5 h2.1 (λp a=>z p (Z4 h2.1 a) (X9 h2.1 a)),h2.2.imp λvs k=>k.keep (λp t hT _ a=>z p a (Je hT))⟩ hA
    hd:=I5 hR.hd (λp a=>y p 3 (N7 hR.hd a) Z5)
    rt:=I5 hR.rt (λp a=>o p (X9 hR.rt a) (λe=>hR.n5 p e a))
    rn:=hR.rn.imp λ_ r=>r.keep (λp t hT ht _=>y p t hT (by rcases ht with rfl|rfl<;>decide))
    jb:=I5 hR.jb (λp a=>y p 127 (N7 hR.jb a) Z5)
    n1:=f _ (λp a=>⟨U9 (X9 hR.sf a) n,hR.n1 p a⟩)
    n2:=λp a e=>by have:=X9 hR.sf a;have:=(nl p e).1;omega
    n3:=λp a e=>f _ (λp a=>⟨(nl p a).2,λe=>by have:=X9 hR.lo e;have:=(nl p a).1;omega⟩) p e a
    n4:=hR.n4
    n5:=λp a e=>f _ (λp a=>⟨U9 (X9 hR.rt a) n,λe=>hR.n5 p e a⟩) p e a
    n6:=λp a e=>by have:=X9 hR.rt e;have:=(nl p a).1;omega }
structure RT(b:Bs)(V:World)(M:Nat)(cd:Int)(m:MS)(fa ta ra:OA)(fc tc rc:Nat)(u:World):Prop where
 out:Out RE (b.sf++b.lo) b.wd cd m
 cm:Cl u M 62 [.int .i64 cd,.int .i64 m.ep,.slice fa m.fs.length fc,.int .i64 m.s.wd,.slice ta m.s.ts.length tc,.slice ra m.s.rs.length rc]
 me:Me u V.heap.size cd m [.int .i64 cd,.int .i64 m.ep,.slice fa m.fs.length fc,.int .i64 m.s.wd,.slice ta m.s.ts.length tc,.slice ra m.s.rs.length rc]
 bw:Bw V u
 hM:V.heap.size<=M
 ep:0<=m.ep/\m.ep<=200
theorem Me.a0Q{z:World}{C:Nat}(h:Me w A cd m vs)(o:Jr C w z)(hC:Ah w C 62):Me z A cd m vs:=by
 obtain⟨fa,fc,ta,tc,ra,rc,e,h1,h2⟩:=h;have b:∀q t,Ah w q t->t≠62->z.heap[q]?=w.heap[q]?:=λq t hT ht=>o.block q (λe=>ht (by subst e;exact Z8 hT hC));exact⟨fa,fc,ta,tc,ra,rc,e,Gq h1 (uh o.size.symm) (λq a=>b q 67 a Z5) X7,⟨I5 h2.1 (λq a=>b q 9 (N7 h2.1 a) Z5),h2.2.imp λvs k=>k.keep (λq t hT ht _=>b q t hT (by rcases ht with rfl|rfl<;>decide))⟩⟩
theorem a4m(a:OA)(cap:Nat)(es:LB)(W:Int)(w:World)(hl:es.length<=1048576)(c:∀i,(es.getD i ByteArray.empty).size<=1048576)(g:Z7 w a es)(d:Jc w):
 Calls prog 84 #[.slice a es.length cap,.int .i64 W] w λe w'=>(∃cd m vs,e=.returned (.agg vs.toArray)/\Out RE es W cd m/\Me w' w.heap.size cd m vs/\0<=m.ep/\m.ep<=200)/\Bw w w':=by
 refine(c84 a cap es W w hl c g d).mono ?_;rintro e w'⟨⟨vs,rfl,h⟩,f⟩;refine⟨?_,f⟩;rcases h with⟨h1,rfl⟩|⟨h1,o,h2,b⟩
 ·exact⟨1,XO,_,rfl,⟨Yx,.inl ⟨h1,rfl,rfl⟩⟩,vY _ _ _,Z5,Z5⟩
 rcases b with⟨rfl,rfl⟩|⟨m,rfl,b⟩
 ·exact⟨2,XO,_,rfl,⟨Yx,.inr ⟨h1,_,h2,.inl ⟨rfl,rfl,rfl⟩⟩⟩,vY _ _ _,Z5,Z5⟩
 obtain⟨h0,j⟩:=b;exact⟨0,m,_,rfl,⟨kF h0,.inr ⟨h1,_,h2,.inr ⟨rfl,rfl⟩⟩⟩,j,h0.e0,h0.e1⟩
theorem c32(A:Nat)(b:Bs)(q:Ba)(w:World)(v:A<=w.heap.size)(hl:Ug b 1048576)(hsl:b.sf.length+b.lo.length<=1048576)(hmx:Jc w)(hp:Pow w)(hR:nG A w b q):
 Calls prog 32 #[.agg (bsV b q).toArray] w λe w'=>(∃cd m q',Out RE (b.sf++b.lo) b.wd cd m/\e=.returned (.agg (bsV (Uj b m) q').toArray)/\nG A w' (Uj b m) q')/\Below A w w':=by
 have HR:=U0 hR;have HL:=U0 hl;have HMX:=U0 hmx;have HP:=U0 hp;have HES:Hid (∀i,((b.sf++b.lo).getD i ByteArray.empty).size<=1048576):=λi=>by
  by_cases h:i<b.sf.length
  ·rw[show(b.sf++b.lo).getD i ByteArray.empty=b.sf.getD i ByteArray.empty by simp[List.getD,G_ h]];exact hl.ss i
  rw[show(b.sf++b.lo).getD i ByteArray.empty=b.lo.getD (i-b.sf.length) ByteArray.empty by simp[List.getD,Ue (Js h)]];exact hl.ls _
 clear hR hl hmx hp
 go_in
 go_upto_region 1 with fail
 have H:Hid (BX w (bsV b q) ((w.alloc (.cells (bsV b q).toArray 47)).alloc (.cells bz.toArray 47))):=⟨U8 (X4 w (bsV b q) 47) _,Ei (xs:=bz) E5,Y6.alloc E5 _,E5⟩;generalize (w.alloc (.cells (bsV b q).toArray 47)).alloc (.cells bz.toArray 47)=V at*
 go_cut[3] from 4 (λs3 wx=>∃M cd m fa ta ra fc tc rc,s3=.pointer (some ⟨M,0,none⟩)/\Hid (RT b V M cd m fa ta ra fc tc rc wx))
 case first=>
  have F:Hid (∀u,Bw V u->u.cell? ⟨w.heap.size,0,none⟩=some (.int .i64 b.wd)/\u.cell? ⟨w.heap.size,5,none⟩=some (.slice q.sa b.sf.length q.sc)/\u.cell? ⟨w.heap.size,6,none⟩=some (.slice q.la b.lo.length q.lc)):=λu N=>have h:=(H.out.call N).h0;⟨h.cell 0,h.cell 5,h.cell 6⟩
  have HRA:Hid (∀u,Bw V u->Gh u b q):=λu N=>HR.out.at.below (J5 H.out.bw N);have HCA:Hid (∀u,Bw V u->Calls prog 85 #[.agg #[.slice q.sa b.sf.length q.sc,.slice q.la b.lo.length q.lc]] u λe w'=>(∃a c,e=.returned (.slice a (b.sf++b.lo).length c)/\Z7 w' a (b.sf++b.lo))/\Bw u w'):=λu N=>c85 b.sf b.lo q.sa q.la q.sc q.lc u hsl (HRA.out u N).sf (HRA.out u N).lo;have HCB:Hid (∀u a c,Bw V u->Z7 u a (b.sf++b.lo)->Calls prog 84 #[.slice a (b.sf.length+b.lo.length) c,.int .i64 b.wd] u λe w'=>(∃cd m vs,e=.returned (.agg vs.toArray)/\Out RE (b.sf++b.lo) b.wd cd m/\Me w' u.heap.size cd m vs/\0<=m.ep/\m.ep<=200)/\Bw u w'):=λu a c N h=>by
   have hc:=a4m a c (b.sf++b.lo) b.wd u (by rw[P9];exact hsl) HES.out h (Q9 HMX.out (J5 H.out.bw N));rw[P9]at hc;exact hc
  have f:Bw V V.drew:=(G5 _ _).drew;refine FI F f Y1 λhH=>?_;generalize V.drew=y at*
  iterate 2 refine sq ?_
  refine tq 3 hH ?_;refine p_ 4 ?_;refine wpAnyH_ready (rs:=[2,6]) Y1 E5 (AllReadyH.cons (o:=⟨some 7,.call ⟨.value (.func 85),#[.tmp 6],#[37]⟩,22,_,_,none⟩) rfl (λK d=>?_) (AllReadyH.cons (o:=⟨some 3,.alloc 62,0,_,_,none⟩) rfl (λK d=>?_) AllReadyH.nil))
  ·go_simp;refine(HCA.out _ f).mono ?_;rintro e S⟨⟨a1,k1,rfl,h1⟩,l⟩;have S1:=U0 h1
   replace f:=J5 f l
   clear h1 l;go_simp;refine A8 d (F.out _ f) λhH=>?_;clear d K;refine wpAnyH_ready (rs:=[5,6]) Y1 E5 (AllReadyH.cons (o:=⟨some 10,.call ⟨.value (.func 84),#[.tmp 7,.tmp 9],#[22,3]⟩,62,_,_,none⟩) rfl (λK d=>?_) (AllReadyH.cons (o:=⟨some 3,.alloc 62,0,_,_,none⟩) rfl (λK d=>?_) AllReadyH.nil))
   focus
    go_simp;refine(HCB.out _ a1 k1 f S1.out).mono ?_;rintro e R⟨⟨cd,m,vs,rfl,ho,hm,hep⟩,l⟩;obtain⟨fa,fc,ta,tc,ra,rc,rfl,Y,X⟩:=hm;have HO:=U0 ho;have L:=f.size;have HM:Hid (Me R V.heap.size cd m [.int .i64 cd,.int .i64 m.ep,.slice fa m.fs.length fc,.int .i64 m.s.wd,.slice ta m.s.ts.length tc,.slice ra m.s.rs.length rc]):=⟨fa,fc,ta,tc,ra,rc,rfl,lu Y (.below (G5 _ _)) L,Be X L⟩
    replace f:=J5 f l
    clear ho Y X l L;go_simp;refine A8 d (F.out _ f) λhH=>?_;clear d K;refine rq 6 λK d=>?_;go_simp;obtain⟨W,I⟩:∃W:World,W=R.alloc (.cells #[.int .i64 0,.int .i64 0,.slice none 0 0,.int .i64 0,.slice none 0 0,.slice none 0 0] 62):=⟨_,rfl⟩;have D:=U0 (I▸X4 R [.int .i64 0,.int .i64 0,.slice none 0 0,.int .i64 0,.slice none 0 0,.slice none 0 0] 62);have O:=I▸Y6;have v:=f.size;have hA:=D.out.lt
    replace f:=f.trans (O.mono v)
    rw[<- I]
    replace HM:=U0 (HM.out.mv (.below O) X7)
    clear I O;refine A8 d (F.out _ f) λhH=>?_;clear d K;refine rq 7 λK d=>?_;refine t_ rfl 62 _ _ rfl (j:=0) rfl rfl D.out X7 (je rfl rfl rfl rfl rfl rfl) Y1 ?_;intro z C g;have E:Hid (RT b V R.heap.size cd m fa ta ra fc tc rc z):=⟨HO.out,C,HM.out.a0Q g D.out.t,f.trans (g.below v),v,hep⟩
   rotate_left
   focus
    go_simp;obtain⟨W,I⟩:∃W:World,W=S.alloc (.cells #[.int .i64 0,.int .i64 0,.slice none 0 0,.int .i64 0,.slice none 0 0,.slice none 0 0] 62):=⟨_,rfl⟩;have D:=U0 (I▸X4 S [.int .i64 0,.int .i64 0,.slice none 0 0,.int .i64 0,.slice none 0 0,.slice none 0 0] 62);have O:=I▸Y6;have v:=f.size;have hA:=D.out.lt
    replace f:=f.trans (O.mono v)
    rw[<- I]
    replace S1:=U0 (P6 S1.out (O.mono (J8 _)))
    clear I O;refine A8 d (F.out _ f) λhH=>?_;clear d K;refine rq 5 λK d=>?_;go_simp;refine(HCB.out _ a1 k1 f S1.out).mono ?_;rintro e R⟨⟨cd,m,vs,rfl,ho,hm,hep⟩,l⟩;obtain⟨fa,fc,ta,tc,ra,rc,rfl,Y,X⟩:=hm;have HO:=U0 ho;have L:=f.size;have HM:Hid (Me R V.heap.size cd m [.int .i64 cd,.int .i64 m.ep,.slice fa m.fs.length fc,.int .i64 m.s.wd,.slice ta m.s.ts.length tc,.slice ra m.s.rs.length rc]):=⟨fa,fc,ta,tc,ra,rc,rfl,lu Y (.below (G5 _ _)) L,Be X L⟩
    replace f:=J5 f l
    replace D:=U0 (D.out.below l hA)
    replace hA:=U9 hA l.size
    clear ho Y X l L;go_simp;refine A8 d (F.out _ f) λhH=>?_;clear d K;refine rq 7 λK d=>?_;refine t_ rfl 62 _ _ rfl (j:=0) rfl rfl D.out X7 (je rfl rfl rfl rfl rfl rfl) Y1 ?_;intro z C g;have E:Hid (RT b V S.heap.size cd m fa ta ra fc tc rc z):=⟨HO.out,C,HM.out.a0Q g D.out.t,f.trans (g.below v),v,hep⟩
   all_goals
    replace f:=f.trans (g.below v)
    refine A8 d (F.out _ f) λhH=>?_;clear d K;refine wdn ?_
    go_wp2_with fail
    go_meet
    exact⟨_,_,_,_,_,_,_,_,_,rfl,E⟩
  go_simp;obtain⟨W,I⟩:∃W:World,W=y.alloc (.cells #[.int .i64 0,.int .i64 0,.slice none 0 0,.int .i64 0,.slice none 0 0,.slice none 0 0] 62):=⟨_,rfl⟩;have D:=U0 (I▸X4 y [.int .i64 0,.int .i64 0,.slice none 0 0,.int .i64 0,.slice none 0 0,.slice none 0 0] 62);have O:=I▸Y6;have v:=f.size;have hA:=D.out.lt
  replace f:=f.trans (O.mono v)
  rw[<- I];clear I O;refine A8 d (F.out _ f) λhH=>?_;clear d K;refine rq 2 λK d=>?_;go_simp;refine(HCA.out _ f).mono ?_;rintro e S⟨⟨a1,k1,rfl,h1⟩,l⟩;have S1:=U0 h1
  replace f:=J5 f l
  replace D:=U0 (D.out.below l hA)
  replace hA:=U9 hA l.size
  clear h1 l;go_simp;refine A8 d (F.out _ f) λhH=>?_;clear d K;refine rq 5 λK d=>?_;go_simp;refine(HCB.out _ a1 k1 f S1.out).mono ?_;rintro e R⟨⟨cd,m,vs,rfl,ho,hm,hep⟩,l⟩;obtain⟨fa,fc,ta,tc,ra,rc,rfl,Y,X⟩:=hm;have HO:=U0 ho;have L:=f.size;have HM:Hid (Me R V.heap.size cd m [.int .i64 cd,.int .i64 m.ep,.slice fa m.fs.length fc,.int .i64 m.s.wd,.slice ta m.s.ts.length tc,.slice ra m.s.rs.length rc]):=⟨fa,fc,ta,tc,ra,rc,rfl,lu Y (.below (G5 _ _)) L,Be X L⟩
  replace f:=J5 f l
  replace D:=U0 (D.out.below l hA)
  replace hA:=U9 hA l.size
  clear ho Y X l L;go_simp;refine A8 d (F.out _ f) λhH=>?_;clear d K;refine rq 7 λK d=>?_;refine t_ rfl 62 _ _ rfl (j:=0) rfl rfl D.out X7 (je rfl rfl rfl rfl rfl rfl) Y1 ?_;intro z C g;have E:Hid (RT b V y.heap.size cd m fa ta ra fc tc rc z):=⟨HO.out,C,HM.out.a0Q g D.out.t,f.trans (g.below v),v,hep⟩
  replace f:=f.trans (g.below v)
  refine A8 d (F.out _ f) λhH=>?_;clear d K;refine wdn ?_
  go_wp2_with fail
  go_meet
  exact⟨_,_,_,_,_,_,_,_,_,rfl,E⟩
 obtain⟨M,cd,m,fa,ta,ra,fc,tc,rc,rfl,E⟩:=hcut;have hE:=E.out.ep;have RB:Hid (Uj b m=if m.ep+1<=200/\b.sf.length+b.lo.length<1000 then {b with up:=true,ep:=m.ep+1,fs:=m.fs,s:=m.s,lo:=b.lo++[I4 (m_ (J9 (m.ep+1)))]} else b):=U0 rfl
 go_upto_region 3 with(refine N8 E.out.cm rfl _ _ rfl rfl rfl Y1 ?_)
 go_wp2_with fail
 refine(c99 (m.ep+1) wc).mono ?_;rintro e w2⟨⟨r,rfl,hr⟩,l⟩;have Z:=J5 E.out.bw l;have n:=U0 (H.out.call Z);cases r
 ·have hN:Uj b m=b:=Y7 (λh=>Ik (hr.2 ⟨by omega,h.1⟩));clear hr l
  go_upto_region 4 with fail
  go_wp2_with(first|(refine H8 n.out.h0 rfl 47 _ rfl (j:=0) (bsV b q) rfl rfl underlying47 rfl Y1 ?_)|(refine I7 rfl 47 _ _ rfl (j:=0) rfl rfl n.out.h1 X7 (Y5 rfl) Y1 ?_;intro zz cq oq))
  have bz':=n.out.bw.trans (oq.below (show w.heap.size<=w.heap.size+1 by omega));exact Q7 (J7 (P:=prog) (ty:=47) rfl _ zz (w.heap.size+1) (bsV b q) _ rfl cq.blk underlying47 rfl Y1) rfl ⟨⟨cd,m,q,E.out.out,by rw[hN],by rw[hN];exact HR.out.mv (.below bz') (J8 _)⟩,bz'.mono v⟩
 have hr1:=(hr.1 rfl).2;clear hr;have k5:w2.cell? ⟨w.heap.size,5,none⟩=some (.slice q.sa b.sf.length q.sc):=n.out.h0.cell 5;have k6:w2.cell? ⟨w.heap.size,6,none⟩=some (.slice q.la b.lo.length q.lc):=n.out.h0.cell 6
 go_wp2_with fail
 clear k5 k6;refine(a4A b.sf.length b.lo.length q.sc q.lc q.sa q.la w2 hsl).mono ?_;rintro e w3⟨⟨r,rfl,hr⟩,hb3⟩;have b3:=J5 Z hb3
 replace n:=U0 (H.out.call b3)
 cases r
 rotate_left
 ·have hN:Uj b m=b:=Y7 (λh=>by have:=hr.1 rfl;omega);clear hr l hb3
  go_upto_region 4 with fail
  go_wp2_with(first|(refine H8 n.out.h0 rfl 47 _ rfl (j:=0) (bsV b q) rfl rfl underlying47 rfl Y1 ?_)|(refine I7 rfl 47 _ _ rfl (j:=0) rfl rfl n.out.h1 X7 (Y5 rfl) Y1 ?_;intro zz cq oq))
  have bz':=n.out.bw.trans (oq.below (show w.heap.size<=w.heap.size+1 by omega));exact Q7 (J7 (P:=prog) (ty:=47) rfl _ zz (w.heap.size+1) (bsV b q) _ rfl cq.blk underlying47 rfl Y1) rfl ⟨⟨cd,m,q,E.out.out,by rw[hN],by rw[hN];exact HR.out.mv (.below bz') (J8 _)⟩,bz'.mono v⟩
 have hR':Uj b m={b with up:=true,ep:=m.ep+1,fs:=m.fs,s:=m.s,lo:=b.lo++[I4 (m_ (J9 (m.ep+1)))]}:=L8 ⟨hr1,by have h:=mt hr.2 Ik;omega⟩;have hVw:w.heap.size<V.heap.size:=by have:=H.out.hz;omega
 have hMw:=U9 hVw E.out.hM;have bb:=J5 l hb3;have U:=U0 (E.out.cm.below bb E.out.cm.lt);have J:=U0 (E.out.me.mv (.below bb) (J8 _));have HO:=U0 E.out.out;clear hr l hb3 E RB Z b3 bb
 go_upto_region 6 with(refine Cc rfl 4 _ _ rfl (p:=1) rfl rfl Y1 n.out.h0 E5 ?_;intro z5 C g)
 replace n:Hid (BX w (bsV {b with up:=true} q) z5):=n.out.st C.out g
 replace U:=U0 (U.out.on g O0)
 replace J:=U0 (J.out.mv (.on g (.inl hVw)) (J8 _))
 clear C g
 go_upto_region 7 with(refine Cc rfl 3 _ _ rfl (p:=3) rfl rfl Y1 n.out.h0 E5 ?_;intro z6 C g)
 replace n:Hid (BX w (bsV {b with up:=true,ep:=m.ep+1} q) z6):=n.out.st C.out g
 replace U:=U0 (U.out.on g O0)
 replace J:=U0 (J.out.mv (.on g (.inl hVw)) (J8 _))
 clear C g
 go_upto_region 8 with(first|(refine H8 U.out rfl 40 _ rfl (j:=2) [.slice fa m.fs.length fc] rfl rfl underlying40 rfl Y1 ?_)|(refine I7 rfl 40 _ _ rfl (j:=7) rfl rfl n.out.h0 E5 (Y5 rfl) Y1 ?_;intro z7 C g))
 replace n:Hid (BX w (bsV {b with up:=true,ep:=m.ep+1,fs:=m.fs} {q with fa:=fa,fc:=fc}) z7):=n.out.st C g
 replace U:=U0 (U.out.on g O0)
 replace J:=U0 (J.out.mv (.on g (.inl hVw)) (J8 _))
 clear C g
 go_upto_region 9 with(first|(refine H8 U.out rfl 43 _ rfl (j:=3) [.int .i64 m.s.wd,.slice ta m.s.ts.length tc,.slice ra m.s.rs.length rc] rfl rfl underlying43 rfl Y1 ?_)|(refine I7 rfl 43 _ _ rfl (j:=8) rfl rfl n.out.h0 E5 (Y5 rfl) Y1 ?_;intro z8 C g))
 replace n:Hid (BX w (bsV {b with up:=true,ep:=m.ep+1,fs:=m.fs,s:=m.s} {q with fa:=fa,fc:=fc,ta:=ta,tc:=tc,ra:=ra,rc:=rc}) z8):=n.out.st C g
 replace J:=U0 (J.out.mv (.on g (.inl hVw)) (J8 _))
 clear C g U;have F:Hid (∀u,Bw z8 u->u.cell? ⟨w.heap.size,6,none⟩=some (.slice q.la b.lo.length q.lc)):=λu N=>(n.out.call N).h0.cell 6;have hd:Bw z8 z8.drew:=(G5 _ _).drew;refine wrl 9 F hd Y1 λhH=>?_
 iterate 4 first|refine AL ?_|refine lq 2 hH ?_|refine lq 3 hH ?_
 try simp only[qq]
 refine uy 4 λK d=>?_;go_simp;refine(a4a (m.ep+1) z8.drew (by omega) hr1 (Ir HP.out (J5 n.out.bw hd))).mono ?_;rintro e S⟨rfl,l⟩;generalize I4 (m_ (J9 (m.ep+1)))=x at*;have b1:=hd.trans (l.mono X7);go_simp;refine A8 d (F.out _ b1) λhH=>?_;clear d K;refine uy 5 λK d=>?_;go_simp;have HS:=U0 (X4 S [.string x] 9);have Z:=J5 b1 (Y6 (w:=S) (o:=.cells #[.string x] 9));refine A8 d (F.out _ Z) λhH=>?_;clear d K;generalize S.alloc (.cells #[.string x] 9)=R at*;have Q:=U0 (n.out.call Z)
 replace J:=U0 (J.out.mv (.below Z) (Vt hVw))
 clear n F b1 Z hd l;refine uy 6 λK d=>?_;refine Ea rfl _ _ 22 rfl A 9 1 underlying22 (Zc Y1) Z5 _ b.lo.length (b.lo.map .string) rfl (own_below HR.out.lo Q.out.bw) _ 1 [.string x] rfl (.inr ⟨⟨S.heap.size,0,none⟩,1,rfl,rfl,Ti HS.out⟩) (Y5 rfl) O0 (I8 v Q.out.bw.size) ?_;intro v' w6 O6 g6 hv6;obtain⟨a6,c6,rfl⟩:=V9 O6;have RA:=U0 (MV (m.ep+1) HR.out Q.out.bw v J.out g6 O6 hv6);have B6:=U0 (W_ (Q.out.bw.mono v) g6 (I8 v Q.out.bw.size) (λk hk=>Z4 HR.out.lo hk));have C0:Hid (Cl w6 w.heap.size 47 (bsV {b with up:=true,ep:=m.ep+1,fs:=m.fs,s:=m.s} {q with fa:=fa,fc:=fc,ta:=ta,tc:=tc,ra:=ra,rc:=rc})):=U0 ((g6.block w.heap.size Q.out.h0.lt (λe=>by have:=X9 HR.out.lo e.symm;omega)).trans Q.out.h0);have C1:Hid (Cl w6 (w.heap.size+1) 47 bz):=U0 ((g6.block (w.heap.size+1) Q.out.h1.lt (λe=>by have:=X9 HR.out.lo e.symm;omega)).trans Q.out.h1);clear O6 g6 hv6 HS Q J;refine A8 d (C0.out.cell 6) λhH=>?_;clear d K;refine uy 7 λK d=>?_;go_simp;refine A8 d (C0.out.cell 6) λhH=>?_;clear d K;refine AL ?_;refine iZ λK d=>?_;refine Gn rfl (Il 22 _ _ rfl (B:=w.heap.size) (j:=6) rfl rfl ⟨_,C0.out.cell 6⟩ (C0.out.opn 6) Y1) ?_;have hs:=O_ w6 w.heap.size 6 (.slice a6 (b.lo.length+1) c6);have C0':Hid (Cl (w6.setCell ⟨w.heap.size,6,none⟩ (.slice a6 (b.lo.length+1) c6)) w.heap.size 47 (bsV {b with up:=true,ep:=m.ep+1,fs:=m.fs,s:=m.s,lo:=b.lo++[x]} {q with fa:=fa,fc:=fc,ta:=ta,tc:=tc,ra:=ra,rc:=rc,la:=a6,lc:=c6})):=U0 (by
  have h:=C0.out.set 6 (.slice a6 (b.lo.length+1) c6);unfold bsV;rw[show(b.lo++[x]).length=b.lo.length+1 by simp];exact h)
 replace C1:=U0 (C1.out.on hs O0)
 replace RA:=U0 (RA.out.mv (.on hs (.inr C0.out.t)) (J8 _))
 replace B6:=U0 (B6.out.trans (hs.below v))
 change K _ (w6.setCell ⟨w.heap.size,6,none⟩ (.slice a6 (b.lo.length+1) c6));clear C0 hs;generalize w6.setCell ⟨w.heap.size,6,none⟩ (.slice a6 (b.lo.length+1) c6)=w7 at*;refine d.out _ _ ?_;clear d K
 try simp only[qq]
 refine ig Y1 ?_ _
 go_wp2_with(first|(refine H8 C0'.out rfl 47 _ rfl (j:=0) (bsV {b with up:=true,ep:=m.ep+1,fs:=m.fs,s:=m.s,lo:=b.lo++[x]} {q with fa:=fa,fc:=fc,ta:=ta,tc:=tc,ra:=ra,rc:=rc,la:=a6,lc:=c6}) rfl rfl underlying47 rfl Y1 ?_)|(refine I7 rfl 47 _ _ rfl (j:=0) rfl rfl C1.out X7 (Y5 rfl) Y1 ?_;intro zz cq oq))
 exact Q7 (J7 (P:=prog) (ty:=47) rfl _ zz (w.heap.size+1) (bsV {b with up:=true,ep:=m.ep+1,fs:=m.fs,s:=m.s,lo:=b.lo++[x]} {q with fa:=fa,fc:=fc,ta:=ta,tc:=tc,ra:=ra,rc:=rc,la:=a6,lc:=c6}) _ rfl cq.blk underlying47 rfl Y1) rfl ⟨⟨cd,m,_,HO.out,by rw[hR'],by rw[hR'];exact RA.out.mv (.on oq (.inr C1.out.t)) (J8 _)⟩,B6.out.trans (oq.below (by omega))⟩

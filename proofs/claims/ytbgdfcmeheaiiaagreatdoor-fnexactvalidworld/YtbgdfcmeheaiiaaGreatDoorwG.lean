import Derived.Test.YtbgdfcmeheaiiaaGreatDoorR5
import Derived.Test.YtbgdfcmeheaiiaaGreatDooryKY4
import Derived.Test.YtbgdfcmeheaiiaaGreatDoorpD
set_option maxHeartbeats 8000000
set_option maxRecDepth 100000
set_option linter.unusedVariables false
set_option linter.unusedSimpArgs false
namespace Go.Proofs.YtbgdfcmeheaiiaaGreatDoor
open Proofs.Tryz Go.RowKit
variable{w w':World}{b k:Nat}{m:MS}{vs:List Value}{es:LB}{W cd:Int}
def MeO(w:World)(b:Nat)(m:MS)(vs:List Value):Prop:=MOk m/\∃fa fc ta tc ra rc,vs=[.int .i64 0,.int .i64 m.ep,.slice fa m.fs.length fc,.int .i64 m.s.wd,.slice ta m.s.ts.length tc,.slice ra m.s.rs.length rc]/\T.ku b w fa m.fs/\Bd w b m.s.ts m.s.rs (.slice ta m.s.ts.length tc) (.slice ra m.s.rs.length rc)
def Rp7(w:World)(es:LB)(W:Int)(e:Ending)(w':World):Prop:=∃vs,e=.returned (.agg vs.toArray)/\((¬Vx es W/\vs=[.int .i64 1,.int .i64 0,.slice none 0 0,.int .i64 0,.slice none 0 0,.slice none 0 0])\/(Vx es W/\∃o,rH RE es (FY W) o/\((o=none/\vs=[.int .i64 2,.int .i64 0,.slice none 0 0,.int .i64 0,.slice none 0 0,.slice none 0 0])\/∃m,o=some m/\MeO w' w.heap.size m vs)))
theorem MeO.keep{b':Nat}(h:MeO w b m vs)(d:w.heap.size<=w'.heap.size)(a:∀q t,Oj w q t->t≠117->w'.heap[q]?=w.heap[q]?)(c:b'<=b):MeO w' b' m vs:=by
 obtain⟨h0,fa,fc,ta,tc,ra,rc,h1,h2,f⟩:=h;exact⟨h0,fa,fc,ta,tc,ra,rc,h1,Ar h2 d (λq e=>a q 166 e J6) c,Qv (Es f (λq t hT ht=>a q t hT (by rcases ht with rfl|rfl|rfl<;>decide))) c⟩
theorem kP{u z:World}{a:Array Value}(hc:Cl u w.heap.size 117 [.int .i64 0,.int .i64 0,.slice none 0 0,.int .i64 0,.slice none 0 0,.slice none 0 0])(g:Cl z w.heap.size 117 vs)(b:Wx w.heap.size u z)(d:Bw w u)(hl:vs.length=6)(c:a.getD 4 undef=.pointer (some ⟨w.heap.size,0,none⟩))(f:∀z:World,u.heap.size<=z.heap.size->(∀q t,Oj u q t->t≠117->z.heap[q]?=u.heap[q]?)->Rp7 w es W (.returned (.agg vs.toArray)) z):bodyPost prog f64 (λe w'=>Rp7 w es W e w'/\Bw w w') .ret ⟨a,[]⟩ z:=
 o7 (v:=.agg vs.toArray) (I8 (P:=prog) (ty:=117) rfl a z w.heap.size vs _ c g.blk underlying117 rfl (by rw[hl];kernel_rfl)) rfl ⟨f z (Zj b.size.symm) (λq t hT ht=>b.block q (λe=>ht (V9 (e▸hT) (E_ hc)))),d.trans (b.below Y8)⟩
theorem c64(a:OA)(cap:Nat)(es:LB)(W:Int)(w:World)(hl:es.length<=1048576)(hs:∀i,(es.getD i ByteArray.empty).size<=1048576)(hat:o8 w a es)(hmx:Oc w):
 Calls prog 64 #[.slice a es.length cap,.int .i64 W] w λe w'=>Rp7 w es W e w'/\Bw w w':=by
 have HAT:=U0 hat;have HSZ:=U0 hs;have HMX:=U0 hmx;clear hat hs hmx
 go_in
 go_upto_region 1 with fail
 obtain⟨V,hV⟩:∃V:World,V=w.alloc (.cells #[vO,vO,vN,vO,vN,vN] 117):=⟨_,rfl⟩;rw[<- hV];have O:Bw w V:=by rw[hV];exact P6
 have q:Hid (Cl V w.heap.size 117 [vO,vO,vN,vO,vN,vN]):=by show Cl _ _ _ _;rw[hV];exact U3 w [vO,vO,vN,vO,vN,vN] 117
 have B:V.heap.size=w.heap.size+1:=by rw[hV];simp
 have HZ:=U0 B;clear hV B;have A:Hid (∀v∈([vI 1,vO,vN,vO,vN,vN]:List Value),v.oneCell'=true):=Ef rfl rfl rfl rfl rfl rfl;by_cases hw:1<=W/\W<=8;rotate_left
 ·have HBD:Hid (¬Vx es W):=λh=>hw h.1;have hd:=y9 hw
  go_wp2_with fail
  refine(QU W V).mono ?_;rintro e V1⟨rfl,Z⟩;obtain rfl:=Z.symm;rw[hd]
  go_wp2_with(refine N8 rfl 117 _ _ rfl (j:=0) rfl rfl q.out Y8 A.out Y0 ?_;intro z g d)
  exact kP q g d O rfl rfl (λz _ _=>⟨_,rfl,.inl ⟨HBD,rfl⟩⟩)
 have hd:=m_ hw
 go_wp2_with fail
 refine(QU W V).mono ?_;rintro e V1⟨rfl,Z⟩;obtain rfl:=Z.symm;rw[hd];by_cases hbig:1000<es.length
 ·have HBD:Hid (¬Vx es W):=λh=>by have:=h.2;omega
  have c:(1000:Int)<es.length:=O0
  go_wp2_with(refine N8 rfl 117 _ _ rfl (j:=0) rfl rfl q.out Y8 A.out Y0 ?_;intro z g d)
  exact kP q g d O rfl rfl (λz _ _=>⟨_,rfl,.inl ⟨HBD,rfl⟩⟩)
 have c:¬(1000:Int)<es.length:=O0;have HIN:Hid (Vx es W):=⟨hw,O0⟩
 go_upto_region 3 with fail
 go_wp2_with fail
 refine(a2D ⟨W,[],[]⟩ none none 0 0 V (Gs hw) (TS (Gs hw)) ⟨.inl rfl,.inl rfl⟩ (H9 HMX O)).mono ?_;rintro e y⟨⟨H,bT,bR,bP,rv,rfl,hsh⟩,o⟩;have HSH:=U0 hsh;have b2:=P5 O o;have r:=U0 (q.out.below o q.out.lt);have hV2:w.heap.size+1<=y.heap.size:=by have:=o.size;have:=HZ.out;omega
 have HVB:=U0 (Zj HZ.out.symm);clear hsh o q hd
 go_upto_region 4 with fail
 obtain⟨U,N⟩:∃U:World,U=y.alloc (.cells #[vO,vN,.pointer (some (aA H 0))] 205):=⟨_,rfl⟩;rw[<- N];have P:Bw y U:=by rw[N];exact P6
 have HI:Hid (ImM (w.heap.size+1) y.heap.size (FY W) U):=by
  refine⟨none,0,H,V.heap.size,bT,bR,bP,rv,a1i hw,?_,⟨.inl rfl,.inl rfl⟩,HSH.out.below' P,HVB,hV2⟩;rw[N];exact U3 y [_,_,_] 205
 have CU:=U0 (r.out.below P r.out.lt);have HB:=U0 (P5 b2 P);clear N P r b2 HSH c;generalize y.heap.size=R at*;go_wp2;go_loopw[25] (λi wr=>∃(k:Nat)(f:Nat->u_)(m:MS),i=.int .i64 k/\k<=es.length/\Hid (∀j,j<k->RE (eL es j) (f j) true)/\Hid (rn f (FY W) k=some m)/\Hid (Below w.heap.size w wr)/\Hid (Cl wr w.heap.size 117 [.int .i64 0,.int .i64 0,.slice none 0 0,.int .i64 0,.slice none 0 0,.slice none 0 0])/\Hid (ImM (w.heap.size+1) R m wr)) (λi _=>es.length-(RowKit.intOf i).toNat);exact⟨0,λ_=>Ji,_,rfl,I4 _,λj h=>absurd h (U7 _),rfl,HB,CU,HI⟩;obtain⟨k,f,m,rfl,hk,F,E,J,I,Q⟩:=hrel;clear HI CU HB;by_cases L:k<es.length;rotate_left
 ·obtain rfl:k=es.length:=O0;obtain⟨fa,fc,H1,t,bT1,bR1,bP1,rv1,D⟩:=Q.out;have bd:Bw wr wr.drew:=(J4 _ _).drew;have n:=U0 (D.below bd);have CD:=U0 (I.out.below bd I.out.lt);have BD:=U0 (P5 J bd);clear D Q
  go_upto_region 11 with fail
  refine wp_region_held_drew (S:=λu=>u.cell? (aA R 0)=some (vI m.ep)/\u.cell? (aA R 1)=some (vL fa m.fs.length fc)/\u.cell? (aA R 2)=some (.pointer (some (aA H1 0)))) Y0 ⟨n.out.cr.cell 0,n.out.cr.cell 1,n.out.cr.cell 2⟩ λhH=>?_
  iterate 6 refine sq ?_
  have a6b:=U0 (a5a t H1 bT1 bR1 bP1 m.s.wd m.s.ts m.s.rs rv1 wr.drew n.out.sh n.out.ok.st.1 (Q8 n.out.ok.st.2.1.1 J6) (Q8 n.out.ok.st.2.2.1 J6) (λi=>Q8 (RJ n.out.ok.st i) J6));refine rq 6 λK C=>?_;go_simp;refine a6b.out.mono ?_;rintro e Y⟨⟨ta,tc,ra,rc,rfl,hso⟩,c⟩;have l:=U0 (n.out.below c);have p:=U0 (CD.out.below c CD.out.lt);have B1w:=U0 (P5 BD c);have HSO:=U0 hso;clear a6b hso c hH;refine X8 C ⟨l.out.cr.cell 0,l.out.cr.cell 1,l.out.cr.cell 2⟩ λhH=>?_;clear C K;refine sq ?_;refine rq 8 λK C=>?_;refine Va rfl 117 _ _ rfl (j:=0) rfl rfl p Y8 (Ef rfl rfl rfl rfl rfl rfl) Y0 ?_;intro z g d;have CZ:=U0 g;have OZ:=U0 d;have hRR:R≠w.heap.size:=by have:=l.out.hR;omega
  have c3:=l.out.cr.on d hRR;clear hH g d;refine X8 C ⟨c3.cell 0,c3.cell 1,c3.cell 2⟩ λhH=>?_;clear C K c3;refine wdn ?_;clear hH
  go_wp2_with fail
  have HME:Hid (MeO Y w.heap.size m [vO,vI m.ep,vL fa m.fs.length fc,vI m.s.wd,vL ta m.s.ts.length tc,vL ra m.s.rs.length rc]):=⟨l.out.ok,fa,fc,ta,tc,ra,rc,rfl,Ar l.out.nf Y8 (λ_ _=>rfl) O0,Qv HSO BD.out.size⟩;exact kP p CZ OZ B1w rfl rfl (λz hz1 hz2=>⟨_,rfl,.inr ⟨HIN,_,sS F E,.inr ⟨m,rfl,HME.out.keep hz1 hz2 Y8⟩⟩⟩)
 obtain⟨b,off,hst⟩:=O_ (X5 HAT.out J.out);obtain⟨rfl,hbw,hce⟩:=Zb hst L;have hc0:=hce k L;clear hce;have HRD:=U0 (c116 (es.getD k ByteArray.empty) wr (HSZ k) (H9 HMX J));have HEL:Hid ((es.getD k ByteArray.empty).data.toList=eL es k):=rfl;generalize es.getD k ByteArray.empty=s at*
 go_upto_region 7 with fail
 go_wp2_with fail
 refine HRD.out.mono ?_;rintro e Y⟨hx,c⟩;rw[HEL.out]at hx;obtain⟨fa,fc,H1,t,bT1,bR1,bP1,rv1,D⟩:=Q.out;have l:=U0 (D.below c);have t:=U0 (P5 J c);have p:=U0 (I.out.below c I.out.lt);clear HRD D Q hc0 I J c;rcases hx with⟨rfl,B⟩|⟨x,ai,ci,rfl,hx,_,hxl,hlk⟩
 ·have HBAD:=U0 (B Ji);have A:Hid (∀v∈([vI 2,vO,vN,vO,vN,vN]:List Value),v.oneCell'=true):=Ef rfl rfl rfl rfl rfl rfl;clear B
  go_wp2_with(refine N8 rfl 117 _ _ rfl (j:=0) rfl rfl p.out Y8 A.out Y0 ?_;intro z g d)
  exact kP p g d t rfl rfl (λz _ _=>⟨_,rfl,.inr ⟨HIN,_,pY L F E HBAD,.inl ⟨rfl,rfl⟩⟩⟩)
 have HX:=U0 hx;have HCD:=U0 (c117 (w.heap.size+1) R m x ai ci Y ⟨_,_,_,_,_,_,_,_,l⟩ (Q8 (Nat.succ_le_of_lt p.out.lt) Y8) (H9 HMX t) (hx.1 rfl).1 hxl hlk.at');clear hx hxl hlk;generalize AV x ai ci=xv at*
 go_upto_region 8 with fail
 go_wp2_with fail
 refine HCD.out.mono ?_;rintro e w2⟨⟨rfl,hm2⟩,o⟩;have HM2:=U0 hm2;have r:=U0 (p.out.below o O0);have B2:=U0 (t.out.trans (o.mono O0));clear HCD hm2 o p t l
 cases hd:dn m x with
 | none=>
  have X:=U0 hd;have A:Hid (∀v∈([vI 2,vO,vN,vO,vN,vN]:List Value),v.oneCell'=true):=Ef rfl rfl rfl rfl rfl rfl;clear hd HM2
  go_wp2_with(refine N8 rfl 117 _ _ rfl (j:=0) rfl rfl r.out Y8 A.out Y0 ?_;intro z g d)
  exact kP r g d B2 rfl rfl (λz _ _=>⟨_,rfl,.inr ⟨HIN,_,sQ L F E HX X,.inl ⟨rfl,rfl⟩⟩⟩)
 | some m'=>
  have X:=U0 hd;have HMM:=U0 (HM2.out m' hd);clear hd HM2;go_wp2;go_roundw;exact⟨k+1,upd f k x,m',by go_num,O0,(ay F.out E.out HX.out X.out).1,(ay F.out E.out HX.out X.out).2,B2,r,HMM⟩;exact P9
structure Sml(m:MS):Prop where
 fl:m.fs.length<=40
 tl:m.s.ts.length<=300
 rl:m.s.rs.length<=150
 gl:∀i,(m.s.rs.getD i j_).gs.length<=1000
 gz:Iy m.s.rs<=150000
def Rd(w:World)(cd:Int)(m:MS)(vs:List Value):Prop:=∃fa fc ta tc ra rc,vs=[.int .i64 cd,.int .i64 m.ep,.slice fa m.fs.length fc,.int .i64 m.s.wd,.slice ta m.s.ts.length tc,.slice ra m.s.rs.length rc]/\T.U5 w fa m.fs/\Ig w ta ra m.s
def Me(w:World)(b:Nat)(cd:Int)(m:MS)(vs:List Value):Prop:=∃fa fc ta tc ra rc,vs=[.int .i64 cd,.int .i64 m.ep,.slice fa m.fs.length fc,.int .i64 m.s.wd,.slice ta m.s.ts.length tc,.slice ra m.s.rs.length rc]/\T.ku b w fa m.fs/\Bd w b m.s.ts m.s.rs (.slice ta m.s.ts.length tc) (.slice ra m.s.rs.length rc)
def PY:MS:=⟨0,[],⟨0,[],[]⟩⟩
def Out(R:List UInt8->u_->Bool->Prop)(es:LB)(W:Int)(cd:Int)(m:MS):Prop:=Sml m/\((¬Vx es W/\cd=1/\m=PY)\/(Vx es W/\∃o,rH R es (FY W) o/\((o=none/\cd=2/\m=PY)\/(o=some m/\cd=0))))
theorem UW{c:Int}{m':MS}(h:Out RES es W cd m)(a:Out RE es W c m'):c=cd/\m'=m:=by
 obtain⟨_,h⟩:=h;obtain⟨_,a⟩:=a;rcases h with⟨h1,rfl,rfl⟩|⟨h1,o,h2,e⟩
 ·rcases a with⟨_,rfl,rfl⟩|⟨k,_⟩
  ·exact⟨rfl,rfl⟩
  exact absurd k h1
 rcases a with⟨k,_⟩|⟨_,o',d,b⟩
 ·exact absurd h1 k
 have:=a0U h2 d;subst this;rcases e with⟨rfl,rfl,rfl⟩|⟨rfl,rfl⟩
 ·rcases b with⟨_,rfl,rfl⟩|⟨k,_⟩
  ·exact⟨rfl,rfl⟩
  cases k
 rcases b with⟨k,_⟩|⟨k,rfl⟩
 ·cases k
 exact⟨rfl,(D_ k).symm⟩
theorem a0C(rs:List R3)(h:∀x∈rs,x.gs.length<=1000):Iy rs<=rs.length*1000:=by
 induction rs with
 | nil=>decide
 | cons x r ih=>
  have:=ih (λy a=>h y (vg _ a));have hx:=h x (Nq ..);unfold Iy at this ⊢;simp only[Hr,List.sum_cons,x_];omega
theorem OQ(h:MOk m):Sml m:=by
 have h1:=h.st.2.1.1;have h2:=h.st.2.2.1;have a:=RJ h.st;refine⟨h.fl,h1,h2,a,Q8 (a0C _ (λx hx=>?_)) O0⟩;obtain⟨i,b,rfl⟩:=Ce hx;have:=a i
 rwa[show m.s.rs.getD i j_=m.s.rs[i] from by simp[List.getD,b]]at this
theorem BL:Sml PY:=⟨J6,J6,J6,λi=>by show(0:Nat)<=1000;omega,J6⟩
theorem a2h(w:World)(b:Nat)(cd:Int):Me w b cd PY [.int .i64 cd,.int .i64 0,.slice none 0 0,.int .i64 0,.slice none 0 0,.slice none 0 0]:=⟨none,0,none,0,none,0,rfl,⟨.inl rfl,.inl rfl⟩,Yp _ _⟩
theorem Me.rd(h:Me w b cd m vs):Rd w cd m vs:=by
 obtain⟨fa,fc,ta,tc,ra,rc,h1,h2,a⟩:=h;exact⟨fa,fc,ta,tc,ra,rc,h1,h2.1,Pz a⟩
theorem Rd.below(h:Rd w cd m vs)(a:Bw w w'):Rd w' cd m vs:=by
 obtain⟨fa,fc,ta,tc,ra,rc,h1,h2,b⟩:=h;exact⟨fa,fc,ta,tc,ra,rc,h1,T.X4 h2 a,b.below a⟩
theorem Me.keep(h:Me w b cd m vs)(c:w.heap.size<=w'.heap.size)(d:∀q,b<=q->q<w.heap.size->w'.heap[q]?=w.heap[q]?):Me w' b cd m vs:=by
 obtain⟨fa,fc,ta,tc,ra,rc,h1,h2,a⟩:=h;refine⟨fa,fc,ta,tc,ra,rc,h1,?_,a.keep d⟩;obtain⟨hf,h⟩:=h2;rcases h with h0|⟨g,rfl,f,ho,ht⟩
 ·exact⟨.inl h0,.inl h0⟩
 have e:=d g f ho.1;refine⟨?_,.inr ⟨g,rfl,f,⟨G9 ho.1 c,λj k=>by rw[Xl e];exact ho.2.1 j k,λj=>by rw[uP e];exact ho.2.2 j⟩,?_⟩⟩
 ·rcases hf with h0|⟨b,off,h1,h2,a⟩
  ·exact .inl h0
  injection h1 with h1;injection h1 with h1 h4;subst h1 h4;exact .inr ⟨g,0,rfl,G9 h2 c,λi l=>by rw[Xl e,Xl e];exact a i l⟩
 obtain⟨cur,hc⟩:=ht;exact⟨cur,e.trans hc⟩
theorem a4g(a:OA)(c:Nat)(es:LB)(W:Int)(w:World)(hl:es.length<=1048576)(d:∀i,(es.getD i ByteArray.empty).size<=1048576)(j:o8 w a es)(f:Oc w):
 Calls prog 64 #[.slice a es.length c,.int .i64 W] w λe w'=>(∃cd m vs,e=.returned (.agg vs.toArray)/\Out RE es W cd m/\Me w' w.heap.size cd m vs)/\Bw w w':=by
 refine(c64 a c es W w hl d j f).mono ?_;rintro e w'⟨⟨vs,rfl,h⟩,g⟩;refine⟨?_,g⟩;rcases h with⟨h1,rfl⟩|⟨h1,o,h2,b⟩
 ·exact⟨1,PY,_,rfl,⟨BL,.inl ⟨h1,rfl,rfl⟩⟩,a2h _ _ _⟩
 rcases b with⟨rfl,rfl⟩|⟨m,rfl,b⟩
 ·exact⟨2,PY,_,rfl,⟨BL,.inr ⟨h1,_,h2,.inl ⟨rfl,rfl,rfl⟩⟩⟩,a2h _ _ _⟩
 obtain⟨h0,k⟩:=b;exact⟨0,m,_,rfl,⟨OQ h0,.inr ⟨h1,_,h2,.inr ⟨rfl,rfl⟩⟩⟩,k⟩
def DY(b:Bs)(m:MS):Prop:=1<=b.ep/\b.ep=m.ep/\b.fs=m.fs/\b.s=m.s
theorem a1x(h:Sml m):m.s.ts.length<=1048576/\m.s.rs.length<=1048576/\∀i,(m.s.rs.getD i j_).gs.length<=1048576:=⟨Q8 h.tl J6,Q8 h.rl J6,λi=>Q8 (h.gl i) J6⟩
theorem c67(b:Bs)(q:Ba)(cd:Int)(m:MS)(fa ta ra:OA)(fc tc rc:Nat)(w:World)(hl:Bo b 1048576)(hm:Sml m)(A:Dn w b q)(hf:T.U5 w fa m.fs)(y:Ig w ta ra m.s):
 Calls prog 67 #[.agg (bsV b q).toArray,.agg #[.int .i64 cd,.int .i64 m.ep,.slice fa m.fs.length fc,.int .i64 m.s.wd,.slice ta m.s.ts.length tc,.slice ra m.s.rs.length rc]] w λe w'=>Rb (DY b m) e/\Bw w w':=by
 have H:=U0 A;have F:=U0 hl;have E:=U0 hm;have L:=U0 hf;have K:=U0 y;clear A hl hm hf y
 go_in
 go_upto_region 1 with fail
 have d:=U0 (G8 (U3 w (bsV b q) 53) (.cells #[vI cd,vI m.ep,vL fa m.fs.length fc,vI m.s.wd,vL ta m.s.ts.length tc,vL ra m.s.rs.length rc] 117));have c:Hid (Cl ((w.alloc (.cells (bsV b q).toArray 53)).alloc (.cells #[vI cd,vI m.ep,vL fa m.fs.length fc,vI m.s.wd,vL ta m.s.ts.length tc,vL ra m.s.rs.length rc] 117)) (w.heap.size+1) 117 [vI cd,vI m.ep,vL fa m.fs.length fc,vI m.s.wd,vL ta m.s.ts.length tc,vL ra m.s.rs.length rc]):=by show Cl _ _ _ _;have h:=U3 (w.alloc (.cells (bsV b q).toArray 53)) [vI cd,vI m.ep,vL fa m.fs.length fc,vI m.s.wd,vL ta m.s.ts.length tc,vL ra m.s.rs.length rc] 117;simpa using h
 have f:Hid (Bw w ((w.alloc (.cells (bsV b q).toArray 53)).alloc (.cells #[vI cd,vI m.ep,vL fa m.fs.length fc,vI m.s.wd,vL ta m.s.ts.length tc,vL ra m.s.rs.length rc] 117))):=P6.alloc O4 _;generalize (w.alloc (.cells (bsV b q).toArray 53)).alloc (.cells #[vI cd,vI m.ep,vL fa m.fs.length fc,vI m.s.wd,vL ta m.s.ts.length tc,vL ra m.s.rs.length rc] 117)=V at*;have D:=d.out.cell 3;have C:=d.out.cell 7;have l:=d.out.cell 8;have k:=d.out.cell 9;have n:=d.out.cell 10;simp only[gz]at D C l k n;have t:=c.out.cell 1;have B:=c.out.cell 2;have j:=c.out.cell 3;have i:=c.out.cell 4;have g:=c.out.cell 5;simp only[gz]at t B j i g;by_cases h1:1<=b.ep;rotate_left
 ·have o:Hid (¬DY b m):=λh=>h1 h.1;go_wp2;go_ret;exact⟨I5 o,f⟩
 by_cases h2:b.ep=m.ep;rotate_left
 ·have o:Hid (¬DY b m):=λh=>h2 h.2.1;go_wp2;go_ret;exact⟨I5 o,f⟩
 rw[<- h2]at t
 go_wp2_with fail
 refine(a4j b.fs m.fs q.fa fa q.fc fc V F.out.fl (Q8 E.out.fl J6) (T.X4 H.out.fs f) (T.X4 L f)).mono ?_;rintro e I⟨⟨u,rfl,a⟩,p⟩;have x:=U0 (d.out.below p d.out.lt);have v:=U0 (c.out.below p c.out.lt);have r:=U0 (P5 f p);clear p D C l k n t B j i g d c f
 cases u with
 | false=>
  have o:Hid (¬DY b m):=λh=>by have:=a.2 h.2.2.1;cases this
  clear a;go_wp2;go_ret;exact⟨I5 o,r⟩
 | true=>
 have J:=U0 (a.1 rfl);clear a;have l:=x.out.cell 8;have k:=x.out.cell 9;have n:=x.out.cell 10;simp only[gz]at l k n;have j:=v.out.cell 3;have i:=v.out.cell 4;have g:=v.out.cell 5;simp only[gz]at j i g
 go_wp2_with fail
 refine(a2z b.s m.s q.ta q.ra ta ra q.tc q.rc tc rc I (qX F.out.st) (a1x E) (H.out.st.below r) (K.out.below r)).mono ?_;rintro e w2⟨⟨u,rfl,a⟩,z⟩;have O:=U0 (P5 r z);have N:Hid (u=true↔DY b m):=⟨λh=>⟨h1,h2,J,a.1 h⟩,λh=>a.2 h.2.2.2⟩;clear a z l k n j i g;go_wp2;go_ret;exact⟨⟨_,rfl,N⟩,O⟩
def JJ(rt:LB):Prop:=rt.length<=10/\∀i,i<rt.length->Y5 (rt.getD i ByteArray.empty).data.toList=true/\rt.getD i ByteArray.empty∉rt.take i
theorem kG{off:Nat}{rt:LB}(hk:k<=rt.length)(hl:b<w.heap.size)(h:∀i,i<rt.length->w.cell? ⟨b,off+i,none⟩=some (.string (rt.getD i ByteArray.empty))):G.zG w (some ⟨b,off,none⟩) (rt.take k):=.inr ⟨b,off,rfl,hl,λi a=>by
 have h1:i<rt.length:=by simp at a;omega
 have h2:i<k:=by simp at a;omega
 rw[h i h1];simp[List.getD,h1,h2]⟩
theorem Xo{α:Type}{l:List α}(a:k<=l.length):(l.take k).length=k:=by rw[L_,Oq a]
theorem c68(a:OA)(o:Nat)(rt:LB)(w:World)(hcp:rt.length<=o)(hl:rt.length<=1048576)(q:∀i,(rt.getD i ByteArray.empty).size<=1048576)(r:o8 w a rt):
 Calls prog 68 #[.slice a rt.length o] w λe w'=>Rb (JJ rt) e/\w'=w:=by
 obtain⟨b,off,hc⟩:=O_ r;have D:=U0 hc;have y:=U0 q;clear hc r q
 go_in
 by_cases t:rt.length<=10;rotate_left
 ·have d:Hid (¬JJ rt):=λh=>t h.1;have z:(10:Int)<rt.length:=O0;go_wp2;go_ret;exact⟨I5 d.out,rfl⟩
 have z:¬(10:Int)<rt.length:=O0;go_wp2;go_loop[10] (λi=>∃k:Nat,k<=rt.length/\i=.int .i64 k/\Hid (∀j,j<k->Y5 (rt.getD j ByteArray.empty).data.toList=true/\rt.getD j ByteArray.empty∉rt.take j)) (λi=>rt.length-(RowKit.intOf i).toNat);exact⟨0,I4 _,rfl,λj h=>absurd h (U7 _)⟩;obtain⟨k,g,rfl,hd⟩:=hrel;by_cases f:k<rt.length;rotate_left
 ·obtain rfl:k=rt.length:=O0;have x:Hid (JJ rt):=⟨t,hd.out⟩;go_wp2;go_ret;exact⟨F_ x.out,rfl⟩
 obtain⟨ha,v,n⟩:=Zb D.out f;subst ha;have g0:=n k f;have hsz:=y.out k;have C:Hid (Y5 (rt.getD k ByteArray.empty).data.toList=true/\rt.getD k ByteArray.empty∉rt.take k->∀j,j<k+1->Y5 (rt.getD j ByteArray.empty).data.toList=true/\rt.getD j ByteArray.empty∉rt.take j):=λl j hj=>by
  rcases P7 j k with h|h
  ·exact hd.out j h
  obtain rfl:j=k:=O0;exact l
 have d:Hid (¬(Y5 (rt.getD k ByteArray.empty).data.toList=true/\rt.getD k ByteArray.empty∉rt.take k)->¬JJ rt):=λl h=>l (h.2 k f);have m:=λs=>G.a4W (some (aA b off)) o (rt.take k) s w (by rw[Xo g];omega) (kG g v n);simp only[Xo g]at m;have A:=U0 m;generalize rt.getD k ByteArray.empty=X at*;clear n hd m
 go_wp2_with fail
 refine(c124 X w O0).mono ?_;rintro e u⟨rfl,hw⟩;obtain rfl:=hw.symm;by_cases c:Y5 X.data.toList=true;rotate_left
 ·have p:=U0 (d.out (λh=>c h.1));rw[Pj.2 c];go_wp2;go_ret;exact⟨I5 p.out,rfl⟩
 rw[c]
 go_wp2_with fail
 refine(A.out X).mono ?_;rintro e u⟨rfl,hw⟩;obtain rfl:=hw.symm;by_cases hm:X∈rt.take k
 ·have p:=U0 (d.out (λh=>h.2 hm));rw[G.Rh.2 hm];go_wp2;go_ret;exact⟨I5 p.out,rfl⟩
 have B:=U0 (C.out ⟨c,hm⟩);rw[Pj.2 (λh=>hm (G.Rh.1 h))];go_wp2
 go_round
 exact⟨k+1,O0,by go_num,B⟩;exact P9
theorem mD{P:Program}{ops:Array Oper}{Q:Exit->Act->World->Prop}{rest:List Oper}{o:Oper}{a:Act}(hw:Region.wanted o (yielded ops a.tmps)=true)(ty:TypeId)(x:Operand)(ho:o.op=.load ty x){B:Nat}{t:TypeId}{cs:List Value}{d:TypeDesc}(hx:a.eval x=.pointer (some ⟨B,0,none⟩))(hB:Cl w B t cs)(b:P.underlying ty=some d)(hd:(match d with | .struct _ | .array _ _=>true|_=>false)=true)(c:(P.info? ty).map (·.size)=some cs.length)(h:wpList P ops Q rest (a.put o.dst (.agg cs.toArray)) w):wpList P ops Q (o::rest) a w:=by
 refine wpList_step λK e=>?_;rw[D8 hw];unfold Oper.wp;rw[I7 ty x ho hx (λi v hv=>by rw[l7,hB.cell];exact hv) b hd c];exact e _ _ h
def QE(ms:List M3)(rn:List Rn):Prop:=∀i,i<rn.length->(∃j,j<ms.length/\(ms.getD j C_).nm=(rn.getD i Aa).nm)/\Pg (rn.getD i Aa)/\(0<i->Op.bytesLess (rn.getD (i-1) Aa).nm.toList (rn.getD i Aa).nm.toList=true)
theorem vT(x:Rn)(b:OA)(a:Nat):∀v∈YC (x,.slice b x.ls.length a),v.oneCell'=true:=λv hv=>by
 simp[YC]at hv;rcases hv with rfl|rfl|rfl|rfl|rfl|rfl<;>rfl
theorem c69(a pa:OA)(cap pc:Nat)(rn:List Rn)(ms:List M3)(w:World)(hl:rn.length<=1048576)(hs:∀i,(rn.getD i Aa).le 1048576)(hm:ms.length<=300)(hasc:G.QB ms)(hat:uj w a rn)(hmk:G.Ql w pa ms):
 Calls prog 69 #[.slice a rn.length cap,.slice pa ms.length pc] w λe w'=>Rb (QE ms rn) e/\Bw w w':=by
 obtain⟨b,off,hc⟩:=J8 hat;have HC:=U0 hc;have HS:=U0 hs;have HA:=U0 hasc;have HK:=U0 hmk
 go_in
 go_wp2;go_loopw[11] (λi wr=>∃k:Nat,k<=rn.length/\i=.int .i64 k/\Hid (∀i,i<k->(∃j,j<ms.length/\(ms.getD j C_).nm=(rn.getD i Aa).nm)/\Pg (rn.getD i Aa)/\(0<i->Op.bytesLess (rn.getD (i-1) Aa).nm.toList (rn.getD i Aa).nm.toList=true))/\Below w.heap.size w wr) (λi _=>rn.length-(RowKit.intOf i).toNat);exact⟨0,I4 _,rfl,λj h=>absurd h (U7 _),J4 _ _⟩;obtain⟨k,hk,rfl,hd,f⟩:=hrel;by_cases C:k<rn.length;rotate_left
 ·obtain rfl:k=rn.length:=O0;have HY:Hid (QE ms rn):=hd.out;go_wp2;go_ret;exact⟨F_ HY,f⟩
 obtain⟨ha,E,O⟩:=Zb HC.out C;subst ha;have I:=U0 f;have P:=G9 E f.size;obtain⟨d,c,gB,gL⟩:=(O k C).below E f;have W:Hid (wr.cell? (aA b (off+(k-1)*6))=some (vS (rn.getD (k-1) Aa).nm)):=by
  obtain⟨_,_,g,_⟩:=(O (k-1) O0).below E f;exact g 0 _ rfl
 have hxs:=U0 (HS.out k);have F:Hid (¬((∃j,j<ms.length/\(ms.getD j C_).nm=(rn.getD k Aa).nm)/\Pg (rn.getD k Aa)/\(0<k->Op.bytesLess (rn.getD (k-1) Aa).nm.toList (rn.getD k Aa).nm.toList=true))->¬QE ms rn):=λD h=>D (h k C);have Y:Hid (((∃j,j<ms.length/\(ms.getD j C_).nm=(rn.getD k Aa).nm)/\Pg (rn.getD k Aa)/\(0<k->Op.bytesLess (rn.getD (k-1) Aa).nm.toList (rn.getD k Aa).nm.toList=true))->∀i,i<k+1->(∃j,j<ms.length/\(ms.getD j C_).nm=(rn.getD i Aa).nm)/\Pg (rn.getD i Aa)/\(0<i->Op.bytesLess (rn.getD (i-1) Aa).nm.toList (rn.getD i Aa).nm.toList=true)):=λD j N=>by
  rcases P7 j k with h|h
  ·exact hd j h
  obtain rfl:j=k:=O0;exact D
 generalize rn.getD k Aa=x at*;generalize rn.getD (k-1) Aa=y at*;have GB:=U0 gB;have GL:=U0 gL
 go_upto_region 4 with(first|(refine b_ rfl (I7 178 _ rfl (B:=b) (j:=off+k*6) (cs:=YC (x,vL d x.ls.length c)) rfl GB.out underlying178 rfl Y0) ?_)|(refine N8 rfl 178 _ _ rfl (j:=0) rfl rfl (U3 wr [vE,vO,vE,vN,vO,vE] 178) Y8 (vT x d c) Y0 ?_;intro z cz oz))
 have J:Hid (Cl z wr.heap.size 178 [vS x.nm,vI x.md,vS x.wt,vL d x.ls.length c,vI x.cd,vS x.tx]):=cz;have BZ:=U0 ((P6 (w:=wr) (o:=.cells #[vE,vO,vE,vN,vO,vE] 178)).trans (oz.below Y8));have r0:=J.out.cell 0;simp only[gz]at r0
 go_wp2_with fail
 refine(G.a3k pa pc ms x.nm z hm (G.Uk HK (P5 I BZ)) HA).mono ?_;rintro e L⟨⟨m,th,rfl,n⟩,hb1⟩
 go_upto_region 5 with fail
 have BM:=U0 (P5 hb1 (P6 (w:=L) (o:=.cells #[vS m.nm,vS m.tl,vS m.ar] 68)));generalize L.alloc (.cells #[vS m.nm,vS m.tl,vS m.ar] 68)=V at*;have Z:=U0 (J.out.below BM J.out.lt);have A:=U0 (P5 BZ BM);have p:Bw V V.drew:=(J4 _ _).drew;have t:=U0 (Z.out.below p Z.out.lt);have HQ:=U0 (P5 I A);refine wp_region_held_drew (S:=λu=>Cl u wr.heap.size 178 [vS x.nm,vI x.md,vS x.wt,vL d x.ls.length c,vI x.cd,vS x.tx]/\u.cell? (aA b (off+(k-1)*6))=some (vS y.nm)/\u.cell? (aW wr 0)=some (vS x.nm)) Y0 ⟨t,((P5 A p).cell (by exact P)).trans W,t.out.cell 0⟩ λhH=>?_
 cases th with
 | false=>
  have l:=U0 (F.out (λh=>by
   rcases n with⟨h,_⟩|⟨_,n⟩
   ·cases h
   obtain⟨j,N,e⟩:=h.1;exact n j N e))
  iterate 22 refine sq ?_
  refine wdn ?_;go_wp2;go_ret;exact⟨I5 l,HQ.out.drew⟩
 | true=>
  have X:Hid (∃j,j<ms.length/\(ms.getD j C_).nm=x.nm):=by
   rcases n with⟨_,i,hi,e1,e2⟩|⟨h,_⟩
   ·exact⟨i,hi,by rw[e1];exact e2⟩
   cases h
  iterate 3 refine sq ?_
  refine tq 3 hH ?_ (hv:=λu hu=>I7 178 _ rfl (B:=wr.heap.size) (j:=0) (cs:=[vS x.nm,vI x.md,vS x.wt,vL d x.ls.length c,vI x.cd,vS x.tx]) rfl (λq v e=>by rw[l7];exact(hu.1.cell q).trans e) underlying178 rfl Y0)
  try simp only[qq]
  refine rq 4 λK hK=>?_;go_simp;refine(c127 x d c V.drew hxs (Z4 GL (P5 A p))).mono ?_;rintro e w2⟨⟨bo,rfl,Q⟩,R⟩;have B2:=U0 (P5 A (p.trans (R.mono Y8)));have C2:=U0 (t.out.below R t.out.lt);have s:=U0 (P5 I B2);have HP2:=U0 (((B2).cell (by exact P)).trans W)
  go_wp2_with fail
  refine X8 hK ⟨C2,HP2,C2.out.cell 0⟩ λhH=>?_
  cases bo with
  | false=>
   have l:=U0 (F.out (λh=>by have:=Q.2 h.2.1;cases this))
   iterate 17 refine sq ?_
   refine wdn ?_;go_wp2;go_ret;exact⟨I5 l,s⟩
  | true=>
   have U:=U0 (Q.1 rfl);by_cases h0:k=0
   ·have H:=U0 (Y.out ⟨X,U,λh=>O0⟩);have zk:¬(0:Int)<k:=O0;subst h0
    iterate 17 refine sq ?_
    refine wdn ?_;go_wp2;go_roundw;exact⟨0+1,O0,by go_num,H,s.out⟩;exact P9
   have zk:(0:Int)<k:=O0;have zs1:(k:Int)-1=((k-1:Nat):Int):=O0;have hk1:k-1<rn.length:=O0
   iterate 5 refine sq ?_
   rw[show decide (0<k)=true from m_ O0]
   iterate 4 refine sq ?_
   rw[T.Na (k-1) O0]
   iterate 6 refine sq ?_
   by_cases r:Op.bytesLess y.nm.toList x.nm.toList=true
   ·have H:=U0 (Y.out ⟨X,U,λ_=>r⟩);rw[r,pJ]
    iterate 2 refine sq ?_
    refine wdn ?_;go_wp2;go_roundw;exact⟨k+1,O0,by go_num,H,s.out⟩;exact P9
   have l:=U0 (F.out (λh=>r (h.2.2 O0)));rw[Pj.2 r,OI]
   iterate 2 refine sq ?_
   refine wdn ?_;go_wp2;go_ret;exact⟨I5 l,s⟩
def Fit(j:Jb)(x:Rn):Prop:=x.nm=j.nm/\x.md=1/\x.wt=⟨#[]⟩
theorem a4U(x:Rn)(j:Jb)(J:Nat)(b:OA)(a:Nat)(w:World)(f:w.cell? ⟨J,0,none⟩=some (.string j.nm))(m:J<w.heap.size):
 Calls prog 195 #[.agg #[.string x.nm,.int .i64 x.md,.string x.wt,.slice b x.ls.length a,.int .i64 x.cd,.string x.tx],.pointer (some ⟨J,0,none⟩)] w λe w'=>Rb (Fit j x) e/\Bw w w':=by
 go_in
 go_upto_region 1 with fail
 have l:=U0 (U3 w [vS x.nm,vI x.md,vS x.wt,vL b x.ls.length a,vI x.cd,vS x.tx] 178);have d:=U0 (P6 (w:=w) (o:=.cells #[vS x.nm,vI x.md,vS x.wt,vL b x.ls.length a,vI x.cd,vS x.tx] 178))
 replace f:=(d.out.cell (by exact m)).trans f
 generalize w.alloc (.cells #[vS x.nm,vI x.md,vS x.wt,vL b x.ls.length a,vI x.cd,vS x.tx] 178)=V at*;have i:=l.out.cell 0;simp only[gz]at i;by_cases h:x.nm=j.nm;rotate_left
 ·have p:Hid (¬Fit j x):=λk=>h k.1;have z:=K_.2 (Ac h);go_wp2;go_ret;exact⟨I5 p,d⟩
 have z:(x.nm.toList==j.nm.toList)=true:=by rw[h];exact beq_self_eq_true _
 have q:=U0 h;clear h
 go_wp2_with(refine mD rfl 178 _ rfl (B:=w.heap.size) rfl l.out underlying178 rfl Y0 ?_)
 refine(c196 x b a V).mono ?_;rintro e w1⟨⟨n,rfl,c⟩,g⟩;have r:Hid (n=true↔Fit j x):=⟨λh=>⟨q,c.1 h⟩,λh=>c.2 h.2⟩;have s:=U0 (P5 d g);clear c g z i;go_wp2;go_ret;exact⟨⟨_,rfl,r⟩,s⟩
theorem a3O(a:OA)(C:Nat)(rn:List Rn)(j:Jb)(J:Nat)(w:World)(hl:rn.length<=1048576)(n:uj w a rn)(g:w.cell? ⟨J,0,none⟩=some (.string j.nm))(o:J<w.heap.size):
 Calls prog 263 #[.slice a rn.length C,.func (.func 195) #[] #[.pointer (some ⟨J,0,none⟩)]] w λe w'=>(∃r:Int,e=.returned (.int .i64 r)/\(0<=r↔∃i,i<rn.length/\Fit j (rn.getD i Aa)))/\Bw w w':=by
 obtain⟨E,off,hc⟩:=J8 n;have N:=U0 hc;have I:=U0 g;clear n hc g
 go_in
 go_wp2;go_loopw[8] (λi wr=>∃k:Nat,k<=rn.length/\i=.int .i64 k/\Hid (∀t,t<k->¬Fit j (rn.getD t Aa))/\Below w.heap.size w wr) (λi _=>rn.length-(RowKit.intOf i).toNat);exact⟨0,I4 _,rfl,λj h=>absurd h (U7 _),J4 _ _⟩;obtain⟨k,hk,rfl,hd,b⟩:=hrel;by_cases d:k<rn.length;rotate_left
 ·obtain rfl:k=rn.length:=O0;have f:Hid ((0:Int)<= -1↔∃i,i<rn.length/\Fit j (rn.getD i Aa)):=⟨λh=>O0,λ⟨i,h1,h2⟩=>absurd h2 (hd i h1)⟩;go_wp2;go_ret;exact⟨⟨_,rfl,f⟩,b⟩
 obtain⟨ha,y,l⟩:=Zb N.out d;subst ha;obtain⟨s,q,p,A⟩:=(l k d).below y b;have f:Hid (Fit j (rn.getD k Aa)->((0:Int)<=(k:Int)↔∃i,i<rn.length/\Fit j (rn.getD i Aa))):=λh=>⟨λ_=>⟨k,d,h⟩,λ_=>O0⟩;have L:Hid (¬Fit j (rn.getD k Aa)->∀t,t<k+1->¬Fit j (rn.getD t Aa)):=λv t ht=>by
  rcases P7 t k with h|h
  ·exact hd t h
  obtain rfl:t=k:=O0;exact v
 generalize rn.getD k Aa=x at*;have O:=U0 p;have H:=U0 ((b.cell (by exact o)).trans I);have z:=G9 o b.size;clear l hd p A
 go_wp2_with(refine b_ rfl (I7 178 _ rfl (B:=E) (j:=off+k*6) (cs:=[vS x.nm,vI x.md,vS x.wt,vL s x.ls.length q,vI x.cd,vS x.tx]) rfl O.out underlying178 rfl Y0) ?_)
 refine(a4U x j J s q wr H z).mono ?_;rintro e w1⟨⟨D,rfl,c⟩,m⟩;have u:=U0 (P5 b m);clear m
 cases D with
 | true=>
  have F:=U0 (f.out (c.1 rfl));clear c;go_wp2;go_ret;exact⟨⟨_,rfl,F⟩,u⟩
 | false=>
  have K:=U0 (L.out (λh=>by have:=c.2 h;cases this));clear c;go_wp2;go_roundw;exact⟨k+1,O0,by go_num,K,u.out⟩;exact P9
theorem c194(a:OA)(f:Nat)(rn:List Rn)(j:Jb)(J:Nat)(w:World)(hl:rn.length<=1048576)(d:uj w a rn)(b:w.cell? ⟨J,0,none⟩=some (.string j.nm))(m:J<w.heap.size):
 Calls prog 194 #[.slice a rn.length f,.func (.func 195) #[] #[.pointer (some ⟨J,0,none⟩)]] w λe w'=>Rb (∃i,i<rn.length/\Fit j (rn.getD i Aa)) e/\Bw w w':=by
 have hc:=a3O a f rn j J w hl d b m;clear d b
 go_in
 go_wp2_with fail
 refine hc.mono ?_;rintro e w1⟨⟨r,rfl,hr⟩,c⟩;have l:=U0 c;have g:=U0 hr;clear hc c hr;by_cases h:0<=r
 ·have n:=U0 (g.out.1 h);go_wp2;go_ret;exact⟨F_ n,l⟩
 have o:=U0 (λk=>h (g.out.2 k));have z:r<0:=O0;clear h;go_wp2;go_ret;exact⟨⟨_,rfl,⟨λh=>by simp at h;omega,λh=>absurd h o.out⟩⟩,l.out⟩
def Ox(b:Bs)(j:Jb):Prop:=(∃i,i<b.rn.length/\Fit j (b.rn.getD i Aa))/\(1<=j.wk/\j.wk<=b.hd.length)/\(b.now<=j.un/\j.un<=b.now+6)
theorem a4I(b:Bs)(q:Ba)(j:Jb)(w:World)(hl:Bo b 1048576)(hn1:0<=b.now)(hn2:b.now<=1000000)(s:uj w q.na b.rn):
 Calls prog 133 #[.agg (bsV b q).toArray,.agg #[.string j.nm,.int .i64 j.wk,.int .i64 j.un]] w λe w'=>Rb (Ox b j) e/\Bw w w':=by
 have r:IntKind.i64.wrap (b.now+6)=b.now+6:=by rw[oJ];omega
 have hhl:=hl.hl;have z:=hl.nl;have C:=U0 s;clear s hl
 go_in
 go_upto_region 1 with fail
 have d:=U0 (G8 (U3 w (bsV b q) 53) (.cells #[vS j.nm,vI j.wk,vI j.un] 183));have c:Hid (Cl ((w.alloc (.cells (bsV b q).toArray 53)).alloc (.cells #[vS j.nm,vI j.wk,vI j.un] 183)) (w.heap.size+1) 183 [vS j.nm,vI j.wk,vI j.un]):=by show Cl _ _ _ _;have h:=U3 (w.alloc (.cells (bsV b q).toArray 53)) [vS j.nm,vI j.wk,vI j.un] 183;simpa using h
 have p:Hid (Bw w ((w.alloc (.cells (bsV b q).toArray 53)).alloc (.cells #[vS j.nm,vI j.wk,vI j.un] 183))):=P6.alloc O4 _;generalize (w.alloc (.cells (bsV b q).toArray 53)).alloc (.cells #[vS j.nm,vI j.wk,vI j.un] 183)=V at*;have a2:=d.out.cell 2;have n:=d.out.cell 11;have u:=d.out.cell 13;simp only[gz]at a2 n u;have o:=c.out.cell 0;have m:=c.out.cell 1;have l:=c.out.cell 2;simp only[gz]at o m l
 go_wp2_with fail
 refine(c194 q.na q.nc b.rn j (w.heap.size+1) V z (Ve C p) o c.out.lt).mono ?_;rintro e w1⟨⟨A,rfl,g⟩,i⟩;have y:=U0 (d.out.below i d.out.lt);have x:=U0 (c.out.below i c.out.lt);have f:=U0 (P5 p i);clear i a2 n u o m l d c p;have a2:=y.out.cell 2;have n:=y.out.cell 11;simp only[gz]at a2 n;have m:=x.out.cell 1;have l:=x.out.cell 2;simp only[gz]at m l
 cases A with
 | false=>
  have a:Hid (¬Ox b j):=λh=>by have:=g.2 h.1;cases this
  clear g;go_wp2;go_ret;exact⟨I5 a,f⟩
 | true=>
 have B:=U0 (g.1 rfl);clear g;by_cases h1:1<=j.wk;rotate_left
 ·have a:Hid (¬Ox b j):=λh=>h1 h.2.1.1;go_wp2;go_ret;exact⟨I5 a,f⟩
 by_cases h2:j.wk<=b.hd.length;rotate_left
 ·have a:Hid (¬Ox b j):=λh=>h2 h.2.1.2;go_wp2;go_ret;exact⟨I5 a,f⟩
 by_cases t:b.now<=j.un;rotate_left
 ·have a:Hid (¬Ox b j):=λh=>t h.2.2.1;go_wp2;go_ret;exact⟨I5 a,f⟩
 by_cases k:j.un<=b.now+6
 ·have v:Hid (Ox b j):=⟨B,⟨h1,h2⟩,t,k⟩;go_wp2;go_ret;exact⟨by first|exact F_ v.out|(rw[r,m_ k];exact F_ v),f⟩
 have a:Hid (¬Ox b j):=λh=>k h.2.2.2;go_wp2;go_ret;exact⟨by first|exact I5 a.out|(rw[r,y9 k];exact I5 a)|exact⟨_,rfl,⟨λh=>by simp at h;omega,λh=>absurd h a.out⟩⟩,f.out⟩
def ul(j x:Jb):Prop:=x.wk=j.wk\/Op.bytesLess x.nm.toList j.nm.toList=false
theorem a3K(x j:Jb)(J:Nat)(w:World)(h0:w.cell? ⟨J,0,none⟩=some (.string j.nm))(h1:w.cell? ⟨J,1,none⟩=some (.int .i64 j.wk))(d:J<w.heap.size):
 Calls prog 132 #[.agg #[.string x.nm,.int .i64 x.wk,.int .i64 x.un],.pointer (some ⟨J,0,none⟩)] w λe w'=>Rb (ul j x) e/\Bw w w':=by
 go_in
 go_upto_region 1 with fail
 have f:=U0 (U3 w [vS x.nm,vI x.wk,vI x.un] 183);have a:=U0 (P6 (w:=w) (o:=.cells #[vS x.nm,vI x.wk,vI x.un] 183))
 replace h0:=(a.out.cell (by exact d)).trans h0
 replace h1:=(a.out.cell (by exact d)).trans h1
 generalize w.alloc (.cells #[vS x.nm,vI x.wk,vI x.un] 183)=V at*;have g:=f.out.cell 0;have a1:=f.out.cell 1;simp only[gz]at g a1;by_cases h:x.wk=j.wk
 ·have c:Hid (ul j x):=.inl h;rw[h]at a1;go_wp2;go_ret;exact⟨F_ c,a⟩
 have z:=K_.2 h;by_cases b:Op.bytesLess x.nm.toList j.nm.toList=true
 ·have i:Hid (¬ul j x):=λk=>by
   rcases k with k|k
   ·exact h k
   rw[b]at k;cases k
  go_wp2;go_ret;exact⟨I5 i,a⟩
 have c:Hid (ul j x):=.inr (Pj.2 b);have z2:=Pj.2 b;go_wp2;go_ret;exact⟨F_ c,a⟩
theorem c193(a:OA)(u:Nat)(rn:List Jb)(j:Jb)(J:Nat)(w:World)(hl:rn.length<=1048576)(o:Jl w a rn)(h0:w.cell? ⟨J,0,none⟩=some (.string j.nm))(h1:w.cell? ⟨J,1,none⟩=some (.int .i64 j.wk))(l:J<w.heap.size):
 Calls prog 193 #[.slice a rn.length u,.func (.func 132) #[] #[.pointer (some ⟨J,0,none⟩)]] w λe w'=>(∃r:Int,e=.returned (.int .i64 r)/\(0<=r↔∃i,i<rn.length/\ul j (rn.getD i Zd)))/\Bw w w':=by
 obtain⟨bb,off,hc⟩:=J8 o;have F:=U0 hc;have C:=U0 h0;have A:=U0 h1;clear o hc h0 h1
 go_in
 go_wp2;go_loopw[8] (λi wr=>∃k:Nat,k<=rn.length/\i=.int .i64 k/\Hid (∀t,t<k->¬ul j (rn.getD t Zd))/\Below w.heap.size w wr) (λi _=>rn.length-(RowKit.intOf i).toNat);exact⟨0,I4 _,rfl,λj h=>absurd h (U7 _),J4 _ _⟩;obtain⟨k,hk,rfl,hd,b⟩:=hrel;by_cases c:k<rn.length;rotate_left
 ·obtain rfl:k=rn.length:=O0;have m:Hid ((0:Int)<= -1↔∃i,i<rn.length/\ul j (rn.getD i Zd)):=⟨λh=>O0,λ⟨i,h1,h2⟩=>absurd h2 (hd i h1)⟩;go_wp2;go_ret;exact⟨⟨_,rfl,m⟩,b⟩
 obtain⟨ha,g,d⟩:=Zb F.out c;subst ha;have g0:=((d k c).below g b) 0 _ rfl;have g1:=((d k c).below g b) 1 _ rfl;have g2:=((d k c).below g b) 2 _ rfl;dsimp only[Nat.add_zero]at g0;have m:Hid (ul j (rn.getD k Zd)->((0:Int)<=(k:Int)↔∃i,i<rn.length/\ul j (rn.getD i Zd))):=λh=>⟨λ_=>⟨k,c,h⟩,λ_=>O0⟩;have E:Hid (¬ul j (rn.getD k Zd)->∀t,t<k+1->¬ul j (rn.getD t Zd)):=λq t ht=>by
  rcases P7 t k with h|h
  ·exact hd t h
  obtain rfl:t=k:=O0;exact q
 generalize rn.getD k Zd=x at*;have B:=U0 ((b.cell (by exact l)).trans C);have z:=U0 ((b.cell (by exact l)).trans A);have s:=G9 l b.size;clear d hd
 go_wp2_with fail
 refine(a3K x j J wr B z s).mono ?_;rintro e w1⟨⟨v,rfl,f⟩,n⟩;have p:=U0 (P5 b n);clear n g0 g1 g2
 cases v with
 | true=>
  have y:=U0 (m.out (f.1 rfl));clear f;go_wp2;go_ret;exact⟨⟨_,rfl,y⟩,p⟩
 | false=>
  have D:=U0 (E.out (λh=>by have:=f.2 h;cases this));clear f;go_wp2;go_roundw;exact⟨k+1,O0,by go_num,D,p.out⟩;exact P9
theorem c131(a:OA)(d:Nat)(rn:List Jb)(j:Jb)(J:Nat)(w:World)(hl:rn.length<=1048576)(c:Jl w a rn)(h0:w.cell? ⟨J,0,none⟩=some (.string j.nm))(h1:w.cell? ⟨J,1,none⟩=some (.int .i64 j.wk))(l:J<w.heap.size):
 Calls prog 131 #[.slice a rn.length d,.func (.func 132) #[] #[.pointer (some ⟨J,0,none⟩)]] w λe w'=>Rb (∃i,i<rn.length/\ul j (rn.getD i Zd)) e/\Bw w w':=by
 have hc:=c193 a d rn j J w hl c h0 h1 l;clear c h0 h1
 go_in
 go_wp2_with fail
 refine hc.mono ?_;rintro e w1⟨⟨r,rfl,hr⟩,b⟩;have g:=U0 b;have f:=U0 hr;clear hc b hr;by_cases h:0<=r
 ·have m:=U0 (f.out.1 h);go_wp2;go_ret;exact⟨F_ m,g⟩
 have n:=U0 (λk=>h (f.out.2 k));have z:r<0:=O0;clear h;go_wp2;go_ret;exact⟨⟨_,rfl,⟨λh=>by simp at h;omega,λh=>absurd h n.out⟩⟩,g.out⟩

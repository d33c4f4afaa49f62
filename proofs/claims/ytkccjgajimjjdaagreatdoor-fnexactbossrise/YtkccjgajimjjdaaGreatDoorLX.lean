import Derived.Test.YtkccjgajimjjdaaGreatDoorzF
import Derived.Test.YtkccjgajimjjdaaGreatDoorME
import Derived.ProofKit
import Derived.OpenShut
import Derived.ShutString
import Derived.ChangeOld
import Derived.SliceStrings
import Derived.Deep.Strs
import Derived.Deep.Slices
import Derived.OpenVars
import Derived.HandedShaped
import Derived.Shelf.Vars
import Derived.Deep.DeepHandedRow
import Derived.Deep.DeepWitnessRowRef
import Derived.SevenTiedAt
import Derived.ChangeArms
import Derived.LaidMore
import Derived.LaidOnce
import Derived.LaidHandle
set_option linter.unusedVariables false
set_option maxHeartbeats 8000000
set_option maxRecDepth 100000
namespace Go.Proofs.YtkccjgajimjjdaaGreatDoor
open Proofs.Tryz Go.RowKit Go.Maps
variable{H α:Type}{enc:TypeId×Value->H}{W:World}{fuel:Nat}{cs:List Value}{y:DataW H×List MemPlace}
theorem a1G(a o:OA)(cap y:Nat)(is:List R3)(w:World)(hl:is.length<=1048576)(f:∀i,(is.getD i h_).gs.length<=1048576)(m:ug w a is)(l:ug w o is):
 Calls prog 103 #[.slice a is.length cap,.slice o is.length y] w λe w'=>e=.returned (.bool true)/\Bw w w':=by
 obtain⟨b,off,hc⟩:=Gf m;have F:=U0 hc;obtain⟨b',off',j⟩:=Gf l;have E:=U0 j;have B:=U0 f;clear hc m j l f
 go_in
 go_wp2;go_loopw[5] (λi wr=>∃(k:Nat),k<=is.length/\i=.int .i64 k/\Below w.heap.size w wr) (λi _=>is.length-(RowKit.intOf i).toNat);exact⟨0,J4 _,rfl,G5 _ _⟩;obtain⟨k,hk,rfl,c⟩:=hrel;by_cases d:k<is.length
 ·obtain⟨ha,r,h⟩:=Jd F.out d;obtain⟨t,q,g⟩:=Jd E.out d;subst ha;subst t;obtain⟨A,v,e0,e1,e2,n⟩:=(h k d).below r c;obtain⟨z,u,f0,f1,f2,f3⟩:=(g k d).below q c;have p:=B.out k;generalize is.getD k h_=x at*;have D:=U0 n;have C:=U0 f3;clear h g n f3
  go_wp2_with fail
  go_region_with(go_at_call 164;refine(c164 x A z v u _ p (I9 D.out (G5 _ _).drew) (I9 C.out (G5 _ _).drew)).mono ?_;rintro e w1⟨rfl,s⟩)
  all_goals go_wp2
  all_goals go_roundw
  all_goals first
   | exact⟨k+1,O0,by go_num,(c.drew).trans (s.mono c.size)⟩
   | (exact Z9)
 go_wp2;go_ret;exact⟨rfl,c⟩
theorem a5C(ta ra b a:OA)(tc rc d c:Nat)(s:St)(w:World)(f:s.ts.length<=1048576/\s.rs.length<=1048576/\∀i,(s.rs.getD i h_).gs.length<=1048576)(j:Ef w ta ra s)(h:Ef w b a s):
 Calls prog 35 #[.agg #[.int .i64 s.wd,.slice ta s.ts.length tc,.slice ra s.rs.length rc],.agg #[.int .i64 s.wd,.slice b s.ts.length d,.slice a s.rs.length c]] w λe w'=>e=.returned (.bool true)/\Bw w w':=by
 have o:=U0 f;have t:=U0 j;have r:=U0 h;have l:Bw w ((w.alloc (.cells #[vI s.wd,vL ta s.ts.length tc,vL ra s.rs.length rc] 43)).alloc (.cells #[vI s.wd,vL b s.ts.length d,vL a s.rs.length c] 43)):=Y6.alloc E5 _;have n:=c37 ta b tc d s.ts _ f.1 (P6 j.1 l) (P6 h.1 l);clear f j h
 go_in
 go_wp2_with fail
 refine n.mono ?_;rintro e w1⟨rfl,g⟩;have k:=l.trans (g.mono Q8);have g2:w1.cell? ⟨w.heap.size,2,none⟩=some (vL ra s.rs.length rc):=by rw[g.cell Q8];simp[go_sem]
 have g3:w1.cell? ⟨w.heap.size+1,2,none⟩=some (vL a s.rs.length c):=by rw[g.cell E5];simp[go_sem]
 have m:=a1G ra a rc c s.rs w1 o.out.2.1 o.out.2.2 (Qh t.out.2 k) (Qh r.out.2 k);clear n
 go_wp2_with fail
 refine m.mono ?_;rintro e w2⟨rfl,p⟩;have q:=J5 k p;clear m;go_wp2;go_ret;exact⟨rfl,q⟩
open Go.RowKit
theorem c8(b:Bs)(q p:Ba)(w:World)(hl:Ug b 1048576)(F:Gh w b q)(H:Gh w b p):
 Calls prog 8 #[.agg (bsV b q).toArray,.agg (bsV b p).toArray] w λe w'=>e=.returned (.bool true)/\Bw w w':=by
 have X:=U0 F;have Y:=U0 H;have c:=U0 hl
 go_in
 go_upto_region 1 with fail
 have f:=U0 (U8 (X4 w (bsV b q) 47) (.cells (bsV b p).toArray 47));have d:Hid (Cl ((w.alloc (.cells (bsV b q).toArray 47)).alloc (.cells (bsV b p).toArray 47)) (w.heap.size+1) 47 (bsV b p)):=by show Cl _ _ _ _;have h:=X4 (w.alloc (.cells (bsV b q).toArray 47)) (bsV b p) 47;simpa using h
 have k:Hid (Bw w ((w.alloc (.cells (bsV b q).toArray 47)).alloc (.cells (bsV b p).toArray 47))):=Y6.alloc E5 _;generalize (w.alloc (.cells (bsV b q).toArray 47)).alloc (.cells (bsV b p).toArray 47)=V0 at*;have a0:=f.out.cell 0;have d0:=d.out.cell 0;have a1:=f.out.cell 1;have Z:=d.out.cell 1;have a2:=f.out.cell 2;have Q:=d.out.cell 2;have a3:=f.out.cell 3;have P:=d.out.cell 3;have a4:=f.out.cell 4;have O:=d.out.cell 4;have a5:=f.out.cell 5;have N:=d.out.cell 5;have a6:=f.out.cell 6;have L:=d.out.cell 6;simp only[gz]at a0 d0 a1 Z a2 Q a3 P a4 O a5 N a6 L
 go_wp2_with fail
 refine(c33 q.sa q.la p.sa p.la q.sc q.lc p.sc p.lc b.sf b.lo V0 c.out.sl c.out.ll (P6 X.out.sf k) (P6 X.out.lo k) (P6 Y.out.sf k) (P6 Y.out.lo k)).mono ?_;rintro e V1⟨rfl,a⟩;have E:=U0 (J5 k a);have y:=U0 (f.out.below a f.out.lt);have r:=U0 (d.out.below a d.out.lt);have a7:=y.out.cell 7;have K:=r.out.cell 7;simp only[gz]at a7 K
 go_wp2_with fail
 refine(T.c34 q.fa p.fa q.fc p.fc b.fs V1 c.out.fl (T.U5 X.out.fs E) (T.U5 Y.out.fs E)).mono ?_;rintro e V2⟨rfl,a⟩;have D:=U0 (J5 E a);have j:=U0 (y.out.below a y.out.lt);have g:=U0 (r.out.below a r.out.lt);have a8:=j.out.cell 8;have J:=g.out.cell 8;have a9:=j.out.cell 9;have I:=g.out.cell 9;have a10:=j.out.cell 10;have W:=g.out.cell 10;simp only[gz]at a8 J a9 I a10 W
 go_wp2_with fail
 refine(a5C q.ta q.ra p.ta p.ra q.tc q.rc p.tc p.rc b.s V2 ⟨c.out.st.1.1,c.out.st.2.1,λi=>(c.out.st.2.2 i).2.1⟩ (X.out.st.below D) (Y.out.st.below D)).mono ?_;rintro e V3⟨rfl,a⟩;have C:=U0 (J5 D a);have x:=U0 (j.out.below a j.out.lt);have o:=U0 (g.out.below a g.out.lt);have a11:=x.out.cell 11;have V:=o.out.cell 11;simp only[gz]at a11 V
 go_wp2_with fail
 refine(c36 q.ha p.ha q.hc p.hc b.hd V3 c.out.hl (Jh X.out.hd C) (Jh Y.out.hd C)).mono ?_;rintro e V4⟨rfl,a⟩;have B:=U0 (J5 C a);have v:=U0 (x.out.below a x.out.lt);have n:=U0 (o.out.below a o.out.lt);have a12:=v.out.cell 12;have U:=n.out.cell 12;simp only[gz]at a12 U
 go_wp2_with fail
 refine(c37 q.oa p.oa q.oc p.oc b.rt V4 c.out.rl (P6 X.out.rt B) (P6 Y.out.rt B)).mono ?_;rintro e V5⟨rfl,a⟩;have A:=U0 (J5 B a);have u:=U0 (v.out.below a v.out.lt);have m:=U0 (n.out.below a n.out.lt);have a13:=u.out.cell 13;have S:=m.out.cell 13;simp only[gz]at a13 S
 go_wp2_with fail
 refine(c38 q.na p.na q.nc p.nc b.rn V5 c.out.nl (λi=>(c.out.ns i).2.2.1.1) (Ff X.out.rn A) (Ff Y.out.rn A)).mono ?_;rintro e V6⟨rfl,a⟩;have z:=U0 (J5 A a);have t:=U0 (u.out.below a u.out.lt);have l:=U0 (m.out.below a m.out.lt);have a14:=t.out.cell 14;have R:=l.out.cell 14;simp only[gz]at a14 R
 go_wp2_with fail
 refine(c39 q.ja p.ja q.jc p.jc b.jb V6 c.out.jl (Jm X.out.jb z) (Jm Y.out.jb z)).mono ?_;rintro e V7⟨rfl,a⟩;have B7:=U0 (J5 z a);have C7:=U0 (t.out.below a t.out.lt);have D7:=U0 (l.out.below a l.out.lt);go_wp2;go_ret;exact⟨rfl,B7⟩
theorem a4n(a c:List R3)(l g:OA)(o n:Nat)(w:World)(hl:a.length<=1048576)(hl':c.length<=1048576)(hx:∀i,(a.getD i h_).gs.length<=1048576)(v:∀i,(c.getD i h_).gs.length<=1048576)(D:ug w l a)(C:ug w g c):
 Calls prog 195 #[.slice l a.length o,.slice g c.length n,.func (.func 196) #[] #[]] w λe w'=>Rb (a=c) e/\Bw w w':=by
 have S:=U0 hx;have R:=U0 v;clear hx v;by_cases d:a.length=c.length;rotate_left
 ·have s:Hid (¬a=c):=λh=>d (by rw[h]);have hn1:¬(a.length:Int)=c.length:=O0
  go_in
  go_wp2;go_ret;exact⟨X5 s.out,G5 _ _⟩
 rw[<- d];have t:=U0 d;obtain⟨b,off,hc⟩:=Gf D;obtain⟨b',off',z⟩:=Gf C;have HC:=U0 hc;have HC':=U0 z;clear hc z D C d
 go_in
 go_wp2;go_loopw[17] (λi wr=>∃(k:Nat),k<=a.length/\i=.int .i64 k/\Hid (∀j,j<k->a.getD j h_=c.getD j h_)/\Below w.heap.size w wr) (λi _=>a.length-(RowKit.intOf i).toNat);exact⟨0,J4 _,rfl,λj h=>absurd h (y9 _),G5 _ _⟩;obtain⟨k,hk2,rfl,hd,f⟩:=hrel;by_cases m:k<a.length;rotate_left
 ·obtain rfl:k=a.length:=O0;have V:=U0 (Xo t.out hd.out);go_wp2;go_ret;exact⟨J_ V.out,f⟩
 obtain⟨ha,O,y⟩:=Jd HC.out m;rcases HC'.out with N|⟨P,A,x⟩
 ·have d:=t.out;rw[N]at d;rw[d]at m;exact absurd m (y9 _)
 subst ha;subst P;have a6w:=U9 A f.size;obtain⟨l,o,g0,g1,g2,g3⟩:=(y k m).below O f;obtain⟨g,n,J,I,H,u⟩:=(x k (by have:=t.out;omega)).below A f;have G3:=U0 g3;have U:=U0 u;have L:=S.out k;have K:=R.out k;have HD:Hid (a.getD k h_=c.getD k h_->∀j,j<k+1->a.getD j h_=c.getD j h_):=λq j hj=>by
  rcases D8 j k with h|h
  ·exact hd.out j h
  obtain rfl:j=k:=O0;exact q
 have s:Hid (¬a.getD k h_=c.getD k h_->¬a=c):=λq h=>q (by rw[h]);have E:=U0 f;clear y x g3 u hd f;generalize a.getD k h_=X at*;generalize c.getD k h_=Y at*;have p:Hid (Bw wr ((wr.alloc (.cells #[vS X.key,vL l X.gs.length o,vS X.out] 162)).alloc (.cells #[vS Y.key,vL g Y.gs.length n,vS Y.out] 162))):=Y6.alloc E5 _
 go_wp2_with fail
 refine(c196 X Y l g o n _ L K (I9 G3.out p.out) (I9 U.out p.out)).mono ?_;rintro e w1⟨⟨Q,rfl,r⟩,B⟩;have F:=U0 (J5 (J5 E.out p.out) B);clear B p E g0 g1 g2 J I H
 cases Q with
 | true=>
  have Z:=U0 (HD.out (r.1 rfl));clear r;go_wp2;go_roundw;exact⟨k+1,O0,by go_num,Z,F.out⟩;exact Z9
 | false=>
  have W:=U0 (s.out (λh=>by have:=r.2 h;cases this));go_wp2;go_ret;exact⟨X5 W,F⟩
theorem a1H(x y:St)(ta ra a rb:OA)(tc rc b rd:Nat)(w:World)(hx:x.ts.length<=1048576/\x.rs.length<=1048576/\∀i,(x.rs.getD i h_).gs.length<=1048576)(p:y.ts.length<=1048576/\y.rs.length<=1048576/\∀i,(y.rs.getD i h_).gs.length<=1048576)(s:Ef w ta ra x)(r:Ef w a rb y):
 Calls prog 144 #[.agg #[.int .i64 x.wd,.slice ta x.ts.length tc,.slice ra x.rs.length rc],.agg #[.int .i64 y.wd,.slice a y.ts.length b,.slice rb y.rs.length rd]] w λe w'=>Rb (x=y) e/\Bw w w':=by
 have X:=U0 hx;have Y:=U0 p;have z:=U0 s;have v:=U0 r;clear hx p s r
 go_in
 go_upto_region 1 with fail
 have f:=U0 (U8 (X4 w [vI x.wd,vL ta x.ts.length tc,vL ra x.rs.length rc] 43) (.cells #[vI y.wd,vL a y.ts.length b,vL rb y.rs.length rd] 43));have d:Hid (Cl ((w.alloc (.cells #[vI x.wd,vL ta x.ts.length tc,vL ra x.rs.length rc] 43)).alloc (.cells #[vI y.wd,vL a y.ts.length b,vL rb y.rs.length rd] 43)) (w.heap.size+1) 43 [vI y.wd,vL a y.ts.length b,vL rb y.rs.length rd]):=by show Cl _ _ _ _;have h:=X4 (w.alloc (.cells #[vI x.wd,vL ta x.ts.length tc,vL ra x.rs.length rc] 43)) [vI y.wd,vL a y.ts.length b,vL rb y.rs.length rd] 43;simpa using h
 have l:Hid (Bw w ((w.alloc (.cells #[vI x.wd,vL ta x.ts.length tc,vL ra x.rs.length rc] 43)).alloc (.cells #[vI y.wd,vL a y.ts.length b,vL rb y.rs.length rd] 43))):=Y6.alloc E5 _;generalize (w.alloc (.cells #[vI x.wd,vL ta x.ts.length tc,vL ra x.rs.length rc] 43)).alloc (.cells #[vI y.wd,vL a y.ts.length b,vL rb y.rs.length rd] 43)=V at*;have u:=f.out.cell 0;have m:=d.out.cell 0;have a1:=f.out.cell 1;have t:=d.out.cell 1;have a2:=f.out.cell 2;have j:=d.out.cell 2;simp only[gz]at u m a1 t a2 j;by_cases hw:x.wd=y.wd;rotate_left
 ·have o:Hid (¬x=y):=λh=>hw (by rw[h]);go_wp2;go_ret;exact⟨X5 o.out,l.out⟩
 have A:=U0 hw;rw[<- hw]at m;clear hw
 go_wp2_with fail
 refine(c194 x.ts y.ts ta a tc b V X.out.1 Y.out.1 (P6 z.out.1 l.out) (P6 v.out.1 l.out)).mono ?_;rintro e w1⟨⟨n,rfl,c⟩,g⟩
 replace a2:=(g.cell (by exact f.out.lt)).trans a2
 replace j:=(g.cell (by exact d.out.lt)).trans j
 have k:=U0 (J5 l.out g);clear g u a1 m t f d
 cases n with
 | false=>
  have o:Hid (¬x=y):=λh=>by have:=c.2 (by rw[h]);cases this
  clear c;go_wp2;go_ret;exact⟨X5 o.out,k.out⟩
 | true=>
 have B:=U0 (c.1 rfl);clear c
 go_wp2_with fail
 refine(a4n x.rs y.rs ra rb rc rd w1 X.out.2.1 Y.out.2.1 X.out.2.2 Y.out.2.2 (Qh z.out.2 k.out) (Qh v.out.2 k.out)).mono ?_;rintro e w2⟨⟨n,rfl,c⟩,q⟩;have D:=U0 (J5 k.out q);have C:Hid (n=true↔x=y):=by
  have h1:=A.out;have h2:=B.out;obtain⟨_,_,_⟩:=x;obtain⟨_,_,_⟩:=y;dsimp only at h1 h2 c;subst h1 h2;exact c.trans ⟨λh=>by rw[h],λh=>by injection h⟩
 clear c q a2 j;go_wp2;go_ret;exact⟨⟨_,rfl,C.out⟩,D.out⟩
theorem a5u(x:Rn)(c:OA)(b:Nat)(w:World):
 Calls prog 122 #[.agg #[.string x.nm,.int .i64 x.md,.string x.wt,.slice c x.ls.length b,.int .i64 x.cd,.string x.tx]] w λe w'=>Rb (x.md=1/\x.wt=⟨#[]⟩) e/\Bw w w':=by
 go_in
 go_upto_region 1 with fail
 have f:=U0 (X4 w [vS x.nm,vI x.md,vS x.wt,vL c x.ls.length b,vI x.cd,vS x.tx] 111);have d:=U0 (Y6 (w:=w) (o:=.cells #[vS x.nm,vI x.md,vS x.wt,vL c x.ls.length b,vI x.cd,vS x.tx] 111));generalize w.alloc (.cells #[vS x.nm,vI x.md,vS x.wt,vL c x.ls.length b,vI x.cd,vS x.tx] 111)=V at*;have a1:=f.out.cell 1;have a2:=f.out.cell 2;simp only[gz]at a1 a2;by_cases h1:x.md=1;rotate_left
 ·have a:Hid (¬(x.md=1/\x.wt=⟨#[]⟩)):=λh=>h1 h.1;go_wp2;go_ret;exact⟨X5 a.out,d.out⟩
 rw[h1]at a1;by_cases h2:x.wt=⟨#[]⟩
 ·have g:Hid (x.md=1/\x.wt=⟨#[]⟩):=⟨h1,h2⟩;rw[h2]at a2;go_wp2;go_ret;exact⟨J_ g.out,d.out⟩
 have a:Hid (¬(x.md=1/\x.wt=⟨#[]⟩)):=λh=>h2 h.2;have z:=Zk h2;go_wp2;go_ret;exact⟨by first|exact X5 a.out|(rw[z];exact X5 a.out)|(simp only[z];exact X5 a.out),d.out⟩
def AtR(rn:List Rn)(nm:BY)(r:Int):Prop:=(r= -1/\∀i,i<rn.length->(rn.getD i A_).nm≠nm)\/∃i:Nat,r=i/\i<rn.length/\(rn.getD i A_).nm=nm/\∀j,j<i->(rn.getD j A_).nm≠nm
theorem a3k(b:Bs)(q:Ba)(nm:BY)(w:World)(hl:b.rn.length<=1048576)(l:yj w q.na b.rn):
 Calls prog 121 #[.agg (bsV b q).toArray,.string nm] w λe w'=>(∃r,e=.returned (.int .i64 r)/\AtR b.rn nm r)/\Bw w w':=by
 obtain⟨s,off,hc⟩:=Na l;have x:=U0 hc;clear l hc
 go_in
 go_upto_region 1 with fail
 have y:=U0 (X4 w (bsV b q) 47);have d:=U0 (Y6 (w:=w) (o:=.cells (bsV b q).toArray 47));generalize w.alloc (.cells (bsV b q).toArray 47)=V at*;have m:=y.out.cell 13;simp only[gz]at m;go_wp2;go_loop[5] (λi=>∃k:Nat,k<=b.rn.length/\i=.int .i64 k/\Hid (∀j,j<k->(b.rn.getD j A_).nm≠nm)) (λi=>b.rn.length-(RowKit.intOf i).toNat);exact⟨0,J4 _,rfl,λj h=>absurd h (y9 _)⟩;obtain⟨k,hk,rfl,hd⟩:=hrel;by_cases a:k<b.rn.length;rotate_left
 ·obtain rfl:k=b.rn.length:=O0;have c:Hid (AtR b.rn nm (-1)):=.inl ⟨rfl,hd.out⟩;go_wp2;go_ret;exact⟨⟨_,rfl,c.out⟩,d.out⟩
 obtain⟨ha,p,f⟩:=Jd x.out a;have g0:V.cell? (aA s (off+k*6))=some (vS (b.rn.getD k A_).nm):=by
  obtain⟨_,_,g,_⟩:=(f k a).below p d.out;exact g 0 _ rfl
 rw[ha]at m;have c:Hid ((b.rn.getD k A_).nm=nm->AtR b.rn nm k):=λh=>.inr ⟨k,rfl,a,h,hd.out⟩;have v:Hid ((b.rn.getD k A_).nm≠nm->∀j,j<k+1->(b.rn.getD j A_).nm≠nm):=λn j hj=>by
  rcases D8 j k with h|h
  ·exact hd.out j h
  obtain rfl:j=k:=O0;exact n
 generalize (b.rn.getD k A_).nm=X at*;clear f hd ha;by_cases hx:X=nm
 ·have t:=U0 (c.out hx);have z:(X.toList==nm.toList)=true:=by rw[hx];exact beq_self_eq_true _
  go_wp2;go_ret;exact⟨⟨_,rfl,t.out⟩,d.out⟩
 have u:=U0 (v.out hx);have z:=V_.2 (Mc hx);go_wp2
 go_round
 exact⟨k+1,O0,by go_num,u⟩;exact Z9
def xC(b:Bs):Prop:=(∀i,i<b.hd.length->b.hd.getD i 0= -1)/\b.ep=0/\b.ed=0/\b.fs=[]/\b.s=⟨0,[],[]⟩/\b.rt=[]/\b.rn=[]/\b.jb=[]
theorem GY{s:St}(h:s.le 1048576):s.ts.length<=1048576/\s.rs.length<=1048576/\∀i,(s.rs.getD i h_).gs.length<=1048576:=⟨h.1.1,h.2.1,λi=>(h.2.2 i).2.1⟩
theorem a2d:(⟨0,[],[]⟩:St).ts.length<=1048576/\(⟨0,[],[]⟩:St).rs.length<=1048576/\∀i,((⟨0,[],[]⟩:St).rs.getD i h_).gs.length<=1048576:=⟨Z5,Z5,λi=>by show(0:Nat)<=_;omega⟩
theorem EU{w:World}{g n:Nat}(h:Cl w g 3 (List.replicate n (.int .i64 (-1)))):Rf w (some ⟨g,0,none⟩) (List.replicate n (-1)):=.inr ⟨g,0,rfl,h.lt,λi a=>by
 rw[o9,h.cell i];simp at a;simp[List.getD,a]⟩
theorem uM{l:List Int}:l=List.replicate l.length (-1)↔∀i,i<l.length->l.getD i 0= -1:=by
 constructor
 ·intro h i b;rw[h];simp[List.getD,b]
 intro h;refine Xo (d:=0) E5 λj a=>?_;rw[h j a];simp[List.getD,a]
theorem c86(b:Bs)(q:Ba)(w:World)(hl:Ug b 1048576)(hn:1<=b.hd.length/\b.hd.length<=4)(Q:Gh w b q):
 Calls prog 86 #[.agg (bsV b q).toArray] w λe w'=>Rb (xC b) e/\Bw w w':=by
 have X:=U0 Q;have L:=U0 hl;clear Q hl
 go_in
 go_upto_region 1 with fail
 have c:=U0 (X4 w (bsV b q) 47);have k:=U0 (Y6 (w:=w) (o:=.cells (bsV b q).toArray 47));generalize w.alloc (.cells (bsV b q).toArray 47)=V at*;have I:=c.out.cell 3;have H:=c.out.cell 4;have F:=c.out.cell 7;have U:=c.out.cell 8;have R:=c.out.cell 9;have W:=c.out.cell 10;have r:=c.out.cell 11;have p:=c.out.cell 12;have n:=c.out.cell 13;have m:=c.out.cell 14;simp only[gz]at I H F U R W r p n m;by_cases h1:b.ep=0;rotate_left
 ·have a:Hid (¬xC b):=λh=>h1 h.2.1
  go_wp2_with fail
  go_region
  all_goals go_wp2
  all_goals go_ret
  all_goals exact⟨X5 a.out,(k.out).drew⟩
 by_cases h2:b.ed=0;rotate_left
 ·have a:Hid (¬xC b):=λh=>h2 h.2.2.1
  go_wp2_with fail
  go_region
  all_goals go_wp2
  all_goals go_ret
  all_goals exact⟨X5 a.out,(k.out).drew⟩
 by_cases D:b.fs.length=0;rotate_left
 ·have a:Hid (¬xC b):=λh=>D (by rw[h.2.2.2.1];rfl);have z:¬((b.fs.length:Int)=0):=O0
  go_wp2_with fail
  go_region
  all_goals go_wp2
  all_goals go_ret
  all_goals exact⟨X5 a.out,(k.out).drew⟩
 rw[h1]at I;rw[h2]at H;rw[D]at F
 go_wp2_with fail
 refine(a1H b.s ⟨0,[],[]⟩ q.ta q.ra none none q.tc q.rc 0 0 V (GY L.out.st) a2d (X.out.st.below k) ⟨.inl rfl,.inl rfl⟩).mono ?_;rintro e w1⟨⟨E,rfl,d⟩,y⟩;have f:=U0 (c.out.below y c.out.lt);have j:=U0 (J5 k y);clear y I H F U R W r p n m c k;have r:=f.out.cell 11;have p:=f.out.cell 12;have n:=f.out.cell 13;have m:=f.out.cell 14;simp only[gz]at r p n m
 cases E with
 | false=>
  have a:Hid (¬xC b):=λh=>by have:=d.2 h.2.2.2.2.1;cases this
  clear d
  go_wp2_with fail
  go_region
  all_goals go_wp2
  all_goals go_ret
  all_goals exact⟨X5 a.out,(j.out).drew⟩
 | true=>
 have HT:=U0 (d.1 rfl);clear d;by_cases C:b.rt.length=0;rotate_left
 ·have a:Hid (¬xC b):=λh=>C (by rw[h.2.2.2.2.2.1];rfl);have z:¬((b.rt.length:Int)=0):=O0
  go_wp2_with fail
  go_region
  all_goals go_wp2
  all_goals go_ret
  all_goals exact⟨X5 a.out,(j.out).drew⟩
 by_cases B:b.rn.length=0;rotate_left
 ·have a:Hid (¬xC b):=λh=>B (by rw[h.2.2.2.2.2.2.1];rfl);have z:¬((b.rn.length:Int)=0):=O0
  go_wp2_with fail
  go_region
  all_goals go_wp2
  all_goals go_ret
  all_goals exact⟨X5 a.out,(j.out).drew⟩
 by_cases A:b.jb.length=0;rotate_left
 ·have a:Hid (¬xC b):=λh=>A (by rw[h.2.2.2.2.2.2.2];rfl);have z:¬((b.jb.length:Int)=0):=O0
  go_upto_region 2 with fail
  rw[show((b.jb.length:Int)==0)=false from V_.2 z]
  go_wp2_with fail
  go_region
  all_goals go_wp2
  all_goals go_ret
  all_goals exact⟨X5 a.out,(j.out).drew⟩
 rw[C]at p;rw[B]at n;rw[A]at m;have HD:Hid ((∀i,i<b.hd.length->b.hd.getD i 0= -1)->xC b):=λh=>⟨h,h1,h2,Qb.1 D,HT,Qb.1 C,Qb.1 B,Qb.1 A⟩;have J:=U0 (f.out.below (G5 _ _).drew f.out.lt);have HXL:=U0 f.out.lt;clear r
 go_wp2_with fail
 refine wp_region_held_drew (S:=λu=>u.cell? (aW w 11)=some (vL q.ha b.hd.length q.hc)) Y1 (J.out.cell 11) λhH=>?_
 iterate 7 refine sq ?_
 refine rq 7 λK l=>?_;go_simp;refine(c146 b.hd.length w1.drew hn).mono ?_;rintro e Z⟨⟨g,rfl,_,P⟩,x⟩;have Y:=U0 ((j.out.drew).trans (x.mono j.out.size));have HI:=U0 (EU P);have N:=U0 (J.out.below x J.out.lt);clear P x
 go_wp2_with fail
 refine A8 l (N.out.cell 11) λhH=>?_;clear l K;refine rq 8 λK l=>?_;go_simp;have O:(List.replicate b.hd.length (-1:Int)).length=b.hd.length:=Vz;have t:=c145 b.hd (List.replicate b.hd.length (-1)) q.ha (some (aA g 0)) q.hc b.hd.length Z L.out.hl (by rw[O];exact L.out.hl) (Jh X.out.hd Y) HI;rw[O]at t;refine t.mono ?_;rintro e w3⟨⟨E,rfl,d⟩,v⟩;have B3:=U0 (J5 Y v);have HE:Hid (E=true↔xC b):=⟨λh=>HD.out (uM.1 (d.1 h)),λh=>d.2 (uM.2 h.1)⟩;have CY:=U0 (N.out.below v N.out.lt);clear d v t
 go_wp2_with fail
 refine A8 l (CY.out.cell 11) λhH=>?_;clear l K
 iterate 2 refine sq ?_
 refine wdn ?_;go_wp2;go_ret;exact⟨⟨_,rfl,HE⟩,B3⟩
theorem c60(b:Bs)(q:Ba)(w:World)(hl:Ug b 1048576)(v:Gh w b q):
 Calls prog 60 #[.agg (bsV b q).toArray] w λe w'=>Rb (xC b) e/\Bw w w':=by
 have S:=U0 v;have P:=U0 hl;have hhl:=hl.hl;have hrl:=hl.rl;have hnl:=hl.nl;have hjl:=hl.jl;obtain⟨bb,off,hc⟩:=Jg v.hd;have R:=U0 hc;clear v hl hc
 go_in
 go_upto_region 1 with fail
 have a:=U0 (X4 w (bsV b q) 47);have d:=U0 (Y6 (w:=w) (o:=.cells (bsV b q).toArray 47));generalize w.alloc (.cells (bsV b q).toArray 47)=V at*;have B:=a.out.cell 3;have A:=a.out.cell 4;have y:=a.out.cell 7;have H:=a.out.cell 8;have F:=a.out.cell 9;have I:=a.out.cell 10;have C:=a.out.cell 11;have p:=a.out.cell 12;have n:=a.out.cell 13;have m:=a.out.cell 14;simp only[gz]at B A y H F I C p n m;go_wp2;go_loop[3] (λi=>∃k:Nat,k<=b.hd.length/\i=.int .i64 k/\Hid (∀j,j<k->b.hd.getD j 0= -1)) (λi=>b.hd.length-(RowKit.intOf i).toNat);exact⟨0,J4 _,rfl,λj h=>absurd h (y9 _)⟩;obtain⟨k,J,rfl,hd⟩:=hrel;by_cases f:k<b.hd.length
 ·obtain⟨ha,K,t⟩:=Jd R.out f;rw[ha]at C;have g0:=(d.out.cell (by exact K)).trans (t k f);by_cases g:b.hd.getD k 0= -1
  ·have r:Hid (∀j,j<k+1->b.hd.getD j 0= -1):=λj hj=>by
    rcases D8 j k with h|h
    ·exact hd j h
    obtain rfl:j=k:=O0;exact g
   rw[g]at g0;clear t g hd;go_wp2
   go_round
   exact⟨k+1,O0,by go_num,r⟩;exact Z9
  have c:Hid (¬xC b):=λh=>g (h.1 k f);generalize b.hd.getD k 0=X at*;clear t hd;go_wp2;go_ret;exact⟨X5 c,d⟩
 obtain rfl:k=b.hd.length:=O0;have Q:=hd;clear hd f J;by_cases h1:b.ep=0;rotate_left
 ·have c:Hid (¬xC b):=λh=>h1 h.2.1;go_wp2;go_ret;exact⟨X5 c,d⟩
 by_cases h2:b.ed=0;rotate_left
 ·have c:Hid (¬xC b):=λh=>h2 h.2.2.1;go_wp2;go_ret;exact⟨X5 c,d⟩
 by_cases x:b.fs.length=0;rotate_left
 ·have c:Hid (¬xC b):=λh=>x (by rw[h.2.2.2.1];rfl);have z:¬((b.fs.length:Int)=0):=O0;go_wp2;go_ret;exact⟨X5 c,d⟩
 rw[h1]at B;rw[h2]at A;rw[x]at y
 go_wp2_with fail
 refine(c62 b.s ⟨0,[],[]⟩ q.ta q.ra none none q.tc q.rc 0 0 V (GY P.out.st) a2d (S.out.st.below d) ⟨.inl rfl,.inl rfl⟩).mono ?_;rintro e w1⟨⟨N,rfl,l⟩,u⟩;have D:=U0 (a.out.below u a.out.lt);have E:=U0 (J5 d u);clear u B A y H F I C p n m a d;have p:=D.out.cell 12;have n:=D.out.cell 13;have m:=D.out.cell 14;simp only[gz]at p n m
 cases N with
 | false=>
  have c:Hid (¬xC b):=λh=>by have:=l.2 h.2.2.2.2.1;cases this
  clear l;go_wp2;go_ret;exact⟨X5 c,E⟩
 | true=>
 have O:=U0 (l.1 rfl);clear l;by_cases L:b.rt.length+b.rn.length+b.jb.length=0
 ·have r:Hid (xC b):=⟨Q,h1,h2,Qb.1 x,O,Qb.1 O0,Qb.1 O0,Qb.1 O0⟩;have z:((b.rt.length:Int)+b.rn.length+b.jb.length==0)=true:=Gp.2 O0;go_wp2;go_ret;exact⟨by first|exact J_ r.out|(rw[z];exact J_ r),E⟩
 have c:Hid (¬xC b):=λh=>L (by rw[h.2.2.2.2.2.1,h.2.2.2.2.2.2.1,h.2.2.2.2.2.2.2];rfl);have z:((b.rt.length:Int)+b.rn.length+b.jb.length==0)=false:=V_.2 O0;go_wp2;go_ret;exact⟨by first|exact X5 c.out|(rw[z];exact X5 c),E⟩
def Hrd(hd:List Int)(now:Int):Prop:=(1<=hd.length/\hd.length<=4)/\∀i,i<hd.length-> -1<=hd.getD i 0/\hd.getD i 0<=now
theorem c83(a:OA)(cap:Nat)(hd:List Int)(now:Int)(w:World)(hl:hd.length<=1048576)(m:Rf w a hd):
 Calls prog 83 #[.slice a hd.length cap,.int .i64 now] w λe w'=>Rb (Hrd hd now) e/\w'=w:=by
 obtain⟨bb,off,hc⟩:=Jg m;have q:=U0 hc;clear m hc
 go_in
 go_wp2_with fail
 refine(a3r hd.length w).mono ?_;rintro e w1⟨rfl,hw⟩;obtain rfl:=hw.symm;by_cases h0:1<=hd.length/\hd.length<=4;rotate_left
 ·have b:Hid (¬Hrd hd now):=λh=>h0 h.1;rw[show decide (1<=(hd.length:Int)/\(hd.length:Int)<=4)=false from o_ O0];go_wp2;go_ret;exact⟨X5 b.out,rfl⟩
 rw[show decide (1<=(hd.length:Int)/\(hd.length:Int)<=4)=true from X_ O0];go_wp2;go_loop[13] (λi=>∃k:Nat,k<=hd.length/\i=.int .i64 k/\Hid (∀j,j<k-> -1<=hd.getD j 0/\hd.getD j 0<=now)) (λi=>hd.length-(RowKit.intOf i).toNat);exact⟨0,J4 _,rfl,λj h=>absurd h (y9 _)⟩;obtain⟨k,hk,rfl,f⟩:=hrel;by_cases c:k<hd.length;rotate_left
 ·obtain rfl:k=hd.length:=O0;have n:Hid (Hrd hd now):=⟨h0,f.out⟩;go_wp2;go_ret;exact⟨J_ n.out,rfl⟩
 obtain⟨ha,hbw,l⟩:=Jd q.out c;subst ha;have g0:=l k c;have p:Hid (-1<=hd.getD k 0/\hd.getD k 0<=now->∀j,j<k+1-> -1<=hd.getD j 0/\hd.getD j 0<=now):=λd j hj=>by
  rcases D8 j k with h|h
  ·exact f.out j h
  obtain rfl:j=k:=O0;exact d
 have b:Hid (¬(-1<=hd.getD k 0/\hd.getD k 0<=now)->¬Hrd hd now):=λd h=>d (h.2 k c);generalize hd.getD k 0=X at*;clear l f;by_cases h1:X< -1
 ·have g:=U0 (b.out O0);go_wp2;go_ret;exact⟨X5 g.out,rfl⟩
 by_cases h2:now<X
 ·have g:=U0 (b.out O0);go_wp2;go_ret;exact⟨X5 g.out,rfl⟩
 have o:=U0 (p.out O0);go_wp2
 go_round
 exact⟨k+1,O0,by go_num,o⟩;exact Z9
open Go.ChangeShapes Go.WideShapes Go.ChangeAt Go.RowKit
theorem cells9:prog.cellsOf 9=1:=Y1
theorem cells4:prog.cellsOf 4=1:=Y1
theorem cells3:prog.cellsOf 3=1:=Y1
theorem cells22:prog.cellsOf 22=1:=Y1
theorem cells25:prog.cellsOf 25=1:=Y1
theorem cells24:prog.cellsOf 24=2:=Y1
theorem cells27:prog.cellsOf 27=1:=Y1
theorem cells28:prog.cellsOf 28=1:=Y1
theorem cells30:prog.cellsOf 30=3:=Y1
theorem cells31:prog.cellsOf 31=1:=Y1
theorem cells32:prog.cellsOf 32=1:=Y1
theorem cells33:prog.cellsOf 33=1:=Y1
theorem cells35:prog.cellsOf 35=15:=Y1
theorem IX:prog.cellsOf 97=1:=Y1
theorem uF:prog.cellsOf 98=2:=Y1
theorem lH:prog.cellsOf 100=6:=Y1
theorem wG:prog.cellsOf 103=3:=Y1
theorem KH:prog.cellsOf 152=2:=Y1
theorem PS:prog.cellsOf 154=1:=Y1
theorem JG:prog.cellsOf 156=3:=Y1
theorem uH:prog.cellsOf 221=4:=Y1
theorem BG:prog.cellsOf 282=3:=Y1
theorem YZ{l:List α}(h:l.length=1):∃a,l=[a]:=by
 match l,h with
 | [a],_=>exact⟨_,rfl⟩
theorem pK{l:List α}(h:l.length=2):∃a a1,l=[a,a1]:=by
 match l,h with
 | [a,a1],_=>exact⟨_,_,rfl⟩
theorem jE{l:List α}(h:l.length=3):∃a a1 a2,l=[a,a1,a2]:=by
 match l,h with
 | [a,a1,a2],_=>exact⟨_,_,_,rfl⟩
theorem a1n{l:List α}(h:l.length=4):∃b a1 a2 a,l=[b,a1,a2,a]:=by
 match l,h with
 | [b,a1,a2,a],_=>exact⟨_,_,_,_,rfl⟩
theorem a0u{l:List α}(h:l.length=6):∃d a1 a2 c b a,l=[d,a1,a2,c,b,a]:=by
 match l,h with
 | [d,a1,a2,c,b,a],_=>exact⟨_,_,_,_,_,_,rfl⟩
theorem IW{l:List α}(h:l.length=15):∃o a1 a2 g f e d c b a n m k j i,l=[o,a1,a2,g,f,e,d,c,b,a,n,m,k,j,i]:=by
 match l,h with
 | [o,a1,a2,g,f,e,d,c,b,a,n,m,k,j,i],_=>exact⟨_,_,_,_,_,_,_,_,_,_,_,_,_,_,_,rfl⟩
theorem Zt(b off i:Nat):(⟨b,off,none⟩:Addr).add i=⟨b,off+i,none⟩:=by unfold Addr.add;split<;>simp_all
theorem own:ownKnob prog.godebug=none:=Y1
theorem laidOut:laidOutB prog=true:=Y1
theorem PV(d:α){sl k:TypeId}{n:Nat}(s:prog.underlying sl=some (.slice k))(hc:prog.cellsOf k=n)(A:0<n)(Q:List Value->α->Prop)
 (hQ:∀fuel cs y,DataW.trod enc prog W 0 (λ_=>true) true fuel k cs=some y->∃x,Q cs x) (hf:DataW.trod enc prog W 0 (λ_=>true) true fuel sl cs=some y):
 ∃(a:OA)(cap:Nat)(is:List α),cs=[.slice a is.length cap]/\is.length<=maxLen/\vw W a is d n (λw b o x=>∃c,Q c x/\Bc w b o c):=by
 rcases Go.Deep.open_slice s hf with⟨rfl,_⟩|⟨a,len,cap,m,n',D,Pl,rfl,_,hl,hm,l,_,hx⟩
 ·exact⟨none,0,[],rfl,J4 _,.inl rfl⟩
 simp only[if_true]at l;subst l;have C:∀i,i<m->∃x:α,∃c,W.cells? 0 (a.add (i*n)) n=some c/\Q c x:=λi g=>by
  obtain⟨c,h1,h2⟩:=hx i g;obtain⟨x,u⟩:=hQ _ _ _ h2;rw[hc]at h1;exact⟨x,c,h1,u⟩
 obtain⟨V,hV⟩:=@Go.Deep.choose_lt α ⟨d⟩ m (λi x=>∃c,W.cells? 0 (a.add (i*n)) n=some c/\Q c x) C;have j:((List.range len).map V).length=len:=E5;have B:∀i,i<len->((List.range len).map V).getD i d=V i:=λi g=>by simp[List.getD,g]
 refine⟨some a,m,(List.range len).map V,by rw[j],by rw[j];omega,?_⟩;rcases Jw len with h0|h0
 ·exact .inl (by rw[h0];rfl)
 obtain⟨b,off,r⟩:=a;obtain⟨cs0,f,_⟩:=hV 0 O0;obtain⟨_,E,f⟩:=World.cells?_some f;have f:=f 0 A;rw[L9 O0]at f;have t:r=none:=by simpa[Addr.add]using World.cell?_spot f
 subst t;refine .inr ⟨b,off,rfl,?_,λi g=>?_⟩
 ·rw[Zt,Zt]at f;rcases D8 b W.heap.size with h|h
  ·exact h
  simp[World.cell?,Qp h]at f
 rw[j]at g;rw[B i g];obtain⟨c,h1,h2⟩:=hV i O0;refine⟨c,h2,λq v e=>?_⟩;obtain⟨_,E,F⟩:=World.cells?_some h1;have z:q<n:=by have:=(Zi.1 e).1;omega
 have p:=F q z;rw[Zt,Zt]at p;exact p.trans e
theorem Bf{t:TypeId}{fs:Array Field}(ht:prog.underlying t=some (.struct fs))(h:DataW.trod enc prog W 0 (λ_=>true) true fuel t cs=some y):
 ∃n,cs.length=prog.cellsOf t/\∀(i:Nat)(f:Field),fs[i]?=some f->∃z,DataW.trod enc prog W 0 (λ_=>true) true n f.type ((cs.drop f.offset).take (prog.cellsOf f.type))=some z:=by
 obtain⟨xs,n,_,rfl,hl,a,hf⟩:=DataW.trod_struct ht h;refine⟨n,hl,λi f e=>?_⟩;have b:i<xs.length:=by rw[a];exact(Eb.1 e).1
 exact⟨xs[i],(hf i f e).trans (L9 b)⟩
abbrev Tr{H:Type}(enc:TypeId×Value->H)(W:World)(n:Nat)(t:TypeId)(cs:List Value)(y:DataW H×List MemPlace):Prop:=DataW.trod enc prog W 0 (λ_=>true) true n t cs=some y
section
variable{H:Type}{enc:TypeId×Value->H}{W:World}{fuel:Nat}{cs:List Value}{y:DataW H×List MemPlace}
theorem Qk{α:Type}(d:α){sl g:TypeId}{n:Nat}(k:prog.underlying sl=some (.slice g))(hc:prog.cellsOf g=n)(l:0<n)(Q:List Value->α->Prop)(R:α->Prop)(hR:R d)
 (hQ:∀fuel cs y,DataW.trod enc prog W 0 (λ_=>true) true fuel g cs=some y->∃x,Q cs x/\R x) (hf:Tr enc W fuel sl cs y):
 ∃(a:OA)(cap:Nat)(is:List α),cs=[.slice a is.length cap]/\is.length<=maxLen/\(∀i,R (is.getD i d))/\vw W a is d n (λw b o x=>∃j,Q j x/\Bc w b o j):=by
 obtain⟨a,cap,is,e,hl,h⟩:=PV d k hc l (λcs x=>Q cs x/\R x) hQ hf;refine⟨a,cap,is,e,hl,λi=>?_,?_⟩
 ·by_cases f:i<is.length
  ·rcases h with h|⟨b,off,_,_,h⟩
   ·subst h;exact hR
   obtain⟨_,h,_⟩:=h i f;exact h.2
  rw[List.getD,Zb O0];exact hR
 rcases h with h|⟨b,off,h1,h2,h⟩
 ·exact .inl h
 exact .inr ⟨b,off,h1,h2,λi f=>by obtain⟨c,h,m⟩:=h i f;exact⟨c,h.1,m⟩⟩
theorem jO(h:Tr enc W fuel 9 cs y):∃x:BY,cs=[.string x]/\x.size<=maxLen:=by
 obtain⟨s,e,_,a⟩:=Eo underlying9 h;exact⟨s,e,a⟩
theorem QO(h:Tr enc W fuel 3 cs y):∃x:Int,cs=[.int .i64 x]/\x=x:=by
 obtain⟨s,e,_⟩:=Ur underlying3 h;exact⟨s,e,rfl⟩
theorem KR(h:Tr enc W fuel 152 cs y):∃x:T.F2,cs=fiE x/\x.le maxLen:=by
 obtain⟨n,hl,hf⟩:=Bf underlying152 h;rw[KH]at hl;obtain⟨i,a,rfl⟩:=pK hl;obtain⟨c,h0⟩:=hf 0 _ rfl
 replace h0:Tr enc W n 9 (List.take (prog.cellsOf 9) [i,a]) c:=h0
 rw[cells9]at h0;obtain⟨b,h1⟩:=hf 1 _ rfl
 replace h1:Tr enc W n 9 (List.take (prog.cellsOf 9) [a]) b:=h1
 rw[cells9]at h1;obtain⟨e,e0,_,g⟩:=Eo underlying9 h0;simp at e0;obtain⟨d,e1,_,f⟩:=Eo underlying9 h1;simp at e1;exact⟨⟨e,d⟩,by rw[e0,e1];rfl,g,f⟩
theorem yP(h:Tr enc W fuel 103 cs y):∃x:Jb,cs=yC x/\x.nm.size<=maxLen:=by
 obtain⟨n,hl,hf⟩:=Bf underlying103 h;rw[wG]at hl;obtain⟨k,b,c2,rfl⟩:=jE hl;obtain⟨e,h0⟩:=hf 0 _ rfl
 replace h0:Tr enc W n 9 (List.take (prog.cellsOf 9) [k,b,c2]) e:=h0
 rw[cells9]at h0;obtain⟨d,h1⟩:=hf 1 _ rfl
 replace h1:Tr enc W n 3 (List.take (prog.cellsOf 3) [b,c2]) d:=h1
 rw[cells3]at h1;obtain⟨c,h2⟩:=hf 2 _ rfl
 replace h2:Tr enc W n 3 (List.take (prog.cellsOf 3) [c2]) c:=h2
 rw[cells3]at h2;obtain⟨i,e0,_,j⟩:=Eo underlying9 h0;simp at e0;obtain⟨g,e1,_,_⟩:=Ur underlying3 h1;simp at e1;obtain⟨f,a,_,_⟩:=Ur underlying3 h2;simp at a;exact⟨⟨i,g,f⟩,by rw[e0,e1,a];rfl,j⟩
theorem RQ(h:Tr enc W fuel 282 cs y):∃x:G3,cs=wP x/\x.le maxLen:=by
 obtain⟨n,hl,hf⟩:=Bf underlying282 h;rw[BG]at hl;obtain⟨l,b,c2,rfl⟩:=jE hl;obtain⟨e,h0⟩:=hf 0 _ rfl
 replace h0:Tr enc W n 4 (List.take (prog.cellsOf 4) [l,b,c2]) e:=h0
 rw[cells4]at h0;obtain⟨d,h1⟩:=hf 1 _ rfl
 replace h1:Tr enc W n 9 (List.take (prog.cellsOf 9) [b,c2]) d:=h1
 rw[cells9]at h1;obtain⟨c,h2⟩:=hf 2 _ rfl
 replace h2:Tr enc W n 9 (List.take (prog.cellsOf 9) [c2]) c:=h2
 rw[cells9]at h2;obtain⟨i,e0,_⟩:=DJ underlying4 h0;simp at e0;obtain⟨g,e1,_,k⟩:=Eo underlying9 h1;simp at e1;obtain⟨f,a,_,j⟩:=Eo underlying9 h2;simp at a;exact⟨⟨i,g,f⟩,by rw[e0,e1,a];rfl,k,j⟩
theorem ZA(h:Tr enc W fuel 98 cs y):∃(c:Int)(t:BY),cs=[.int .i64 c,.string t]/\t.size<=maxLen:=by
 obtain⟨n,hl,hf⟩:=Bf underlying98 h;rw[uF]at hl;obtain⟨i,a,rfl⟩:=pK hl;obtain⟨d,h0⟩:=hf 0 _ rfl
 replace h0:Tr enc W n 3 (List.take (prog.cellsOf 3) [i,a]) d:=h0
 rw[cells3]at h0;obtain⟨b,h1⟩:=hf 1 _ rfl
 replace h1:Tr enc W n 9 (List.take (prog.cellsOf 9) [a]) b:=h1
 rw[cells9]at h1;obtain⟨f,e0,_,_⟩:=Ur underlying3 h0;simp at e0;obtain⟨e,e1,_,g⟩:=Eo underlying9 h1;simp at e1;exact⟨f,e,by rw[e0,e1],g⟩
theorem gK(h:Tr enc W fuel 221 cs y):∃x:L4,cs=ny x/\x.le maxLen:=by
 obtain⟨n,hl,hf⟩:=Bf underlying221 h;rw[uH]at hl;obtain⟨k,b,c2,c3,rfl⟩:=a1n hl;obtain⟨f,h0⟩:=hf 0 _ rfl
 replace h0:Tr enc W n 4 (List.take (prog.cellsOf 4) [k,b,c2,c3]) f:=h0
 rw[cells4]at h0;obtain⟨e,h1⟩:=hf 1 _ rfl
 replace h1:Tr enc W n 9 (List.take (prog.cellsOf 9) [b,c2,c3]) e:=h1
 rw[cells9]at h1;obtain⟨d,h2⟩:=hf 2 _ rfl
 replace h2:Tr enc W n 98 (List.take (prog.cellsOf 98) [c2,c3]) d:=h2
 rw[uF]at h2;obtain⟨i,e0,_⟩:=DJ underlying4 h0;simp at e0;obtain⟨g,e1,_,j⟩:=Eo underlying9 h1;simp at e1;obtain⟨c,t,a,ht⟩:=ZA h2;simp at a;exact⟨⟨i,g,c,t⟩,by rw[e0,e1,a.1,a.2];rfl,j,ht⟩
theorem Ry(h:Tr enc W fuel 22 cs y):∃a cap is,cs=[.slice a is.length cap]/\is.length<=maxLen/\(∀i,(is.getD i ByteArray.empty).size<=maxLen)/\Z7 W a is:=by
 obtain⟨a,cap,is,e,hl,hr,h⟩:=Qk ByteArray.empty (α:=ByteArray) underlying22 cells9 Z5 (λcs x=>cs=[.string x]) (λx=>x.size<=maxLen) (J4 _) (λ_ _ _ h=>jO h) h;refine⟨a,cap,is,e,hl,hr,?_⟩;rcases h with h|⟨b,off,h1,h2,d⟩
 ·exact .inl h
 refine .inr ⟨b,off,h1,h2,λi c=>?_⟩;obtain⟨_,rfl,h⟩:=d i c;simpa using h 0 _ rfl
theorem vV(h:Tr enc W fuel 31 cs y):∃a cap is,cs=[.slice a is.length cap]/\is.length<=maxLen/\(∀i,(is.getD i (0:Int))=(is.getD i (0:Int)))/\Rf W a is:=by
 obtain⟨a,cap,is,e,hl,hr,h⟩:=Qk (0:Int) (α:=Int) underlying31 cells3 Z5 (λcs x=>cs=[.int .i64 x]) (λx=>x=x) (rfl) (λ_ _ _ h=>QO h) h;refine⟨a,cap,is,e,hl,hr,?_⟩;rcases h with h|⟨b,off,h1,h2,d⟩
 ·exact .inl h
 refine .inr ⟨b,off,h1,h2,λi c=>?_⟩;obtain⟨_,rfl,h⟩:=d i c;simpa using h 0 _ rfl
theorem uX(h:Tr enc W fuel 25 cs y):∃a cap is,cs=[.slice a is.length cap]/\is.length<=maxLen/\(∀i,(is.getD i T.G9).le maxLen)/\T.G6 W a is:=by
 obtain⟨a,cap,is,e,hl,hr,h⟩:=Qk T.G9 (α:=T.F2) underlying25 KH Z5 (λcs x=>cs=fiE x) (λx=>x.le maxLen) (⟨J4 _,J4 _⟩) (λ_ _ _ h=>KR h) h;refine⟨a,cap,is,e,hl,hr,?_⟩;rcases h with h|⟨b,off,h1,h2,d⟩
 ·exact .inl h
 refine .inr ⟨b,off,h1,h2,λi c=>?_⟩;obtain⟨_,rfl,h⟩:=d i c;exact⟨h 0 _ rfl,h 1 _ rfl⟩
theorem OW(h:Tr enc W fuel 33 cs y):∃a cap is,cs=[.slice a is.length cap]/\is.length<=maxLen/\(∀i,(is.getD i ve).nm.size<=maxLen)/\ak W a is:=by
 obtain⟨a,cap,is,e,hl,hr,h⟩:=Qk ve (α:=Jb) underlying33 wG Z5 (λcs x=>cs=yC x) (λx=>x.nm.size<=maxLen) (J4 _) (λ_ _ _ h=>yP h) h;refine⟨a,cap,is,e,hl,hr,?_⟩;rcases h with h|⟨b,off,h1,h2,d⟩
 ·exact .inl h
 refine .inr ⟨b,off,h1,h2,λi c=>?_⟩;obtain⟨_,rfl,h⟩:=d i c;exact h
theorem KW(h:Tr enc W fuel 154 cs y):∃a cap is,cs=[.slice a is.length cap]/\is.length<=maxLen/\(∀i,(is.getD i zh).le maxLen)/\R_ W a is:=by
 obtain⟨a,cap,is,e,hl,hr,h⟩:=Qk zh (α:=G3) underlying154 BG Z5 (λcs x=>cs=wP x) (λx=>x.le maxLen) (⟨J4 _,J4 _⟩) (λ_ _ _ h=>RQ h) h;refine⟨a,cap,is,e,hl,hr,?_⟩;rcases h with h|⟨b,off,h1,h2,d⟩
 ·exact .inl h
 refine .inr ⟨b,off,h1,h2,λi c=>?_⟩;obtain⟨_,rfl,h⟩:=d i c;exact⟨h 0 _ rfl,h 1 _ rfl,h 2 _ rfl⟩
theorem uY(h:Tr enc W fuel 97 cs y):∃a cap is,cs=[.slice a is.length cap]/\is.length<=maxLen/\(∀i,(is.getD i M_).le maxLen)/\S9 W a is:=by
 obtain⟨a,cap,is,e,hl,hr,h⟩:=Qk M_ (α:=L4) underlying97 uH Z5 (λcs x=>cs=ny x) (λx=>x.le maxLen) (⟨J4 _,J4 _⟩) (λ_ _ _ h=>gK h) h;refine⟨a,cap,is,e,hl,hr,?_⟩;rcases h with h|⟨b,off,h1,h2,d⟩
 ·exact .inl h
 refine .inr ⟨b,off,h1,h2,λi c=>?_⟩;obtain⟨_,rfl,h⟩:=d i c;exact⟨h 0 _ rfl,h 1 _ rfl,h 2 _ rfl,h 3 _ rfl⟩
theorem JO(h:Tr enc W fuel 156 cs y):∃x:R3,(∃c q,cs=uJ (x,.slice c x.gs.length q)/\R_ W c x.gs)/\x.le maxLen:=by
 obtain⟨n,hl,hf⟩:=Bf underlying156 h;rw[JG]at hl;obtain⟨r,b,c2,rfl⟩:=jE hl;obtain⟨f,h0⟩:=hf 0 _ rfl
 replace h0:Tr enc W n 9 (List.take (prog.cellsOf 9) [r,b,c2]) f:=h0
 rw[cells9]at h0;obtain⟨e,h1⟩:=hf 1 _ rfl
 replace h1:Tr enc W n 154 (List.take (prog.cellsOf 154) [b,c2]) e:=h1
 rw[PS]at h1;obtain⟨d,h2⟩:=hf 2 _ rfl
 replace h2:Tr enc W n 9 (List.take (prog.cellsOf 9) [c2]) d:=h2
 rw[cells9]at h2;obtain⟨i,e0,_,m⟩:=Eo underlying9 h0;simp at e0;obtain⟨a1,j,gs,e1,o,l,p⟩:=KW h1;simp at e1;obtain⟨g,a,_,k⟩:=Eo underlying9 h2;simp at a;exact⟨⟨i,gs,g⟩,⟨a1,j,by rw[e0,e1,a];rfl,p⟩,m,o,l,k⟩
theorem LP(h:Tr enc W fuel 100 cs y):∃x:Rn,(∃i B,cs=Ph (x,.slice i x.ls.length B)/\S9 W i x.ls)/\x.le maxLen:=by
 obtain⟨n,hl,hf⟩:=Bf underlying100 h;rw[lH]at hl;obtain⟨C,g,c2,c3,c4,c18,rfl⟩:=a0u hl;obtain⟨o,h0⟩:=hf 0 _ rfl
 replace h0:Tr enc W n 9 (List.take (prog.cellsOf 9) [C,g,c2,c3,c4,c18]) o:=h0
 rw[cells9]at h0;obtain⟨m,h1⟩:=hf 1 _ rfl
 replace h1:Tr enc W n 3 (List.take (prog.cellsOf 3) [g,c2,c3,c4,c18]) m:=h1
 rw[cells3]at h1;obtain⟨l,h2⟩:=hf 2 _ rfl
 replace h2:Tr enc W n 9 (List.take (prog.cellsOf 9) [c2,c3,c4,c18]) l:=h2
 rw[cells9]at h2;obtain⟨k,b⟩:=hf 3 _ rfl
 replace b:Tr enc W n 97 (List.take (prog.cellsOf 97) [c3,c4,c18]) k:=b
 rw[IX]at b;obtain⟨j,a⟩:=hf 4 _ rfl
 replace a:Tr enc W n 98 (List.take (prog.cellsOf 98) [c4,c18]) j:=a
 rw[uF]at a;obtain⟨r,e0,_,w⟩:=Eo underlying9 h0;simp at e0;obtain⟨q,e1,_,_⟩:=Ur underlying3 h1;simp at e1;obtain⟨p,f,_,v⟩:=Eo underlying9 h2;simp at f;obtain⟨D,s,ls,e,z,u,A⟩:=uY b;simp at e;obtain⟨c,t,d,ht⟩:=ZA a;simp at d;exact⟨⟨r,q,p,ls,c,t⟩,⟨D,s,by rw[e0,e1,f,e,d.1,d.2];rfl,A⟩,w,v,⟨z,u⟩,ht⟩
theorem openedR(h:Tr enc W fuel 28 cs y):∃a cap is,cs=[.slice a is.length cap]/\is.length<=maxLen/\(∀i,(is.getD i h_).le maxLen)/\ug W a is:=by
 obtain⟨a,cap,is,e,hl,hr,h⟩:=Qk h_ (α:=R3) underlying28 JG Z5 (λcs x=>∃c d,cs=uJ (x,.slice c x.gs.length d)/\R_ W c x.gs) (λx=>x.le maxLen) (⟨J4 _,J4 _,λ_=>⟨J4 _,J4 _⟩,J4 _⟩) (λ_ _ _ h=>JO h) h;refine⟨a,cap,is,e,hl,hr,?_⟩;rcases h with h|⟨b,off,h1,h2,j⟩
 ·exact .inl h
 refine .inr ⟨b,off,h1,h2,λi f=>?_⟩;obtain⟨_,⟨c,d,rfl,g⟩,h⟩:=j i f;exact⟨c,d,h 0 _ rfl,h 1 _ rfl,h 2 _ rfl,g⟩
theorem xW(h:Tr enc W fuel 32 cs y):∃a cap is,cs=[.slice a is.length cap]/\is.length<=maxLen/\(∀i,(is.getD i A_).le maxLen)/\yj W a is:=by
 obtain⟨a,cap,is,e,hl,hr,h⟩:=Qk A_ (α:=Rn) underlying32 lH Z5 (λcs x=>∃c d,cs=Ph (x,.slice c x.ls.length d)/\S9 W c x.ls) (λx=>x.le maxLen) (⟨J4 _,J4 _,⟨J4 _,λ_=>⟨J4 _,J4 _⟩⟩,J4 _⟩) (λ_ _ _ h=>LP h) h;refine⟨a,cap,is,e,hl,hr,?_⟩;rcases h with h|⟨b,off,h1,h2,j⟩
 ·exact .inl h
 refine .inr ⟨b,off,h1,h2,λi f=>?_⟩;obtain⟨_,⟨c,d,rfl,g⟩,h⟩:=j i f;exact⟨c,d,h,g⟩
theorem fP(h:Tr enc W fuel 24 cs y):∃c e b a1 d a,cs=[.slice c b.length e,.slice a1 a.length d]/\((b.length<=maxLen/\∀i,(b.getD i ByteArray.empty).size<=maxLen)/\Z7 W c b)/\(a.length<=maxLen/\∀i,(a.getD i ByteArray.empty).size<=maxLen)/\Z7 W a1 a:=by
 obtain⟨n,hl,hf⟩:=Bf underlying24 h;rw[cells24]at hl;obtain⟨r,f,rfl⟩:=pK hl;obtain⟨j,h0⟩:=hf 0 _ rfl
 replace h0:Tr enc W n 22 (List.take (prog.cellsOf 22) [r,f]) j:=h0
 rw[cells22]at h0;obtain⟨g,h1⟩:=hf 1 _ rfl
 replace h1:Tr enc W n 22 (List.take (prog.cellsOf 22) [f]) g:=h1
 rw[cells22]at h1;obtain⟨c,e,b,e0,q,o,l⟩:=Ry h0;obtain⟨a1,d,a,e1,p,m,k⟩:=Ry h1;simp at e0 e1;exact⟨c,e,b,a1,d,a,by rw[e0,e1],⟨⟨q,o⟩,l⟩,⟨p,m⟩,k⟩
theorem fK(h:Tr enc W fuel 27 cs y):∃a k is,cs=[.slice a is.length k]/\is.length<=maxLen/\(∀i,(is.getD i T.G9).le maxLen)/\T.G6 W a is:=by
 obtain⟨n,hl,hf⟩:=Bf underlying27 h;rw[cells27]at hl;obtain⟨c,rfl⟩:=YZ hl;obtain⟨b,h0⟩:=hf 0 _ rfl
 replace h0:Tr enc W n 25 (List.take (prog.cellsOf 25) [c]) b:=h0
 rw[cells25]at h0;exact uX h0
theorem pI(h:Tr enc W fuel 30 cs y):∃(s:St)(d a1:OA)(u a:Nat),cs=[.int .i64 s.wd,.slice d s.ts.length u,.slice a1 s.rs.length a]/\s.le maxLen/\Ef W d a1 s:=by
 obtain⟨n,hl,hf⟩:=Bf underlying30 h;rw[cells30]at hl;obtain⟨v,c,c2,rfl⟩:=jE hl;obtain⟨g,h0⟩:=hf 0 _ rfl
 replace h0:Tr enc W n 3 (List.take (prog.cellsOf 3) [v,c,c2]) g:=h0
 rw[cells3]at h0;obtain⟨f,h1⟩:=hf 1 _ rfl
 replace h1:Tr enc W n 22 (List.take (prog.cellsOf 22) [c,c2]) f:=h1
 rw[cells22]at h1;obtain⟨e,h2⟩:=hf 2 _ rfl
 replace h2:Tr enc W n 28 (List.take (prog.cellsOf 28) [c2]) e:=h2
 rw[cells28]at h2;obtain⟨i,e0,_,_⟩:=Ur underlying3 h0;simp at e0;obtain⟨a1,a,r,e1,p,m,k⟩:=Ry h1;obtain⟨a2,t,q,b,o,l,j⟩:=openedR h2;simp at e1 b;exact⟨⟨i,r,q⟩,a1,a2,a,t,by rw[e0,e1,b],⟨⟨p,m⟩,o,l⟩,k,j⟩
theorem xP(h:Tr enc W fuel 35 cs y):∃b q,cs=bsV b q/\Ug b maxLen/\Gh W b q:=by
 obtain⟨n,hl,hf⟩:=Bf underlying35 h;rw[cells35]at hl;obtain⟨c0,z,c2,c3,c4,c18,c6,lW,c8,c11,c12,c13,c14,c15,c16,rfl⟩:=IW hl;obtain⟨N,h0⟩:=hf 0 _ rfl
 replace h0:Tr enc W n 3 (List.take (prog.cellsOf 3) [c0,z,c2,c3,c4,c18,c6,lW,c8,c11,c12,c13,c14,c15,c16]) N:=h0
 rw[cells3]at h0;obtain⟨L,h1⟩:=hf 1 _ rfl
 replace h1:Tr enc W n 4 (List.take (prog.cellsOf 4) [z,c2,c3,c4,c18,c6,lW,c8,c11,c12,c13,c14,c15,c16]) L:=h1
 rw[cells4]at h1;obtain⟨I,h2⟩:=hf 2 _ rfl
 replace h2:Tr enc W n 3 (List.take (prog.cellsOf 3) [c2,c3,c4,c18,c6,lW,c8,c11,c12,c13,c14,c15,c16]) I:=h2
 rw[cells3]at h2;obtain⟨H,i⟩:=hf 3 _ rfl
 replace i:Tr enc W n 3 (List.take (prog.cellsOf 3) [c3,c4,c18,c6,lW,c8,c11,c12,c13,c14,c15,c16]) H:=i
 rw[cells3]at i;obtain⟨F,g⟩:=hf 4 _ rfl
 replace g:Tr enc W n 3 (List.take (prog.cellsOf 3) [c4,c18,c6,lW,c8,c11,c12,c13,c14,c15,c16]) F:=g
 rw[cells3]at g;obtain⟨E,f⟩:=hf 5 _ rfl
 replace f:Tr enc W n 24 (List.take (prog.cellsOf 24) [c18,c6,lW,c8,c11,c12,c13,c14,c15,c16]) E:=f
 rw[cells24]at f;obtain⟨D,e⟩:=hf 6 _ rfl
 replace e:Tr enc W n 27 (List.take (prog.cellsOf 27) [lW,c8,c11,c12,c13,c14,c15,c16]) D:=e
 rw[cells27]at e;obtain⟨C,d⟩:=hf 7 _ rfl
 replace d:Tr enc W n 30 (List.take (prog.cellsOf 30) [c8,c11,c12,c13,c14,c15,c16]) C:=d
 rw[cells30]at d;obtain⟨B,c⟩:=hf 8 _ rfl
 replace c:Tr enc W n 31 (List.take (prog.cellsOf 31) [c13,c14,c15,c16]) B:=c
 rw[cells31]at c;obtain⟨A,a⟩:=hf 9 _ rfl
 replace a:Tr enc W n 22 (List.take (prog.cellsOf 22) [c14,c15,c16]) A:=a
 rw[cells22]at a;obtain⟨K,h10⟩:=hf 10 _ rfl
 replace h10:Tr enc W n 32 (List.take (prog.cellsOf 32) [c15,c16]) K:=h10
 rw[cells32]at h10;obtain⟨J,j⟩:=hf 11 _ rfl
 replace j:Tr enc W n 33 (List.take (prog.cellsOf 33) [c16]) J:=j
 rw[cells33]at j;obtain⟨U,e0,_,_⟩:=Ur underlying3 h0;simp at e0;obtain⟨S,e1,_⟩:=DJ underlying4 h1;simp at e1;obtain⟨R,v,_,_⟩:=Ur underlying3 h2;simp at v;obtain⟨Q,u,_,_⟩:=Ur underlying3 i;simp at u;obtain⟨P,t,_,_⟩:=Ur underlying3 g;simp at t;obtain⟨la0,lk0,ll0,la1,lk1,ll1,o,m,l⟩:=fP f;obtain⟨a6,k6,l6,s,p6,q6,Y⟩:=fK e;obtain⟨O,a7,b7,k7,m7,k,p7,q7⟩:=pI d;obtain⟨a8,k8,l8,r,p8,_,X⟩:=vV c;obtain⟨a9,k9,l9,p,p9,q9,V⟩:=Ry a;obtain⟨a10,k10,l10,x,p10,q10,r10⟩:=xW h10;obtain⟨a11,k11,l11,w,p11,q11,Z⟩:=OW j;simp at o s k r p x w;refine⟨⟨U,S,R,Q,P,ll0,ll1,l6,O,l8,l9,l10,l11⟩,⟨la0,lk0,la1,lk1,a6,k6,a7,k7,b7,m7,a8,k8,a9,k9,a10,k10,a11,k11⟩,?_,⟨m.1.1,m.1.2,l.1.1,l.1.2,p6,q6,p7,p8,p9,q9,p10,q10,p11,q11⟩,m.2,l.2,Y,q7,X,V,r10,Z⟩;rw[e0,e1,v,u,t,o.1,o.2,s,k.1,k.2.1,k.2.2,r,p,x,w]
end
def cell1 : DataW Unit → Value
  | .lit (.int k n)=>.int k n
  | .lit (.bool b)=>.bool b
  | .lit (.string l)=>.string ⟨l.toArray⟩
  | _=>.bool false
def a0p : DataW Unit → List Value
  | .agg es=>es.map cell1
  | d=>[cell1 d]
def cells2 : DataW Unit → Array Value
  | .agg ds=>(ds.flatMap a0p).toArray
  | _=>#[]
def su(g : Nat)(t : Array Value)(w : World) : World := { w with heap:=w.heap.modify g fun
      | .cells _ ty frozen=>.cells t ty frozen
      | o=>o }

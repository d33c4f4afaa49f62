import Derived.Test.YtbgdfcmeheaiiaaGreatDoorvY
import Derived.Test.YtbgdfcmeheaiiaaGreatDoorLX
set_option linter.unusedVariables false
set_option linter.unusedSimpArgs false
set_option maxHeartbeats 8000000
set_option maxRecDepth 100000
namespace Go.Proofs.YtbgdfcmeheaiiaaGreatDoor
open Proofs.Tryz Go.RowKit
def kD(b:Bs):Prop:=(∀i,i<b.hd.length->b.hd.getD i 0= -1)/\b.ep=0/\b.ed=0/\b.fs=[]/\b.s=⟨0,[],[]⟩/\b.rt=[]/\b.rn=[]/\b.jb=[]
theorem qX{s:St}(h:s.le 1048576):s.ts.length<=1048576/\s.rs.length<=1048576/\∀i,(s.rs.getD i j_).gs.length<=1048576:=⟨h.1.1,h.2.1,λi=>(h.2.2 i).2.1⟩
theorem a1R:(⟨0,[],[]⟩:St).ts.length<=1048576/\(⟨0,[],[]⟩:St).rs.length<=1048576/\∀i,((⟨0,[],[]⟩:St).rs.getD i j_).gs.length<=1048576:=⟨J6,J6,λi=>by show(0:Nat)<=_;omega⟩
theorem ET{w:World}{g n:Nat}(h:Cl w g 3 (List.replicate n (.int .i64 (-1)))):Jg w (some ⟨g,0,none⟩) (List.replicate n (-1)):=.inr ⟨g,0,rfl,h.lt,λi a=>by
 rw[l7,h.cell i];simp at a;simp[List.getD,a]⟩
theorem XJ{l:List Int}:l=List.replicate l.length (-1)↔∀i,i<l.length->l.getD i 0= -1:=by
 constructor
 ·intro h i b;rw[h];simp[List.getD,b]
 intro h;refine Io (d:=0) O4 λj a=>?_;rw[h j a];simp[List.getD,a]
theorem c66(b:Bs)(q:Ba)(w:World)(hl:Bo b 1048576)(hn:1<=b.hd.length/\b.hd.length<=4)(Q:Dn w b q):
 Calls prog 66 #[.agg (bsV b q).toArray] w λe w'=>Rb (kD b) e/\Bw w w':=by
 have X:=U0 Q;have L:=U0 hl;clear Q hl
 go_in
 go_upto_region 1 with fail
 have c:=U0 (U3 w (bsV b q) 53);have k:=U0 (P6 (w:=w) (o:=.cells (bsV b q).toArray 53));generalize w.alloc (.cells (bsV b q).toArray 53)=V at*;have I:=c.out.cell 3;have H:=c.out.cell 4;have F:=c.out.cell 7;have U:=c.out.cell 8;have R:=c.out.cell 9;have W:=c.out.cell 10;have r:=c.out.cell 11;have p:=c.out.cell 12;have n:=c.out.cell 13;have m:=c.out.cell 14;simp only[gz]at I H F U R W r p n m;by_cases h1:b.ep=0;rotate_left
 ·have a:Hid (¬kD b):=λh=>h1 h.2.1
  go_wp2_with fail
  go_region
  all_goals go_wp2
  all_goals go_ret
  all_goals exact⟨I5 a.out,(k.out).drew⟩
 by_cases h2:b.ed=0;rotate_left
 ·have a:Hid (¬kD b):=λh=>h2 h.2.2.1
  go_wp2_with fail
  go_region
  all_goals go_wp2
  all_goals go_ret
  all_goals exact⟨I5 a.out,(k.out).drew⟩
 by_cases D:b.fs.length=0;rotate_left
 ·have a:Hid (¬kD b):=λh=>D (by rw[h.2.2.2.1];rfl);have z:¬((b.fs.length:Int)=0):=O0
  go_wp2_with fail
  go_region
  all_goals go_wp2
  all_goals go_ret
  all_goals exact⟨I5 a.out,(k.out).drew⟩
 rw[h1]at I;rw[h2]at H;rw[D]at F
 go_wp2_with fail
 refine(a2z b.s ⟨0,[],[]⟩ q.ta q.ra none none q.tc q.rc 0 0 V (qX L.out.st) a1R (X.out.st.below k) ⟨.inl rfl,.inl rfl⟩).mono ?_;rintro e w1⟨⟨E,rfl,d⟩,y⟩;have f:=U0 (c.out.below y c.out.lt);have j:=U0 (P5 k y);clear y I H F U R W r p n m c k;have r:=f.out.cell 11;have p:=f.out.cell 12;have n:=f.out.cell 13;have m:=f.out.cell 14;simp only[gz]at r p n m
 cases E with
 | false=>
  have a:Hid (¬kD b):=λh=>by have:=d.2 h.2.2.2.2.1;cases this
  clear d
  go_wp2_with fail
  go_region
  all_goals go_wp2
  all_goals go_ret
  all_goals exact⟨I5 a.out,(j.out).drew⟩
 | true=>
 have HT:=U0 (d.1 rfl);clear d;by_cases C:b.rt.length=0;rotate_left
 ·have a:Hid (¬kD b):=λh=>C (by rw[h.2.2.2.2.2.1];rfl);have z:¬((b.rt.length:Int)=0):=O0
  go_wp2_with fail
  go_region
  all_goals go_wp2
  all_goals go_ret
  all_goals exact⟨I5 a.out,(j.out).drew⟩
 by_cases B:b.rn.length=0;rotate_left
 ·have a:Hid (¬kD b):=λh=>B (by rw[h.2.2.2.2.2.2.1];rfl);have z:¬((b.rn.length:Int)=0):=O0
  go_wp2_with fail
  go_region
  all_goals go_wp2
  all_goals go_ret
  all_goals exact⟨I5 a.out,(j.out).drew⟩
 by_cases A:b.jb.length=0;rotate_left
 ·have a:Hid (¬kD b):=λh=>A (by rw[h.2.2.2.2.2.2.2];rfl);have z:¬((b.jb.length:Int)=0):=O0
  go_upto_region 2 with fail
  rw[show((b.jb.length:Int)==0)=false from K_.2 z]
  go_wp2_with fail
  go_region
  all_goals go_wp2
  all_goals go_ret
  all_goals exact⟨I5 a.out,(j.out).drew⟩
 rw[C]at p;rw[B]at n;rw[A]at m;have HD:Hid ((∀i,i<b.hd.length->b.hd.getD i 0= -1)->kD b):=λh=>⟨h,h1,h2,La.1 D,HT,La.1 C,La.1 B,La.1 A⟩;have J:=U0 (f.out.below (J4 _ _).drew f.out.lt);have HXL:=U0 f.out.lt;clear r
 go_wp2_with fail
 refine wp_region_held_drew (S:=λu=>u.cell? (aW w 11)=some (vL q.ha b.hd.length q.hc)) Y0 (J.out.cell 11) λhH=>?_
 iterate 7 refine sq ?_
 refine rq 7 λK l=>?_;go_simp;refine(a4t b.hd.length w1.drew hn).mono ?_;rintro e Z⟨⟨g,rfl,_,P⟩,x⟩;have Y:=U0 ((j.out.drew).trans (x.mono j.out.size));have HI:=U0 (ET P);have N:=U0 (J.out.below x J.out.lt);clear P x
 go_wp2_with fail
 refine X8 l (N.out.cell 11) λhH=>?_;clear l K;refine rq 8 λK l=>?_;go_simp;have O:(List.replicate b.hd.length (-1:Int)).length=b.hd.length:=Hz;have t:=a4c b.hd (List.replicate b.hd.length (-1)) q.ha (some (aA g 0)) q.hc b.hd.length Z L.out.hl (by rw[O];exact L.out.hl) (zh X.out.hd Y) HI;rw[O]at t;refine t.mono ?_;rintro e w3⟨⟨E,rfl,d⟩,v⟩;have B3:=U0 (P5 Y v);have HE:Hid (E=true↔kD b):=⟨λh=>HD.out (XJ.1 (d.1 h)),λh=>d.2 (XJ.2 h.1)⟩;have CY:=U0 (N.out.below v N.out.lt);clear d v t
 go_wp2_with fail
 refine X8 l (CY.out.cell 11) λhH=>?_;clear l K
 iterate 2 refine sq ?_
 refine wdn ?_;go_wp2;go_ret;exact⟨⟨_,rfl,HE⟩,B3⟩
theorem c41(b:Bs)(q:Ba)(w:World)(hl:Bo b 1048576)(v:Dn w b q):
 Calls prog 41 #[.agg (bsV b q).toArray] w λe w'=>Rb (kD b) e/\Bw w w':=by
 have S:=U0 v;have P:=U0 hl;have hhl:=hl.hl;have hrl:=hl.rl;have hnl:=hl.nl;have hjl:=hl.jl;obtain⟨bb,off,hc⟩:=lg v.hd;have R:=U0 hc;clear v hl hc
 go_in
 go_upto_region 1 with fail
 have a:=U0 (U3 w (bsV b q) 53);have d:=U0 (P6 (w:=w) (o:=.cells (bsV b q).toArray 53));generalize w.alloc (.cells (bsV b q).toArray 53)=V at*;have B:=a.out.cell 3;have A:=a.out.cell 4;have y:=a.out.cell 7;have H:=a.out.cell 8;have F:=a.out.cell 9;have I:=a.out.cell 10;have C:=a.out.cell 11;have p:=a.out.cell 12;have n:=a.out.cell 13;have m:=a.out.cell 14;simp only[gz]at B A y H F I C p n m;go_wp2;go_loop[3] (λi=>∃k:Nat,k<=b.hd.length/\i=.int .i64 k/\Hid (∀j,j<k->b.hd.getD j 0= -1)) (λi=>b.hd.length-(RowKit.intOf i).toNat);exact⟨0,I4 _,rfl,λj h=>absurd h (U7 _)⟩;obtain⟨k,J,rfl,hd⟩:=hrel;by_cases f:k<b.hd.length
 ·obtain⟨ha,K,t⟩:=Zb R.out f;rw[ha]at C;have g0:=(d.out.cell (by exact K)).trans (t k f);by_cases g:b.hd.getD k 0= -1
  ·have r:Hid (∀j,j<k+1->b.hd.getD j 0= -1):=λj hj=>by
    rcases P7 j k with h|h
    ·exact hd j h
    obtain rfl:j=k:=O0;exact g
   rw[g]at g0;clear t g hd;go_wp2
   go_round
   exact⟨k+1,O0,by go_num,r⟩;exact P9
  have c:Hid (¬kD b):=λh=>g (h.1 k f);generalize b.hd.getD k 0=X at*;clear t hd;go_wp2;go_ret;exact⟨I5 c,d⟩
 obtain rfl:k=b.hd.length:=O0;have Q:=hd;clear hd f J;by_cases h1:b.ep=0;rotate_left
 ·have c:Hid (¬kD b):=λh=>h1 h.2.1;go_wp2;go_ret;exact⟨I5 c,d⟩
 by_cases h2:b.ed=0;rotate_left
 ·have c:Hid (¬kD b):=λh=>h2 h.2.2.1;go_wp2;go_ret;exact⟨I5 c,d⟩
 by_cases x:b.fs.length=0;rotate_left
 ·have c:Hid (¬kD b):=λh=>x (by rw[h.2.2.2.1];rfl);have z:¬((b.fs.length:Int)=0):=O0;go_wp2;go_ret;exact⟨I5 c,d⟩
 rw[h1]at B;rw[h2]at A;rw[x]at y
 go_wp2_with fail
 refine(c43 b.s ⟨0,[],[]⟩ q.ta q.ra none none q.tc q.rc 0 0 V (qX P.out.st) a1R (S.out.st.below d) ⟨.inl rfl,.inl rfl⟩).mono ?_;rintro e w1⟨⟨N,rfl,l⟩,u⟩;have D:=U0 (a.out.below u a.out.lt);have E:=U0 (P5 d u);clear u B A y H F I C p n m a d;have p:=D.out.cell 12;have n:=D.out.cell 13;have m:=D.out.cell 14;simp only[gz]at p n m
 cases N with
 | false=>
  have c:Hid (¬kD b):=λh=>by have:=l.2 h.2.2.2.2.1;cases this
  clear l;go_wp2;go_ret;exact⟨I5 c,E⟩
 | true=>
 have O:=U0 (l.1 rfl);clear l;by_cases L:b.rt.length+b.rn.length+b.jb.length=0
 ·have r:Hid (kD b):=⟨Q,h1,h2,La.1 x,O,La.1 O0,La.1 O0,La.1 O0⟩;have z:((b.rt.length:Int)+b.rn.length+b.jb.length==0)=true:=Zo.2 O0;go_wp2;go_ret;exact⟨by first|exact F_ r.out|(rw[z];exact F_ r),E⟩
 have c:Hid (¬kD b):=λh=>L (by rw[h.2.2.2.2.2.1,h.2.2.2.2.2.2.1,h.2.2.2.2.2.2.2];rfl);have z:((b.rt.length:Int)+b.rn.length+b.jb.length==0)=false:=K_.2 O0;go_wp2;go_ret;exact⟨by first|exact I5 c.out|(rw[z];exact I5 c),E⟩
def Hrd(hd:List Int)(now:Int):Prop:=(1<=hd.length/\hd.length<=4)/\∀i,i<hd.length-> -1<=hd.getD i 0/\hd.getD i 0<=now
theorem c63(a:OA)(n:Nat)(hd:List Int)(now:Int)(w:World)(hl:hd.length<=1048576)(m:Jg w a hd):
 Calls prog 63 #[.slice a hd.length n,.int .i64 now] w λe w'=>Rb (Hrd hd now) e/\w'=w:=by
 obtain⟨bb,off,hc⟩:=lg m;have r:=U0 hc;clear m hc
 go_in
 go_wp2_with fail
 refine(c60 hd.length w).mono ?_;rintro e w1⟨rfl,hw⟩;obtain rfl:=hw.symm;by_cases h0:1<=hd.length/\hd.length<=4;rotate_left
 ·have b:Hid (¬Hrd hd now):=λh=>h0 h.1;rw[show decide (1<=(hd.length:Int)/\(hd.length:Int)<=4)=false from y9 O0];go_wp2;go_ret;exact⟨I5 b.out,rfl⟩
 rw[show decide (1<=(hd.length:Int)/\(hd.length:Int)<=4)=true from m_ O0];go_wp2;go_loop[13] (λi=>∃k:Nat,k<=hd.length/\i=.int .i64 k/\Hid (∀j,j<k-> -1<=hd.getD j 0/\hd.getD j 0<=now)) (λi=>hd.length-(RowKit.intOf i).toNat);exact⟨0,I4 _,rfl,λj h=>absurd h (U7 _)⟩;obtain⟨k,hk,rfl,f⟩:=hrel;by_cases c:k<hd.length;rotate_left
 ·obtain rfl:k=hd.length:=O0;have o:Hid (Hrd hd now):=⟨h0,f.out⟩;go_wp2;go_ret;exact⟨F_ o.out,rfl⟩
 obtain⟨ha,hbw,l⟩:=Zb r.out c;subst ha;have g0:=l k c;have q:Hid (-1<=hd.getD k 0/\hd.getD k 0<=now->∀j,j<k+1-> -1<=hd.getD j 0/\hd.getD j 0<=now):=λd j hj=>by
  rcases P7 j k with h|h
  ·exact f.out j h
  obtain rfl:j=k:=O0;exact d
 have b:Hid (¬(-1<=hd.getD k 0/\hd.getD k 0<=now)->¬Hrd hd now):=λd h=>d (h.2 k c);generalize hd.getD k 0=X at*;clear l f;by_cases h1:X< -1
 ·have g:=U0 (b.out O0);go_wp2;go_ret;exact⟨I5 g.out,rfl⟩
 by_cases h2:now<X
 ·have g:=U0 (b.out O0);go_wp2;go_ret;exact⟨I5 g.out,rfl⟩
 have p:=U0 (q.out O0);go_wp2
 go_round
 exact⟨k+1,O0,by go_num,p⟩;exact P9
theorem c96(x:Rn)(c:OA)(b:Nat)(w:World):
 Calls prog 96 #[.agg #[.string x.nm,.int .i64 x.md,.string x.wt,.slice c x.ls.length b,.int .i64 x.cd,.string x.tx]] w λe w'=>Rb (x.md=1/\x.wt=⟨#[]⟩) e/\Bw w w':=by
 go_in
 go_upto_region 1 with fail
 have f:=U0 (U3 w [vS x.nm,vI x.md,vS x.wt,vL c x.ls.length b,vI x.cd,vS x.tx] 178);have d:=U0 (P6 (w:=w) (o:=.cells #[vS x.nm,vI x.md,vS x.wt,vL c x.ls.length b,vI x.cd,vS x.tx] 178));generalize w.alloc (.cells #[vS x.nm,vI x.md,vS x.wt,vL c x.ls.length b,vI x.cd,vS x.tx] 178)=V at*;have a1:=f.out.cell 1;have a2:=f.out.cell 2;simp only[gz]at a1 a2;by_cases h1:x.md=1;rotate_left
 ·have a:Hid (¬(x.md=1/\x.wt=⟨#[]⟩)):=λh=>h1 h.1;go_wp2;go_ret;exact⟨I5 a.out,d.out⟩
 rw[h1]at a1;by_cases h2:x.wt=⟨#[]⟩
 ·have g:Hid (x.md=1/\x.wt=⟨#[]⟩):=⟨h1,h2⟩;rw[h2]at a2;go_wp2;go_ret;exact⟨F_ g.out,d.out⟩
 have a:Hid (¬(x.md=1/\x.wt=⟨#[]⟩)):=λh=>h2 h.2;have z:=Vj h2;go_wp2;go_ret;exact⟨by first|exact I5 a.out|(rw[z];exact I5 a.out)|(simp only[z];exact I5 a.out),d.out⟩
def AtR(rn:List Rn)(nm:BY)(r:Int):Prop:=(r= -1/\∀i,i<rn.length->(rn.getD i Aa).nm≠nm)\/∃i:Nat,r=i/\i<rn.length/\(rn.getD i Aa).nm=nm/\∀j,j<i->(rn.getD j Aa).nm≠nm
theorem c95(b:Bs)(q:Ba)(nm:BY)(w:World)(hl:b.rn.length<=1048576)(l:uj w q.na b.rn):
 Calls prog 95 #[.agg (bsV b q).toArray,.string nm] w λe w'=>(∃r,e=.returned (.int .i64 r)/\AtR b.rn nm r)/\Bw w w':=by
 obtain⟨s,off,hc⟩:=J8 l;have x:=U0 hc;clear l hc
 go_in
 go_upto_region 1 with fail
 have y:=U0 (U3 w (bsV b q) 53);have d:=U0 (P6 (w:=w) (o:=.cells (bsV b q).toArray 53));generalize w.alloc (.cells (bsV b q).toArray 53)=V at*;have m:=y.out.cell 13;simp only[gz]at m;go_wp2;go_loop[5] (λi=>∃k:Nat,k<=b.rn.length/\i=.int .i64 k/\Hid (∀j,j<k->(b.rn.getD j Aa).nm≠nm)) (λi=>b.rn.length-(RowKit.intOf i).toNat);exact⟨0,I4 _,rfl,λj h=>absurd h (U7 _)⟩;obtain⟨k,hk,rfl,hd⟩:=hrel;by_cases a:k<b.rn.length;rotate_left
 ·obtain rfl:k=b.rn.length:=O0;have c:Hid (AtR b.rn nm (-1)):=.inl ⟨rfl,hd.out⟩;go_wp2;go_ret;exact⟨⟨_,rfl,c.out⟩,d.out⟩
 obtain⟨ha,p,f⟩:=Zb x.out a;have g0:V.cell? (aA s (off+k*6))=some (vS (b.rn.getD k Aa).nm):=by
  obtain⟨_,_,g,_⟩:=(f k a).below p d.out;exact g 0 _ rfl
 rw[ha]at m;have c:Hid ((b.rn.getD k Aa).nm=nm->AtR b.rn nm k):=λh=>.inr ⟨k,rfl,a,h,hd.out⟩;have v:Hid ((b.rn.getD k Aa).nm≠nm->∀j,j<k+1->(b.rn.getD j Aa).nm≠nm):=λn j hj=>by
  rcases P7 j k with h|h
  ·exact hd.out j h
  obtain rfl:j=k:=O0;exact n
 generalize (b.rn.getD k Aa).nm=X at*;clear f hd ha;by_cases hx:X=nm
 ·have t:=U0 (c.out hx);have z:(X.toList==nm.toList)=true:=by rw[hx];exact beq_self_eq_true _
  go_wp2;go_ret;exact⟨⟨_,rfl,t.out⟩,d.out⟩
 have u:=U0 (v.out hx);have z:=K_.2 (Ac hx);go_wp2
 go_round
 exact⟨k+1,O0,by go_num,u⟩;exact P9
def Wq(a b:Int):Bool:=decide (1<=a/\a<=200)&&decide (0<=b/\b<=1000)
theorem a4e(a b:Int)(w:World):
 Calls prog 272 #[.int .i64 a,.int .i64 b] w λe w'=>e=.returned (.bool (Wq a b))/\w'=w:=by
 have d:Hid (Wq a b=(decide (1<=a/\a<=200)&&decide (0<=b/\b<=1000))):=rfl;cases h:decide (1<=a/\a<=200)
 ·have c:Hid (Wq a b=false):=by rw[d.out,h];rfl
  go_in
  go_wp2_with fail
  refine(a0G a w).mono ?_;rintro e f⟨rfl,hw⟩;obtain rfl:=hw.symm;rw[h];go_wp2;go_ret;exact⟨by rw[c.out];rfl,rfl⟩
 have c:Hid (Wq a b=decide (0<=b/\b<=1000)):=by rw[d.out,h];rfl
 by_cases h1:0<=b<;>by_cases h2:b<=1000
 all_goals
  go_in
  go_wp2_with fail
  refine(a0G a w).mono ?_;rintro e f⟨rfl,hw⟩;obtain rfl:=hw.symm;rw[h];go_wp2
  all_goals go_ret
  all_goals exact⟨by rw[c.out];simp[*],rfl⟩
theorem a0Z(a a2:OA)(y v:Nat)(ls:List L4)(w:World)(hl:ls.length<=1048576)(r:X6 w a ls)(q:X6 w a2 ls):
 Calls prog 113 #[.slice a ls.length y,.slice a2 ls.length v] w λe w'=>e=.returned (.bool true)/\Bw w w':=by
 obtain⟨c,d,o⟩:=Ie q;have z:Hid (ls=[]\/(a2=some ⟨c,d,none⟩/\c<w.heap.size/\∀i,i<ls.length->w.cell? ⟨c,d+i*4,none⟩=some (.bool (ls.getD i l_).has)/\w.cell? ⟨c,d+i*4+1,none⟩=some (.string (ls.getD i l_).nm)/\w.cell? ⟨c,d+i*4+2,none⟩=some (.int .i64 (ls.getD i l_).cd)/\w.cell? ⟨c,d+i*4+3,none⟩=some (.string (ls.getD i l_).tx))):=o;clear o q;obtain⟨b,off,hc⟩:=Ie r;have A:Hid (ls=[]\/(a=some ⟨b,off,none⟩/\b<w.heap.size/\∀i,i<ls.length->w.cell? ⟨b,off+i*4,none⟩=some (.bool (ls.getD i l_).has)/\w.cell? ⟨b,off+i*4+1,none⟩=some (.string (ls.getD i l_).nm)/\w.cell? ⟨b,off+i*4+2,none⟩=some (.int .i64 (ls.getD i l_).cd)/\w.cell? ⟨b,off+i*4+3,none⟩=some (.string (ls.getD i l_).tx))):=hc;clear hc r
 go_in
 go_wp2;go_loopw[13] (λl wr=>∃k:Nat,k<=ls.length/\l=.int .i64 k/\Below w.heap.size w wr) (λl _=>ls.length-(RowKit.intOf l).toNat);exact⟨0,I4 _,rfl,J4 _ _⟩;obtain⟨k,hk,rfl,f⟩:=hrel;by_cases g:k<ls.length
 ·obtain⟨ha,j,n⟩:=Zb A.out g;obtain⟨t,h,m⟩:=Zb z.out g;subst ha t;obtain⟨g0,g1,g2,g3⟩:=n k g;have g0:=(f.cell (p:=⟨b,off+k*4,none⟩) j).trans g0;have g1:=(f.cell (p:=⟨b,off+k*4+1,none⟩) j).trans g1;have g2:=(f.cell (p:=⟨b,off+k*4+2,none⟩) j).trans g2;have g3:=(f.cell (p:=⟨b,off+k*4+3,none⟩) j).trans g3;obtain⟨h0,h1,h2,s⟩:=m k g;have h0:=(f.cell (p:=⟨c,d+k*4,none⟩) h).trans h0;have h1:=(f.cell (p:=⟨c,d+k*4+1,none⟩) h).trans h1;have h2:=(f.cell (p:=⟨c,d+k*4+2,none⟩) h).trans h2;have s:=(f.cell (p:=⟨c,d+k*4+3,none⟩) h).trans s;generalize ls.getD k l_=x at*;have hki:(k:Int)<(ls.length:Int):=by omega
  clear n m
  go_wp2_with fail
  refine wp_region_held_drew (S:=(λu=>(u.cell? ⟨b,off+k*4,none⟩=some (.bool x.has)/\u.cell? ⟨b,off+k*4+1,none⟩=some (.string x.nm)/\u.cell? ⟨b,off+k*4+2,none⟩=some (.int .i64 x.cd)/\u.cell? ⟨b,off+k*4+3,none⟩=some (.string x.tx))/\(u.cell? ⟨c,d+k*4,none⟩=some (.bool x.has)/\u.cell? ⟨c,d+k*4+1,none⟩=some (.string x.nm)/\u.cell? ⟨c,d+k*4+2,none⟩=some (.int .i64 x.cd)/\u.cell? ⟨c,d+k*4+3,none⟩=some (.string x.tx)))) (by kernel_rfl) ?_ (λhHeld=>?_)
  · ((try dsimp only);go_keep)
  refine U8 0 ?_;refine U8 1 ?_;refine U8 2 ?_;refine U8 3 ?_;refine U8 4 ?_;refine U8 5 ?_;refine U8 6 ?_;refine U8 7 ?_;refine U8 8 ?_;refine wpAnyH_done (by kernel_rfl) ?_ _;clear hHeld;go_wp2;go_roundw;exact⟨k+1,by omega,by go_num,f.drew⟩;exact P9
 go_wp2;go_ret;exact⟨rfl,f⟩
theorem a2d(a a2:OA)(c b:Nat)(ls:List L4)(w:World)(hl:ls.length<=1048576):
 Calls prog 113 #[.slice a ls.length c,.slice a2 0 b] w λe w'=>e=.returned (.bool (decide (ls.length=0)))/\Bw w w':=by
 by_cases h0:ls.length=0
 ·obtain rfl:ls=[]:=La.1 h0;exact(a0Z a a2 c b [] w (I4 _) (.inl rfl) (.inl rfl)).mono λe w' h=>⟨h.1.trans (by simp),h.2⟩
 go_in
 go_wp2;go_ret;exact⟨by simp[h0],J4 _ _⟩
def Nj(kd:Int)(tw:Int)(fr:Int)(ep:Int)(ed:Int)(kn:BY)(kt:BY)(ka:BY)(ct:Int)(ov:Bool)(cd:Int)(tx:BY)(hs:Bool)(nm:BY)(st:Int)(kd2:Int)(to2:Int)(fr2:Int)(ep2:Int)(ed2:Int)(kn2:BY)(kt2:BY)(ka2:BY)(ct2:Int)(ov2:Bool)(cd2:Int)(tx2:BY)(hs2:Bool)(nm2:BY)(st2:Int)(s:Bool):Prop:=kd=kd2/\tw=to2/\fr=fr2/\ep=ep2/\ed=ed2/\kn=kn2/\kt=kt2/\ka=ka2/\s=true/\ct=ct2/\ov=ov2/\cd=cd2/\tx=tx2/\hs=hs2/\nm=nm2/\st=st2
theorem c62(kd tw fr ep ed ct cd st:Int)(kn c d tx nm:BY)(f g:Bool)(kd2 to2 fr2 ep2 L F y l:Int)(J I H r m:BY)(z q:Bool)(D C:OA)(la lb B A:Nat)(s:Bool)(w:World) (K:∀u,Bw w u->Calls prog 113 #[.slice D la B,.slice C lb A] u λe u'=>e=.returned (.bool s)/\Bw u u'):
 Calls prog 62 #[.agg #[.int .i64 kd,.int .i64 tw,.int .i64 fr,.int .i64 ep,.int .i64 ed,.string kn,.string c,.string d,.slice D la B,.int .i64 ct,.bool f,.int .i64 cd,.string tx,.bool g,.string nm,.int .i64 st],.agg #[.int .i64 kd2,.int .i64 to2,.int .i64 fr2,.int .i64 ep2,.int .i64 L,.string J,.string I,.string H,.slice C lb A,.int .i64 F,.bool z,.int .i64 y,.string r,.bool q,.string m,.int .i64 l]] w λe w'=>Ia (Nj kd tw fr ep ed kn c d ct f cd tx g nm st kd2 to2 fr2 ep2 L J I H F z y r q m l s) e/\Bw w w':=by
 have x:∀o p,Bw w ((w.alloc o).alloc p):=λo p=>((J4 _ _).alloc (J9 _) _).alloc (by simp) _;rcases(f_ (kd=kd2)).symm with e0|e0
 ·have n:Hid (Ia (Nj kd tw fr ep ed kn c d ct f cd tx g nm st kd2 to2 fr2 ep2 L J I H F z y r q m l s) (.returned (.bool false))):=Z5 (λh=>e0 h.1)
  go_in
  go_wp2
  all_goals go_ret
  all_goals exact⟨n.out,x _ _⟩
 obtain rfl:=e0;rcases(f_ (tw=to2)).symm with e1|e1
 ·have n:Hid (Ia (Nj kd tw fr ep ed kn c d ct f cd tx g nm st kd to2 fr2 ep2 L J I H F z y r q m l s) (.returned (.bool false))):=Z5 (λh=>e1 h.2.1)
  go_in
  go_wp2
  all_goals go_ret
  all_goals exact⟨n.out,x _ _⟩
 obtain rfl:=e1;rcases(f_ (fr=fr2)).symm with e2|e2
 ·have n:Hid (Ia (Nj kd tw fr ep ed kn c d ct f cd tx g nm st kd tw fr2 ep2 L J I H F z y r q m l s) (.returned (.bool false))):=Z5 (λh=>e2 h.2.2.1)
  go_in
  go_wp2
  all_goals go_ret
  all_goals exact⟨n.out,x _ _⟩
 obtain rfl:=e2;rcases(f_ (ep=ep2)).symm with e3|e3
 ·have n:Hid (Ia (Nj kd tw fr ep ed kn c d ct f cd tx g nm st kd tw fr ep2 L J I H F z y r q m l s) (.returned (.bool false))):=Z5 (λh=>e3 h.2.2.2.1)
  go_in
  go_wp2
  all_goals go_ret
  all_goals exact⟨n.out,x _ _⟩
 obtain rfl:=e3;rcases(f_ (ed=L)).symm with e4|e4
 ·have n:Hid (Ia (Nj kd tw fr ep ed kn c d ct f cd tx g nm st kd tw fr ep L J I H F z y r q m l s) (.returned (.bool false))):=Z5 (λh=>e4 h.2.2.2.2.1)
  go_in
  go_wp2
  all_goals go_ret
  all_goals exact⟨n.out,x _ _⟩
 obtain rfl:=e4;rcases(f_ (kn.toList=J.toList)).symm with e5|e5
 ·have n:Hid (Ia (Nj kd tw fr ep ed kn c d ct f cd tx g nm st kd tw fr ep ed J I H F z y r q m l s) (.returned (.bool false))):=Z5 (λh=>e5 (by rw[h.2.2.2.2.2.1]))
  go_in
  go_wp2
  all_goals go_ret
  all_goals exact⟨n.out,x _ _⟩
 obtain rfl:=(Td _ _).1 e5;clear e5;rcases(f_ (c.toList=I.toList)).symm with e6|e6
 ·have n:Hid (Ia (Nj kd tw fr ep ed kn c d ct f cd tx g nm st kd tw fr ep ed kn I H F z y r q m l s) (.returned (.bool false))):=Z5 (λh=>e6 (by rw[h.2.2.2.2.2.2.1]))
  go_in
  go_wp2
  all_goals go_ret
  all_goals exact⟨n.out,x _ _⟩
 obtain rfl:=(Td _ _).1 e6;clear e6;rcases(f_ (d.toList=H.toList)).symm with e7|e7
 ·have n:Hid (Ia (Nj kd tw fr ep ed kn c d ct f cd tx g nm st kd tw fr ep ed kn c H F z y r q m l s) (.returned (.bool false))):=Z5 (λh=>e7 (by rw[h.2.2.2.2.2.2.2.1]))
  go_in
  go_wp2
  all_goals go_ret
  all_goals exact⟨n.out,x _ _⟩
 obtain rfl:=(Td _ _).1 e7;clear e7;cases s
 ·have n:Hid (Ia (Nj kd tw fr ep ed kn c d ct f cd tx g nm st kd tw fr ep ed kn c d F z y r q m l false) (.returned (.bool false))):=Z5 (λh=>absurd h.2.2.2.2.2.2.2.2.1 Jh)
  go_in
  go_wp2_with fail
  refine(K _ (x _ _)).mono ?_;rintro e i⟨rfl,t⟩;have k:Below (w.heap.size+2) ((w.alloc (.cells #[.int .i64 kd,.int .i64 tw,.int .i64 fr,.int .i64 ep,.int .i64 ed,.string kn,.string c,.string d,.slice D la B,.int .i64 ct,.bool f,.int .i64 cd,.string tx,.bool g,.string nm,.int .i64 st] 75)).alloc (.cells #[.int .i64 kd,.int .i64 tw,.int .i64 fr,.int .i64 ep,.int .i64 ed,.string kn,.string c,.string d,.slice C lb A,.int .i64 F,.bool z,.int .i64 y,.string r,.bool q,.string m,.int .i64 l] 75)) i:=Tq t;have E:Bw w i:=(x _ _).trans (k.mono (by omega));have b:E5 i w.heap.size [.int .i64 kd,.int .i64 tw,.int .i64 fr,.int .i64 ep,.int .i64 ed,.string kn,.string c,.string d,.slice D la B,.int .i64 ct,.bool f,.int .i64 cd,.string tx,.bool g,.string nm,.int .i64 st]:=λj v h=>(k.cell (p:=⟨w.heap.size,j,none⟩) (by show w.heap.size<w.heap.size+2;omega)).trans (by simp[go_sem,h]);have a:E5 i (w.heap.size+1) [.int .i64 kd,.int .i64 tw,.int .i64 fr,.int .i64 ep,.int .i64 ed,.string kn,.string c,.string d,.slice C lb A,.int .i64 F,.bool z,.int .i64 y,.string r,.bool q,.string m,.int .i64 l]:=λj v h=>(k.cell (p:=⟨w.heap.size+1,j,none⟩) (by show w.heap.size+1<w.heap.size+2;omega)).trans (by simp[go_sem,h]);have V:=b 9 _ rfl;have N:=a 9 _ rfl;have a10:=b 10 _ rfl;have U:=a 10 _ rfl;have a11:=b 11 _ rfl;have S:=a 11 _ rfl;have Z:=b 12 _ rfl;have R:=a 12 _ rfl;have Y:=b 13 _ rfl;have Q:=a 13 _ rfl;have X:=b 14 _ rfl;have P:=a 14 _ rfl;have W:=b 15 _ rfl;have O:=a 15 _ rfl;clear t k b a;go_wp2;go_ret;exact⟨n.out,E⟩
 rcases(f_ (ct=F)).symm with e9|e9
 ·have n:Hid (Ia (Nj kd tw fr ep ed kn c d ct f cd tx g nm st kd tw fr ep ed kn c d F z y r q m l true) (.returned (.bool false))):=Z5 (λh=>e9 h.2.2.2.2.2.2.2.2.2.1)
  go_in
  go_wp2_with fail
  refine(K _ (x _ _)).mono ?_;rintro e i⟨rfl,t⟩;have k:Below (w.heap.size+2) ((w.alloc (.cells #[.int .i64 kd,.int .i64 tw,.int .i64 fr,.int .i64 ep,.int .i64 ed,.string kn,.string c,.string d,.slice D la B,.int .i64 ct,.bool f,.int .i64 cd,.string tx,.bool g,.string nm,.int .i64 st] 75)).alloc (.cells #[.int .i64 kd,.int .i64 tw,.int .i64 fr,.int .i64 ep,.int .i64 ed,.string kn,.string c,.string d,.slice C lb A,.int .i64 F,.bool z,.int .i64 y,.string r,.bool q,.string m,.int .i64 l] 75)) i:=Tq t;have E:Bw w i:=(x _ _).trans (k.mono (by omega));have b:E5 i w.heap.size [.int .i64 kd,.int .i64 tw,.int .i64 fr,.int .i64 ep,.int .i64 ed,.string kn,.string c,.string d,.slice D la B,.int .i64 ct,.bool f,.int .i64 cd,.string tx,.bool g,.string nm,.int .i64 st]:=λj v h=>(k.cell (p:=⟨w.heap.size,j,none⟩) (by show w.heap.size<w.heap.size+2;omega)).trans (by simp[go_sem,h]);have a:E5 i (w.heap.size+1) [.int .i64 kd,.int .i64 tw,.int .i64 fr,.int .i64 ep,.int .i64 ed,.string kn,.string c,.string d,.slice C lb A,.int .i64 F,.bool z,.int .i64 y,.string r,.bool q,.string m,.int .i64 l]:=λj v h=>(k.cell (p:=⟨w.heap.size+1,j,none⟩) (by show w.heap.size+1<w.heap.size+2;omega)).trans (by simp[go_sem,h]);have V:=b 9 _ rfl;have N:=a 9 _ rfl;have a10:=b 10 _ rfl;have U:=a 10 _ rfl;have a11:=b 11 _ rfl;have S:=a 11 _ rfl;have Z:=b 12 _ rfl;have R:=a 12 _ rfl;have Y:=b 13 _ rfl;have Q:=a 13 _ rfl;have X:=b 14 _ rfl;have P:=a 14 _ rfl;have W:=b 15 _ rfl;have O:=a 15 _ rfl;clear t k b a;go_wp2
  all_goals go_ret
  all_goals exact⟨n.out,E⟩
 obtain rfl:=e9;rcases(f_ (f=z)).symm with e10|e10
 ·have n:Hid (Ia (Nj kd tw fr ep ed kn c d ct f cd tx g nm st kd tw fr ep ed kn c d ct z y r q m l true) (.returned (.bool false))):=Z5 (λh=>e10 h.2.2.2.2.2.2.2.2.2.2.1)
  go_in
  go_wp2_with fail
  refine(K _ (x _ _)).mono ?_;rintro e i⟨rfl,t⟩;have k:Below (w.heap.size+2) ((w.alloc (.cells #[.int .i64 kd,.int .i64 tw,.int .i64 fr,.int .i64 ep,.int .i64 ed,.string kn,.string c,.string d,.slice D la B,.int .i64 ct,.bool f,.int .i64 cd,.string tx,.bool g,.string nm,.int .i64 st] 75)).alloc (.cells #[.int .i64 kd,.int .i64 tw,.int .i64 fr,.int .i64 ep,.int .i64 ed,.string kn,.string c,.string d,.slice C lb A,.int .i64 ct,.bool z,.int .i64 y,.string r,.bool q,.string m,.int .i64 l] 75)) i:=Tq t;have E:Bw w i:=(x _ _).trans (k.mono (by omega));have b:E5 i w.heap.size [.int .i64 kd,.int .i64 tw,.int .i64 fr,.int .i64 ep,.int .i64 ed,.string kn,.string c,.string d,.slice D la B,.int .i64 ct,.bool f,.int .i64 cd,.string tx,.bool g,.string nm,.int .i64 st]:=λj v h=>(k.cell (p:=⟨w.heap.size,j,none⟩) (by show w.heap.size<w.heap.size+2;omega)).trans (by simp[go_sem,h]);have a:E5 i (w.heap.size+1) [.int .i64 kd,.int .i64 tw,.int .i64 fr,.int .i64 ep,.int .i64 ed,.string kn,.string c,.string d,.slice C lb A,.int .i64 ct,.bool z,.int .i64 y,.string r,.bool q,.string m,.int .i64 l]:=λj v h=>(k.cell (p:=⟨w.heap.size+1,j,none⟩) (by show w.heap.size+1<w.heap.size+2;omega)).trans (by simp[go_sem,h]);have V:=b 9 _ rfl;have N:=a 9 _ rfl;have a10:=b 10 _ rfl;have U:=a 10 _ rfl;have a11:=b 11 _ rfl;have S:=a 11 _ rfl;have Z:=b 12 _ rfl;have R:=a 12 _ rfl;have Y:=b 13 _ rfl;have Q:=a 13 _ rfl;have X:=b 14 _ rfl;have P:=a 14 _ rfl;have W:=b 15 _ rfl;have O:=a 15 _ rfl;clear t k b a;go_wp2
  all_goals go_ret
  all_goals exact⟨n.out,E⟩
 obtain rfl:=e10;rcases(f_ (cd=y)).symm with e11|e11
 ·have n:Hid (Ia (Nj kd tw fr ep ed kn c d ct f cd tx g nm st kd tw fr ep ed kn c d ct f y r q m l true) (.returned (.bool false))):=Z5 (λh=>e11 h.2.2.2.2.2.2.2.2.2.2.2.1)
  go_in
  go_wp2_with fail
  refine(K _ (x _ _)).mono ?_;rintro e i⟨rfl,t⟩;have k:Below (w.heap.size+2) ((w.alloc (.cells #[.int .i64 kd,.int .i64 tw,.int .i64 fr,.int .i64 ep,.int .i64 ed,.string kn,.string c,.string d,.slice D la B,.int .i64 ct,.bool f,.int .i64 cd,.string tx,.bool g,.string nm,.int .i64 st] 75)).alloc (.cells #[.int .i64 kd,.int .i64 tw,.int .i64 fr,.int .i64 ep,.int .i64 ed,.string kn,.string c,.string d,.slice C lb A,.int .i64 ct,.bool f,.int .i64 y,.string r,.bool q,.string m,.int .i64 l] 75)) i:=Tq t;have E:Bw w i:=(x _ _).trans (k.mono (by omega));have b:E5 i w.heap.size [.int .i64 kd,.int .i64 tw,.int .i64 fr,.int .i64 ep,.int .i64 ed,.string kn,.string c,.string d,.slice D la B,.int .i64 ct,.bool f,.int .i64 cd,.string tx,.bool g,.string nm,.int .i64 st]:=λj v h=>(k.cell (p:=⟨w.heap.size,j,none⟩) (by show w.heap.size<w.heap.size+2;omega)).trans (by simp[go_sem,h]);have a:E5 i (w.heap.size+1) [.int .i64 kd,.int .i64 tw,.int .i64 fr,.int .i64 ep,.int .i64 ed,.string kn,.string c,.string d,.slice C lb A,.int .i64 ct,.bool f,.int .i64 y,.string r,.bool q,.string m,.int .i64 l]:=λj v h=>(k.cell (p:=⟨w.heap.size+1,j,none⟩) (by show w.heap.size+1<w.heap.size+2;omega)).trans (by simp[go_sem,h]);have V:=b 9 _ rfl;have N:=a 9 _ rfl;have a10:=b 10 _ rfl;have U:=a 10 _ rfl;have a11:=b 11 _ rfl;have S:=a 11 _ rfl;have Z:=b 12 _ rfl;have R:=a 12 _ rfl;have Y:=b 13 _ rfl;have Q:=a 13 _ rfl;have X:=b 14 _ rfl;have P:=a 14 _ rfl;have W:=b 15 _ rfl;have O:=a 15 _ rfl;clear t k b a;go_wp2
  all_goals go_ret
  all_goals exact⟨n.out,E⟩
 obtain rfl:=e11;rcases(f_ (tx.toList=r.toList)).symm with e12|e12
 ·have n:Hid (Ia (Nj kd tw fr ep ed kn c d ct f cd tx g nm st kd tw fr ep ed kn c d ct f cd r q m l true) (.returned (.bool false))):=Z5 (λh=>e12 (by rw[h.2.2.2.2.2.2.2.2.2.2.2.2.1]))
  go_in
  go_wp2_with fail
  refine(K _ (x _ _)).mono ?_;rintro e i⟨rfl,t⟩;have k:Below (w.heap.size+2) ((w.alloc (.cells #[.int .i64 kd,.int .i64 tw,.int .i64 fr,.int .i64 ep,.int .i64 ed,.string kn,.string c,.string d,.slice D la B,.int .i64 ct,.bool f,.int .i64 cd,.string tx,.bool g,.string nm,.int .i64 st] 75)).alloc (.cells #[.int .i64 kd,.int .i64 tw,.int .i64 fr,.int .i64 ep,.int .i64 ed,.string kn,.string c,.string d,.slice C lb A,.int .i64 ct,.bool f,.int .i64 cd,.string r,.bool q,.string m,.int .i64 l] 75)) i:=Tq t;have E:Bw w i:=(x _ _).trans (k.mono (by omega));have b:E5 i w.heap.size [.int .i64 kd,.int .i64 tw,.int .i64 fr,.int .i64 ep,.int .i64 ed,.string kn,.string c,.string d,.slice D la B,.int .i64 ct,.bool f,.int .i64 cd,.string tx,.bool g,.string nm,.int .i64 st]:=λj v h=>(k.cell (p:=⟨w.heap.size,j,none⟩) (by show w.heap.size<w.heap.size+2;omega)).trans (by simp[go_sem,h]);have a:E5 i (w.heap.size+1) [.int .i64 kd,.int .i64 tw,.int .i64 fr,.int .i64 ep,.int .i64 ed,.string kn,.string c,.string d,.slice C lb A,.int .i64 ct,.bool f,.int .i64 cd,.string r,.bool q,.string m,.int .i64 l]:=λj v h=>(k.cell (p:=⟨w.heap.size+1,j,none⟩) (by show w.heap.size+1<w.heap.size+2;omega)).trans (by simp[go_sem,h]);have V:=b 9 _ rfl;have N:=a 9 _ rfl;have a10:=b 10 _ rfl;have U:=a 10 _ rfl;have a11:=b 11 _ rfl;have S:=a 11 _ rfl;have Z:=b 12 _ rfl;have R:=a 12 _ rfl;have Y:=b 13 _ rfl;have Q:=a 13 _ rfl;have X:=b 14 _ rfl;have P:=a 14 _ rfl;have W:=b 15 _ rfl;have O:=a 15 _ rfl;clear t k b a;go_wp2
  all_goals go_ret
  all_goals exact⟨n.out,E⟩
 obtain rfl:=(Td _ _).1 e12;clear e12;rcases(f_ (g=q)).symm with e13|e13
 ·have n:Hid (Ia (Nj kd tw fr ep ed kn c d ct f cd tx g nm st kd tw fr ep ed kn c d ct f cd tx q m l true) (.returned (.bool false))):=Z5 (λh=>e13 h.2.2.2.2.2.2.2.2.2.2.2.2.2.1)
  go_in
  go_wp2_with fail
  refine(K _ (x _ _)).mono ?_;rintro e i⟨rfl,t⟩;have k:Below (w.heap.size+2) ((w.alloc (.cells #[.int .i64 kd,.int .i64 tw,.int .i64 fr,.int .i64 ep,.int .i64 ed,.string kn,.string c,.string d,.slice D la B,.int .i64 ct,.bool f,.int .i64 cd,.string tx,.bool g,.string nm,.int .i64 st] 75)).alloc (.cells #[.int .i64 kd,.int .i64 tw,.int .i64 fr,.int .i64 ep,.int .i64 ed,.string kn,.string c,.string d,.slice C lb A,.int .i64 ct,.bool f,.int .i64 cd,.string tx,.bool q,.string m,.int .i64 l] 75)) i:=Tq t;have E:Bw w i:=(x _ _).trans (k.mono (by omega));have b:E5 i w.heap.size [.int .i64 kd,.int .i64 tw,.int .i64 fr,.int .i64 ep,.int .i64 ed,.string kn,.string c,.string d,.slice D la B,.int .i64 ct,.bool f,.int .i64 cd,.string tx,.bool g,.string nm,.int .i64 st]:=λj v h=>(k.cell (p:=⟨w.heap.size,j,none⟩) (by show w.heap.size<w.heap.size+2;omega)).trans (by simp[go_sem,h]);have a:E5 i (w.heap.size+1) [.int .i64 kd,.int .i64 tw,.int .i64 fr,.int .i64 ep,.int .i64 ed,.string kn,.string c,.string d,.slice C lb A,.int .i64 ct,.bool f,.int .i64 cd,.string tx,.bool q,.string m,.int .i64 l]:=λj v h=>(k.cell (p:=⟨w.heap.size+1,j,none⟩) (by show w.heap.size+1<w.heap.size+2;omega)).trans (by simp[go_sem,h]);have V:=b 9 _ rfl;have N:=a 9 _ rfl;have a10:=b 10 _ rfl;have U:=a 10 _ rfl;have a11:=b 11 _ rfl;have S:=a 11 _ rfl;have Z:=b 12 _ rfl;have R:=a 12 _ rfl;have Y:=b 13 _ rfl;have Q:=a 13 _ rfl;have X:=b 14 _ rfl;have P:=a 14 _ rfl;have W:=b 15 _ rfl;have O:=a 15 _ rfl;clear t k b a;go_wp2
  all_goals go_ret
  all_goals exact⟨n.out,E⟩
 obtain rfl:=e13;rcases(f_ (nm.toList=m.toList)).symm with e14|e14
 ·have n:Hid (Ia (Nj kd tw fr ep ed kn c d ct f cd tx g nm st kd tw fr ep ed kn c d ct f cd tx g m l true) (.returned (.bool false))):=Z5 (λh=>e14 (by rw[h.2.2.2.2.2.2.2.2.2.2.2.2.2.2.1]))
  go_in
  go_wp2_with fail
  refine(K _ (x _ _)).mono ?_;rintro e i⟨rfl,t⟩;have k:Below (w.heap.size+2) ((w.alloc (.cells #[.int .i64 kd,.int .i64 tw,.int .i64 fr,.int .i64 ep,.int .i64 ed,.string kn,.string c,.string d,.slice D la B,.int .i64 ct,.bool f,.int .i64 cd,.string tx,.bool g,.string nm,.int .i64 st] 75)).alloc (.cells #[.int .i64 kd,.int .i64 tw,.int .i64 fr,.int .i64 ep,.int .i64 ed,.string kn,.string c,.string d,.slice C lb A,.int .i64 ct,.bool f,.int .i64 cd,.string tx,.bool g,.string m,.int .i64 l] 75)) i:=Tq t;have E:Bw w i:=(x _ _).trans (k.mono (by omega));have b:E5 i w.heap.size [.int .i64 kd,.int .i64 tw,.int .i64 fr,.int .i64 ep,.int .i64 ed,.string kn,.string c,.string d,.slice D la B,.int .i64 ct,.bool f,.int .i64 cd,.string tx,.bool g,.string nm,.int .i64 st]:=λj v h=>(k.cell (p:=⟨w.heap.size,j,none⟩) (by show w.heap.size<w.heap.size+2;omega)).trans (by simp[go_sem,h]);have a:E5 i (w.heap.size+1) [.int .i64 kd,.int .i64 tw,.int .i64 fr,.int .i64 ep,.int .i64 ed,.string kn,.string c,.string d,.slice C lb A,.int .i64 ct,.bool f,.int .i64 cd,.string tx,.bool g,.string m,.int .i64 l]:=λj v h=>(k.cell (p:=⟨w.heap.size+1,j,none⟩) (by show w.heap.size+1<w.heap.size+2;omega)).trans (by simp[go_sem,h]);have V:=b 9 _ rfl;have N:=a 9 _ rfl;have a10:=b 10 _ rfl;have U:=a 10 _ rfl;have a11:=b 11 _ rfl;have S:=a 11 _ rfl;have Z:=b 12 _ rfl;have R:=a 12 _ rfl;have Y:=b 13 _ rfl;have Q:=a 13 _ rfl;have X:=b 14 _ rfl;have P:=a 14 _ rfl;have W:=b 15 _ rfl;have O:=a 15 _ rfl;clear t k b a;go_wp2
  all_goals go_ret
  all_goals exact⟨n.out,E⟩
 obtain rfl:=(Td _ _).1 e14;clear e14;rcases(f_ (st=l)).symm with e15|e15
 ·have n:Hid (Ia (Nj kd tw fr ep ed kn c d ct f cd tx g nm st kd tw fr ep ed kn c d ct f cd tx g nm l true) (.returned (.bool false))):=Z5 (λh=>e15 h.2.2.2.2.2.2.2.2.2.2.2.2.2.2.2)
  go_in
  go_wp2_with fail
  refine(K _ (x _ _)).mono ?_;rintro e i⟨rfl,t⟩;have k:Below (w.heap.size+2) ((w.alloc (.cells #[.int .i64 kd,.int .i64 tw,.int .i64 fr,.int .i64 ep,.int .i64 ed,.string kn,.string c,.string d,.slice D la B,.int .i64 ct,.bool f,.int .i64 cd,.string tx,.bool g,.string nm,.int .i64 st] 75)).alloc (.cells #[.int .i64 kd,.int .i64 tw,.int .i64 fr,.int .i64 ep,.int .i64 ed,.string kn,.string c,.string d,.slice C lb A,.int .i64 ct,.bool f,.int .i64 cd,.string tx,.bool g,.string nm,.int .i64 l] 75)) i:=Tq t;have E:Bw w i:=(x _ _).trans (k.mono (by omega));have b:E5 i w.heap.size [.int .i64 kd,.int .i64 tw,.int .i64 fr,.int .i64 ep,.int .i64 ed,.string kn,.string c,.string d,.slice D la B,.int .i64 ct,.bool f,.int .i64 cd,.string tx,.bool g,.string nm,.int .i64 st]:=λj v h=>(k.cell (p:=⟨w.heap.size,j,none⟩) (by show w.heap.size<w.heap.size+2;omega)).trans (by simp[go_sem,h]);have a:E5 i (w.heap.size+1) [.int .i64 kd,.int .i64 tw,.int .i64 fr,.int .i64 ep,.int .i64 ed,.string kn,.string c,.string d,.slice C lb A,.int .i64 ct,.bool f,.int .i64 cd,.string tx,.bool g,.string nm,.int .i64 l]:=λj v h=>(k.cell (p:=⟨w.heap.size+1,j,none⟩) (by show w.heap.size+1<w.heap.size+2;omega)).trans (by simp[go_sem,h]);have V:=b 9 _ rfl;have N:=a 9 _ rfl;have a10:=b 10 _ rfl;have U:=a 10 _ rfl;have a11:=b 11 _ rfl;have S:=a 11 _ rfl;have Z:=b 12 _ rfl;have R:=a 12 _ rfl;have Y:=b 13 _ rfl;have Q:=a 13 _ rfl;have X:=b 14 _ rfl;have P:=a 14 _ rfl;have W:=b 15 _ rfl;have O:=a 15 _ rfl;clear t k b a;go_wp2
  all_goals go_ret
  all_goals exact⟨n.out,E⟩
 obtain rfl:=e15;have HY:Hid (Ia (Nj kd tw fr ep ed kn c d ct f cd tx g nm st kd tw fr ep ed kn c d ct f cd tx g nm st true) (.returned (.bool true))):=Jf (by simp[Nj])
 go_in
 go_wp2_with fail
 refine(K _ (x _ _)).mono ?_;rintro e i⟨rfl,t⟩;have k:Below (w.heap.size+2) ((w.alloc (.cells #[.int .i64 kd,.int .i64 tw,.int .i64 fr,.int .i64 ep,.int .i64 ed,.string kn,.string c,.string d,.slice D la B,.int .i64 ct,.bool f,.int .i64 cd,.string tx,.bool g,.string nm,.int .i64 st] 75)).alloc (.cells #[.int .i64 kd,.int .i64 tw,.int .i64 fr,.int .i64 ep,.int .i64 ed,.string kn,.string c,.string d,.slice C lb A,.int .i64 ct,.bool f,.int .i64 cd,.string tx,.bool g,.string nm,.int .i64 st] 75)) i:=Tq t;have E:Bw w i:=(x _ _).trans (k.mono (by omega));have b:E5 i w.heap.size [.int .i64 kd,.int .i64 tw,.int .i64 fr,.int .i64 ep,.int .i64 ed,.string kn,.string c,.string d,.slice D la B,.int .i64 ct,.bool f,.int .i64 cd,.string tx,.bool g,.string nm,.int .i64 st]:=λj v h=>(k.cell (p:=⟨w.heap.size,j,none⟩) (by show w.heap.size<w.heap.size+2;omega)).trans (by simp[go_sem,h]);have a:E5 i (w.heap.size+1) [.int .i64 kd,.int .i64 tw,.int .i64 fr,.int .i64 ep,.int .i64 ed,.string kn,.string c,.string d,.slice C lb A,.int .i64 ct,.bool f,.int .i64 cd,.string tx,.bool g,.string nm,.int .i64 st]:=λj v h=>(k.cell (p:=⟨w.heap.size+1,j,none⟩) (by show w.heap.size+1<w.heap.size+2;omega)).trans (by simp[go_sem,h]);have V:=b 9 _ rfl;have N:=a 9 _ rfl;have a10:=b 10 _ rfl;have U:=a 10 _ rfl;have a11:=b 11 _ rfl;have S:=a 11 _ rfl;have Z:=b 12 _ rfl;have R:=a 12 _ rfl;have Y:=b 13 _ rfl;have Q:=a 13 _ rfl;have X:=b 14 _ rfl;have P:=a 14 _ rfl;have W:=b 15 _ rfl;have O:=a 15 _ rfl;clear t k b a;go_wp2;go_ret;exact⟨HY.out,E⟩

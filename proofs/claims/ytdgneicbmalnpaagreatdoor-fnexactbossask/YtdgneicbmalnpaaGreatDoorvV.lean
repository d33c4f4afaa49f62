import Derived.Test.YtdgneicbmalnpaaGreatDoorvS
set_option linter.all false
set_option maxHeartbeats 0
set_option maxRecDepth 99999
open Go.Value renaming slice->Sa,string->Sb,int->Sc,pointer->Sd
open Go.IntKind renaming i64->Se
open Go.Obj renaming cells->Sg
namespace Go.Proofs.YtdgneicbmalnpaaGreatDoor.G
open Proofs.Tryz Go.RowKit
section
variable{w:World}{l:LB}{b s:BY}
def mD(w:World)(a:OA)(l:LB):Prop:=l=[]\/∃b off,a=some ⟨b,off,none⟩/\b<w.heap.size/\∀i,i<l.length->w.cell? ⟨b,off+i,none⟩=some (Sb (l.getD i ⟨#[]⟩))
theorem YH{a:OA}(h:mD w a l):∃b off,(l=[]\/(a=some ⟨b,off,none⟩/\b<w.heap.size/\∀i,i<l.length->w.cell? ⟨b,off+i,none⟩=some (Sb (l.getD i ⟨#[]⟩)))):=by
 rcases h with h|⟨b,off,h⟩
 ·exact⟨0,0,.inl h⟩
 exact⟨b,off,.inr h⟩
def QA(l:LB)(s:BY):Bool:=l.any λx=>decide (x=s)
theorem Zc:QA l s=true↔s∈l:=by
 simp[QA]
theorem c23(a:OA)(cap:Nat)(l:LB)(s:BY)(w:World)(hl:l.length<=1000)(p:mD w a l):
 Calls prog 23 #[Sa a l.length cap,Sb s] w λe w'=>e=.returned (.bool (QA l s))/\w'=w:=by
 obtain⟨b,off,hc⟩:=YH p;have r:=U0 hc
 go_in
 go_wp2;go_loopw[5] (λc wr=>∃k:Nat,k<=l.length/\c=Sc Se k/\wr=w/\Hid (∀j,j<k->l.getD j ⟨#[]⟩≠s)) (λc _=>l.length-(RowKit.intOf c).toNat);exact⟨0,Y4 _,rfl,rfl,λj h=>absurd h (U8 _)⟩;obtain⟨k,hk,rfl,rfl,hd⟩:=hrel;by_cases f:k<l.length;rotate_left
 ·have g:Hid (QA l s=false):=by
   show _=_;rw[<- Bool.not_eq_true,Zc];intro hm;obtain⟨j,n,rfl⟩:=Qe hm;exact hd j O0 (by simp[List.getD,V8 n])
  clear hd;go_wp2;go_ret;exact⟨by rw[g.o];rfl,rfl⟩
 obtain⟨ha,hbw,o⟩:=Ud r.o f;subst ha;have g0:=o k f;have i:Hid (l.getD k ⟨#[]⟩∈l):=by show _∈_;simp[List.getD,V8 f]
 have m:Hid (l.getD k ⟨#[]⟩≠s->∀j,j<k+1->l.getD j ⟨#[]⟩≠s):=λh j n=>by
  rcases Z7 j k with h1|h1
  ·exact hd.o j h1
  obtain rfl:j=k:=O0;exact h
 generalize l.getD k ⟨#[]⟩=x at*;clear o;cases hq:(x.toList==s.toList);rotate_left
 ·have d:x=s:=by
   have:=Yq.1 hq;rw[ByteArray.toList_eq,ByteArray.toList_eq]at this;exact jg (Yl.1 this)
  subst d;have g:=U0 (Zc.2 i.o);clear m hd i;go_wp2;go_ret;exact⟨by rw[g.o];rfl,rfl⟩
 have d:x≠s:=λe=>by rw[e]at hq;simp at hq
 have q:=U0 (m.o d);clear m hd i;go_wp2;go_roundw;exact⟨k+1,O0,by go_num,trivial,q⟩;exact V9
end
theorem a4g(a:OA)(cap:Nat)(l:LB)(s:BY)(w:World)(hl:l.length<=1000)(o:mD w a l):
 Calls prog 134 #[Sa a l.length cap,Sb s] w λe w'=>(∃r:Int,e=.returned (Sc Se r)/\(0<=r↔s∈l))/\w'=w:=by
 obtain⟨b,off,hc⟩:=YH o;have t:=U0 hc
 go_in
 go_wp2;go_loopw[8] (λc wr=>∃k:Nat,k<=l.length/\c=Sc Se k/\wr=w/\Hid (∀j,j<k->l.getD j ⟨#[]⟩≠s)) (λc _=>l.length-(RowKit.intOf c).toNat);exact⟨0,Y4 _,rfl,rfl,λj h=>absurd h (U8 _)⟩;obtain⟨k,hk,rfl,rfl,hd⟩:=hrel;by_cases f:k<l.length;rotate_left
 ·have p:Hid (s∉l):=λhm=>by
   obtain⟨j,i,rfl⟩:=Qe hm;exact hd.o j O0 (by simp[List.getD,V8 i])
  clear hd;go_wp2;go_ret;exact⟨⟨-1,rfl,⟨λh=>O0,λh=>absurd h p.o⟩⟩,rfl⟩
 obtain⟨ha,hbw,m⟩:=Ud t.o f;subst ha;have g0:=m k f;have n:Hid (l.getD k ⟨#[]⟩∈l):=by show _∈_;simp[List.getD,V8 f]
 have g:Hid (l.getD k ⟨#[]⟩≠s->∀j,j<k+1->l.getD j ⟨#[]⟩≠s):=λh j i=>by
  rcases Z7 j k with h1|h1
  ·exact hd.o j h1
  obtain rfl:j=k:=O0;exact h
 generalize l.getD k ⟨#[]⟩=x at*;clear m;cases hq:(s.toList==x.toList);rotate_left
 ·have d:s=x:=by
   have:=Yq.1 hq;rw[ByteArray.toList_eq,ByteArray.toList_eq]at this;exact jg (Yl.1 this)
  subst d;clear g hd;go_wp2;go_ret;exact⟨⟨k,rfl,⟨λ_=>n.o,λ_=>O0⟩⟩,rfl⟩
 have d:x≠s:=λe=>by rw[e]at hq;simp at hq
 have q:=U0 (g.o d);clear g hd n;go_wp2;go_roundw;exact⟨k+1,O0,by go_num,trivial,q⟩;exact V9
theorem c82(a:OA)(cap:Nat)(l:LB)(s:BY)(w:World)(hl:l.length<=1000)(d:mD w a l):
 Calls prog 82 #[Sa a l.length cap,Sb s] w λe w'=>e=.returned (.bool (QA l s))/\w'=w:=by
 have h:=a4g a cap l s w hl d
 go_in
 go_wp2_with fail
 refine h.mono ?_;rintro e w1⟨⟨r,rfl,hr⟩,rfl⟩;clear h;by_cases h0:0<=r
 ·have b:=U0 (Zc.2 (hr.1 h0));clear hr;go_wp2;go_ret;exact⟨by rw[b.o];rfl,rfl⟩
 have b:Hid (QA l s=false):=by show _=_;rw[<- Bool.not_eq_true,Zc];exact λh=>h0 (hr.2 h)
 go_wp2;go_ret;have c:decide (0<=r)=false:=by simpa using h0
 exact⟨by rw[b.o,c];rfl,rfl⟩
end Go.Proofs.YtdgneicbmalnpaaGreatDoor.G
namespace Go.Proofs.YtdgneicbmalnpaaGreatDoor
open Proofs.Tryz Go.RowKit
theorem c9(b:Bs)(q p:Ba)(w:World)(hl:lg b 1048576)(F:jh w b q)(H:jh w b p):
 Calls prog 9 #[.agg (bsV b q).toArray,.agg (bsV b p).toArray] w λe w'=>e=.returned (.bool true)/\Bw w w':=by
 have X:=U0 F;have Y:=U0 H;have c:=U0 hl
 go_in
 go_upto_region 1 with fail
 have f:=U0 (E8 (I4 w (bsV b q) 47) (Sg (bsV b p).toArray 47));have d:Hid (Cl ((w.alloc (Sg (bsV b q).toArray 47)).alloc (Sg (bsV b p).toArray 47)) (w.heap.size+1) 47 (bsV b p)):=by show Cl _ _ _ _;have h:=I4 (w.alloc (Sg (bsV b q).toArray 47)) (bsV b p) 47;simpa using h
 have k:Hid (Bw w ((w.alloc (Sg (bsV b q).toArray 47)).alloc (Sg (bsV b p).toArray 47))):=U6.alloc J4 _;generalize (w.alloc (Sg (bsV b q).toArray 47)).alloc (Sg (bsV b p).toArray 47)=V0 at*;have a0:=f.o.cell 0;have d0:=d.o.cell 0;have a1:=f.o.cell 1;have Z:=d.o.cell 1;have a2:=f.o.cell 2;have Q:=d.o.cell 2;have a3:=f.o.cell 3;have P:=d.o.cell 3;have a4:=f.o.cell 4;have O:=d.o.cell 4;have a5:=f.o.cell 5;have N:=d.o.cell 5;have a6:=f.o.cell 6;have L:=d.o.cell 6;simp only[gz]at a0 d0 a1 Z a2 Q a3 P a4 O a5 N a6 L
 go_wp2_with fail
 refine(c36 q.sa q.la p.sa p.la q.sc q.lc p.sc p.lc b.sf b.lo V0 c.o.sl c.o.ll (G6 X.o.sf k) (G6 X.o.lo k) (G6 Y.o.sf k) (G6 Y.o.lo k)).mono ?_;rintro e V1⟨rfl,a⟩;have E:=U0 (E5 k a);have y:=U0 (f.o.below a f.o.lt);have r:=U0 (d.o.below a d.o.lt);have a7:=y.o.cell 7;have K:=r.o.cell 7;simp only[gz]at a7 K
 go_wp2_with fail
 refine(T.c37 q.fa p.fa q.fc p.fc b.fs V1 c.o.fl (T.J5 X.o.fs E) (T.J5 Y.o.fs E)).mono ?_;rintro e V2⟨rfl,a⟩;have D:=U0 (E5 E a);have j:=U0 (y.o.below a y.o.lt);have g:=U0 (r.o.below a r.o.lt);have a8:=j.o.cell 8;have J:=g.o.cell 8;have a9:=j.o.cell 9;have I:=g.o.cell 9;have a10:=j.o.cell 10;have W:=g.o.cell 10;simp only[gz]at a8 J a9 I a10 W
 go_wp2_with fail
 refine(a4N q.ta q.ra p.ta p.ra q.tc q.rc p.tc p.rc b.s V2 ⟨c.o.st.1.1,c.o.st.2.1,λi=>(c.o.st.2.2 i).2.1⟩ (X.o.st.below D) (Y.o.st.below D)).mono ?_;rintro e V3⟨rfl,a⟩;have C:=U0 (E5 D a);have x:=U0 (j.o.below a j.o.lt);have o:=U0 (g.o.below a g.o.lt);have a11:=x.o.cell 11;have V:=o.o.cell 11;simp only[gz]at a11 V
 go_wp2_with fail
 refine(c39 q.ha p.ha q.hc p.hc b.hd V3 c.o.hl (Uh X.o.hd C) (Uh Y.o.hd C)).mono ?_;rintro e V4⟨rfl,a⟩;have B:=U0 (E5 C a);have v:=U0 (x.o.below a x.o.lt);have n:=U0 (o.o.below a o.o.lt);have a12:=v.o.cell 12;have U:=n.o.cell 12;simp only[gz]at a12 U
 go_wp2_with fail
 refine(c40 q.oa p.oa q.oc p.oc b.rt V4 c.o.rl (G6 X.o.rt B) (G6 Y.o.rt B)).mono ?_;rintro e V5⟨rfl,a⟩;have A:=U0 (E5 B a);have u:=U0 (v.o.below a v.o.lt);have m:=U0 (n.o.below a n.o.lt);have a13:=u.o.cell 13;have S:=m.o.cell 13;simp only[gz]at a13 S
 go_wp2_with fail
 refine(c41 q.na p.na q.nc p.nc b.rn V5 c.o.nl (λi=>(c.o.ns i).2.2.1.1) (Jf X.o.rn A) (Jf Y.o.rn A)).mono ?_;rintro e V6⟨rfl,a⟩;have z:=U0 (E5 A a);have t:=U0 (u.o.below a u.o.lt);have l:=U0 (m.o.below a m.o.lt);have a14:=t.o.cell 14;have R:=l.o.cell 14;simp only[gz]at a14 R
 go_wp2_with fail
 refine(c42 q.ja p.ja q.jc p.jc b.jb V6 c.o.jl (Om X.o.jb z) (Om Y.o.jb z)).mono ?_;rintro e V7⟨rfl,a⟩;have B7:=U0 (E5 z a);have C7:=U0 (t.o.below a t.o.lt);have D7:=U0 (l.o.below a l.o.lt);go_wp2;go_ret;exact⟨rfl,B7⟩
theorem a6q(x:Rn)(c:OA)(b:Nat)(w:World):
 Calls prog 115 #[.agg #[Sb x.nm,Sc Se x.md,Sb x.wt,Sa c x.ls.length b,Sc Se x.cd,Sb x.tx]] w λe w'=>Rb (x.md=1/\x.wt=⟨#[]⟩) e/\Bw w w':=by
 go_in
 go_upto_region 1 with fail
 have f:=U0 (I4 w [vS x.nm,vI x.md,vS x.wt,vL c x.ls.length b,vI x.cd,vS x.tx] 119);have d:=U0 (U6 (w:=w) (o:=Sg #[vS x.nm,vI x.md,vS x.wt,vL c x.ls.length b,vI x.cd,vS x.tx] 119));generalize w.alloc (Sg #[vS x.nm,vI x.md,vS x.wt,vL c x.ls.length b,vI x.cd,vS x.tx] 119)=V at*;have a1:=f.o.cell 1;have a2:=f.o.cell 2;simp only[gz]at a1 a2;by_cases h1:x.md=1;rotate_left
 ·have a:Hid (¬(x.md=1/\x.wt=⟨#[]⟩)):=λh=>h1 h.1;go_wp2;go_ret;exact⟨P5 a.o,d.o⟩
 rw[h1]at a1;by_cases h2:x.wt=⟨#[]⟩
 ·have g:Hid (x.md=1/\x.wt=⟨#[]⟩):=⟨h1,h2⟩;rw[h2]at a2;go_wp2;go_ret;exact⟨H_ g.o,d.o⟩
 have a:Hid (¬(x.md=1/\x.wt=⟨#[]⟩)):=λh=>h2 h.2;have z:=Bl h2;go_wp2;go_ret;exact⟨by first|exact P5 a.o|(rw[z];exact P5 a.o)|(simp only[z];exact P5 a.o),d.o⟩
def AtR(rn:List Rn)(nm:BY)(r:Int):Prop:=(r= -1/\∀i,i<rn.length->(rn.getD i L9).nm≠nm)\/∃i:Nat,r=i/\i<rn.length/\(rn.getD i L9).nm=nm/\∀j,j<i->(rn.getD j L9).nm≠nm
theorem a5Z(b:Bs)(q:Ba)(nm:BY)(w:World)(hl:b.rn.length<=1048576)(l:Wi w q.na b.rn):
 Calls prog 114 #[.agg (bsV b q).toArray,Sb nm] w λe w'=>(∃r,e=.returned (Sc Se r)/\AtR b.rn nm r)/\Bw w w':=by
 obtain⟨s,off,hc⟩:=Z_ l;have x:=U0 hc;clear l hc
 go_in
 go_upto_region 1 with fail
 have y:=U0 (I4 w (bsV b q) 47);have d:=U0 (U6 (w:=w) (o:=Sg (bsV b q).toArray 47));generalize w.alloc (Sg (bsV b q).toArray 47)=V at*;have m:=y.o.cell 13;simp only[gz]at m;go_wp2;go_loop[5] (λi=>∃k:Nat,k<=b.rn.length/\i=Sc Se k/\Hid (∀j,j<k->(b.rn.getD j L9).nm≠nm)) (λi=>b.rn.length-(RowKit.intOf i).toNat);exact⟨0,Y4 _,rfl,λj h=>absurd h (U8 _)⟩;obtain⟨k,hk,rfl,hd⟩:=hrel;by_cases a:k<b.rn.length;rotate_left
 ·obtain rfl:k=b.rn.length:=O0;have c:Hid (AtR b.rn nm (-1)):=.inl ⟨rfl,hd.o⟩;go_wp2;go_ret;exact⟨⟨_,rfl,c.o⟩,d.o⟩
 obtain⟨ha,p,f⟩:=Ud x.o a;have g0:V.cell? (aA s (off+k*6))=some (vS (b.rn.getD k L9).nm):=by
  obtain⟨_,_,g,_⟩:=(f k a).below p d.o;exact g 0 _ rfl
 rw[ha]at m;have c:Hid ((b.rn.getD k L9).nm=nm->AtR b.rn nm k):=λh=>.inr ⟨k,rfl,a,h,hd.o⟩;have v:Hid ((b.rn.getD k L9).nm≠nm->∀j,j<k+1->(b.rn.getD j L9).nm≠nm):=λn j hj=>by
  rcases Z7 j k with h|h
  ·exact hd.o j h
  obtain rfl:j=k:=O0;exact n
 generalize (b.rn.getD k L9).nm=X at*;clear f hd ha;by_cases hx:X=nm
 ·have t:=U0 (c.o hx);have z:(X.toList==nm.toList)=true:=by rw[hx];exact beq_self_eq_true _
  go_wp2;go_ret;exact⟨⟨_,rfl,t.o⟩,d.o⟩
 have u:=U0 (v.o hx);have z:=S_.2 (Yc hx);go_wp2
 go_round
 exact⟨k+1,O0,by go_num,u⟩;exact V9
def iD(b:Bs):Prop:=(∀i,i<b.hd.length->b.hd.getD i 0= -1)/\b.ep=0/\b.ed=0/\b.fs=[]/\b.s=⟨0,[],[]⟩/\b.rt=[]/\b.rn=[]/\b.jb=[]
theorem rX{s:St}(h:s.le 1048576):s.ts.length<=1048576/\s.rs.length<=1048576/\∀i,(s.rs.getD i d_).gs.length<=1048576:=⟨h.1.1,h.2.1,λi=>(h.2.2 i).2.1⟩
theorem a3d:(⟨0,[],[]⟩:St).ts.length<=1048576/\(⟨0,[],[]⟩:St).rs.length<=1048576/\∀i,((⟨0,[],[]⟩:St).rs.getD i d_).gs.length<=1048576:=⟨U5,U5,λi=>by show(0:Nat)<=_;omega⟩
theorem wQ{w:World}{g n:Nat}(h:Cl w g 3 (List.replicate n (Sc Se (-1)))):Zf w (some ⟨g,0,none⟩) (List.replicate n (-1)):=.inr ⟨g,0,rfl,h.lt,λi a=>by
 rw[Y8,h.cell i];simp at a;simp[List.getD,a]⟩
theorem lN{l:List Int}:l=List.replicate l.length (-1)↔∀i,i<l.length->l.getD i 0= -1:=by
 constructor
 ·intro h i b;rw[h];simp[List.getD,b]
 intro h;refine Ir (d:=0) J4 λj a=>?_;rw[h j a];simp[List.getD,a]
theorem a4Q(b:Bs)(q:Ba)(w:World)(hl:lg b 1048576)(hn:1<=b.hd.length/\b.hd.length<=4)(Q:jh w b q):
 Calls prog 123 #[.agg (bsV b q).toArray] w λe w'=>Rb (iD b) e/\Bw w w':=by
 have X:=U0 Q;have L:=U0 hl;clear Q hl
 go_in
 go_upto_region 1 with fail
 have c:=U0 (I4 w (bsV b q) 47);have k:=U0 (U6 (w:=w) (o:=Sg (bsV b q).toArray 47));generalize w.alloc (Sg (bsV b q).toArray 47)=V at*;have I:=c.o.cell 3;have H:=c.o.cell 4;have F:=c.o.cell 7;have U:=c.o.cell 8;have R:=c.o.cell 9;have W:=c.o.cell 10;have r:=c.o.cell 11;have p:=c.o.cell 12;have n:=c.o.cell 13;have m:=c.o.cell 14;simp only[gz]at I H F U R W r p n m;by_cases h1:b.ep=0;rotate_left
 ·have a:Hid (¬iD b):=λh=>h1 h.2.1
  go_wp2_with fail
  go_region
  all_goals go_wp2
  all_goals go_ret
  all_goals exact⟨P5 a.o,(k.o).drew⟩
 by_cases h2:b.ed=0;rotate_left
 ·have a:Hid (¬iD b):=λh=>h2 h.2.2.1
  go_wp2_with fail
  go_region
  all_goals go_wp2
  all_goals go_ret
  all_goals exact⟨P5 a.o,(k.o).drew⟩
 by_cases D:b.fs.length=0;rotate_left
 ·have a:Hid (¬iD b):=λh=>D (by rw[h.2.2.2.1];rfl);have z:¬((b.fs.length:Int)=0):=O0
  go_wp2_with fail
  go_region
  all_goals go_wp2
  all_goals go_ret
  all_goals exact⟨P5 a.o,(k.o).drew⟩
 rw[h1]at I;rw[h2]at H;rw[D]at F
 go_wp2_with fail
 refine(c167 b.s ⟨0,[],[]⟩ q.ta q.ra none none q.tc q.rc 0 0 V (rX L.o.st) a3d (X.o.st.below k) ⟨.inl rfl,.inl rfl⟩).mono ?_;rintro e w1⟨⟨E,rfl,d⟩,y⟩;have f:=U0 (c.o.below y c.o.lt);have j:=U0 (E5 k y);clear y I H F U R W r p n m c k;have r:=f.o.cell 11;have p:=f.o.cell 12;have n:=f.o.cell 13;have m:=f.o.cell 14;simp only[gz]at r p n m
 cases E with
 | false=>
  have a:Hid (¬iD b):=λh=>by have:=d.2 h.2.2.2.2.1;cases this
  clear d
  go_wp2_with fail
  go_region
  all_goals go_wp2
  all_goals go_ret
  all_goals exact⟨P5 a.o,(j.o).drew⟩
 | true=>
 have HT:=U0 (d.1 rfl);clear d;by_cases C:b.rt.length=0;rotate_left
 ·have a:Hid (¬iD b):=λh=>C (by rw[h.2.2.2.2.2.1];rfl);have z:¬((b.rt.length:Int)=0):=O0
  go_wp2_with fail
  go_region
  all_goals go_wp2
  all_goals go_ret
  all_goals exact⟨P5 a.o,(j.o).drew⟩
 by_cases B:b.rn.length=0;rotate_left
 ·have a:Hid (¬iD b):=λh=>B (by rw[h.2.2.2.2.2.2.1];rfl);have z:¬((b.rn.length:Int)=0):=O0
  go_wp2_with fail
  go_region
  all_goals go_wp2
  all_goals go_ret
  all_goals exact⟨P5 a.o,(j.o).drew⟩
 by_cases A:b.jb.length=0;rotate_left
 ·have a:Hid (¬iD b):=λh=>A (by rw[h.2.2.2.2.2.2.2];rfl);have z:¬((b.jb.length:Int)=0):=O0
  go_upto_region 2 with fail
  rw[show((b.jb.length:Int)==0)=false from S_.2 z]
  go_wp2_with fail
  go_region
  all_goals go_wp2
  all_goals go_ret
  all_goals exact⟨P5 a.o,(j.o).drew⟩
 rw[C]at p;rw[B]at n;rw[A]at m;have HD:Hid ((∀i,i<b.hd.length->b.hd.getD i 0= -1)->iD b):=λh=>⟨h,h1,h2,Xb.1 D,HT,Xb.1 C,Xb.1 B,Xb.1 A⟩;have J:=U0 (f.o.below (O4 _ _).drew f.o.lt);have HXL:=U0 f.o.lt;clear r
 go_wp2_with fail
 refine wp_region_held_drew (S:=λu=>u.cell? (aW w 11)=some (vL q.ha b.hd.length q.hc)) Y0 (J.o.cell 11) λhH=>?_
 iterate 7 refine sq ?_
 refine rq 7 λK l=>?_;go_simp;refine(a6H b.hd.length w1.drew hn).mono ?_;rintro e Z⟨⟨g,rfl,_,P⟩,x⟩;have Y:=U0 ((j.o.drew).trans (x.mono j.o.size));have HI:=U0 (wQ P);have N:=U0 (J.o.below x J.o.lt);clear P x
 go_wp2_with fail
 refine G9 l (N.o.cell 11) λhH=>?_;clear l K;refine rq 8 λK l=>?_;go_simp;have O:(List.replicate b.hd.length (-1:Int)).length=b.hd.length:=JB;have t:=c168 b.hd (List.replicate b.hd.length (-1)) q.ha (some (aA g 0)) q.hc b.hd.length Z L.o.hl (by rw[O];exact L.o.hl) (Uh X.o.hd Y) HI;rw[O]at t;refine t.mono ?_;rintro e w3⟨⟨E,rfl,d⟩,v⟩;have B3:=U0 (E5 Y v);have HE:Hid (E=true↔iD b):=⟨λh=>HD.o (lN.1 (d.1 h)),λh=>d.2 (lN.2 h.1)⟩;have CY:=U0 (N.o.below v N.o.lt);clear d v t
 go_wp2_with fail
 refine G9 l (CY.o.cell 11) λhH=>?_;clear l K
 iterate 2 refine sq ?_
 refine wdn ?_;go_wp2;go_ret;exact⟨⟨_,rfl,HE⟩,B3⟩
theorem c63(b:Bs)(q:Ba)(w:World)(hl:lg b 1048576)(v:jh w b q):
 Calls prog 63 #[.agg (bsV b q).toArray] w λe w'=>Rb (iD b) e/\Bw w w':=by
 have R:=U0 v;have O:=U0 hl;have hhl:=hl.hl;have hrl:=hl.rl;have hnl:=hl.nl;have hjl:=hl.jl;obtain⟨bb,off,hc⟩:=Vg v.hd;have Q:=U0 hc;clear v hl hc
 go_in
 go_upto_region 1 with fail
 have a:=U0 (I4 w (bsV b q) 47);have d:=U0 (U6 (w:=w) (o:=Sg (bsV b q).toArray 47));generalize w.alloc (Sg (bsV b q).toArray 47)=V at*;have B:=a.o.cell 3;have A:=a.o.cell 4;have y:=a.o.cell 7;have H:=a.o.cell 8;have F:=a.o.cell 9;have I:=a.o.cell 10;have C:=a.o.cell 11;have p:=a.o.cell 12;have n:=a.o.cell 13;have m:=a.o.cell 14;simp only[gz]at B A y H F I C p n m;go_wp2;go_loop[3] (λi=>∃k:Nat,k<=b.hd.length/\i=Sc Se k/\Hid (∀j,j<k->b.hd.getD j 0= -1)) (λi=>b.hd.length-(RowKit.intOf i).toNat);exact⟨0,Y4 _,rfl,λj h=>absurd h (U8 _)⟩;obtain⟨k,hk,rfl,hd⟩:=hrel;by_cases f:k<b.hd.length
 ·obtain⟨ha,J,t⟩:=Ud Q.o f;rw[ha]at C;have g0:=(d.o.cell (by exact J)).trans (t k f);by_cases g:b.hd.getD k 0= -1
  ·have r:Hid (∀j,j<k+1->b.hd.getD j 0= -1):=λj hj=>by
    rcases Z7 j k with h|h
    ·exact hd j h
    obtain rfl:j=k:=O0;exact g
   rw[g]at g0;clear t g hd;go_wp2
   go_round
   exact⟨k+1,O0,by go_num,r⟩;exact V9
  have c:Hid (¬iD b):=λh=>g (h.1 k f);generalize b.hd.getD k 0=X at*;clear t hd;go_wp2;go_ret;exact⟨P5 c,d⟩
 obtain rfl:k=b.hd.length:=O0;have P:=hd;clear hd f hk;by_cases h1:b.ep=0;rotate_left
 ·have c:Hid (¬iD b):=λh=>h1 h.2.1;go_wp2;go_ret;exact⟨P5 c,d⟩
 by_cases h2:b.ed=0;rotate_left
 ·have c:Hid (¬iD b):=λh=>h2 h.2.2.1;go_wp2;go_ret;exact⟨P5 c,d⟩
 by_cases x:b.fs.length=0;rotate_left
 ·have c:Hid (¬iD b):=λh=>x (by rw[h.2.2.2.1];rfl);have z:¬((b.fs.length:Int)=0):=O0;go_wp2;go_ret;exact⟨P5 c,d⟩
 rw[h1]at B;rw[h2]at A;rw[x]at y
 go_wp2_with fail
 refine(c65 b.s ⟨0,[],[]⟩ q.ta q.ra none none q.tc q.rc 0 0 V (rX O.o.st) a3d (R.o.st.below d) ⟨.inl rfl,.inl rfl⟩).mono ?_;rintro e w1⟨⟨L,rfl,l⟩,u⟩;have D:=U0 (a.o.below u a.o.lt);have E:=U0 (E5 d u);clear u B A y H F I C p n m a d;have p:=D.o.cell 12;have n:=D.o.cell 13;have m:=D.o.cell 14;simp only[gz]at p n m
 cases L with
 | false=>
  have c:Hid (¬iD b):=λh=>by have:=l.2 h.2.2.2.2.1;cases this
  clear l;go_wp2;go_ret;exact⟨P5 c,E⟩
 | true=>
 have N:=U0 (l.1 rfl);clear l;by_cases K:b.rt.length+b.rn.length+b.jb.length=0
 ·have r:Hid (iD b):=⟨P,h1,h2,Xb.1 x,N,Xb.1 O0,Xb.1 O0,Xb.1 O0⟩;have z:((b.rt.length:Int)+b.rn.length+b.jb.length==0)=true:=Yq.2 O0;go_wp2;go_ret;exact⟨by first|exact H_ r.o|(rw[z];exact H_ r),E⟩
 have c:Hid (¬iD b):=λh=>K (by rw[h.2.2.2.2.2.1,h.2.2.2.2.2.2.1,h.2.2.2.2.2.2.2];rfl);have z:((b.rt.length:Int)+b.rn.length+b.jb.length==0)=false:=S_.2 O0;go_wp2;go_ret;exact⟨by first|exact P5 c.o|(rw[z];exact P5 c),E⟩
def Hrd(hd:List Int)(now:Int):Prop:=(1<=hd.length/\hd.length<=4)/\∀i,i<hd.length-> -1<=hd.getD i 0/\hd.getD i 0<=now
theorem a4F(a:OA)(cap:Nat)(hd:List Int)(now:Int)(w:World)(hl:hd.length<=1048576)(m:Zf w a hd):
 Calls prog 120 #[Sa a hd.length cap,Sc Se now] w λe w'=>Rb (Hrd hd now) e/\w'=w:=by
 obtain⟨bb,off,hc⟩:=Vg m;have q:=U0 hc;clear m hc
 go_in
 go_wp2_with fail
 refine(c160 hd.length w).mono ?_;rintro e w1⟨rfl,hw⟩;obtain rfl:=hw.symm;by_cases h0:1<=hd.length/\hd.length<=4;rotate_left
 ·have b:Hid (¬Hrd hd now):=λh=>h0 h.1;rw[show decide (1<=(hd.length:Int)/\(hd.length:Int)<=4)=false from j_ O0];go_wp2;go_ret;exact⟨P5 b.o,rfl⟩
 rw[show decide (1<=(hd.length:Int)/\(hd.length:Int)<=4)=true from X_ O0];go_wp2;go_loop[13] (λi=>∃k:Nat,k<=hd.length/\i=Sc Se k/\Hid (∀j,j<k-> -1<=hd.getD j 0/\hd.getD j 0<=now)) (λi=>hd.length-(RowKit.intOf i).toNat);exact⟨0,Y4 _,rfl,λj h=>absurd h (U8 _)⟩;obtain⟨k,hk,rfl,f⟩:=hrel;by_cases c:k<hd.length;rotate_left
 ·obtain rfl:k=hd.length:=O0;have n:Hid (Hrd hd now):=⟨h0,f.o⟩;go_wp2;go_ret;exact⟨H_ n.o,rfl⟩
 obtain⟨ha,hbw,l⟩:=Ud q.o c;subst ha;have g0:=l k c;have p:Hid (-1<=hd.getD k 0/\hd.getD k 0<=now->∀j,j<k+1-> -1<=hd.getD j 0/\hd.getD j 0<=now):=λd j hj=>by
  rcases Z7 j k with h|h
  ·exact f.o j h
  obtain rfl:j=k:=O0;exact d
 have b:Hid (¬(-1<=hd.getD k 0/\hd.getD k 0<=now)->¬Hrd hd now):=λd h=>d (h.2 k c);generalize hd.getD k 0=X at*;clear l f;by_cases h1:X< -1
 ·have g:=U0 (b.o O0);go_wp2;go_ret;exact⟨P5 g.o,rfl⟩
 by_cases h2:now<X
 ·have g:=U0 (b.o O0);go_wp2;go_ret;exact⟨P5 g.o,rfl⟩
 have o:=U0 (p.o O0);go_wp2
 go_round
 exact⟨k+1,O0,by go_num,o⟩;exact V9

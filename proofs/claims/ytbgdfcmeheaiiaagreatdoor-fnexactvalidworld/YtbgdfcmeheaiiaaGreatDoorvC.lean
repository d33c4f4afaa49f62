import Derived.Test.YtbgdfcmeheaiiaaGreatDooreQQ
import Derived.Deep.Cut
import Derived.Deep.CutRange
set_option linter.unusedVariables false
set_option linter.unusedSimpArgs false
set_option maxHeartbeats 8000000
set_option maxRecDepth 100000
namespace Go.Proofs.YtbgdfcmeheaiiaaGreatDoor
open Proofs.Tryz Go.RowKit
def zs(z:List Value)(m:Nat):List Value:=(List.replicate m z).flatten
section
variable{z ys vs:List Value}{k n j b o:Nat}{w w':World}{cs:List Value}
theorem uI:(zs z n).length=n*z.length:=by
 unfold zs;simp
theorem jF:zs z (n+1)=z++zs z n:=by
 unfold zs;simp[List.replicate_succ]
theorem gU:∀(n j:Nat),j<n*z.length->(zs z n)[j]?=z[j % z.length]?
 | 0,j,h=>by simp at h
 | n+1,j,h=>by
  rw[jF];by_cases a:j<z.length
  ·rw[R_ a,Nat.mod_eq_of_lt a]
  rw[rf O0,gU n (j-z.length) (by rw[Xn]at h;omega),<- Nat.mod_eq_sub_mod O0]
theorem YJ(z:List Value)(n:Nat):madeCells z.toArray (n*z.length)=(zs z n).toArray:=by
 apply Array.ext
 ·simp[size_madeCells,uI]
 intro i h1 h2;have a:i<n*z.length:=by simpa[size_madeCells]using h1
 have b:i % z.length<z.length:=Nat.mod_lt _ (by rcases Ku z.length with h|h;(rw[h]at a;omega);exact h);have e:=gU (z:=z) n i a;have l:i<(zs z n).length:=by rw[uI];exact a
 rw[D9 l,D9 b]at e;injection e with e;simp[madeCells,b,e]
theorem EI(a:ys.length=k*z.length)(hv:vs.length=z.length)(hk:k<n):Ap (ys++zs z (n-k)) (k*z.length) vs=(ys++vs)++zs z (n-(k+1)):=by
 unfold Ap;rw[show n-k=(n-(k+1))+1 by omega,jF,<- a,hv];simp[List.drop_append]
theorem GI(a:ys.length=k*z.length)(hv:vs.length=z.length)(hk:k<n):k*z.length+vs.length<=(ys++zs z (n-k)).length:=by
 rw[L9,uI,a,hv,show n-k=(n-(k+1))+1 by omega,Xn];omega
def Bc(w:World)(b o:Nat)(cs:List Value):Prop:=∀q v,cs[q]?=some v->w.cell? ⟨b,o+q,none⟩=some v
theorem Bc.below(h:Bc w b o cs)(hl:b<w.heap.size)(a:Bw w w'):Bc w' b o cs:=λq v e=>(a.cell (by exact hl)).trans (h q v e)
theorem AQ{t:TypeId}(h:Cl w b t ys)(a:∀q v,cs[q]?=some v->ys[o+q]?=some v):Bc w b o cs:=λq v e=>(h.cell _).trans (a q v e)
end
def Kv{α:Type}(w:World)(a:OA)(is:List α)(d:α)(n:Nat)(P:World->Nat->Nat->α->Prop):Prop:=is=[]\/∃b off,a=some ⟨b,off,none⟩/\b<w.heap.size/\∀i,i<is.length->P w b (off+i*n) (is.getD i d)
section
variable{α:Type}{w w':World}{a:OA}{is:List α}{d:α}{n:Nat}{P:World->Nat->Nat->α->Prop}
theorem J8(h:Kv w a is d n P):∃b off,(is=[]\/(a=some ⟨b,off,none⟩/\b<w.heap.size/\∀i,i<is.length->P w b (off+i*n) (is.getD i d))):=by
 rcases h with h|⟨b,off,h⟩
 ·exact⟨0,0,.inl h⟩
 exact⟨b,off,.inr h⟩
theorem Ut(hP:∀b o x,P w b o x->b<w.heap.size->P w' b o x)(h:Kv w a is d n P)(e:Bw w w'):Kv w' a is d n P:=by
 rcases h with h|⟨b,off,h1,h2,f⟩
 ·exact .inl h
 exact .inr ⟨b,off,h1,G9 h2 e.size,λi c=>hP _ _ _ (f i c) h2⟩
theorem Oz{R:α->Prop}(hd:R d)(h:∀i,i<is.length->R (is.getD i d))(i:Nat):R (is.getD i d):=by
 rcases P7 i is.length with a|a
 ·exact h i a
 rw[show is.getD i d=d from by simp[List.getD,Mc a]];exact hd
theorem xI{f:α->List Value}{k:Nat}(a:k<is.length):(is.take (k+1)).flatMap f=(is.take k).flatMap f++f (is.getD k d):=by
 rw[Rq,Vq,D9 a];simp[List.getD,D9 a]
theorem uh{f:α->List Value}{m:Nat}(hf:∀x,(f x).length=m)(l:List α):(l.flatMap f).length=l.length*m:=by
 induction l with
 | nil=>simp
 | cons x l ih=>rw[Ag,L9,ih,hf,x_,Xn,Nat.add_comm]
theorem Aq{f:α->List Value}{m:Nat}(hf:∀x,(f x).length=m):∀(l:List α)(i:Nat),i<l.length->∀q v,(f (l.getD i d))[q]?=some v->(l.flatMap f)[i*m+q]?=some v
 | x::l,0,h,q,v,e=>by
  have a:q<(f x).length:=(Rl.1 e).1;rw[Ag,Ov,l7,R_ a];exact e
 | x::l,i+1,h,q,v,e=>by
  rw[Ag,rf (by rw[hf,Xn];omega),hf,show(i+1)*m+q-m=i*m+q by rw[Xn];omega];exact Aq hf l i (by simpa using h) q v e
end
structure Jb where
 nm:BY
 wk:Int
 un:Int
def Zd:Jb:=⟨⟨#[]⟩,0,0⟩
def IU(x:Jb):List Value:=[.string x.nm,.int .i64 x.wk,.int .i64 x.un]
def Jl(w:World)(a:OA)(is:List Jb):Prop:=Kv w a is Zd 3 λw b o x=>Bc w b o (IU x)
theorem Dl{w w':World}{a:OA}{is:List Jb}(h:Jl w a is)(c:Bw w w'):Jl w' a is:=Ut (λb o x h hl=>h.below hl c) h c
end Go.Proofs.YtbgdfcmeheaiiaaGreatDoor
namespace Go.Proofs.YtbgdfcmeheaiiaaGreatDoor
open Proofs.Tryz Go.RowKit
def Jg(w:World)(a:OA)(ss:List Int):Prop:=
 ss=[]\/∃b off,a=some ⟨b,off,none⟩/\b<w.heap.size/\∀i,i<ss.length->w.cell? ⟨b,off+i,none⟩=some (.int .i64 (ss.getD i 0))
theorem lg{w:World}{a:OA}{ss:List Int}(h:Jg w a ss):∃b off,(ss=[]\/(a=some ⟨b,off,none⟩/\b<w.heap.size/\∀i,i<ss.length->w.cell? ⟨b,off+i,none⟩=some (.int .i64 (ss.getD i 0)))):=by
 rcases h with h|⟨b,off,h⟩
 ·exact⟨0,0,.inl h⟩
 exact⟨b,off,.inr h⟩
theorem zh{w w':World}{a:OA}{ss:List Int}(h:Jg w a ss)(c:Bw w w'):Jg w' a ss:=by
 rcases h with h|⟨b,off,h1,h2,e⟩
 ·exact .inl h
 exact .inr ⟨b,off,h1,G9 h2 c.size,λi d=>by rw[c.cell (by exact h2)];exact e i d⟩
theorem a1K:(prog.info? 3).map (λi=>(i.zero,i.size,i.bytes))=some (some (.int .i64 0),1,8):=Y0
theorem c75(a l:OA)(o n:Nat)(ss:List Int)(w:World)(hl:ss.length<=1048576)(j:Jg w a ss)(h:Jg w l ss):
 Calls prog 75 #[.slice a ss.length o,.slice l ss.length n] w λe w'=>e=.returned (.bool true)/\Bw w w':=by
 obtain⟨b,off,hc⟩:=lg j;have q:=U0 hc;clear hc j;obtain⟨b',off',g⟩:=lg h;have p:=U0 g;clear g h
 go_in
 go_wp2;go_loopw[5] (λi wr=>∃(k nq:Nat),k<=ss.length/\i=.int .i64 k/\wr=w.drewN nq) (λi _=>ss.length-(RowKit.intOf i).toNat);exact⟨0,0,I4 _,rfl,rfl⟩;obtain⟨k,nq,hk,rfl,rfl⟩:=hrel;by_cases c:k<ss.length
 ·obtain⟨ha,hbw,f⟩:=Zb q.out c;obtain⟨m,a6o,d⟩:=Zb p.out c;subst ha;subst m;have g0:=f k c;have g1:=d k c;generalize ss.getD k 0=x at*;clear f d
  go_wp2_with fail
  go_quiet (fail)
  go_wp2;go_roundw;exact⟨k+1,_,O0,by go_num,rfl⟩;exact P9
 go_wp2;go_ret;exact⟨rfl,below_drewN _⟩
theorem c31(a:OA)(b n:Nat)(l:Int)(w:World)(h0:0<=l)(h1:l<=1048576)(hn:n<=9223372036854775807):
 Calls prog 31 #[.slice a n b,.int .i64 l] w λe w'=>(∃r:Int,e=.returned (.int .i64 r)/\(0<=r->n<=1048576/\r<=l))/\w'=w:=by
 by_cases h:l<n
 ·go_in
  go_wp2;go_ret;exact⟨⟨-1,rfl,λh=>O0⟩,rfl⟩
 go_in
 go_wp2;go_ret;exact⟨⟨_,rfl,λh=>⟨O0,O0⟩⟩,rfl⟩
theorem c60(n:Int)(w:World):
 Calls prog 60 #[.int .i64 n] w λe w'=>e=.returned (.bool (decide (1<=n/\n<=4)))/\w'=w:=by
 by_cases h1:1<=n<;>by_cases h2:n<=4
 all_goals
  go_in
  go_wp2;go_ret;exact⟨by simp[h1,h2],rfl⟩
section
variable{A B A' B' N m g j:Nat}{w w' w'':World}{a:OA}{t:TypeId}{xs:List Value}{v:Value}{S S':List TypeId}
end
section
variable{A B A' B' N m g j n L c p:Nat}{w w' w'':World}{a:OA}{t ti:TypeId}{xs:List Value}{v:Value}{S:List TypeId}
end
section
variable{P:Program}{ops:Array Oper}{Q:Exit->Act->World->Prop}
end
end Go.Proofs.YtbgdfcmeheaiiaaGreatDoor
namespace Go.Proofs.YtbgdfcmeheaiiaaGreatDoor
open Proofs.Tryz Go.RowKit
def mI(i:Int):Value:=.int .i64 i
def Kp(b:Nat)(w:World)(P:World->Prop):Prop:=∀u:World,w.heap.size<=u.heap.size->(∀q,b<=q->q<w.heap.size->u.heap[q]?=w.heap[q]?)->P u
section
variable{b b' B:Nat}{w u:World}{P Q:World->Prop}{t:TypeId}{xs:List Value}
theorem Kp.now(h:Kp b w P):P w:=h w Y8 (λ_ _ _=>rfl)
theorem Kp.next(h:Kp b w P)(c:w.heap.size<=u.heap.size)(d:∀q,b<=q->q<w.heap.size->u.heap[q]?=w.heap[q]?):Kp b u P:=λz h1 h2=>h z (Q8 c h1) (λq a hl=>(h2 q a O0).trans (d q a hl))
theorem Kp.below(h:Kp b w P)(a:Bw w u):Kp b u P:=h.next a.size (λq _ hl=>a.block q hl)
theorem Kp.on(h:Kp b w P)(ho:Wx B w u)(hB:B<b):Kp b u P:=h.next (Zj ho.size.symm) (λq hq _=>ho.block q O0)
theorem Kp.low(h:Kp b w P)(hb:b'<=b):Kp b' w P:=λz h1 h2=>h z h1 (λq hq=>h2 q O0)
theorem Kp.imp(h:Kp b w P)(a:∀u,P u->Q u):Kp b w Q:=λz h1 h2=>a _ (h z h1 h2)
theorem a1j(h:Cl w B t xs)(a:b<=B):Kp b w λu=>Cl u B t xs:=λz _ h2=>(h2 B a h.lt).trans h
end
def Zz(A:Nat)(u:World)(a:OA)(t:TypeId)(m:Nat):Prop:=∃g xs,a=some ⟨g,0,none⟩/\A<=g/\Cl u g t xs/\m<=xs.length
theorem Zz.mono{A A' m:Nat}{u:World}{a:OA}{t:TypeId}(h:Zz A u a t m)(h1:A'<=A):Zz A' u a t m:=by
 obtain⟨g,xs,h1,h2,b⟩:=h;exact⟨g,xs,h1,O0,b⟩
def Gq{β:Type}(b:Nat)(w:World)(LS:World->OA->List β->Prop)(t:TypeId)(m:Nat)(ls:List β)(v:Value):Prop:=∃a c,v=.slice a ls.length c/\ls.length<=c/\Kp b w (λu=>LS u a ls/\Zz b u a t (ls.length*m))
section
variable{β:Type}{b b' B m:Nat}{t:TypeId}{w u:World}{LS:World->OA->List β->Prop}{ls:List β}{v:Value}
theorem Gq.below(h:Gq b w LS t m ls v)(d:Bw w u):Gq b u LS t m ls v:=by
 obtain⟨a,c,e,hc,h⟩:=h;exact⟨a,c,e,hc,h.below d⟩
theorem Gq.on(h:Gq b w LS t m ls v)(ho:Wx B w u)(hB:B<b):Gq b u LS t m ls v:=by
 obtain⟨a,c,e,hc,h⟩:=h;exact⟨a,c,e,hc,h.on ho hB⟩
theorem Gq.low(h:Gq b w LS t m ls v)(d:b'<=b):Gq b' w LS t m ls v:=by
 obtain⟨a,c,e,hc,h⟩:=h;exact⟨a,c,e,hc,(h.low d).imp λu k=>⟨k.1,k.2.mono d⟩⟩
theorem Gq.one(h:Gq b w LS t m ls v):v.oneCell'=true:=by
 obtain⟨a,c,rfl,_,h⟩:=h;rfl
end
structure Rn where
 nm:BY
 md:Int
 wt:BY
 ls:List L4
 cd:Int
 tx:BY
def Aa:Rn:=⟨⟨#[]⟩,0,⟨#[]⟩,[],0,⟨#[]⟩⟩
def YC(p:Rn×Value):List Value:=[.string p.1.nm,.int .i64 p.1.md,.string p.1.wt,p.2,.int .i64 p.1.cd,.string p.1.tx]
def QW(w:World)(b o:Nat)(x:Rn):Prop:=∃ai ci,Bc w b o (YC (x,.slice ai x.ls.length ci))/\X6 w ai x.ls
def uj(w:World)(a:OA)(is:List Rn):Prop:=Kv w a is Aa 6 QW
theorem QW.below{w w':World}{b o:Nat}{x:Rn}(h:QW w b o x)(hl:b<w.heap.size)(d:Bw w w'):QW w' b o x:=by
 obtain⟨a,c,h1,h2⟩:=h;exact⟨a,c,h1.below hl d,Z4 h2 d⟩
theorem Ve{w w':World}{a:OA}{is:List Rn}(h:uj w a is)(c:Bw w w'):uj w' a is:=Ut (λb o x h hl=>h.below hl c) h c
def rcE(p:R3×Value):List Value:=[.string p.1.key,p.2,.string p.1.out]
def UZ(x:G3):List Value:=[.bool x.nm,.string x.tl,.string x.ar]
def lkE(x:L4):List Value:=[.bool x.has,.string x.nm,.int .i64 x.cd,.string x.tx]
section
variable{α:Type}{w:World}{B n:Nat}{t:TypeId}{ps:List (α×Value)}{f:α×Value->List Value}{r:List Value}{d:α}
theorem VW(hf:∀x,(f x).length=n)(h:Cl w B t (ps.flatMap f++r)){i:Nat}(a:i<ps.length):∃v,((ps.map Prod.fst).getD i d,v)∈ps/\Bc w B (0+i*n) (f ((ps.map Prod.fst).getD i d,v)):=by
 refine⟨(ps[i]).2,?_,?_⟩
 ·rw[show(ps.map Prod.fst).getD i d=(ps[i]).1 from by simp[List.getD,a]];exact ji a
 rw[show(ps.map Prod.fst).getD i d=(ps[i]).1 from by simp[List.getD,a]];refine AQ h λq v e=>?_;have hq:q<n:=by have:=(Rl.1 e).1;rwa[hf]at this
 have hl:=uh (m:=n) hf ps;have:i*n+n<=ps.length*n:=by rw[<- Xn];exact wE _ a
 rw[l7,R_ O0];exact Aq (d:=(d,undef)) hf ps i a q v (by rw[show ps.getD i (d,undef)=ps[i] from by simp[List.getD,a]];exact e)
end
end Go.Proofs.YtbgdfcmeheaiiaaGreatDoor
namespace Go.Proofs.YtbgdfcmeheaiiaaGreatDoor
open Proofs.Tryz Go.RowKit
theorem c85(x:Jb)(l:Int)(w:World)(h0:0<=l)(h1:l<=1048576)(hs:x.nm.size<=9223372036854775807):
 Calls prog 85 #[.agg #[.string x.nm,.int .i64 x.wk,.int .i64 x.un],.int .i64 l] w λe w'=>(∃r:Int,e=.returned (.int .i64 r)/\(0<=r->x.nm.size<=1048576/\r<=l))/\Bw w w':=by
 by_cases h':l<x.nm.size
 ·go_in
  go_wp2;go_ret;exact⟨⟨-1,rfl,λh=>O0⟩,P6⟩
 go_in
 go_wp2;go_ret;exact⟨⟨_,rfl,λh=>⟨O0,O0⟩⟩,P6⟩
theorem c34(a:OA)(B:Nat)(is:List Jb)(l:Int)(w:World)(h0:0<=l)(h1:l<=1048576)(p:∀i,(is.getD i Zd).nm.size<= 9223372036854775807)(hl:is.length<=9223372036854775807)(q:Jl w a is):
 Calls prog 34 #[.slice a is.length B,.int .i64 l] w λe w'=>(∃r:Int,e=.returned (.int .i64 r)/\(0<=r->is.length<=1048576/\(∀i,(is.getD i Zd).nm.size<= 1048576)/\r<=1048576))/\Bw w w':=by
 obtain⟨b,off,hc⟩:=J8 q;have E:=U0 hc;have D:=U0 p;clear hc q p;by_cases hbig:l<is.length
 ·go_in
  go_wp2;go_ret;exact⟨⟨-1,rfl,λh=>O0⟩,J4 _ _⟩
 go_in
 go_wp2;go_loopw[1,5] (λu i wr=>∃(k:Nat)(r:Int),k<=is.length/\i=.int .i64 k/\u=.int .i64 r/\0<=r/\r<=1048576/\Hid (∀i,i<k->(is.getD i Zd).nm.size<= 1048576)/\Below w.heap.size w wr) (λ_ i _=>is.length-(RowKit.intOf i).toNat);exact⟨0,_,I4 _,rfl,rfl,O0,O0,λi h=>absurd h (U7 _),J4 _ _⟩;obtain⟨k,r,hk,rfl,rfl,z,y,o,c⟩:=hrel;by_cases f:k<is.length;rotate_left
 ·have j:Hid (∀i,(is.getD i Zd).nm.size<= 1048576):=U0 (Oz (is:=is) (d:=Zd) (R:=λx=>x.nm.size<= 1048576) J6 (λi h=>o.out i O0));go_wp2;go_ret;exact⟨⟨r,rfl,λ_=>⟨O0,j.out,y⟩⟩,c⟩
 obtain⟨ha,n,g⟩:=Zb E.out f;subst ha;have g0:=((g k f).below n c) 0 _ rfl;have g1:=((g k f).below n c) 1 _ rfl;have g2:=((g k f).below n c) 2 _ rfl;dsimp only[Nat.add_zero]at g0;have v:=D.out k;generalize hx:is.getD k Zd=x at*;have C:=U0 hx;clear hx g
 go_wp2_with fail
 refine(c85 x r wr z O0 v).mono ?_;rintro e w1⟨⟨t,rfl,hr⟩,A⟩;have s:=P5 c A;by_cases hneg:t<0
 ·clear hr;go_wp2;go_ret;exact⟨⟨-1,rfl,λh=>O0⟩,s⟩
 have m:=hr O0;have j:Hid (∀i,i<k+1->(is.getD i Zd).nm.size<= 1048576):=by
  intro i h;rcases P7 i k with h1|h1
  ·exact o.out i h1
  obtain rfl:i=k:=O0;rw[C.out];exact m.1
 have hr2:=m.2;clear hr m;go_wp2;go_roundw;exact⟨k+1,_,O0,by go_num,rfl,O0,O0,j,s⟩;exact P9
theorem a3C(x:Jb)(w:World):
 Calls prog 137 #[.agg #[.string x.nm,.int .i64 x.wk,.int .i64 x.un],.agg #[.string x.nm,.int .i64 x.wk,.int .i64 x.un]] w λe w'=>e=.returned (.bool true)/\Bw w w':=by
 go_in
 go_wp2;go_ret;exact⟨rfl,P6.alloc O4 _⟩
theorem c78(a o:OA)(t s:Nat)(is:List Jb)(w:World)(hl:is.length<=1048576)(n:Jl w a is)(m:Jl w o is):
 Calls prog 78 #[.slice a is.length t,.slice o is.length s] w λe w'=>e=.returned (.bool true)/\Bw w w':=by
 obtain⟨b,off,hc⟩:=J8 n;have v:=U0 hc;obtain⟨b',off',l⟩:=J8 m;have u:=U0 l;clear hc n l m
 go_in
 go_wp2;go_loopw[5] (λi wr=>∃(k:Nat),k<=is.length/\i=.int .i64 k/\Below w.heap.size w wr) (λi _=>is.length-(RowKit.intOf i).toNat);exact⟨0,I4 _,rfl,J4 _ _⟩;obtain⟨k,hk,rfl,c⟩:=hrel;by_cases d:k<is.length;rotate_left
 ·go_wp2;go_ret;exact⟨rfl,c⟩
 obtain⟨ha,j,g⟩:=Zb v.out d;obtain⟨r,h,f⟩:=Zb u.out d;subst ha;subst r;have g0:=((g k d).below j c) 0 _ rfl;have g1:=((g k d).below j c) 1 _ rfl;have g2:=((g k d).below j c) 2 _ rfl;dsimp only[Nat.add_zero]at g0;have p:=((f k d).below h c) 0 _ rfl;have p1:=((f k d).below h c) 1 _ rfl;have p2:=((f k d).below h c) 2 _ rfl;dsimp only[Nat.add_zero]at p;generalize is.getD k Zd=x at*;clear g f
 go_wp2_with fail
 go_region_with(go_at_call 137;refine(a3C x _).mono ?_;rintro e w1⟨rfl,q⟩)
 all_goals go_wp2
 all_goals go_roundw
 all_goals first
  | exact⟨k+1,O0,by go_num,(c.drew).trans (q.mono c.size)⟩
  | (exact P9)

import Derived.Test.YtbgdfcmeheaiiaaGreatDoortW2
import Derived.Test.YtbgdfcmeheaiiaaGreatDooreYI
set_option maxRecDepth 100000
set_option linter.unusedVariables false
set_option linter.unusedSimpArgs false
set_option maxHeartbeats 8000000
namespace Go.Proofs.YtbgdfcmeheaiiaaGreatDoor
open Proofs.Tryz Go.RowKit
variable{l:List UInt8}{c:Int}{x:L4}{ls:List L4}
theorem Bv(n:Int)(h0:0<=n)(h1:n<=1000):(dec n).length<=4:=by
 by_cases a:n<10
 ·rw[dec_lt n a];simp
 rw[Uo n O0,L9];by_cases b:n / 10<10
 ·rw[dec_lt _ b];simp
 rw[Uo (n / 10) O0,L9];by_cases c:n / 10 / 10<10
 ·rw[dec_lt _ c];simp
 rw[Uo (n / 10 / 10) O0,L9];have d:n / 10 / 10 / 10<10:=O0;rw[dec_lt _ d];simp
theorem SV(n:Int)(h1:n<10):(dec n).length=1:=by rw[dec_lt n h1];rfl
theorem Yi(h:Y5 l=true):1<=l.length/\l.length<=20:=by
 unfold Y5 at h;rw[X_,Zc]at h;exact h.1
theorem UD(h:vr c l=true):l.length<=300:=by
 rcases P7 300 l.length with h1|h1
 ·rw[YD h1]at h;cases h
 exact h1
theorem Zr(l:List UInt8):(J5 l).length<=3*l.length+2:=by
 have:=Tt l;unfold J5;simp only[x_,L9,ve];omega
theorem WW(h:Oh x):x.nm.data.toList.length<=20/\x.tx.data.toList.length<=300:=by
 have a:=Yi h.1;refine⟨a.2,?_⟩;rcases h.2 with⟨_,⟨_,h⟩|⟨_,h⟩⟩|⟨_,h⟩
 ·rw[h];exact I4 _
 ·rw[h];omega
 exact UD h
theorem nD{t:BY}(h0:0<=c)(h1:c<=7)(ht:t.data.toList.length<=300):(Ob c t).length<=904:=by
 have a:=SV c O0;have b:=Zr t.data.toList;unfold Ob;simp only[L9,x_,ve];omega
theorem QT(h:Oh x):(qo x).length<=930:=by
 obtain⟨a,b⟩:=WW h;have hc:=Bh h;have r:=nD hc.1 hc.2 b;have w4:(Zw x.has).data.toList.length=4:=by cases x.has<;>rfl
 unfold qo;simp only[L9,x_,ve];omega
theorem vJ(h:Ee ls):∀k,k<=ls.length->(Y9 (ls.take k)).length<=k*930:=by
 intro k
 induction k with
 | zero=>intro _;simp[Y9]
 | succ k ih=>
  intro hk;rw[Sr ls k O0,L9];have:=QT (h.2 k O0);have:=ih O0;omega
theorem xw(h:Ee ls):(Y9 ls).length<=13950:=by
 have:=vJ h ls.length Y8;rw[p_ Y8]at this;have:=h.1;omega
theorem qF{x:M3}(h:Xe x=true):x.nm.data.toList.length<=20/\x.tl.data.toList.length<=20/\x.ar.data.toList.length<=300:=by
 unfold Xe at h;simp only[X_,Zc]at h;have e:x.ar.data.toList.length=x.ar.size:=O4;exact⟨(Yi h.1.1).2,(Yi h.1.2).2,O0⟩
end Go.Proofs.YtbgdfcmeheaiiaaGreatDoor
namespace Go.Proofs.YtbgdfcmeheaiiaaGreatDoor.T
open Proofs.Tryz Go.RowKit
variable{fs:List F2}{w:World}{base:Nat}{v:Value}
def J3(fs:List F2):List Value:=fs.flatMap λx=>[.string x.nm,.string x.tx]
theorem E8(fs:List F2):(J3 fs).length=fs.length*2:=by
 induction fs with
 | nil=>rfl
 | cons x r ih=>unfold J3 at *;simp only[List.flatMap_cons,List.length_append,List.length_cons,List.length_nil,ih];omega
theorem Ld(fs gs:List F2):J3 (fs++gs)=J3 fs++J3 gs:=by simp[J3]
theorem Qd(fs:List F2)(i:Nat)(h:i<fs.length):(J3 fs)[i*2]?=some (.string (fs.getD i P8).nm)/\(J3 fs)[i*2+1]?=some (.string (fs.getD i P8).tx):=by
 induction fs generalizing i with
 | nil=>simp at h
 | cons x r ih=>
  cases i with
  | zero=>exact⟨rfl,rfl⟩
  | succ i=>
   have:=ih i (by simpa using h);have e:∀j,(J3 (x::r))[(i+1)*2+j]?=(J3 r)[i*2+j]?:=λj=>by
    show([Value.string x.nm,vS x.tx]++J3 r)[(i+1)*2+j]?=_;rw[rf X7]
    congr 1
    simp;omega
   have e0:=e 0;simp only[Iq]at e0;rw[e0,e 1];exact this
theorem Dh:∀u∈J3 fs,u.oneCell'=true:=by
 intro u a;unfold J3 at a;obtain⟨x,_,hx⟩:=fF.1 a;simp at hx;rcases hx with rfl|rfl<;>rfl
def Vk(w:World)(base:Nat)(v:Value)(fs:List F2):Prop:=w.ownsRow base 166 2 v fs.length (J3 fs)
theorem Vk.form(h:Vk w base v fs):∃a b,v=.slice a fs.length b/\U5 w a fs:=by
 have c:=h;rcases h.2 with⟨hv,h0⟩|⟨g,b,cur,hv,hg,e,_⟩
 ·exact⟨none,0,by rw[hv,h0],.inl (La.1 h0)⟩
 refine⟨some (aA g 0),b,hv,?_⟩;subst hv;refine .inr ⟨g,0,rfl,Xf e,λi d=>?_⟩;obtain⟨e0,e1⟩:=Qd fs i d;rw[l7,c.cellAt _ O0,c.cellAt _ O0];exact⟨e0,e1⟩
theorem Vk.below{w':World}(h:Vk w base v fs)(a:Bw w w'):Vk w' base v fs:=ownsRow_below h a
theorem Aw{b off:Nat}(h:∀i,i<fs.length->w.cell? ⟨b,off+i*2,none⟩=some (.string (fs.getD i P8).nm)/\w.cell? ⟨b,off+i*2+1,none⟩=some (.string (fs.getD i P8).tx))(j:Nat)(u:Value)(a:(J3 fs)[j]?=some u):w.cell? ((⟨b,off,none⟩:Addr).add j)=some u:=by
 have hl:j<fs.length*2:=by rw[<- E8];exact(Rl.1 a).1
 have e:(aA b off).add j=(aA b (off+j)):=by unfold Addr.add;split<;>simp_all
 rw[e];obtain⟨e0,e1⟩:=Qd fs (j / 2) O0;obtain⟨h0,h1⟩:=h (j / 2) O0;rcases YI j with hm|hm
 ·have c:j / 2*2=j:=O0;rw[c]at e0 h0;rw[e0]at a;rw[h0];exact a
 have c:j / 2*2+1=j:=O0;rw[c]at e1;rw[Nat.add_assoc,c]at h1;rw[e1]at a;rw[h1];exact a
theorem c236(a:OA)(m:Nat)(fs:List F2)(w:World)(hl:fs.length<=1000)(i:U5 w a fs):
 Calls prog 236 #[.slice a fs.length m] w λe w'=>∃v',e=.returned v'/\Vk w' w.heap.size v' fs/\Bw w w':=by
 have q27:∀(w:World)(a:OA)(n c f o:Nat),(binOp .eql 44 (vL a n c) (vL none f o)).run prog w=.ok (.bool a.isNone) w:=λw a n c f o=>Lib.run_eql_slice_nil w _ _ a n c f o underlying44
 cases a with
 | none=>
  obtain rfl:fs=[]:=by
   rcases i with h|⟨b,off,h,_⟩
   ·exact h
   cases h
  go_in
  go_wp2;go_ret;exact⟨_,rfl,⟨rfl,.inl ⟨rfl,rfl⟩⟩,J4 _ _⟩
 | some ad=>
  obtain⟨W,l⟩:∃W:World,W=w.alloc (.cells #[] 166):=⟨_,rfl⟩;have d:Bw w W:=by rw[l];exact P6
  have q:Hid (W.ownsRow w.heap.size 166 2 (vL (some (aW w 0)) 0 0) 0 []):=by show World.ownsRow _ _ _ _ _ _ _;rw[l];exact wJ w #[] 0 Y8 (I4 _) rfl
  have t:Hid (Src W (vL (some ad) fs.length m) 2 fs.length (J3 fs)):=by
   refine .inr ⟨ad,m,rfl,E8 fs,λj u p=>?_⟩;rcases i with rfl|⟨b,off,h,s,hc⟩
   ·simp[J3]at p
   injection h with h;subst h;have h:=Aw hc j u p;rw[Zq]at h ⊢;exact(d.cell s).trans h
  clear i
  go_in
  go_wp2_with(at_builtin;rw[<- l];refine Nr rfl _ _ 44 rfl w.heap.size 166 2 underlying44 (Um Y0) J6 (vL (some (aW w 0)) 0 0) 0 [] rfl q.out _ fs.length (J3 fs) rfl t.out Dh O0 d.size ?_;intro v' w1 O g _;rw[l7,Qb]at O;have v:=U0 O;have x:=U0 ((d.grown g d.size (λk r=>(q.out.lt k r).1)));clear O g)
  go_ret;exact⟨_,rfl,v.out,x.out⟩
end Go.Proofs.YtbgdfcmeheaiiaaGreatDoor.T
namespace Go.Proofs.YtbgdfcmeheaiiaaGreatDoor
open Proofs.Tryz Go.RowKit
variable{M c n:Int}{l t:List UInt8}{x:L4}{ls:List (List UInt8)}{b:UInt8}
theorem GU(f:Nat)(n:Int)(h0:0<=n)(hf:n.toNat<f):(dec n).all w_=true/\val (dec n)=n:=by
 induction f generalizing n with
 | zero=>omega
 | succ f ih=>
  by_cases h:n<10
  ·rw[dec_lt n h];obtain rfl|rfl|rfl|rfl|rfl|rfl|rfl|rfl|rfl|rfl:n=0\/n=1\/n=2\/n=3\/n=4\/n=5\/n=6\/n=7\/n=8\/n=9:=O0
   all_goals decide
  obtain⟨h1,h2⟩:=ih (n / 10) O0 O0;rw[Uo n O0,Qe,h2,Dp,h1];have hd:0<=n % 10/\n % 10<10:=O0;have a:n=n / 10*10+n % 10:=O0;generalize n % 10=d at*;generalize n / 10=q at*;obtain rfl|rfl|rfl|rfl|rfl|rfl|rfl|rfl|rfl|rfl:d=0\/d=1\/d=2\/d=3\/d=4\/d=5\/d=6\/d=7\/d=8\/d=9:=O0
  all_goals exact⟨J6,by rw[a];rfl⟩
theorem Wu(n:Int)(h0:0<=n):(dec n).all w_=true/\val (dec n)=n:=GU (n.toNat+1) n h0 O0
theorem pO(n:Int)(h0:0<=n):Yb (dec n)=true:=(NH (n.toNat+1) n h0 O0).1
theorem Jz(h0:0<=n)(h1:n<=M):Qh M (dec n)=true/\iI M (dec n)=n:=by
 obtain⟨a,b⟩:=Wu n h0;have:Qh M (dec n)=true:=dQ (pO n h0) a (by rw[b];exact h1);exact⟨this,by rw[EF this,b]⟩
theorem IK(h:Qh M l=true):l=dec (iI M l)/\0<=iI M l/\iI M l<=M:=by
 rw[EF h];simp only[Qh,X_,Zc]at h;obtain⟨⟨h1,h2⟩,a⟩:=h;exact⟨(Yx l h2 h1).1.symm,Em l h2,a⟩
theorem CG(h0:0<=n)(h1:n<=1000):n29 (dec n)=n:=by
 obtain⟨a,b⟩:=Wu n h0;have:=Bv n h0 h1;have hne:=Us.2 (TI n);rw[rD ⟨O0,O0⟩ a (by rw[b]),b]
theorem XY(h:l.all w_=true):(32:UInt8)∉l/\(10:UInt8)∉l:=by
 rw[Oo]at h;constructor
 ·intro hm;have:=h _ hm;revert this;decide
 intro hm;have:=h _ hm;revert this;decide
theorem KD(h0:0<=n):(32:UInt8)∉dec n/\(10:UInt8)∉dec n:=XY (Wu n h0).1
theorem OH(l:List UInt8):J5 l≠[]:=by intro h;have:=Gn l;rw[h]at this;simp at this
theorem jX(h:Y1 l≠[]):(32:UInt8)∈l:=by
 by_cases hm:(32:UInt8)∈l
 ·exact hm
 exact absurd (Oi hm).2 h
theorem qf(h:Y1 l≠[]):l=O1 l++32::Y1 l:=(gm (jX h)).1
theorem Q9(l:List UInt8):(Y2 l).data.toList=l:=rfl
def bD(l:List UInt8)(c:Int)(t:BY)(ok:Bool):Prop:=(∀c' t',0<=c'->c'<=7->l=Ob c' t'->ok=true/\c=c'/\t=t')/\(ok=true->l=Ob c t)
theorem Jk(c:Int)(t:BY):Ob c t=dec c++32::J5 t.data.toList:=by simp[Ob]
theorem pF(c:Int)(t:BY):Ob c t≠[]:=by rw[Jk];simp
theorem Wv(t:BY)(h:0<=c):O1 (Ob c t)=dec c/\Y1 (Ob c t)=J5 t.data.toList:=by
 rw[Jk];exact N7 (KD h).1
theorem kM(d:Unq (Y1 l) t true)(f:Qh 7 (O1 l)=true):bD l (iI 7 (O1 l)) (Y2 t) true:=by
 have a:=d.1 rfl;obtain⟨h,d2,d3⟩:=IK f;constructor
 ·intro c' b h0 g e;obtain⟨e1,c⟩:=Wv b h0;rw[<- e]at e1 c;refine⟨rfl,?_,?_⟩
  ·rw[e1];exact(Jz h0 g).2
  have:t=b.data.toList:=Yl (a.symm.trans c);rw[this];rfl
 intro _;rw[Jk,<- h,Q9,<- a];exact qf (by rw[a];exact OH _)
theorem rU{a:Bool}(f:Unq (Y1 l) t a)(h:Qh 7 (O1 l)=false\/a=false)(c:Int)(x:BY):bD l c x false:=by
 refine⟨λc' d h0 g e=>?_,λh=>by cases h⟩;obtain⟨e1,b⟩:=Wv d h0;rw[<- e]at e1 b;rcases h with h|h
 ·rw[e1,(Jz h0 g).1]at h;cases h
 subst h;exact absurd b (f.2 rfl _)
def Cc(x:L4):List UInt8:=(lookW x.has).data.toList++32::(x.nm.data.toList++32::Ob x.cd x.tx)
theorem MV(x:L4):qo x=Cc x++[10]:=by
 unfold qo Cc Zw lookW;cases x.has<;>simp
theorem ZG(b:Bool):(32:UInt8)∉(lookW b).data.toList/\(10:UInt8)∉(lookW b).data.toList:=by cases b<;>decide
theorem zM(h:Oh x):(10:UInt8)∉Cc x:=by
 unfold Cc;rw[Jk];simp only[Cf,je,lm];exact⟨(ZG _).2,J6,(N_ h.1).2,J6,(KD (Bh h).1).2,J6,Zi _⟩
theorem Qm(h:Y5 x.nm.data.toList=true):O1 (Cc x)=(lookW x.has).data.toList/\O1 (Y1 (Cc x))=x.nm.data.toList/\Y1 (Y1 (Cc x))=Ob x.cd x.tx:=by
 obtain⟨a,b⟩:=N7 (r:=x.nm.data.toList++32::Ob x.cd x.tx) (ZG x.has).1;obtain⟨c,d⟩:=N7 (r:=Ob x.cd x.tx) (N_ h).1;unfold Cc;rw[a,b,c,d];exact⟨rfl,rfl,rfl⟩
def Lm(l:List UInt8)(x:L4)(ok:Bool):Prop:=(∀y,Oh y->l=Cc y->ok=true/\x=y)/\(ok=true->Oh x->l=Cc x)
def Cj(l:List UInt8):Bool:=decide (O1 l=[104,97,115])
def MB(l:List UInt8):Bool:=Cj l||decide (O1 l=[97,115,107])
theorem kR(h:MB l=true):O1 l=(lookW (Cj l)).data.toList:=by
 unfold MB at h;cases hh:Cj l
 ·rw[hh]at h;simp only[Bool.false_or,Zc]at h;rw[h];rfl
 unfold Cj at hh;rw[Zc]at hh;rw[hh];rfl
theorem xu{b:Bool}(h:O1 l=(lookW b).data.toList):MB l=true/\Cj l=b:=by
 unfold MB Cj;rw[h];cases b<;>decide
theorem KI{t:BY}(hw:MB l=true)(hr:bD (Y1 (Y1 l)) c t true):Lm l ⟨Cj l,Y2 (O1 (Y1 l)),c,t⟩ true:=by
 constructor
 ·intro y f e;obtain⟨a,b,d⟩:=Qm f.1;rw[<- e]at a b d;obtain⟨_,h1,h2⟩:=hr.1 _ _ (Bh f).1 (Bh f).2 d;refine⟨rfl,?_⟩;rw[(xu a).2,b,h1,h2];rfl
 intro _ _;have e:=hr.2 rfl;have h2:Y1 (Y1 l)≠[]:=by rw[e];exact pF _ _
 have h1:Y1 l≠[]:=λh=>by rw[h]at h2;exact h2 rfl
 unfold Cc;rw[Q9,<- kR hw,<- e,<- qf h2,<- qf h1]
theorem YL{t:BY}{ok:Bool}(hr:bD (Y1 (Y1 l)) c t ok)(h:MB l=false\/ok=false)(x:L4):Lm l x false:=by
 refine⟨λy f e=>?_,λh=>by cases h⟩;obtain⟨a,b,d⟩:=Qm f.1;rw[<- e]at a b d;rcases h with h|h
 ·rw[(xu a).1]at h;cases h
 have:=(hr.1 _ _ (Bh f).1 (Bh f).2 d).1;rw[h]at this;cases this
def Ul(ls:List (List UInt8))(xs:List L4)(ok:Bool):Prop:=(∀ys,(∀i,i<ys.length->Oh (ys.getD i l_))->ls=ys.map Cc->ok=true/\xs=ys)/\(ok=true->(∀i,i<xs.length->Oh (xs.getD i l_))->ls=xs.map Cc)
theorem Xr(ys:List L4)(i:Nat)(h:i<ys.length):(ys.map Cc).getD i []=Cc (ys.getD i l_):=by
 simp[List.getD,h]
theorem dI{α:Type}{a b:List α}{d:α}(hl:a.length=b.length)(h:∀i,i<a.length->a.getD i d=b.getD i d):a=b:=by
 refine Qy hl λi h1 h2=>?_;have:=h i h1;simpa[List.getD,h1,h2]using this
theorem YH{xs:List L4}(hl:xs.length=ls.length)(h:∀i,i<ls.length->Lm (ls.getD i []) (xs.getD i l_) true):Ul ls xs true:=by
 constructor
 ·intro ys b e;subst e;rw[Je]at hl h;refine⟨rfl,dI (d:=l_) hl λi a=>?_⟩;exact((h i O0).1 _ (b i O0) (Xr ys i O0)).2
 intro _ hx;refine dI (d:=[]) (by rw[Je,hl]) λi a=>?_;rw[Xr xs i O0];exact(h i a).2 rfl (hx i O0)
theorem oI{k:Nat}(a:k<ls.length)(h:Lm (ls.getD k []) x false)(xs:List L4):Ul ls xs false:=by
 refine⟨λys b e=>?_,λh=>by cases h⟩;subst e;rw[Je]at a;have:=(h.1 _ (b k a) (Xr ys k a)).1;cases this
theorem Nw(h:b∉l)(P:List (List UInt8))(q:List UInt8):l.foldl (cst b) (P,q)=(P,q++l):=by
 induction l generalizing q with
 | nil=>simp
 | cons c l ih=>
  have hc:c≠b:=λe=>h (by simp[e]);rw[Rw];have:cst b (P,q) c=(P,q++[c]):=by unfold cst;rw[if_neg hc]
  rw[this,ih (λhm=>h (vg _ hm)),Jq];rfl
theorem VE(b:UInt8)(l:List UInt8)(P Q:List (List UInt8))(q:List UInt8):l.foldl (cst b) (P++Q,q)=(P++(l.foldl (cst b) (Q,q)).1,(l.foldl (cst b) (Q,q)).2):=by
 induction l generalizing Q q with
 | nil=>rfl
 | cons c l ih=>
  rw[Rw,Rw];by_cases hc:c=b
  ·have e1:cst b (P++Q,q) c=(P++(Q++[q]),[]):=by unfold cst;rw[if_pos hc,List.append_assoc]
   have a:cst b (Q,q) c=(Q++[q],[]):=by unfold cst;rw[if_pos hc]
   rw[e1,a,ih]
  have e1:cst b (P++Q,q) c=(P++Q,q++[c]):=by unfold cst;rw[if_neg hc]
  have a:cst b (Q,q) c=(Q,q++[c]):=by unfold cst;rw[if_neg hc]
  rw[e1,a,ih]
theorem wS(h:b∉l):L8 b l=[l]:=by
 unfold L8 Z7;rw[Nw h];rfl
theorem LK{a r:List UInt8}(h:b∉a):L8 b (a++b::r)=a::L8 b r:=by
 unfold L8 Z7;rw[PE,Nw h,Rw];have e:cst b ([],[]++a) b=([a]++[],[]):=by unfold cst;rw[if_pos rfl];simp
 rw[e,VE];simp
theorem a1p(b:UInt8)(l:List UInt8):(Lib.index l [b]=-1/\b∉l)\/(∃i:Nat,Lib.index l [b]=i/\i<l.length/\l=l.take i++b::l.drop (i+1)/\b∉l.take i):=by
 rw[Lib.index_one];have hge:=Lib.indexByte_ge l b;by_cases h:Lib.indexByte l b=-1
 ·refine .inl ⟨h,λhm=>?_⟩;obtain⟨k,a,e⟩:=Ce hm;exact Lib.indexByte_none h k (by rw[D9 a,e])
 obtain⟨o,ho⟩:∃o:Nat,Lib.indexByte l b=o:=⟨(Lib.indexByte l b).toNat,O0⟩;obtain⟨h1,h2⟩:=Lib.indexByte_some ho;have hl:o<l.length:=by
  rcases P7 o l.length with h|h
  ·exact h
  rw[Mc h]at h1;cases h1
 refine .inr ⟨o,ho,hl,?_,λhm=>?_⟩
 ·have hx:l[o]=b:=by rw[D9 hl]at h1;exact D_ h1
  conv=>lhs;rw[<- Qk o l,jA hl,hx]
 obtain⟨k,a,e⟩:=Ce hm;rw[L_]at a;rw[fE]at e;exact h2 k O0 (by rw[D9 O0,e])
theorem IW(b:UInt8)(f:Nat):∀l:List UInt8,l.length<f->Lib.splitK [b] 0 (Lib.countFrom [b] f l) l=L8 b l/\(L8 b l).length=Lib.countFrom [b] f l+1:=by
 induction f with
 | zero=>intro l h;omega
 | succ f ih=>
  intro l h;rcases a1p b l with⟨a,c⟩|⟨i,a,hl,he,c⟩
  ·have hc:Lib.countFrom [b] (f+1) l=0:=by rw[Lib.countFrom,a];rfl
   rw[hc,wS c];exact⟨rfl,rfl⟩
  have d:¬((i:Int)==-1)=true:=λe=>by have:=Zo.1 e;omega
  obtain⟨h1,h2⟩:=ih (l.drop (i+1)) (by rw[Lj];omega);have hc:Lib.countFrom [b] (f+1) l=Lib.countFrom [b] f (l.drop (i+1))+1:=by
   rw[Lib.countFrom,a,Y7 d,Nat.add_comm];rfl
  have hcut:L8 b l=l.take i::L8 b (l.drop (i+1)):=by
   conv=>lhs;rw[he]
   exact LK c
  rw[hc,hcut];refine⟨?_,by rw[x_,h2]⟩;rw[Lib.splitK,a,Y7 d,<- h1];rfl
theorem c233(b:UInt8)(s:BY)(w:World)(hs:s.size<=1048700)(hm:Oc w):
 Calls prog 233 #[.string s,.string ⟨#[b]⟩] w λe w'=>(e=.returned (.slice (some ⟨w.heap.size,0,none⟩) (L8 b s.data.toList).length (L8 b s.data.toList).length)/\qc w' w.heap.size (L8 b s.data.toList))/\Bw w w':=by
 obtain⟨_,m,hm⟩:=hm;obtain⟨h1,h2⟩:=IW b (s.data.toList.length+1) s.data.toList O0;have hd:=GK ((Lib.splitB_data ⟨#[b]⟩ 0 (Lib.countB s ⟨#[b]⟩) s).trans h1);have hc:Lib.countB s ⟨#[b]⟩+1=(L8 b s.data.toList).length:=h2.symm;refine(Tryz.strings_Split s ⟨#[b]⟩ m w O0 hm (J9 1)).mono ?_;rintro e w'⟨rfl,rfl⟩;rw[hd,hc];refine⟨⟨rfl,O4,λi a=>?_⟩,P6⟩;simp[a]
def Xh(l:List UInt8):Bool:=decide (l.getLastD 0=10)
theorem Xz(h:Xh l=true):l=l.dropLast++[10]:=by
 unfold Xh at h;rw[Zc]at h;rcases iC l with e|⟨r,c,e⟩
 ·subst e;cases h
 rw[fC]at e;subst e;rw[CJ]at h;rw[List.dropLast_concat,h]
theorem nV(l:List UInt8):Xh (l++[10])=true:=by unfold Xh;rw[List.getLastD_concat];rfl
theorem last_one(s:BY)(h:1<=s.size):s.extract (s.size-1) s.size=Y2 [s.data.toList.getLastD 0]:=by
 refine yc ?_;rw[ext_list,p_ O4];obtain⟨r,c,e⟩:∃r c,s.data.toList=r++[c]:=by
  rcases iC s.data.toList with e|⟨r,c,e⟩
  ·have:s.data.toList.length=s.size:=O4;rw[e]at this;simp at this;omega
  exact⟨r,c,by rw[e,fC]⟩
 have hl:s.data.toList.length=s.size:=O4;rw[e]at hl ⊢;rw[L9,Aj]at hl;rw[CJ,show s.size-1=r.length by omega,List.drop_left]
theorem MR(s:BY):s.extract 0 (s.size-1)=Y2 s.data.toList.dropLast:=by
 refine yc ?_;rw[ext_list,zD,List.dropLast_eq_take];simp
theorem a4u(s:BY)(w:World)(hs:s.size<=1048700):
 Calls prog 324 #[.string s,.string ⟨#[10]⟩] w λe w'=>e=.returned (.bool (Xh s.data.toList))/\w'=w:=by
 by_cases h:1<=s.size
 ·have HX:=last_one s h;have a:((Y2 [s.data.toList.getLastD 0]).toList==[10])=Xh s.data.toList:=by
   rw[ByteArray.toList_eq,Q9];unfold Xh;by_cases hc:s.data.toList.getLastD 0=10
   ·rw[hc];rfl
   rw[y9 hc];exact K_.2 λe=>hc (Ym e).1
  generalize Xh s.data.toList=b at*;generalize s.data.toList.getLastD 0=c at*
  go_in
  go_wp2;go_ret;exact⟨rfl,rfl⟩
 have a:Xh s.data.toList=false:=by
  have hl:s.data.toList.length=s.size:=O4;have:s.data.toList=[]:=La.1 O0;rw[this];rfl
 generalize Xh s.data.toList=b at*;subst a
 go_in
 go_wp2;go_ret;exact⟨rfl,rfl⟩
def Vy(l:List UInt8):List UInt8:=if Xh l=true then l.dropLast else l
theorem a3x(s:BY)(w:World)(a:s.size<=1048700):
 Calls prog 285 #[.string s,.string ⟨#[10]⟩] w λe w'=>e=.returned (.tuple #[.string (Y2 (Vy s.data.toList)),.bool (Xh s.data.toList)])/\w'=w:=by
 have hX:=MR s;have hP:(Xh s.data.toList=true->Y2 (Vy s.data.toList)=Y2 s.data.toList.dropLast/\1<=s.size)/\(Xh s.data.toList=false->Y2 (Vy s.data.toList)=s):=by
  unfold Vy;constructor
  ·intro h;rw[D8 h];refine⟨rfl,?_⟩;have e:=Xz h;have hl:s.data.toList.length=s.size:=O4;rw[e]at hl;rw[L9,Aj]at hl;omega
  intro h;rw[Y7 (by rw[h];decide)];rfl
 have hc:=a4u s;generalize Y2 (Vy s.data.toList)=p at*;generalize Y2 s.data.toList.dropLast=q at*;generalize Xh s.data.toList=b at*
 go_in
 go_wp2_with fail
 refine(hc _ a).mono ?_;rintro e w1⟨rfl,rfl⟩;cases b
 ·have e:=hP.2 rfl;subst e;go_wp2;go_ret2;exact⟨rfl,rfl⟩
 obtain⟨e,h1⟩:=hP.1 rfl;subst e;go_wp2;go_ret2;exact⟨rfl,rfl⟩
theorem c232(s:BY)(w:World)(a:s.size<=1048700):
 Calls prog 232 #[.string s,.string ⟨#[10]⟩] w λe w'=>e=.returned (.tuple #[.string (Y2 (Vy s.data.toList)),.bool (Xh s.data.toList)])/\w'=w:=by
 have hc:=a3x s;generalize Y2 (Vy s.data.toList)=p at*;generalize Xh s.data.toList=b at*
 go_in
 go_wp2_with fail
 refine(hc _ a).mono ?_;rintro e w1⟨rfl,rfl⟩;go_wp2;go_ret2;exact⟨rfl,rfl⟩
def a4n(w w':World)(l:List UInt8)(e:Ending):Prop:=(Xh l=false/\e=.returned (.tuple #[.slice none 0 0,.bool false]))\/(Xh l=true/\∃g,e=.returned (.tuple #[.slice (some ⟨g,0,none⟩) (L8 10 l.dropLast).length (L8 10 l.dropLast).length,.bool true])/\w.heap.size<=g/\qc w' g (L8 10 l.dropLast))
theorem a4G(s:BY)(w:World)(d:s.size<=1048700)(f:Oc w):
 Calls prog 169 #[.string s] w λe w'=>a4n w w' s.data.toList e/\Bw w w':=by
 have hc:=c232 s;have c:(Y2 (Vy s.data.toList)).size<=1048700:=by
  rw[Y4];unfold Vy;split
  ·rw[List.length_dropLast];simp;omega
  simp;omega
 have b:Xh s.data.toList=true->Vy s.data.toList=s.data.toList.dropLast:=λh=>by unfold Vy;rw[if_pos h]
 generalize s.data.toList=l at*
 go_in
 go_wp2_with fail
 refine(hc _ d).mono ?_;rintro e w1⟨rfl,rfl⟩;cases hb:Xh l
 ·go_wp2;go_ret2;exact⟨.inl ⟨hb,rfl⟩,J4 _ _⟩
 rw[b hb]at c ⊢;clear hc b
 go_wp2_with fail
 refine(c233 10 (Y2 l.dropLast) _ c f).mono ?_;rintro e w2⟨⟨rfl,a⟩,i⟩;rw[Q9]at a ⊢;have g:=a;clear a;go_wp2;go_ret2;exact⟨.inr ⟨hb,_,rfl,J9 _,g⟩,i⟩

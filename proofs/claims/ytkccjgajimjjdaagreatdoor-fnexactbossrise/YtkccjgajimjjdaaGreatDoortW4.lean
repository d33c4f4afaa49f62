import Derived.Test.YtkccjgajimjjdaaGreatDoortW3
set_option maxRecDepth 100000
set_option linter.unusedVariables false
set_option maxHeartbeats 8000000
namespace Go.Proofs.YtkccjgajimjjdaaGreatDoor
open Proofs.Tryz Go.RowKit
variable{M c n:Int}{l t:List UInt8}{x:L4}{ls:List (List UInt8)}{b:UInt8}
def Ci(M:Int)(l:List UInt8):Bool:=Ic l&&l.all B_&&decide (val l<=M)
def EI(M:Int)(l:List UInt8):Int:=if Ci M l=true then val l else 0
theorem pM(h:Ic l=false):Ci M l=false:=by simp[Ci,h]
theorem jV(h:l.all B_=false):Ci M l=false:=by simp only[Ci,h,Pv,OI]
theorem NZ(k:Nat)(h:M<val (l.take k)):Ci M l=false:=by
 by_cases ha:l.all B_=true
 ·have:=Aq l ha k;have hd:decide (val l<=M)=false:=by simp only[ru];omega
  simp only[Ci,hd,Pv]
 exact jV (by simpa using ha)
theorem YT(h1:Ic l=true)(h2:l.all B_=true)(a:val l<=M):Ci M l=true:=by
 have hd:decide (val l<=M)=true:=by simpa using a
 simp only[Ci,h1,h2,hd,YJ]
theorem EF(h:Ci M l=false):EI M l=0:=by simp[EI,h]
theorem ND(h:Ci M l=true):EI M l=val l:=by simp[EI,h]
theorem xZ(M:Int)(s:BY)(w:World)(hs:s.size<=1048700)(t:0<=M)(hM1:M<=100000):
 Calls prog 223 #[.string s,.int .i64 M] w λe w'=>e=.returned (.tuple #[.int .i64 (EI M s.data.toList),.bool (Ci M s.data.toList)])/\w'=w:=by
 by_cases h0:s.size=0
 ·have e0:s.toList=[]:=by
   rw[ByteArray.toList_eq];exact Qb.1 (by simpa using h0)
  have a:Hid (Ci M s.data.toList=false):=pM (by rw[<- ByteArray.toList_eq,e0];rfl)
  go_in
  go_wp2;go_ret2;exact⟨Yb (EF a.out).symm a.out.symm,rfl⟩
 have e0:s.toList.isEmpty=false:=by rw[ByteArray.toList_eq];exact jq s O0
 have e1:¬s.toList=[]:=λh=>by rw[h]at e0;cases e0
 have p:0<s.size:=O0;have d:=Lr s p;by_cases hl:Ic s.data.toList=true
 ·have u:=U0 hl;have hc:(s[0].toNat=48/\s.toList=[48])\/((s[0].toNat:Int)==48)=false:=by
   by_cases h48:s[0].toNat=48
   ·refine .inl ⟨h48,?_⟩;have h1:s[0]=48:=Wi.1 h48;rw[ByteArray.toList_eq];exact((Uh _).1 hl).2 (by rw[d];exact h1)
   exact .inr Q8
  clear hl d;rcases hc with⟨h48,hz⟩|h48
  all_goals
   go_in
   go_wp2;go_loop[6,21] (λn i=>∃k:Nat,k<=s.size/\i=.int .i64 k/\n=.int .i64 (val (s.data.toList.take k))/\0<=val (s.data.toList.take k)/\val (s.data.toList.take k)<=M/\Hid ((s.data.toList.take k).all B_=true)) (λ_ i=>s.size-(RowKit.intOf i).toNat);exact⟨0,J4 _,rfl,rfl,by simp[val],by simpa[val]using t,rfl⟩;obtain⟨k,hk,rfl,rfl,hv0,o,ha⟩:=hrel;by_cases f:k<s.size
   ·by_cases b:B_ s[k]=true
    ·have g:=(Ye _).1 b;have hw:=xq _ g;have r:=U0 (Fe _ s k f ha.out b);have c:Hid (val (s.data.toList.take (k+1))=val (s.data.toList.take k)*10+((s[k].toNat:Int)-48)):=by
      rw[take_snoc s k f];exact Df _ _
     clear b;by_cases q:M<val (s.data.toList.take k)*10+((s[k].toNat:Int)-48)
     ·have a:=U0 (NZ (k+1) (by rw[c.out];exact q));go_wp2;go_ret2;exact⟨Yb (EF a.out).symm a.out.symm,rfl⟩
     go_wp2
     go_round
     exact⟨k+1,O0,by go_num,by rw[c.out],by rw[c.out];omega,by rw[c.out];omega,r⟩;exact Z9
    have a:Hid (Ci M s.data.toList=false):=jV (Hf _ s k f (by simpa using b));have g:(s[k].toNat:Int)<48\/57<(s[k].toNat:Int):=by
     rcases Oo (s[k].toNat:Int) 48 with h|h
     ·exact .inl h
     rcases Oo 57 (s[k].toNat:Int)with l|l
     ·exact .inr l
     exact absurd ((Ye _).2 ⟨h,l⟩) b
    clear b;rcases g with b|b
    all_goals
     go_wp2
     all_goals go_ret2
     all_goals exact⟨Yb (EF a.out).symm a.out.symm,rfl⟩
   have m:=Ie _ s k O0 ha.out;have j:s.data.toList.take k=s.data.toList:=C_ Q8;have a:=U0 (YT u.out m (by rw[<- j];exact o));have v:=U0 j;clear m j;go_wp2;go_ret2;exact⟨Yb (by rw[ND a.out,v.out]) a.out.symm,rfl⟩
 have a:Hid (Ci M s.data.toList=false):=pM (by simpa using hl);have h48:s[0].toNat=48/\¬s.toList=[48]:=by
  rw[ByteArray.toList_eq]at e1 ⊢;rw[Uh,d]at hl;by_cases h1:s[0]=48
  ·refine⟨by rw[h1];rfl,λhz=>hl ⟨e1,λ_=>hz⟩⟩
  exact absurd ⟨e1,λh=>absurd h h1⟩ hl
 obtain⟨h48,hz⟩:=h48;have hz':(!s.toList==[48])=true:=by simpa using hz
 clear d hl
 go_in
 go_wp2;go_ret2;exact⟨Yb (EF a.out).symm a.out.symm,rfl⟩
theorem nS(f:Nat)(n:Int)(h0:0<=n)(hf:n.toNat<f):(dec n).all B_=true/\val (dec n)=n:=by
 induction f generalizing n with
 | zero=>omega
 | succ f ih=>
  by_cases h:n<10
  ·rw[dec_lt n h];obtain rfl|rfl|rfl|rfl|rfl|rfl|rfl|rfl|rfl|rfl:n=0\/n=1\/n=2\/n=3\/n=4\/n=5\/n=6\/n=7\/n=8\/n=9:=O0
   all_goals decide
  obtain⟨h1,h2⟩:=ih (n / 10) O0 O0;rw[Wj n O0,Df,h2,Np,h1];have hd:0<=n % 10/\n % 10<10:=O0;have a:n=n / 10*10+n % 10:=O0;generalize n % 10=d at*;generalize n / 10=q at*;obtain rfl|rfl|rfl|rfl|rfl|rfl|rfl|rfl|rfl|rfl:d=0\/d=1\/d=2\/d=3\/d=4\/d=5\/d=6\/d=7\/d=8\/d=9:=O0
  all_goals exact⟨Z5,by rw[a];rfl⟩
theorem Zv(n:Int)(h0:0<=n):(dec n).all B_=true/\val (dec n)=n:=nS (n.toNat+1) n h0 O0
theorem UO(n:Int)(h0:0<=n):Ic (dec n)=true:=(yG (n.toNat+1) n h0 O0).1
theorem fA(h0:0<=n)(h1:n<=M):Ci M (dec n)=true/\EI M (dec n)=n:=by
 obtain⟨a,b⟩:=Zv n h0;have:Ci M (dec n)=true:=YT (UO n h0) a (by rw[b];exact h1);exact⟨this,by rw[ND this,b]⟩
theorem xM(h:Ci M l=true):l=dec (EI M l)/\0<=EI M l/\EI M l<=M:=by
 rw[ND h];simp only[Ci,Ia,rf]at h;obtain⟨⟨h1,h2⟩,a⟩:=h;exact⟨(Qy l h2 h1).1.symm,Tm l h2,a⟩
theorem qH(h0:0<=n)(h1:n<=1000):n29 (dec n)=n:=by
 obtain⟨a,b⟩:=Zv n h0;have:=dw n h0 h1;have hne:=Rl.2 (VJ n);rw[gG ⟨O0,O0⟩ a (by rw[b]),b]
theorem a0Z(h:l.all B_=true):(32:UInt8)∉l/\(10:UInt8)∉l:=by
 rw[Yp]at h;constructor
 ·intro hm;have:=h _ hm;revert this;decide
 intro hm;have:=h _ hm;revert this;decide
theorem ZF(h0:0<=n):(32:UInt8)∉dec n/\(10:UInt8)∉dec n:=a0Z (Zv n h0).1
theorem LG(l:List UInt8):J6 l≠[]:=by intro h;have:=Zo l;rw[h]at this;simp at this
theorem xY(h:J3 l≠[]):(32:UInt8)∈l:=by
 by_cases hm:(32:UInt8)∈l
 ·exact hm
 exact absurd (Jj hm).2 h
theorem Jf(h:J3 l≠[]):l=Y2 l++32::J3 l:=(Dn (xY h)).1
theorem f_(l:List UInt8):(I4 l).data.toList=l:=rfl
def uD(l:List UInt8)(c:Int)(t:BY)(ok:Bool):Prop:=(∀c' t',0<=c'->c'<=7->l=Dc c' t'->ok=true/\c=c'/\t=t')/\(ok=true->l=Dc c t)
theorem qm(c:Int)(t:BY):Dc c t=dec c++32::J6 t.data.toList:=by simp[Dc]
theorem JE(c:Int)(t:BY):Dc c t≠[]:=by rw[qm];simp
theorem Bv(t:BY)(h:0<=c):Y2 (Dc c t)=dec c/\J3 (Dc c t)=J6 t.data.toList:=by
 rw[qm];exact E8 (ZF h).1
theorem XM(d:Unq (J3 l) t true)(f:Ci 7 (Y2 l)=true):uD l (EI 7 (Y2 l)) (I4 t) true:=by
 have a:=d.1 rfl;obtain⟨h,d2,d3⟩:=xM f;constructor
 ·intro c' b h0 g e;obtain⟨e1,c⟩:=Bv b h0;rw[<- e]at e1 c;refine⟨rfl,?_,?_⟩
  ·rw[e1];exact(fA h0 g).2
  have:t=b.data.toList:=Um (a.symm.trans c);rw[this];rfl
 intro _;rw[qm,<- h,f_,<- a];exact Jf (by rw[a];exact LG _)
theorem rP{a:Bool}(f:Unq (J3 l) t a)(h:Ci 7 (Y2 l)=false\/a=false)(c:Int)(x:BY):uD l c x false:=by
 refine⟨λc' d h0 g e=>?_,λh=>by cases h⟩;obtain⟨e1,b⟩:=Bv d h0;rw[<- e]at e1 b;rcases h with h|h
 ·rw[e1,(fA h0 g).1]at h;cases h
 subst h;exact absurd b (f.2 rfl _)
def Uc(x:L4):List UInt8:=(lookW x.has).data.toList++32::(x.nm.data.toList++32::Dc x.cd x.tx)
theorem yV(x:L4):Jq x=Uc x++[10]:=by
 unfold Jq Uc Gx lookW;cases x.has<;>simp
theorem lI(b:Bool):(32:UInt8)∉(lookW b).data.toList/\(10:UInt8)∉(lookW b).data.toList:=by cases b<;>decide
theorem OO(h:ji x):(10:UInt8)∉Uc x:=by
 unfold Uc;rw[qm];simp only[Dh,Xe,zo];exact⟨(lI _).2,Z5,(Fa h.1).2,Z5,(ZF (Cj h).1).2,Z5,Vj _⟩
theorem Xn(h:X6 x.nm.data.toList=true):Y2 (Uc x)=(lookW x.has).data.toList/\Y2 (J3 (Uc x))=x.nm.data.toList/\J3 (J3 (Uc x))=Dc x.cd x.tx:=by
 obtain⟨a,b⟩:=E8 (r:=x.nm.data.toList++32::Dc x.cd x.tx) (lI x.has).1;obtain⟨c,d⟩:=E8 (r:=Dc x.cd x.tx) (Fa h).1;unfold Uc;rw[a,b,c,d];exact⟨rfl,rfl,rfl⟩
def Qm(l:List UInt8)(x:L4)(ok:Bool):Prop:=(∀y,ji y->l=Uc y->ok=true/\x=y)/\(ok=true->ji x->l=Uc x)
def Xj(l:List UInt8):Bool:=decide (Y2 l=[104,97,115])
def jC(l:List UInt8):Bool:=Xj l||decide (Y2 l=[97,115,107])
theorem jR(h:jC l=true):Y2 l=(lookW (Xj l)).data.toList:=by
 unfold jC at h;cases hh:Xj l
 ·rw[hh]at h;simp only[Bool.false_or,rf]at h;rw[h];rfl
 unfold Xj at hh;rw[rf]at hh;rw[hh];rfl
theorem xu{b:Bool}(h:Y2 l=(lookW b).data.toList):jC l=true/\Xj l=b:=by
 unfold jC Xj;rw[h];cases b<;>decide
theorem gJ{t:BY}(hw:jC l=true)(hr:uD (J3 (J3 l)) c t true):Qm l ⟨Xj l,I4 (Y2 (J3 l)),c,t⟩ true:=by
 constructor
 ·intro y f e;obtain⟨a,b,d⟩:=Xn f.1;rw[<- e]at a b d;obtain⟨_,h1,h2⟩:=hr.1 _ _ (Cj f).1 (Cj f).2 d;refine⟨rfl,?_⟩;rw[(xu a).2,b,h1,h2];rfl
 intro _ _;have e:=hr.2 rfl;have h2:J3 (J3 l)≠[]:=by rw[e];exact JE _ _
 have h1:J3 l≠[]:=λh=>by rw[h]at h2;exact h2 rfl
 unfold Uc;rw[f_,<- jR hw,<- e,<- Jf h2,<- Jf h1]
theorem PO{t:BY}{ok:Bool}(hr:uD (J3 (J3 l)) c t ok)(h:jC l=false\/ok=false)(x:L4):Qm l x false:=by
 refine⟨λy f e=>?_,λh=>by cases h⟩;obtain⟨a,b,d⟩:=Xn f.1;rw[<- e]at a b d;rcases h with h|h
 ·rw[(xu a).1]at h;cases h
 have:=(hr.1 _ _ (Cj f).1 (Cj f).2 d).1;rw[h]at this;cases this
def jo(ls:List (List UInt8))(xs:List L4)(ok:Bool):Prop:=(∀ys,(∀i,i<ys.length->ji (ys.getD i M_))->ls=ys.map Uc->ok=true/\xs=ys)/\(ok=true->(∀i,i<xs.length->ji (xs.getD i M_))->ls=xs.map Uc)
theorem Us(ys:List L4)(i:Nat)(h:i<ys.length):(ys.map Uc).getD i []=Uc (ys.getD i M_):=by
 simp[List.getD,h]
theorem qI{α:Type}{a b:List α}{d:α}(hl:a.length=b.length)(h:∀i,i<a.length->a.getD i d=b.getD i d):a=b:=by
 refine dB hl λi h1 h2=>?_;have:=h i h1;simpa[List.getD,h1,h2]using this
theorem VG{xs:List L4}(hl:xs.length=ls.length)(h:∀i,i<ls.length->Qm (ls.getD i []) (xs.getD i M_) true):jo ls xs true:=by
 constructor
 ·intro ys b e;subst e;rw[Cf]at hl h;refine⟨rfl,qI (d:=M_) hl λi a=>?_⟩;exact((h i O0).1 _ (b i O0) (Us ys i O0)).2
 intro _ hx;refine qI (d:=[]) (by rw[Cf,hl]) λi a=>?_;rw[Us xs i O0];exact(h i a).2 rfl (hx i O0)
theorem PI{k:Nat}(a:k<ls.length)(h:Qm (ls.getD k []) x false)(xs:List L4):jo ls xs false:=by
 refine⟨λys b e=>?_,λh=>by cases h⟩;subst e;rw[Cf]at a;have:=(h.1 _ (b k a) (Us ys k a)).1;cases this
theorem Wx(h:b∉l)(P:List (List UInt8))(q:List UInt8):l.foldl (cst b) (P,q)=(P,q++l):=by
 induction l generalizing q with
 | nil=>simp
 | cons c l ih=>
  have hc:c≠b:=λe=>h (by simp[e]);rw[pq];have:cst b (P,q) c=(P,q++[c]):=by unfold cst;rw[if_neg hc]
  rw[this,ih (λhm=>h (Og _ hm)),Zr];rfl
theorem OD(b:UInt8)(l:List UInt8)(P Q:List (List UInt8))(q:List UInt8):l.foldl (cst b) (P++Q,q)=(P++(l.foldl (cst b) (Q,q)).1,(l.foldl (cst b) (Q,q)).2):=by
 induction l generalizing Q q with
 | nil=>rfl
 | cons c l ih=>
  rw[pq,pq];by_cases hc:c=b
  ·have e1:cst b (P++Q,q) c=(P++(Q++[q]),[]):=by unfold cst;rw[if_pos hc,List.append_assoc]
   have a:cst b (Q,q) c=(Q++[q],[]):=by unfold cst;rw[if_pos hc]
   rw[e1,a,ih]
  have e1:cst b (P++Q,q) c=(P++Q,q++[c]):=by unfold cst;rw[if_neg hc]
  have a:cst b (Q,q) c=(Q,q++[c]):=by unfold cst;rw[if_neg hc]
  rw[e1,a,ih]
theorem NU(h:b∉l):x9 b l=[l]:=by
 unfold x9 V8;rw[Wx h];rfl
theorem DL{a r:List UInt8}(h:b∉a):x9 b (a++b::r)=a::x9 b r:=by
 unfold x9 V8;rw[jG,Wx h,pq];have e:cst b ([],[]++a) b=([a]++[],[]):=by unfold cst;rw[if_pos rfl];simp
 rw[e,OD];simp
theorem a1N(b:UInt8)(l:List UInt8):(Lib.index l [b]=-1/\b∉l)\/(∃i:Nat,Lib.index l [b]=i/\i<l.length/\l=l.take i++b::l.drop (i+1)/\b∉l.take i):=by
 rw[Lib.index_one];have hge:=Lib.indexByte_ge l b;by_cases h:Lib.indexByte l b=-1
 ·refine .inl ⟨h,λhm=>?_⟩;obtain⟨k,a,e⟩:=Ze hm;exact Lib.indexByte_none h k (by rw[L9 a,e])
 obtain⟨o,ho⟩:∃o:Nat,Lib.indexByte l b=o:=⟨(Lib.indexByte l b).toNat,O0⟩;obtain⟨h1,h2⟩:=Lib.indexByte_some ho;have hl:o<l.length:=by
  rcases D8 o l.length with h|h
  ·exact h
  rw[Zb h]at h1;cases h1
 refine .inr ⟨o,ho,hl,?_,λhm=>?_⟩
 ·have hx:l[o]=b:=by rw[L9 hl]at h1;exact I_ h1
  conv=>lhs;rw[<- um o l,YA hl,hx]
 obtain⟨k,a,e⟩:=Ze hm;rw[U_]at a;rw[lF]at e;exact h2 k O0 (by rw[L9 O0,e])
theorem DV(b:UInt8)(f:Nat):∀l:List UInt8,l.length<f->Lib.splitK [b] 0 (Lib.countFrom [b] f l) l=x9 b l/\(x9 b l).length=Lib.countFrom [b] f l+1:=by
 induction f with
 | zero=>intro l h;omega
 | succ f ih=>
  intro l h;rcases a1N b l with⟨a,c⟩|⟨i,a,hl,he,c⟩
  ·have hc:Lib.countFrom [b] (f+1) l=0:=by rw[Lib.countFrom,a];rfl
   rw[hc,NU c];exact⟨rfl,rfl⟩
  have d:¬((i:Int)==-1)=true:=λe=>by have:=Gp.1 e;omega
  obtain⟨h1,h2⟩:=ih (l.drop (i+1)) (by rw[jk];omega);have hc:Lib.countFrom [b] (f+1) l=Lib.countFrom [b] f (l.drop (i+1))+1:=by
   rw[Lib.countFrom,a,Y7 d,Nat.add_comm];rfl
  have hcut:x9 b l=l.take i::x9 b (l.drop (i+1)):=by
   conv=>lhs;rw[he]
   exact DL c
  rw[hc,hcut];refine⟨?_,by rw[u_,h2]⟩;rw[Lib.splitK,a,Y7 d,<- h1];rfl
theorem c226(b:UInt8)(s:BY)(w:World)(hs:s.size<=1048700)(hm:Jc w):
 Calls prog 226 #[.string s,.string ⟨#[b]⟩] w λe w'=>(e=.returned (.slice (some ⟨w.heap.size,0,none⟩) (x9 b s.data.toList).length (x9 b s.data.toList).length)/\Oc w' w.heap.size (x9 b s.data.toList))/\Bw w w':=by
 obtain⟨_,m,hm⟩:=hm;obtain⟨h1,h2⟩:=DV b (s.data.toList.length+1) s.data.toList O0;have hd:=QK ((Lib.splitB_data ⟨#[b]⟩ 0 (Lib.countB s ⟨#[b]⟩) s).trans h1);have hc:Lib.countB s ⟨#[b]⟩+1=(x9 b s.data.toList).length:=h2.symm;refine(Tryz.strings_Split s ⟨#[b]⟩ m w O0 hm (J8 1)).mono ?_;rintro e w'⟨rfl,rfl⟩;rw[hd,hc];refine⟨⟨rfl,E5,λi a=>?_⟩,Y6⟩;simp[a]
def Ui(l:List UInt8):Bool:=decide (l.getLastD 0=10)
theorem Az(h:Ui l=true):l=l.dropLast++[10]:=by
 unfold Ui at h;rw[rf]at h;rcases vC l with e|⟨r,c,e⟩
 ·subst e;cases h
 rw[WC]at e;subst e;rw[MJ]at h;rw[List.dropLast_concat,h]
theorem IY(l:List UInt8):Ui (l++[10])=true:=by unfold Ui;rw[List.getLastD_concat];rfl
theorem last_one(s:BY)(h:1<=s.size):s.extract (s.size-1) s.size=I4 [s.data.toList.getLastD 0]:=by
 refine Tc ?_;rw[ext_list,C_ E5];obtain⟨r,c,e⟩:∃r c,s.data.toList=r++[c]:=by
  rcases vC s.data.toList with e|⟨r,c,e⟩
  ·have:s.data.toList.length=s.size:=E5;rw[e]at this;simp at this;omega
  exact⟨r,c,by rw[e,WC]⟩
 have hl:s.data.toList.length=s.size:=E5;rw[e]at hl ⊢;rw[P9,Oj]at hl;rw[MJ,show s.size-1=r.length by omega,List.drop_left]
theorem yR(s:BY):s.extract 0 (s.size-1)=I4 s.data.toList.dropLast:=by
 refine Tc ?_;rw[ext_list,OE,List.dropLast_eq_take];simp
theorem a3U(s:BY)(w:World)(hs:s.size<=1048700):
 Calls prog 298 #[.string s,.string ⟨#[10]⟩] w λe w'=>e=.returned (.bool (Ui s.data.toList))/\w'=w:=by
 by_cases h:1<=s.size
 ·have HX:=last_one s h;have a:((I4 [s.data.toList.getLastD 0]).toList==[10])=Ui s.data.toList:=by
   rw[ByteArray.toList_eq,f_];unfold Ui;by_cases hc:s.data.toList.getLastD 0=10
   ·rw[hc];rfl
   rw[o_ hc];exact V_.2 λe=>hc (Ko e).1
  generalize Ui s.data.toList=b at*;generalize s.data.toList.getLastD 0=c at*
  go_in
  go_wp2;go_ret;exact⟨rfl,rfl⟩
 have a:Ui s.data.toList=false:=by
  have hl:s.data.toList.length=s.size:=E5;have:s.data.toList=[]:=Qb.1 O0;rw[this];rfl
 generalize Ui s.data.toList=b at*;subst a
 go_in
 go_wp2;go_ret;exact⟨rfl,rfl⟩
def Wy(l:List UInt8):List UInt8:=if Ui l=true then l.dropLast else l
theorem a4F(s:BY)(w:World)(a:s.size<=1048700):
 Calls prog 263 #[.string s,.string ⟨#[10]⟩] w λe w'=>e=.returned (.tuple #[.string (I4 (Wy s.data.toList)),.bool (Ui s.data.toList)])/\w'=w:=by
 have hX:=yR s;have hP:(Ui s.data.toList=true->I4 (Wy s.data.toList)=I4 s.data.toList.dropLast/\1<=s.size)/\(Ui s.data.toList=false->I4 (Wy s.data.toList)=s):=by
  unfold Wy;constructor
  ·intro h;rw[L8 h];refine⟨rfl,?_⟩;have e:=Az h;have hl:s.data.toList.length=s.size:=E5;rw[e]at hl;rw[P9,Oj]at hl;omega
  intro h;rw[Y7 (by rw[h];decide)];rfl
 have hc:=a3U s;generalize I4 (Wy s.data.toList)=p at*;generalize I4 s.data.toList.dropLast=q at*;generalize Ui s.data.toList=b at*
 go_in
 go_wp2_with fail
 refine(hc _ a).mono ?_;rintro e w1⟨rfl,rfl⟩;cases b
 ·have e:=hP.2 rfl;subst e;go_wp2;go_ret2;exact⟨rfl,rfl⟩
 obtain⟨e,h1⟩:=hP.1 rfl;subst e;go_wp2;go_ret2;exact⟨rfl,rfl⟩
theorem a3i(s:BY)(w:World)(a:s.size<=1048700):
 Calls prog 225 #[.string s,.string ⟨#[10]⟩] w λe w'=>e=.returned (.tuple #[.string (I4 (Wy s.data.toList)),.bool (Ui s.data.toList)])/\w'=w:=by
 have hc:=a4F s;generalize I4 (Wy s.data.toList)=p at*;generalize Ui s.data.toList=b at*
 go_in
 go_wp2_with fail
 refine(hc _ a).mono ?_;rintro e w1⟨rfl,rfl⟩;go_wp2;go_ret2;exact⟨rfl,rfl⟩
def a5a(w w':World)(l:List UInt8)(e:Ending):Prop:=(Ui l=false/\e=.returned (.tuple #[.slice none 0 0,.bool false]))\/(Ui l=true/\∃g,e=.returned (.tuple #[.slice (some ⟨g,0,none⟩) (x9 10 l.dropLast).length (x9 10 l.dropLast).length,.bool true])/\w.heap.size<=g/\Oc w' g (x9 10 l.dropLast))
theorem a5c(s:BY)(w:World)(d:s.size<=1048700)(f:Jc w):
 Calls prog 186 #[.string s] w λe w'=>a5a w w' s.data.toList e/\Bw w w':=by
 have hc:=a3i s;have c:(I4 (Wy s.data.toList)).size<=1048700:=by
  rw[P5];unfold Wy;split
  ·rw[List.length_dropLast];simp;omega
  simp;omega
 have b:Ui s.data.toList=true->Wy s.data.toList=s.data.toList.dropLast:=λh=>by unfold Wy;rw[if_pos h]
 generalize s.data.toList=l at*
 go_in
 go_wp2_with fail
 refine(hc _ d).mono ?_;rintro e w1⟨rfl,rfl⟩;cases hb:Ui l
 ·go_wp2;go_ret2;exact⟨.inl ⟨hb,rfl⟩,G5 _ _⟩
 rw[b hb]at c ⊢;clear hc b
 go_wp2_with fail
 refine(c226 10 (I4 l.dropLast) _ c f).mono ?_;rintro e w2⟨⟨rfl,a⟩,i⟩;rw[f_]at a ⊢;have g:=a;clear a;go_wp2;go_ret2;exact⟨.inr ⟨hb,_,rfl,J8 _,g⟩,i⟩
end Go.Proofs.YtkccjgajimjjdaaGreatDoor
namespace Go.Proofs.YtkccjgajimjjdaaGreatDoor.T
open Proofs.Tryz Go.RowKit
variable{w wr:World}{e:TypeId}{t v:Value}{g k n:Nat}{xs:List Value}{fs gs:List F2}{nm:BY}
theorem Fz{b:Nat}{w':World}{base:Nat}{size:Nat}(h:w.ownsRow base e size v n xs)(f:But b w w')(c:v.ownBlock≠some b):w'.ownsRow base e size v n xs:=by
 refine⟨h.1,?_⟩;rcases h.2 with h2|⟨g,cap,cur,hv,d,a,r⟩
 ·exact .inl h2
 refine .inr ⟨g,cap,cur,hv,d,?_,r⟩;rw[f.block g (mg a) (λe=>c (by rw[hv,e];rfl))];exact a
theorem WM{B:Nat}(h:w.ownsRow B e 2 v n xs):∃ao c,v=.slice ao n c:=by
 rcases h.2 with⟨hv,h0⟩|⟨g,cap,cur,hv,_⟩
 ·exact⟨none,0,by rw[hv,h0]⟩
 exact⟨_,_,hv⟩
theorem a1R(w:World)(x y:Value)(t:TypeId):∀j u,[x,y][j]?=some u->(w.alloc (.cells #[x,y] t)).cell? ((⟨w.heap.size,0,none⟩:Addr).add j)=some u:=by
 intro j u h
 match j,h with
 | 0,h=>simp at h;subst h;simp[Addr.add]
 | 1,h=>simp at h;subst h;simp[Addr.add]
theorem a3e(w:World)(x y:Value)(t:TypeId):∀j u,[x,y][j]?=some u->(w.alloc (.cells #[x,y] t)).drew.cell? ((⟨w.heap.size,0,none⟩:Addr).add j)=some u:=λj u h=>a1R w x y t j u h
theorem Pj(h:k<fs.length):fs.take (k+1)=fs.take k++[fs.getD k G9]:=by
 rw[Gz h];simp[List.getD,L9 h]
def without(fs:List F2)(nm:BY):List F2:=fs.filter λx=>!(x.nm.toList==nm.toList)
theorem eG(h:k<fs.length)(hx:((fs.getD k G9).nm.toList==nm.toList)=true):without (fs.take (k+1)) nm=without (fs.take k) nm:=by
 unfold without;rw[Pj h,Zu];generalize fs.getD k G9=x at*;simp[hx]
theorem lG(h:k<fs.length)(hx:((fs.getD k G9).nm.toList==nm.toList)=false):without (fs.take (k+1)) nm=without (fs.take k) nm++[fs.getD k G9]:=by
 unfold without;rw[Pj h,Zu];generalize fs.getD k G9=x at*;simp[hx]
theorem Vx(fs:List F2)(nm:BY):(without fs nm).length<=fs.length:=WJ _ _
structure Fv(w wr:World)(t:Value)(v:Value)(gs:List F2):Prop where
 bel:Bw w wr
 ht:wr.heap[w.heap.size]?=some (.cells #[t] 40 (0,0))
 hr:wr.heap[w.heap.size+1]?=some (.cells #[.slice none 0 0] 40 (0,0))
 ho:wr.heap[w.heap.size+1+1]?=some (.cells #[v] 40 (0,0))
 own:Ql wr (w.heap.size+3) v gs
theorem Xc(a:g=w.heap.size)(o:Obj):(w.alloc o).heap[g]?=some o:=by
 subst a;exact Array.getElem?_push_size
def strOf:Value->Nat | .string s=>s.size|_=>0
theorem alloc_old(a:g<w.heap.size)(o:Obj):(w.alloc o).heap[g]?=w.heap[g]?:=Ht w o g a
theorem Fv.start(w:World)(t:Value):Fv w (((w.alloc (.cells #[t] 40)).alloc (.cells #[.slice none 0 0] 40)).alloc (.cells #[.slice none 0 0] 40)) t (.slice none 0 0) []:=by
 refine⟨((Y6.alloc E5 _).alloc Q8 _),?_,?_,?_,⟨rfl,.inl ⟨rfl,rfl⟩⟩⟩
 ·rw[alloc_old Q8,alloc_old E5];exact Xc rfl _
 ·rw[alloc_old E5];exact Xc E5 _
 exact Xc E5 _
theorem Fv.sz(h:Fv w wr t v gs):w.heap.size+3<=wr.heap.size:=mg h.ho
theorem Fv.cells(h:Fv w wr t v gs):wr.cell? ⟨w.heap.size,0,none⟩=some t/\wr.cell? ⟨w.heap.size+1,0,none⟩=some (.slice none 0 0)/\wr.cell? ⟨w.heap.size+1+1,0,none⟩=some v/\wr.frozen? ⟨w.heap.size+1,0,none⟩=false/\wr.frozen? ⟨w.heap.size+1+1,0,none⟩=false:=
 ⟨by rw[Lib.cell_of_heap h.ht];rfl,by rw[Lib.cell_of_heap h.hr];rfl,by rw[Lib.cell_of_heap h.ho];rfl,Lib.frozen_of_heap h.hr 0,Lib.frozen_of_heap h.ho 0⟩
theorem Fv.app{a:World}{v':Value}{x:F2}{o:Obj}(h:Fv w wr t v gs)(ho:a.ownsRow (w.heap.size+3) 67 2 v' (gs.length+1) (U3 gs++[.string x.nm,.string x.tx]))(f:(wr.alloc o).drew.grownBy a v.ownBlock):
 Fv w (a.setCell ⟨w.heap.size+1+1,0,none⟩ v') t v' (gs++[x])/\a.cell? ⟨w.heap.size+1+1,0,none⟩=some v/\a.frozen? ⟨w.heap.size+1+1,0,none⟩=false:=by
 have hz:=h.sz;have hd:(wr.alloc o).drew.heap.size=wr.heap.size+1:=by show(wr.alloc o).heap.size=_;simp
 have key:∀k,k<w.heap.size+3->a.heap[k]?=wr.heap[k]?:=λk d=>by
  rw[f.block k (by rw[hd];omega) (λe=>by have:=(h.own.lt k e.symm).1;omega)];show(wr.alloc o).heap[k]?=_;exact alloc_old O0 _
 have g:=((h.bel.alloc O0 _).drew).grown f (by rw[hd];omega) (λk d=>by have:=(h.own.lt k d).1;omega);have c:=(key _ O0).trans h.ho;have hz2:w.heap.size+3<=a.heap.size:=mg c;refine⟨⟨g.setCell Q8 _,?_,?_,?_,?_⟩,by rw[Lib.cell_of_heap c];rfl,Lib.frozen_of_heap c 0⟩
 ·rw[Ox _ _ _ _ Q8];exact(key _ O0).trans h.ht
 ·rw[Ox _ _ _ _ E5];exact(key _ O0).trans h.hr
 ·exact heap_setCell_same a (w.heap.size+1+1) 0 _ 40 v' c
 have hl:(gs++[x]).length=gs.length+1:=E5;show(a.setCell ⟨w.heap.size+1+1,0,none⟩ v').ownsRow (w.heap.size+3) 67 2 v' (gs++[x]).length (U3 (gs++[x]));rw[hl,Ae];refine Fz (b:=w.heap.size+1+1) ho ((But.refl _ _).setCell _ _) (λe=>by have:=(ho.lt _ e).1;omega)
theorem c175(a:OA)(cap:Nat)(fs:List F2)(nm:BY)(w:World)(hl:fs.length<=40)(t:G6 w a fs):
 Calls prog 175 #[.agg #[.slice a fs.length cap],.string nm] w λe w'=>(∃v,e=.returned (.agg #[v])/\Ql w' (w.heap.size+3) v (without fs nm))/\Bw w w':=by
 obtain⟨b,off,hc⟩:=v_ t;have R:=U0 hc;have O:=Fv.start w (vL a fs.length cap);obtain⟨C,K,F,E,D⟩:=info_parts Ov;clear hc t
 go_in
 go_wp2;go_loopw[6] (λi wr=>∃(k:Nat)(v:Value),k<=fs.length/\i=.int .i64 k/\Hid (Fv w wr (.slice a fs.length cap) v (without (fs.take k) nm))) (λi _=>fs.length-(RowKit.intOf i).toNat);exact⟨0,_,J4 _,rfl,O⟩;obtain⟨k,v,hk,rfl,c⟩:=hrel;obtain⟨N,cr,co,fr,L⟩:=c.out.cells;have hzr:=c.out.sz;by_cases f:k<fs.length
 ·obtain⟨ha,s,j⟩:=Jd R.out f;subst ha;have g0:=(c.out.bel.cell (by exact s)).trans (j k f).1;have g1:=(c.out.bel.cell (by exact s)).trans (j k f).2;have o:Hid (((fs.getD k G9).nm.toList==nm.toList)=true->without (fs.take (k+1)) nm=without (fs.take k) nm):=eG f;have n:Hid (((fs.getD k G9).nm.toList==nm.toList)=false->without (fs.take (k+1)) nm=without (fs.take k) nm++[fs.getD k G9]):=lG f;have hgl:(without (fs.take k) nm).length<=k:=I8 (Vx _ _) (List.length_take_le _ _);generalize fs.getD k G9=x at*;generalize without (fs.take k) nm=gs at*;clear j;cases hq:(x.nm.toList==nm.toList)
  ·have z:=n.out hq;have P:=U0 z;have J:=c.out.own;obtain⟨m,l,hv,_⟩:=J.form;subst hv;clear o n z;have co':=past (p:=⟨w.heap.size+1+1,0,none⟩) (by show w.heap.size+1+1<wr.heap.size;omega) co;have I:wr.ownsRow (w.heap.size+3) 67 2 (vL m gs.length l) gs.length (U3 gs):=c.out.own
   go_wp2_with fail
   go_region_law (refine Gu rfl (.tmp 24) (.tmp 30) 38 rfl (w.heap.size+3) 67 C (.agg #[vE,vE]) 2 32 underlying38 K F E D rfl Z5 _ _ _ rfl ((I.alloc _).drew) ⟨wr.heap.size,0,none⟩ 1 1 [_,_] rfl rfl (a3e _ _ _ _) (by intro u q;simp at q;rcases q with rfl|rfl<;>rfl) (by unfold maxLen;omega) O0 Q8 ?_;intro v' B h r;have g:=c.out.app (x:=x) h r;have S:Hid (Fv w (B.setCell ⟨w.heap.size+1+1,0,none⟩ v') (vL (some ⟨b,off,none⟩) fs.length cap) v' (gs++[x])):=g.1;have d1:=g.2.1;have d2:=g.2.2;obtain⟨ao,cpo,H⟩:=WM h;subst H;clear g h r)
   all_goals
    go_wp2;go_roundw;exact⟨k+1,_,O0,by go_num,by rw[P.out];exact S.out⟩;exact Z9
  have Q:=U0 (o.out hq);clear o n;go_wp2;go_roundw;exact⟨k+1,v,O0,by go_num,by rw[Q.out];exact c.out⟩;exact Z9
 have A:Hid (without (fs.take k) nm=without fs nm):=by rw[C_ O0];rfl
 have d:Hid (Fv w wr (vL a fs.length cap) v (without fs nm)):=by rw[<- A.out];exact c.out
 obtain⟨m,l,hv,_⟩:=d.out.own.form;subst hv;obtain⟨N,cr,co,fr,L⟩:=d.out.cells;have hB:=d.out.bel;have y:=U0 d.out.own;clear c d A;go_wp2;refine Q7 (v:=.agg #[vL m (without fs nm).length l]) (by simp[results,results175,go_sem,cr]) rfl ⟨⟨_,rfl,?_⟩,?_⟩
 ·exact Fz (b:=w.heap.size+1) y.out ((But.refl _ _).setCell _ _) (λe=>by have:=(y.out.lt _ e).1;omega)
 exact hB.setCell E5 _

import Derived.Test.YtdgneicbmalnpaaGreatDoortW3
import Derived.Test.YtdgneicbmalnpaaGreatDooreZB
set_option maxRecDepth 99999
set_option linter.all false
set_option maxHeartbeats 0
open Go.Value renaming slice->Sa,string->Sb,int->Sc,pointer->Sd
open Go.IntKind renaming i64->Se
open Go.Ending renaming returned->Sf
open Go.Obj renaming cells->Sg
namespace Go.Proofs.YtdgneicbmalnpaaGreatDoor
open Proofs.Tryz Go.RowKit
variable{M c n:Int}{l t:List UInt8}{x:L4}{ls:List (List UInt8)}{k p:Nat}{b:UInt8}{rs:List R3}{key:BY}
def Oi(M:Int)(l:List UInt8):Bool:=Nc l&&l.all B_&&decide (val l<=M)
def ZI(M:Int)(l:List UInt8):Int:=if Oi M l=true then val l else 0
theorem zN(h:Nc l=false):Oi M l=false:=by simp[Oi,h]
theorem ZU(h:l.all B_=false):Oi M l=false:=by simp only[Oi,h,ay,MJ]
theorem a1z(k:Nat)(h:M<val (l.take k)):Oi M l=false:=by
 by_cases ha:l.all B_=true
 ·have:=Qp l ha k;have hd:decide (val l<=M)=false:=by simp only[Xu];omega
  simp only[Oi,hd,ay]
 exact ZU (by simpa using ha)
theorem gU(h1:Nc l=true)(h2:l.all B_=true)(a:val l<=M):Oi M l=true:=by
 have hd:decide (val l<=M)=true:=by simpa using a
 simp only[Oi,h1,h2,hd,zK]
theorem nG(h:Oi M l=false):ZI M l=0:=by simp[ZI,h]
theorem eG(h:Oi M l=true):ZI M l=val l:=by simp[ZI,h]
theorem PZ(M:Int)(s:BY)(w:World)(hs:s.size<=1048700)(t:0<=M)(hM1:M<=100000):
 Calls prog 257 #[Sb s,Sc Se M] w λe w'=>e=Sf (.tuple #[Sc Se (ZI M s.data.toList),.bool (Oi M s.data.toList)])/\w'=w:=by
 by_cases h0:s.size=0
 ·have e0:s.toList=[]:=by
   rw[ByteArray.toList_eq];exact Xb.1 (by simpa using h0)
  have a:Hid (Oi M s.data.toList=false):=zN (by rw[<- ByteArray.toList_eq,e0];rfl)
  go_in
  go_wp2;go_ret2;exact⟨Vb (nG a.o).symm a.o.symm,rfl⟩
 have e0:s.toList.isEmpty=false:=by rw[ByteArray.toList_eq];exact Jp s O0
 have e1:¬s.toList=[]:=λh=>by rw[h]at e0;cases e0
 have p:0<s.size:=O0;have d:=Ns s p;by_cases hl:Nc s.data.toList=true
 ·have u:=U0 hl;have hc:(s[0].toNat=48/\s.toList=[48])\/((s[0].toNat:Int)==48)=false:=by
   by_cases h48:s[0].toNat=48
   ·refine .inl ⟨h48,?_⟩;have h1:s[0]=48:=uj.1 h48;rw[ByteArray.toList_eq];exact((ji _).1 hl).2 (by rw[d];exact h1)
   exact .inr L8
  clear hl d;rcases hc with⟨h48,hz⟩|h48
  all_goals
   go_in
   go_wp2;go_loop[6,21] (λn i=>∃k:Nat,k<=s.size/\i=Sc Se k/\n=Sc Se (val (s.data.toList.take k))/\0<=val (s.data.toList.take k)/\val (s.data.toList.take k)<=M/\Hid ((s.data.toList.take k).all B_=true)) (λ_ i=>s.size-(RowKit.intOf i).toNat);exact⟨0,Y4 _,rfl,rfl,by simp[val],by simpa[val]using t,rfl⟩;obtain⟨k,hk,rfl,rfl,hv0,o,ha⟩:=hrel;by_cases f:k<s.size
   ·by_cases b:B_ s[k]=true
    ·have g:=(Ue _).1 b;have hw:=Zq _ g;have r:=U0 (Ee _ s k f ha.o b);have c:Hid (val (s.data.toList.take (k+1))=val (s.data.toList.take k)*10+((s[k].toNat:Int)-48)):=by
      rw[take_snoc s k f];exact Bf _ _
     clear b;by_cases q:M<val (s.data.toList.take k)*10+((s[k].toNat:Int)-48)
     ·have a:=U0 (a1z (k+1) (by rw[c.o];exact q));go_wp2;go_ret2;exact⟨Vb (nG a.o).symm a.o.symm,rfl⟩
     go_wp2
     go_round
     exact⟨k+1,O0,by go_num,by rw[c.o],by rw[c.o];omega,by rw[c.o];omega,r⟩;exact V9
    have a:Hid (Oi M s.data.toList=false):=ZU (Ef _ s k f (by simpa using b));have g:(s[k].toNat:Int)<48\/57<(s[k].toNat:Int):=by
     rcases Xo (s[k].toNat:Int) 48 with h|h
     ·exact .inl h
     rcases Xo 57 (s[k].toNat:Int)with l|l
     ·exact .inr l
     exact absurd ((Ue _).2 ⟨h,l⟩) b
    clear b;rcases g with b|b
    all_goals
     go_wp2
     all_goals go_ret2
     all_goals exact⟨Vb (nG a.o).symm a.o.symm,rfl⟩
   have m:=He _ s k O0 ha.o;have j:s.data.toList.take k=s.data.toList:=p_ L8;have a:=U0 (gU u.o m (by rw[<- j];exact o));have v:=U0 j;clear m j;go_wp2;go_ret2;exact⟨Vb (by rw[eG a.o,v.o]) a.o.symm,rfl⟩
 have a:Hid (Oi M s.data.toList=false):=zN (by simpa using hl);have h48:s[0].toNat=48/\¬s.toList=[48]:=by
  rw[ByteArray.toList_eq]at e1 ⊢;rw[ji,d]at hl;by_cases h1:s[0]=48
  ·refine⟨by rw[h1];rfl,λhz=>hl ⟨e1,λ_=>hz⟩⟩
  exact absurd ⟨e1,λh=>absurd h h1⟩ hl
 obtain⟨h48,hz⟩:=h48;have hz':(!s.toList==[48])=true:=by simpa using hz
 clear d hl
 go_in
 go_wp2;go_ret2;exact⟨Vb (nG a.o).symm a.o.symm,rfl⟩
theorem aS(f:Nat)(n:Int)(h0:0<=n)(hf:n.toNat<f):(dec n).all B_=true/\val (dec n)=n:=by
 induction f generalizing n with
 | zero=>omega
 | succ f ih=>
  by_cases h:n<10
  ·rw[dec_lt n h];obtain rfl|rfl|rfl|rfl|rfl|rfl|rfl|rfl|rfl|rfl:n=0\/n=1\/n=2\/n=3\/n=4\/n=5\/n=6\/n=7\/n=8\/n=9:=O0
   all_goals decide
  obtain⟨h1,h2⟩:=ih (n / 10) O0 O0;rw[Sl n O0,Bf,h2,jr,h1];have hd:0<=n % 10/\n % 10<10:=O0;have a:n=n / 10*10+n % 10:=O0;generalize n % 10=d at*;generalize n / 10=q at*;obtain rfl|rfl|rfl|rfl|rfl|rfl|rfl|rfl|rfl|rfl:d=0\/d=1\/d=2\/d=3\/d=4\/d=5\/d=6\/d=7\/d=8\/d=9:=O0
  all_goals exact⟨U5,by rw[a];rfl⟩
theorem Aw(n:Int)(h0:0<=n):(dec n).all B_=true/\val (dec n)=n:=aS (n.toNat+1) n h0 O0
theorem xO(n:Int)(h0:0<=n):Nc (dec n)=true:=(aH (n.toNat+1) n h0 O0).1
theorem dA(h0:0<=n)(h1:n<=M):Oi M (dec n)=true/\ZI M (dec n)=n:=by
 obtain⟨a,b⟩:=Aw n h0;have:Oi M (dec n)=true:=gU (xO n h0) a (by rw[b];exact h1);exact⟨this,by rw[eG this,b]⟩
theorem YL(h:Oi M l=true):l=dec (ZI M l)/\0<=ZI M l/\ZI M l<=M:=by
 rw[eG h];simp only[Oi,Fa,Pe]at h;obtain⟨⟨h1,h2⟩,a⟩:=h;exact⟨(Kz l h2 h1).1.symm,jo l h2,a⟩
theorem kH(h0:0<=n)(h1:n<=1000):n29 (dec n)=n:=by
 obtain⟨a,b⟩:=Aw n h0;have:=Ux n h0 h1;have hne:=dm.2 (LJ n);rw[YF ⟨O0,O0⟩ a (by rw[b]),b]
theorem a1s(h:l.all B_=true):(32:UInt8)∉l/\(10:UInt8)∉l:=by
 rw[Uo]at h;constructor
 ·intro hm;have:=h _ hm;revert this;decide
 intro hm;have:=h _ hm;revert this;decide
theorem IG(h0:0<=n):(32:UInt8)∉dec n/\(10:UInt8)∉dec n:=a1s (Aw n h0).1
theorem bH(l:List UInt8):Z5 l≠[]:=by intro h;have:=Fp l;rw[h]at this;simp at this
theorem TW(h:Y2 l≠[]):(32:UInt8)∈l:=by
 by_cases hm:(32:UInt8)∈l
 ·exact hm
 exact absurd (Jj hm).2 h
theorem Ff(h:Y2 l≠[]):l=Y1 l++32::Y2 l:=(Pn (TW h)).1
theorem a_(l:List UInt8):(U3 l).data.toList=l:=rfl
def PE(l:List UInt8)(c:Int)(t:BY)(ok:Bool):Prop:=(∀c' t',0<=c'->c'<=7->l=Ec c' t'->ok=true/\c=c'/\t=t')/\(ok=true->l=Ec c t)
theorem jm(c:Int)(t:BY):Ec c t=dec c++32::Z5 t.data.toList:=by simp[Ec]
theorem lF(c:Int)(t:BY):Ec c t≠[]:=by rw[jm];simp
theorem zy(t:BY)(h:0<=c):Y1 (Ec c t)=dec c/\Y2 (Ec c t)=Z5 t.data.toList:=by
 rw[jm];exact G8 (IG h).1
theorem pO(d:Unq (Y2 l) t true)(f:Oi 7 (Y1 l)=true):PE l (ZI 7 (Y1 l)) (U3 t) true:=by
 have a:=d.1 rfl;obtain⟨h,d2,d3⟩:=YL f;constructor
 ·intro c' b h0 g e;obtain⟨e1,c⟩:=zy b h0;rw[<- e]at e1 c;refine⟨rfl,?_,?_⟩
  ·rw[e1];exact(dA h0 g).2
  have:t=b.data.toList:=zn (a.symm.trans c);rw[this];rfl
 intro _;rw[jm,<- h,a_,<- a];exact Ff (by rw[a];exact bH _)
theorem JQ{a:Bool}(f:Unq (Y2 l) t a)(h:Oi 7 (Y1 l)=false\/a=false)(c:Int)(x:BY):PE l c x false:=by
 refine⟨λc' d h0 g e=>?_,λh=>by cases h⟩;obtain⟨e1,b⟩:=zy d h0;rw[<- e]at e1 b;rcases h with h|h
 ·rw[e1,(dA h0 g).1]at h;cases h
 subst h;exact absurd b (f.2 rfl _)
def Bd(x:L4):List UInt8:=(lookW x.has).data.toList++32::(x.nm.data.toList++32::Ec x.cd x.tx)
theorem DX(x:L4):iq x=Bd x++[10]:=by
 unfold iq Bd Wy lookW;cases x.has<;>simp
theorem iH(b:Bool):(32:UInt8)∉(lookW b).data.toList/\(10:UInt8)∉(lookW b).data.toList:=by cases b<;>decide
theorem SN(h:Ri x):(10:UInt8)∉Bd x:=by
 unfold Bd;rw[jm];simp only[Ph,qf,Zm];exact⟨(iH _).2,U5,(Ja h.1).2,U5,(IG (Aj h).1).2,U5,Rj _⟩
theorem Io(h:Y5 x.nm.data.toList=true):Y1 (Bd x)=(lookW x.has).data.toList/\Y1 (Y2 (Bd x))=x.nm.data.toList/\Y2 (Y2 (Bd x))=Ec x.cd x.tx:=by
 obtain⟨a,b⟩:=G8 (r:=x.nm.data.toList++32::Ec x.cd x.tx) (iH x.has).1;obtain⟨c,d⟩:=G8 (r:=Ec x.cd x.tx) (Ja h).1;unfold Bd;rw[a,b,c,d];exact⟨rfl,rfl,rfl⟩
def Bo(l:List UInt8)(x:L4)(ok:Bool):Prop:=(∀y,Ri y->l=Bd y->ok=true/\x=y)/\(ok=true->Ri x->l=Bd x)
def Uk(l:List UInt8):Bool:=decide (Y1 l=[104,97,115])
def OC(l:List UInt8):Bool:=Uk l||decide (Y1 l=[97,115,107])
theorem YT(h:OC l=true):Y1 l=(lookW (Uk l)).data.toList:=by
 unfold OC at h;cases hh:Uk l
 ·rw[hh]at h;simp only[Bool.false_or,Pe]at h;rw[h];rfl
 unfold Uk at hh;rw[Pe]at hh;rw[hh];rfl
theorem Fv{b:Bool}(h:Y1 l=(lookW b).data.toList):OC l=true/\Uk l=b:=by
 unfold OC Uk;rw[h];cases b<;>decide
theorem nJ{t:BY}(hw:OC l=true)(hr:PE (Y2 (Y2 l)) c t true):Bo l ⟨Uk l,U3 (Y1 (Y2 l)),c,t⟩ true:=by
 constructor
 ·intro y f e;obtain⟨a,b,d⟩:=Io f.1;rw[<- e]at a b d;obtain⟨_,h1,h2⟩:=hr.1 _ _ (Aj f).1 (Aj f).2 d;refine⟨rfl,?_⟩;rw[(Fv a).2,b,h1,h2];rfl
 intro _ _;have e:=hr.2 rfl;have h2:Y2 (Y2 l)≠[]:=by rw[e];exact lF _ _
 have h1:Y2 l≠[]:=λh=>by rw[h]at h2;exact h2 rfl
 unfold Bd;rw[a_,<- YT hw,<- e,<- Ff h2,<- Ff h1]
theorem wO{t:BY}{ok:Bool}(hr:PE (Y2 (Y2 l)) c t ok)(h:OC l=false\/ok=false)(x:L4):Bo l x false:=by
 refine⟨λy f e=>?_,λh=>by cases h⟩;obtain⟨a,b,d⟩:=Io f.1;rw[<- e]at a b d;rcases h with h|h
 ·rw[(Fv a).1]at h;cases h
 have:=(hr.1 _ _ (Aj f).1 (Aj f).2 d).1;rw[h]at this;cases this
def Un(ls:List (List UInt8))(xs:List L4)(ok:Bool):Prop:=(∀ys,(∀i,i<ys.length->Ri (ys.getD i K_))->ls=ys.map Bd->ok=true/\xs=ys)/\(ok=true->(∀i,i<xs.length->Ri (xs.getD i K_))->ls=xs.map Bd)
theorem Eu(ys:List L4)(i:Nat)(h:i<ys.length):(ys.map Bd).getD i []=Bd (ys.getD i K_):=by
 simp[List.getD,h]
theorem eH{α:Type}{a b:List α}{d:α}(hl:a.length=b.length)(h:∀i,i<a.length->a.getD i d=b.getD i d):a=b:=by
 refine xu hl λi h1 h2=>?_;have:=h i h1;simpa[List.getD,h1,h2]using this
theorem LH{xs:List L4}(hl:xs.length=ls.length)(h:∀i,i<ls.length->Bo (ls.getD i []) (xs.getD i K_) true):Un ls xs true:=by
 constructor
 ·intro ys b e;subst e;rw[Ve]at hl h;refine⟨rfl,eH (d:=K_) hl λi a=>?_⟩;exact((h i O0).1 _ (b i O0) (Eu ys i O0)).2
 intro _ hx;refine eH (d:=[]) (by rw[Ve,hl]) λi a=>?_;rw[Eu xs i O0];exact(h i a).2 rfl (hx i O0)
theorem XJ(hk:k<ls.length)(h:Bo (ls.getD k []) x false)(xs:List L4):Un ls xs false:=by
 refine⟨λys a e=>?_,λh=>by cases h⟩;subst e;rw[Ve]at hk;have:=(h.1 _ (a k hk) (Eu ys k hk)).1;cases this
theorem Gy(h:b∉l)(P:List (List UInt8))(q:List UInt8):l.foldl (cst b) (P,q)=(P,q++l):=by
 induction l generalizing q with
 | nil=>simp
 | cons c l ih=>
  have hc:c≠b:=λe=>h (by simp[e]);rw[Tq];have:cst b (P,q) c=(P,q++[c]):=by unfold cst;rw[if_neg hc]
  rw[this,ih (λhm=>h (Ug _ hm)),Tt];rfl
theorem wG(b:UInt8)(l:List UInt8)(P Q:List (List UInt8))(q:List UInt8):l.foldl (cst b) (P++Q,q)=(P++(l.foldl (cst b) (Q,q)).1,(l.foldl (cst b) (Q,q)).2):=by
 induction l generalizing Q q with
 | nil=>rfl
 | cons c l ih=>
  rw[Tq,Tq];by_cases hc:c=b
  ·have e1:cst b (P++Q,q) c=(P++(Q++[q]),[]):=by unfold cst;rw[if_pos hc,List.append_assoc]
   have a:cst b (Q,q) c=(Q++[q],[]):=by unfold cst;rw[if_pos hc]
   rw[e1,a,ih]
  have e1:cst b (P++Q,q) c=(P++Q,q++[c]):=by unfold cst;rw[if_neg hc]
  have a:cst b (Q,q) c=(Q,q++[c]):=by unfold cst;rw[if_neg hc]
  rw[e1,a,ih]
theorem TU(h:b∉l):Z8 b l=[l]:=by
 unfold Z8 P8;rw[Gy h];rfl
theorem YK{a r:List UInt8}(h:b∉a):Z8 b (a++b::r)=a::Z8 b r:=by
 unfold Z8 P8;rw[NF,Gy h,Tq];have e:cst b ([],[]++a) b=([a]++[],[]):=by unfold cst;rw[if_pos rfl];simp
 rw[e,wG];simp
theorem a3j(b:UInt8)(l:List UInt8):(Lib.index l [b]=-1/\b∉l)\/(∃i:Nat,Lib.index l [b]=i/\i<l.length/\l=l.take i++b::l.drop (i+1)/\b∉l.take i):=by
 rw[Lib.index_one];have hge:=Lib.indexByte_ge l b;by_cases h:Lib.indexByte l b=-1
 ·refine .inl ⟨h,λhm=>?_⟩;obtain⟨k,hk,e⟩:=Qe hm;exact Lib.indexByte_none h k (by rw[V8 hk,e])
 obtain⟨o,ho⟩:∃o:Nat,Lib.indexByte l b=o:=⟨(Lib.indexByte l b).toNat,O0⟩;obtain⟨h1,h2⟩:=Lib.indexByte_some ho;have hl:o<l.length:=by
  rcases Z7 o l.length with h|h
  ·exact h
  rw[Eb h]at h1;cases h1
 refine .inr ⟨o,ho,hl,?_,λhm=>?_⟩
 ·have hx:l[o]=b:=by rw[V8 hl]at h1;exact C_ h1
  conv=>lhs;rw[<- Zk o l,Ky hl,hx]
 obtain⟨k,hk,e⟩:=Qe hm;rw[L_]at hk;rw[IB]at e;exact h2 k O0 (by rw[V8 O0,e])
theorem aZ(b:UInt8)(f:Nat):∀l:List UInt8,l.length<f->Lib.splitK [b] 0 (Lib.countFrom [b] f l) l=Z8 b l/\(Z8 b l).length=Lib.countFrom [b] f l+1:=by
 induction f with
 | zero=>intro l h;omega
 | succ f ih=>
  intro l h;rcases a3j b l with⟨a,c⟩|⟨i,a,hl,he,c⟩
  ·have hc:Lib.countFrom [b] (f+1) l=0:=by rw[Lib.countFrom,a];rfl
   rw[hc,TU c];exact⟨rfl,rfl⟩
  have d:¬((i:Int)==-1)=true:=λe=>by have:=Yq.1 e;omega
  obtain⟨h1,h2⟩:=ih (l.drop (i+1)) (by rw[Oj];omega);have hc:Lib.countFrom [b] (f+1) l=Lib.countFrom [b] f (l.drop (i+1))+1:=by
   rw[Lib.countFrom,a,U7 d,Nat.add_comm];rfl
  have hcut:Z8 b l=l.take i::Z8 b (l.drop (i+1)):=by
   conv=>lhs;rw[he]
   exact YK c
  rw[hc,hcut];refine⟨?_,by rw[f_,h2]⟩;rw[Lib.splitK,a,U7 d,<- h1];rfl
theorem a4E(b:UInt8)(s:BY)(w:World)(hs:s.size<=1048700)(hm:Vd w):
 Calls prog 260 #[Sb s,Sb ⟨#[b]⟩] w λe w'=>(e=Sf (.slice (some ⟨w.heap.size,0,none⟩) (Z8 b s.data.toList).length (Z8 b s.data.toList).length)/\Tc w' w.heap.size (Z8 b s.data.toList))/\Bw w w':=by
 obtain⟨_,m,hm⟩:=hm;obtain⟨h1,h2⟩:=aZ b (s.data.toList.length+1) s.data.toList O0;have hd:=TM ((Lib.splitB_data ⟨#[b]⟩ 0 (Lib.countB s ⟨#[b]⟩) s).trans h1);have hc:Lib.countB s ⟨#[b]⟩+1=(Z8 b s.data.toList).length:=h2.symm;refine(Tryz.strings_Split s ⟨#[b]⟩ m w O0 hm (Y7 1)).mono ?_;rintro e w'⟨rfl,rfl⟩;rw[hd,hc];refine⟨⟨rfl,J4,λi a=>?_⟩,U6⟩;simp[a]
def Ti(l:List UInt8):Bool:=decide (l.getLastD 0=10)
theorem zB(h:Ti l=true):l=l.dropLast++[10]:=by
 unfold Ti at h;rw[Pe]at h;rcases Xx l with e|⟨r,c,e⟩
 ·subst e;cases h
 rw[Px]at e;subst e;rw[TJ]at h;rw[List.dropLast_concat,h]
theorem JX(l:List UInt8):Ti (l++[10])=true:=by unfold Ti;rw[List.getLastD_concat];rfl
theorem last_one(s:BY)(h:1<=s.size):s.extract (s.size-1) s.size=U3 [s.data.toList.getLastD 0]:=by
 refine Uc ?_;rw[ext_list,p_ J4];obtain⟨r,c,e⟩:∃r c,s.data.toList=r++[c]:=by
  rcases Xx s.data.toList with e|⟨r,c,e⟩
  ·have:s.data.toList.length=s.size:=J4;rw[e]at this;simp at this;omega
  exact⟨r,c,by rw[e,Px]⟩
 have hl:s.data.toList.length=s.size:=J4;rw[e]at hl ⊢;rw[Q9,jk]at hl;rw[TJ,show s.size-1=r.length by omega,List.drop_left]
theorem mQ(s:BY):s.extract 0 (s.size-1)=U3 s.data.toList.dropLast:=by
 refine Uc ?_;rw[ext_list,mF,List.dropLast_eq_take];simp
theorem a6p(s:BY)(w:World)(hs:s.size<=1048700):
 Calls prog 336 #[Sb s,Sb ⟨#[10]⟩] w λe w'=>e=Sf (.bool (Ti s.data.toList))/\w'=w:=by
 by_cases h:1<=s.size
 ·have HX:=last_one s h;have a:((U3 [s.data.toList.getLastD 0]).toList==[10])=Ti s.data.toList:=by
   rw[ByteArray.toList_eq,a_];unfold Ti;by_cases hc:s.data.toList.getLastD 0=10
   ·rw[hc];rfl
   rw[j_ hc];exact S_.2 λe=>hc (qp e).1
  generalize Ti s.data.toList=b at*;generalize s.data.toList.getLastD 0=c at*
  go_in
  go_wp2;go_ret;exact⟨rfl,rfl⟩
 have a:Ti s.data.toList=false:=by
  have hl:s.data.toList.length=s.size:=J4;have:s.data.toList=[]:=Xb.1 O0;rw[this];rfl
 generalize Ti s.data.toList=b at*;subst a
 go_in
 go_wp2;go_ret;exact⟨rfl,rfl⟩
def JA(l:List UInt8):List UInt8:=if Ti l=true then l.dropLast else l
theorem a5q(s:BY)(w:World)(hs:s.size<=1048700):
 Calls prog 296 #[Sb s,Sb ⟨#[10]⟩] w λe w'=>e=Sf (.tuple #[Sb (U3 (JA s.data.toList)),.bool (Ti s.data.toList)])/\w'=w:=by
 have hX:=mQ s;have hP:(Ti s.data.toList=true->U3 (JA s.data.toList)=U3 s.data.toList.dropLast/\1<=s.size)/\(Ti s.data.toList=false->U3 (JA s.data.toList)=s):=by
  unfold JA;constructor
  ·intro h;rw[D8 h];refine⟨rfl,?_⟩;have e:=zB h;have hl:s.data.toList.length=s.size:=J4;rw[e]at hl;rw[Q9,jk]at hl;omega
  intro h;rw[U7 (by rw[h];decide)];rfl
 have hc:=a6p s;generalize U3 (JA s.data.toList)=p at*;generalize U3 s.data.toList.dropLast=q at*;generalize Ti s.data.toList=b at*
 go_in
 go_wp2_with fail
 refine(hc _ hs).mono ?_;rintro e w1⟨rfl,rfl⟩;cases b
 ·have e:=hP.2 rfl;subst e;go_wp2;go_ret2;exact⟨rfl,rfl⟩
 obtain⟨e,h1⟩:=hP.1 rfl;subst e;go_wp2;go_ret2;exact⟨rfl,rfl⟩
theorem a5P(s:BY)(w:World)(hs:s.size<=1048700):
 Calls prog 259 #[Sb s,Sb ⟨#[10]⟩] w λe w'=>e=Sf (.tuple #[Sb (U3 (JA s.data.toList)),.bool (Ti s.data.toList)])/\w'=w:=by
 have hc:=a5q s;generalize U3 (JA s.data.toList)=p at*;generalize Ti s.data.toList=b at*
 go_in
 go_wp2_with fail
 refine(hc _ hs).mono ?_;rintro e w1⟨rfl,rfl⟩;go_wp2;go_ret2;exact⟨rfl,rfl⟩
def a5H(w w':World)(l:List UInt8)(e:Ending):Prop:=(Ti l=false/\e=Sf (.tuple #[Sa none 0 0,.bool false]))\/(Ti l=true/\∃g,e=Sf (.tuple #[.slice (some ⟨g,0,none⟩) (Z8 10 l.dropLast).length (Z8 10 l.dropLast).length,.bool true])/\w.heap.size<=g/\Tc w' g (Z8 10 l.dropLast))
theorem a5j(s:BY)(w:World)(hs:s.size<=1048700)(d:Vd w):
 Calls prog 217 #[Sb s] w λe w'=>a5H w w' s.data.toList e/\Bw w w':=by
 have hc:=a5P s;have c:(U3 (JA s.data.toList)).size<=1048700:=by
  rw[I5];unfold JA;split
  ·rw[List.length_dropLast];simp;omega
  simp;omega
 have b:Ti s.data.toList=true->JA s.data.toList=s.data.toList.dropLast:=λh=>by unfold JA;rw[if_pos h]
 generalize s.data.toList=l at*
 go_in
 go_wp2_with fail
 refine(hc _ hs).mono ?_;rintro e w1⟨rfl,rfl⟩;cases hb:Ti l
 ·go_wp2;go_ret2;exact⟨.inl ⟨hb,rfl⟩,O4 _ _⟩
 rw[b hb]at c ⊢;clear hc b
 go_wp2_with fail
 refine(a4E 10 (U3 l.dropLast) _ c d).mono ?_;rintro e w2⟨⟨rfl,a⟩,g⟩;rw[a_]at a ⊢;have f:=a;clear a;go_wp2;go_ret2;exact⟨.inr ⟨hb,_,rfl,Y7 _,f⟩,g⟩
open Go.RowKit Go.Maps
theorem WX(h:k<(vz rs key).length):∃p:Nat,(vz rs key).getD k 0=(p:Int)/\p<rs.length/\(rs.getD p d_).key=key:=by
 unfold vz at h ⊢;rw[Ve]at h;have hm:=dh h;refine⟨_,?_,Yp.1 (Ep.1 hm).1,by simpa using(Ep.1 hm).2⟩;rw[Qk,yu,V8 h];rfl
theorem XY(b:p<rs.length)(hk:(rs.getD p d_).key=key):∃k,k<(vz rs key).length/\(vz rs key).getD k 0=(p:Int):=by
 unfold vz;have hm:p∈(List.range rs.length).filter λi=>decide ((rs.getD i d_).key=key):=Ep.2 ⟨Yp.2 b,by simpa using hk⟩;obtain⟨k,a,c⟩:=Qe hm;refine⟨k,by rw[Ve];exact a,?_⟩;rw[Qk,yu,V8 a,c];rfl
theorem mO(a:p<rs.length):rs.getD p d_∈rs:=by
 have:rs.getD p d_=rs[p]:=by simp[List.getD,V8 a]
 rw[this];exact dh a
theorem mP{x:R3}(h:x∈rs):∃p,p<rs.length/\rs.getD p d_=x:=by
 obtain⟨p,a,e⟩:=Qe h;exact⟨p,a,by simp[List.getD,V8 a,e]⟩
theorem yK{w:World}{B:Nat}{va:OA}{a n:Nat}{zs:List Int}(h:w.ownsInts B 3 .i64 (Sa va n a) zs):n=zs.length/\(n=0\/∃g,va=some ⟨g,0,none⟩/\g<w.heap.size/\∀k,k<n->w.cell? ⟨g,k,none⟩=some (Sc Se (zs.getD k 0))):=by
 have b:=h.1;rcases h.1.2 with⟨hv,h0⟩|⟨g,cap,cur,hv,hg,c,_⟩
 ·simp at hv;exact⟨O0,.inl O0⟩
 simp only[Hu]at hv;obtain⟨rfl,rfl,rfl⟩:=hv;refine⟨rfl,.inr ⟨g,rfl,(Ya.1 c).1,λk hk=>?_⟩⟩;rw[b.cellAt k O0];simp[List.getD,V8 hk]
theorem a5v(B H bT bR bP:Nat)(W:Int)(l:List (ByteArray×Value))(rs:List R3)(rv:List Value)(x:R3)(a:OA)(c:Nat)(w:World)(hSh:Sh B H bT bR bP W l rs rv w)(hx:R_ w a x.gs)(hn:rs.length<=1000)(hk:x.key.size<=1048700)(hg:x.gs.length<=1048576)(hgs:∀i,(rs.getD i d_).gs.length<=1048576):
 Calls prog 268 #[Sd (some ⟨H,0,none⟩),.agg #[Sb x.key,Sa a x.gs.length c,Sb x.o]] w λe w'=>Rb (x∈rs) e/\Bw w w':=by
 obtain⟨pl,hC,hR⟩:=hSh;have hrl:=hR.len;have a7s:=hC.lt;obtain⟨v,hv⟩:∃v,(Y_ pl x.key).getD (Sa none 0 0)=v:=⟨_,rfl⟩;have t:=ints_at hR hv (O4 _ _);obtain⟨va,vc,Q⟩:=x9 t.1;rw[Q]at t hv;obtain⟨_,hcs⟩:=yK t;have HCS:=U0 hcs;have hln:(vz rs x.key).length<=1000:=X7 (PG _ _) hn;obtain⟨es,N,J,hpF,Z,hpD⟩:=hC.pc;obtain⟨A,C,I,U,R,V⟩:=hC.rc;have hbP:=(Ya.1 J).1;have hbR:=(Ya.1 I).1;have hkm:x.key.size<=maxLen:=by unfold maxLen;omega
 have HLK:Hid (∀u:World,u.heap[bP]?=some (.map es N)->(Instr.lookup 292 (.map (some bP)) (Sb x.key) false).run prog u=.ok (.slice va (vz rs x.key).length vc) u):=λu q=>by
  rw[<- hv];exact BB (n:=pl.length) ⟨es,N,q,hpF,Z,hpD⟩ underlying292 Y0 hkm
 have HLA:Hid (∀(u:World)(p:Nat),p<rs.length->u.heap[bR]?=some (.map A C)->(Instr.lookup 291 (.map (some bR)) (Sc Se p) false).run prog u=.ok (rv.getD p undef) u):=λu p o q=>
  WQ (n:=rv.length) (z:=.agg #[Sb ⟨#[]⟩,Sa none 0 0,Sb ⟨#[]⟩]) ⟨A,C,q,U,R,V⟩ underlying291 Y0 O0 O0
 have HRC:=U0 hR.recs;have d:Bw w (w.alloc (Sg #[Sb x.key,Sa a x.gs.length c,Sb x.o] 179)):=U6;have sz0:(w.alloc (Sg #[Sb x.key,Sa a x.gs.length c,Sb x.o] 179)).heap.size=w.heap.size+1:=J4;have hp0:=(d.block bP hbP).trans J;have X:=(d.block bR hbR).trans I;have D:Hid (J6 (w.alloc (Sg #[Sb x.key,Sa a x.gs.length c,Sb x.o] 179)) w.heap.size [Sb x.key,Sa a x.gs.length c,Sb x.o]):=U0 (X9 w [Sb x.key,Sa a x.gs.length c,Sb x.o] 179);have f2:=(hC.below d).blk 2 _ rfl;have f3:=(hC.below d).blk 3 _ rfl;have e0:=D.o 0 _ rfl;have e1:=D.o 1 _ rfl;have e2:=D.o 2 _ rfl;have HX:=U0 (y9 hx d);have HW:=U0 d;clear hC hR hx hv Q t J hpF Z hpD I U R V hcs hrl D
 go_in
 go_wp2_with fail
 generalize (w.alloc (Sg #[Sb x.key,Sa a x.gs.length c,Sb x.o] 179))=b at*;refine wp_region_held_drew (S:=(λu=>u.cell? ⟨H,3,none⟩=some (.map (some bP))/\u.cell? ⟨w.heap.size,0,none⟩=some (Sb x.key)/\u.heap[bP]?=some (.map es N))) Y0 ?_ λhHeld=>?_
 ·exact⟨f3,e0,hp0⟩
 iterate 6 refine sq ?_
 refine tq 6 hHeld ?_ (v:=?_) (hv:=?e)
 case e=>intro wq hSw;(try dsimp only at hSw);have hq:=HLK.o wq hSw.2.2;go_simp;try with_reducible rfl
 try simp only[qq]
 iterate 2 refine sq ?_
 refine wdn ?_;go_wp2;go_loopw[15] (λi wr=>∃(k:Nat),k<=(vz rs x.key).length/\i=Sc Se k/\Hid (∀j,j<k->rs.getD ((vz rs x.key).getD j 0).toNat d_≠x)/\Below b.heap.size b wr) (λi _=>(vz rs x.key).length-(Go.RowKit.intOf i).toNat);exact⟨0,Y4 _,rfl,λj r=>absurd r (U8 _),(O4 _ _).drew⟩;obtain⟨k,hk,rfl,HJ,s⟩:=hrel;by_cases hlt:k<(vz rs x.key).length
 ·rcases HCS.o with h0|⟨g,hva,hgw,hcell⟩
  ·omega
  subst hva;obtain⟨p,O,o,hkp⟩:=WX hlt;have ck0:=(s.cell (by exact(show g<b.heap.size by omega))).trans ((d.cell (by exact hgw)).trans (hcell k hlt));rw[O]at ck0;obtain⟨a2,c2,F,L,_⟩:=HRC.o p o;have P:=hgs p;obtain⟨y,E⟩:∃y,rs.getD p d_=y:=⟨_,rfl⟩;rw[E]at F L P;have HY:=U0 E;clear E;have HLR:Hid (∀u:World,u.heap[bR]?=some (.map A C)->(Instr.lookup 291 (.map (some bR)) (Sc Se p) false).run prog u=.ok (.agg #[Sb y.key,Sa a2 y.gs.length c2,Sb y.o]) u):=λu q=>by
   rw[<- F];exact HLA.o u p o q
  have f:=s.drew;have q2:=(f.cell (by exact(show H<b.heap.size by omega))).trans f2;have y0:=(f.cell (by exact(show w.heap.size<b.heap.size by omega))).trans e0;have y1:=(f.cell (by exact(show w.heap.size<b.heap.size by omega))).trans e1;have y2:=(f.cell (by exact(show w.heap.size<b.heap.size by omega))).trans e2;have hpr:=(f.block bR (show bR<b.heap.size by omega)).trans X;have G2:=y9 L (HW.o.trans (f.mono O0));have GX:=y9 HX.o f;clear hcell L F
  go_wp2_with fail
  refine wp_region_held_drew (S:=(λu=>u.cell? ⟨H,2,none⟩=some (.map (some bR))/\u.cell? ⟨w.heap.size,0,none⟩=some (Sb x.key)/\u.cell? ⟨w.heap.size,1,none⟩=some (Sa a x.gs.length c)/\u.cell? ⟨w.heap.size,2,none⟩=some (Sb x.o)/\u.heap[bR]?=some (.map A C))) Y0 ?_ λhHeld=>?_
  ·exact⟨q2,y0,y1,y2,hpr⟩
  iterate 5 refine sq ?_
  refine tq 5 hHeld ?_ (v:=?_) (hv:=?e)
  case e=>intro wq hSw;(try dsimp only at hSw);have hq:=HLR.o wq hSw.2.2.2.2;go_simp;try with_reducible rfl
  try simp only[qq]
  refine sq ?_;refine rq 7 λK hK=>?_;go_simp;refine(c228 y x a2 a c2 c _ P hg G2 GX).mono ?_;rintro e u1⟨⟨bb,rfl,hbb⟩,hb1⟩
  go_wp2_with fail
  have m:=f.trans (hb1.mono (by show b.heap.size<=wr.heap.size;exact s.size));have p2:=(m.cell (by exact(show H<b.heap.size by omega))).trans f2;have p0:=(m.cell (by exact(show w.heap.size<b.heap.size by omega))).trans e0;have p1:=(m.cell (by exact(show w.heap.size<b.heap.size by omega))).trans e1;have p3:=(m.cell (by exact(show w.heap.size<b.heap.size by omega))).trans e2;have pr:=(m.block bR (show bR<b.heap.size by omega)).trans X;clear hHeld;refine G9 hK ⟨p2,p0,p1,p3,pr⟩ λhHeld=>?_;clear hK K hHeld;refine wdn ?_;cases bb
  ·go_wp2;go_roundw;exact⟨k+1,O0,by go_num,λj r=>by
    rcases Z7 j k with h|h
    ·exact HJ.o j h
    obtain rfl:j=k:=O0;rw[O];exact λe=>absurd (hbb.2 (HY.o.symm.trans e)) Am,m⟩
   exact V9
  go_wp2;go_ret;exact⟨⟨true,rfl,λ_=>(HY.o.trans (by simpa using hbb))▸mO o,λ_=>rfl⟩,d.trans (m.mono O0)⟩
 obtain rfl:k=(vz rs x.key).length:=O0;go_wp2;go_ret;refine⟨⟨false,rfl,λh=>absurd h Am,λh=>?_⟩,d.trans (s.mono O0)⟩;obtain⟨p,o,Y⟩:=mP h;obtain⟨j,r,hjp⟩:=XY o (by rw[Y]);have:=HJ.o j r;rw[hjp]at this;exact absurd Y this
end Go.Proofs.YtdgneicbmalnpaaGreatDoor
namespace Go.Proofs.YtdgneicbmalnpaaGreatDoor.T
open Proofs.Tryz Go.RowKit
variable{w wr:World}{e:TypeId}{t v:Value}{g k n:Nat}{xs:List Value}{fs gs:List F2}{nm:BY}
theorem VA{b:Nat}{w':World}{base:Nat}{size:Nat}(h:w.ownsRow base e size v n xs)(f:But b w w')(c:v.ownBlock≠some b):w'.ownsRow base e size v n xs:=by
 refine⟨h.1,?_⟩;rcases h.2 with h2|⟨g,cap,cur,hv,d,a,r⟩
 ·exact .inl h2
 refine .inr ⟨g,cap,cur,hv,d,?_,r⟩;rw[f.block g (xg a) (λe=>c (by rw[hv,e];rfl))];exact a
theorem aO{B:Nat}(h:w.ownsRow B e 2 v n xs):∃ao c,v=Sa ao n c:=by
 rcases h.2 with⟨hv,h0⟩|⟨g,cap,cur,hv,_⟩
 ·exact⟨none,0,by rw[hv,h0]⟩
 exact⟨_,_,hv⟩
theorem a2X(w:World)(x y:Value)(t:TypeId):∀j u,[x,y][j]?=some u->(w.alloc (Sg #[x,y] t)).cell? ((⟨w.heap.size,0,none⟩:Addr).add j)=some u:=by
 intro j u h
 match j,h with
 | 0,h=>simp at h;subst h;simp[Addr.add]
 | 1,h=>simp at h;subst h;simp[Addr.add]
theorem a2S(w:World)(x y:Value)(t:TypeId):∀j u,[x,y][j]?=some u->(w.alloc (Sg #[x,y] t)).drew.cell? ((⟨w.heap.size,0,none⟩:Addr).add j)=some u:=λj u h=>a2X w x y t j u h
theorem xk(h:k<fs.length):fs.take (k+1)=fs.take k++[fs.getD k o9]:=by
 rw[SB h];simp[List.getD,V8 h]
def without(fs:List F2)(nm:BY):List F2:=fs.filter λx=>!(x.nm.toList==nm.toList)
theorem XF(h:k<fs.length)(hx:((fs.getD k o9).nm.toList==nm.toList)=true):without (fs.take (k+1)) nm=without (fs.take k) nm:=by
 unfold without;rw[xk h,Kw];generalize fs.getD k o9=x at*;simp[hx]
theorem QG(h:k<fs.length)(hx:((fs.getD k o9).nm.toList==nm.toList)=false):without (fs.take (k+1)) nm=without (fs.take k) nm++[fs.getD k o9]:=by
 unfold without;rw[xk h,Kw];generalize fs.getD k o9=x at*;simp[hx]
theorem Jy(fs:List F2)(nm:BY):(without fs nm).length<=fs.length:=tK _ _
structure Yw(w wr:World)(t:Value)(v:Value)(gs:List F2):Prop where
 bel:Bw w wr
 ht:wr.heap[w.heap.size]?=some (Sg #[t] 40 (0,0))
 hr:wr.heap[w.heap.size+1]?=some (Sg #[Sa none 0 0] 40 (0,0))
 ho:wr.heap[w.heap.size+1+1]?=some (Sg #[v] 40 (0,0))
 own:Um wr (w.heap.size+3) v gs
theorem Jd(a:g=w.heap.size)(o:Obj):(w.alloc o).heap[g]?=some o:=by
 subst a;exact Array.getElem?_push_size
def strOf:Value->Nat | Sb s=>s.size|_=>0
theorem alloc_old(a:g<w.heap.size)(o:Obj):(w.alloc o).heap[g]?=w.heap[g]?:=Ip w o g a
theorem Yw.start(w:World)(t:Value):Yw w (((w.alloc (Sg #[t] 40)).alloc (Sg #[Sa none 0 0] 40)).alloc (Sg #[Sa none 0 0] 40)) t (Sa none 0 0) []:=by
 refine⟨((U6.alloc J4 _).alloc L8 _),?_,?_,?_,⟨rfl,.inl ⟨rfl,rfl⟩⟩⟩
 ·rw[alloc_old L8,alloc_old J4];exact Jd rfl _
 ·rw[alloc_old J4];exact Jd J4 _
 exact Jd J4 _
theorem Yw.sz(h:Yw w wr t v gs):w.heap.size+3<=wr.heap.size:=xg h.ho
theorem Yw.cells(h:Yw w wr t v gs):wr.cell? ⟨w.heap.size,0,none⟩=some t/\wr.cell? ⟨w.heap.size+1,0,none⟩=some (Sa none 0 0)/\wr.cell? ⟨w.heap.size+1+1,0,none⟩=some v/\wr.frozen? ⟨w.heap.size+1,0,none⟩=false/\wr.frozen? ⟨w.heap.size+1+1,0,none⟩=false:=
 ⟨by rw[Lib.cell_of_heap h.ht];rfl,by rw[Lib.cell_of_heap h.hr];rfl,by rw[Lib.cell_of_heap h.ho];rfl,Lib.frozen_of_heap h.hr 0,Lib.frozen_of_heap h.ho 0⟩
theorem Yw.app{a:World}{v':Value}{x:F2}{o:Obj}(h:Yw w wr t v gs)(ho:a.ownsRow (w.heap.size+3) 169 2 v' (gs.length+1) (J3 gs++[Sb x.nm,Sb x.tx]))(d:(wr.alloc o).drew.grownBy a v.ownBlock):
 Yw w (a.setCell ⟨w.heap.size+1+1,0,none⟩ v') t v' (gs++[x])/\a.cell? ⟨w.heap.size+1+1,0,none⟩=some v/\a.frozen? ⟨w.heap.size+1+1,0,none⟩=false:=by
 have hz:=h.sz;have hd:(wr.alloc o).drew.heap.size=wr.heap.size+1:=by show(wr.alloc o).heap.size=_;simp
 have key:∀k,k<w.heap.size+3->a.heap[k]?=wr.heap[k]?:=λk hk=>by
  rw[d.block k (by rw[hd];omega) (λe=>by have:=(h.own.lt k e.symm).1;omega)];show(wr.alloc o).heap[k]?=_;exact alloc_old O0 _
 have f:=((h.bel.alloc O0 _).drew).grown d (by rw[hd];omega) (λk hk=>by have:=(h.own.lt k hk).1;omega);have c:=(key _ O0).trans h.ho;have hz2:w.heap.size+3<=a.heap.size:=xg c;refine⟨⟨f.setCell L8 _,?_,?_,?_,?_⟩,by rw[Lib.cell_of_heap c];rfl,Lib.frozen_of_heap c 0⟩
 ·rw[ou _ _ _ _ L8];exact(key _ O0).trans h.ht
 ·rw[ou _ _ _ _ J4];exact(key _ O0).trans h.hr
 ·exact heap_setCell_same a (w.heap.size+1+1) 0 _ 40 v' c
 have hl:(gs++[x]).length=gs.length+1:=J4;show(a.setCell ⟨w.heap.size+1+1,0,none⟩ v').ownsRow (w.heap.size+3) 169 2 v' (gs++[x]).length (J3 (gs++[x]));rw[hl,Ae];refine VA (b:=w.heap.size+1+1) ho ((But.refl _ _).setCell _ _) (λe=>by have:=(ho.lt _ e).1;omega)
theorem c206(a:OA)(cap:Nat)(fs:List F2)(nm:BY)(w:World)(hl:fs.length<=40)(t:P6 w a fs):
 Calls prog 206 #[.agg #[Sa a fs.length cap],Sb nm] w λe w'=>(∃v,e=Sf (.agg #[v])/\Um w' (w.heap.size+3) v (without fs nm))/\Bw w w':=by
 obtain⟨b,off,hc⟩:=r_ t;have R:=U0 hc;have O:=Yw.start w (vL a fs.length cap);obtain⟨C,K,F,E,D⟩:=info_parts Nr;clear hc t
 go_in
 go_wp2;go_loopw[6] (λi wr=>∃(k:Nat)(v:Value),k<=fs.length/\i=Sc Se k/\Hid (Yw w wr (Sa a fs.length cap) v (without (fs.take k) nm))) (λi _=>fs.length-(RowKit.intOf i).toNat);exact⟨0,_,Y4 _,rfl,O⟩;obtain⟨k,v,hk,rfl,c⟩:=hrel;obtain⟨N,cr,co,fr,L⟩:=c.o.cells;have hzr:=c.o.sz;by_cases f:k<fs.length
 ·obtain⟨ha,s,j⟩:=Ud R.o f;subst ha;have g0:=(c.o.bel.cell (by exact s)).trans (j k f).1;have g1:=(c.o.bel.cell (by exact s)).trans (j k f).2;have o:Hid (((fs.getD k o9).nm.toList==nm.toList)=true->without (fs.take (k+1)) nm=without (fs.take k) nm):=XF f;have n:Hid (((fs.getD k o9).nm.toList==nm.toList)=false->without (fs.take (k+1)) nm=without (fs.take k) nm++[fs.getD k o9]):=QG f;have hgl:(without (fs.take k) nm).length<=k:=X7 (Jy _ _) (List.length_take_le _ _);generalize fs.getD k o9=x at*;generalize without (fs.take k) nm=gs at*;clear j;cases hq:(x.nm.toList==nm.toList)
  ·have z:=n.o hq;have P:=U0 z;have J:=c.o.own;obtain⟨m,l,hv,_⟩:=J.form;subst hv;clear o n z;have co':=past (p:=⟨w.heap.size+1+1,0,none⟩) (by show w.heap.size+1+1<wr.heap.size;omega) co;have I:wr.ownsRow (w.heap.size+3) 169 2 (vL m gs.length l) gs.length (J3 gs):=c.o.own
   go_wp2_with fail
   go_region_law (refine Jv rfl (.tmp 24) (.tmp 30) 38 rfl (w.heap.size+3) 169 C (.agg #[vE,vE]) 2 32 underlying38 K F E D rfl U5 _ _ _ rfl ((I.alloc _).drew) ⟨wr.heap.size,0,none⟩ 1 1 [_,_] rfl rfl (a2S _ _ _ _) (by intro u q;simp at q;rcases q with rfl|rfl<;>rfl) (by unfold maxLen;omega) O0 L8 ?_;intro v' B h r;have g:=c.o.app (x:=x) h r;have S:Hid (Yw w (B.setCell ⟨w.heap.size+1+1,0,none⟩ v') (vL (some ⟨b,off,none⟩) fs.length cap) v' (gs++[x])):=g.1;have d1:=g.2.1;have d2:=g.2.2;obtain⟨ao,cpo,H⟩:=aO h;subst H;clear g h r)
   all_goals
    go_wp2;go_roundw;exact⟨k+1,_,O0,by go_num,by rw[P.o];exact S.o⟩;exact V9
  have Q:=U0 (o.o hq);clear o n;go_wp2;go_roundw;exact⟨k+1,v,O0,by go_num,by rw[Q.o];exact c.o⟩;exact V9
 have A:Hid (without (fs.take k) nm=without fs nm):=by rw[p_ O0];rfl
 have d:Hid (Yw w wr (vL a fs.length cap) v (without fs nm)):=by rw[<- A.o];exact c.o
 obtain⟨m,l,hv,_⟩:=d.o.own.form;subst hv;obtain⟨N,cr,co,fr,L⟩:=d.o.cells;have hB:=d.o.bel;have y:=U0 d.o.own;clear c d A;go_wp2;refine P7 (v:=.agg #[vL m (without fs nm).length l]) (by simp[results,results206,go_sem,cr]) rfl ⟨⟨_,rfl,?_⟩,?_⟩
 ·exact VA (b:=w.heap.size+1) y.o ((But.refl _ _).setCell _ _) (λe=>by have:=(y.o.lt _ e).1;omega)
 exact hB.setCell J4 _

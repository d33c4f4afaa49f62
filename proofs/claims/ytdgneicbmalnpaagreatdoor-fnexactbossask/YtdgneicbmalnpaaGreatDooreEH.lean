import Derived.Test.YtdgneicbmalnpaaGreatDooreRQ
set_option maxRecDepth 99999
set_option linter.all false
set_option maxHeartbeats 0
open Go.Value renaming slice->Sa,string->Sb,int->Sc,pointer->Sd
open Go.IntKind renaming i64->Se
open Go.Ending renaming returned->Sf
namespace Go.Proofs.YtdgneicbmalnpaaGreatDoor
open Proofs.Tryz Go.RowKit
variable{L b ss:List (List UInt8)}{f l:List UInt8}{ok:Bool}{w:World}{xs:List L4}
structure z_ where
 kd:Int
 ep:Int
 fn:BY
 ft:BY
 km:M3
 ls:List L4
 cd:Int
 tx:BY
def Fj:z_:=⟨0,0,⟨#[]⟩,⟨#[]⟩,J_,[],0,⟨#[]⟩⟩
def z_.le(x:z_)(B:Nat):Prop:=x.fn.size<=B/\x.ft.size<=B/\x.km.le B/\(x.ls.length<=B/\∀i,(x.ls.getD i K_).le B)/\x.tx.size<=B
def z_.c(x:z_)(ai:OA)(ci:Nat):List Value:=[Sc Se x.kd,Sc Se x.ep,Sb x.fn,Sb x.ft,Sb x.km.nm,Sb x.km.tl,Sb x.km.ar,Sa ai x.ls.length ci,Sc Se x.cd,Sb x.tx]
theorem z_.uD(x:z_)(b:OA)(a:Nat):∀v∈x.c b a,v.oneCell'=true:=by simp[z_.c,Value.oneCell']
def A_(n:Int):z_:=⟨1,n,⟨#[]⟩,⟨#[]⟩,J_,[],0,⟨#[]⟩⟩
def Mc(a b:BY):z_:=⟨2,0,a,b,J_,[],0,⟨#[]⟩⟩
def Oc(a:BY):z_:=⟨3,0,a,⟨#[]⟩,J_,[],0,⟨#[]⟩⟩
def Xg(m:M3)(ls:List L4)(c:Int)(t:BY):z_:=⟨4,0,⟨#[]⟩,⟨#[]⟩,m,ls,c,t⟩
def Ua:z_:=⟨5,0,⟨#[]⟩,⟨#[]⟩,J_,[],0,⟨#[]⟩⟩
def I9(x:z_):Prop:=(∃n,(1<=n/\n<=200)/\x=A_ n)\/(∃a b,(Y5 a.data.toList=true/\b.size<=300)/\x=Mc a b)\/(∃a,Y5 a.data.toList=true/\x=Oc a)\/(∃m ls c t,(ig m=true/\Ig ls/\vr c t.data.toList=true)/\x=Xg m ls c t)\/x=Ua
def ve(ls:List (List UInt8)):List UInt8:=ls.flatMap (·++[10])
theorem Xy(ls:List L4):N_ ls=ve (ls.map Bd):=by
 unfold N_ ve
 induction ls with
 | nil=>rfl
 | cons x r ih=>simp only[Xf,Xq,ih,DX]
theorem sH(ls:List (List UInt8))(h:∀l∈ls,(10:UInt8)∉l):Z8 10 (ve ls)=ls++[[]]:=by
 have:∀(ls P:List (List UInt8)),(∀l∈ls,(10:UInt8)∉l)->(ve ls).foldl (cst 10) (P,[])=(P++ls,[]):=by
  intro ls
  induction ls with
  | nil=>intro P _;simp[ve]
  | cons a r ih=>
   intro P h;have e:ve (a::r)=(a++[10])++ve r:=rfl;rw[e,NF,GI _ _ (h a J4),ih _ (λl hl=>h l (by simp[hl]))];simp
 unfold Z8 P8;rw[this ls [] h];rfl
theorem sV(l:List UInt8):ve (Z8 10 l)=l++[10]:=by
 have:∀n,∀l:List UInt8,l.length<=n->ve (Z8 10 l)=l++[10]:=by
  intro n
  induction n with
  | zero=>
   intro l hl;obtain rfl:l=[]:=Xb.1 O0;rfl
  | succ n ih=>
   intro l hl;by_cases hm:(10:UInt8)∈l
   ·obtain⟨p,r,rfl,a⟩:=yV hm;rw[YK a];have:=ih r (by simp at hl;omega);have e:ve (p::Z8 10 r)=(p++[10])++ve (Z8 10 r):=rfl;rw[e,this];simp
   rw[TU hm];simp[ve]
 exact this l.length l A8
theorem jT(l:List UInt8):Z8 10 (l++[10])=Z8 10 l++[[]]:=by
 unfold Z8;rw[Dq];simp[cst]
def Je:List UInt8:=[101,112,111,99,104]
def Si:List UInt8:=[102,105,108,101]
def Qh:List UInt8:=[100,114,111,112]
def Ul:List UInt8:=[114,97,110]
def qh:List UInt8:=[99,108,101,97,114]
def mg:List UInt8:=[103,97,118,101]
def n_(x:z_):List (List UInt8):=if x.kd=1 then [Je++32::dec x.ep] else if x.kd=2 then [Si++32::(x.fn.data.toList++32::Z5 x.ft.data.toList)] else if x.kd=3 then [Qh++32::x.fn.data.toList] else if x.kd=4 then(Ul++32::je x.km)::(x.ls.map Bd++[mg++32::Ec x.cd x.tx]) else [qh]
def P_(x:z_):List UInt8:=ve (n_ x)
theorem uH{x:z_}(h:I9 x):∀l∈n_ x,(10:UInt8)∉l:=by
 rcases h with⟨n,⟨h1,h2⟩,rfl⟩|⟨a,b,⟨h1,h2⟩,rfl⟩|⟨a,h1,rfl⟩|⟨m,ls,c,t,⟨h1,h2,j⟩,rfl⟩|rfl
 ·intro l hl;obtain rfl:l=Je++32::dec n:=by simpa[n_,A_]using hl
  simp only[Ph,qf,Zm];exact⟨U5,U5,(IG O0).2⟩
 ·intro l hl;obtain rfl:l=Si++32::(a.data.toList++32::Z5 b.data.toList):=by simpa[n_,Mc]using hl
  simp only[Ph,qf,Zm];exact⟨U5,U5,(Ja h1).2,U5,Rj _⟩
 ·intro l hl;obtain rfl:l=Qh++32::a.data.toList:=by simpa[n_,Oc]using hl
  simp only[Ph,qf,Zm];exact⟨U5,U5,(Ja h1).2⟩
 ·intro l hl;obtain⟨n1,n2,_⟩:=Wh h1;have g:l=Ul++32::je m\/l∈ls.map Bd\/l=mg++32::Ec c t:=by simpa[n_,Xg]using hl
  rcases g with rfl|hl|rfl
  ·rw[Ed];simp only[Ph,qf,Zm];exact⟨U5,U5,(Ja n1).2,U5,(Ja n2).2,U5,Rj _⟩
  ·obtain⟨y,f,rfl⟩:=Rh.1 hl;obtain⟨i,d,e⟩:=Qe f;have:=h2.2 i d;rw[List.getD,V8 d,e]at this;exact SN this
  rw[jm];simp only[Ph,qf,Zm];exact⟨U5,U5,(IG (Dh j).1).2,U5,Rj _⟩
 intro l hl;obtain rfl:l=qh:=by simpa[n_,Ua]using hl
 decide
theorem UM{x:z_}(h:I9 x):(P_ x).length<=16000/\1<=(P_ x).length:=by
 rcases h with⟨n,⟨h1,h2⟩,rfl⟩|⟨a,b,⟨h1,h2⟩,rfl⟩|⟨a,h1,rfl⟩|⟨m,ls,c,t,⟨h1,h2,d⟩,rfl⟩|rfl
 ·have a:=Ux n O0 O0;have e:P_ (A_ n)=Je++32::dec n++[10]:=by simp[P_,n_,A_,ve]
  rw[e];simp[Je];omega
 ·have q:=lu b.data.toList;have k:=Rk h1;have z:b.data.toList.length=b.size:=J4;have e:P_ (Mc a b)=Si++32::(a.data.toList++32::Z5 b.data.toList)++[10]:=by simp[P_,n_,Mc,ve]
  rw[e];simp only[Q9,f_,Fb,Si];omega
 ·have k:=Rk h1;have e:P_ (Oc a)=Qh++32::a.data.toList++[10]:=by simp[P_,n_,Oc,ve]
  rw[e];simp only[Q9,f_,Fb,Qh];omega
 ·have a:=EF h1;have q:=lu m.ar.data.toList;have l:=Iy h2;have r:=kF (Dh d).1 (Dh d).2 (JF d);have e:P_ (Xg m ls c t)=Ul++32::je m++[10]++N_ ls++(mg++32::Ec c t++[10]):=by
   rw[Xy];simp[P_,n_,Xg,ve]
  rw[e,Ed];simp only[Q9,f_,Fb,Ul,mg];omega
 decide
def OD(L:List (List UInt8))(x:z_)(ok:Bool):Prop:=(∀y,I9 y->L=n_ y->ok=true/\x=y)/\(ok=true->I9 x->L=n_ x)
theorem RG(h:∀y,I9 y->L≠n_ y)(x:z_):OD L x false:=⟨λy a e=>absurd e (h y a),λh=>by cases h⟩
def XC(x:z_):List UInt8:=if x.kd=1 then Je else if x.kd=2 then Si else if x.kd=3 then Qh else if x.kd=4 then Ul else qh
theorem Af{y:z_}(d:I9 y){f:List UInt8}{b:List (List UInt8)}(e:f::b=n_ y):Y1 f=XC y/\(y.kd≠4->b=[]):=by
 rcases d with⟨n,_,rfl⟩|⟨a,c,_,rfl⟩|⟨a,_,rfl⟩|⟨m,ls,c,t,_,rfl⟩|rfl
 ·obtain⟨rfl,rfl⟩:=qp e;exact⟨(G8 U5).1,λ_=>rfl⟩
 ·obtain⟨rfl,rfl⟩:=qp e;exact⟨(G8 U5).1,λ_=>rfl⟩
 ·obtain⟨rfl,rfl⟩:=qp e;exact⟨(G8 U5).1,λ_=>rfl⟩
 ·obtain⟨rfl,rfl⟩:=qp e;exact⟨(G8 U5).1,λh=>absurd rfl h⟩
 obtain⟨rfl,rfl⟩:=qp e;exact⟨(Jj U5).1,λ_=>rfl⟩
theorem VH{y:z_}(b:I9 y):y.kd=1\/y.kd=2\/y.kd=3\/y.kd=4\/y.kd=5:=by
 rcases b with⟨n,_,rfl⟩|⟨a,c,_,rfl⟩|⟨a,_,rfl⟩|⟨m,ls,c,t,_,rfl⟩|rfl
 ·exact .inl rfl
 ·exact .inr (.inl rfl)
 ·exact .inr (.inr (.inl rfl))
 ·exact .inr (.inr (.inr (.inl rfl)))
 exact .inr (.inr (.inr (.inr rfl)))
theorem Di{y:z_}(a:I9 y){w:List UInt8}{k:Int}(hk:k=1\/k=2\/k=3\/k=4\/k=5)(h:w=XC y)(hw:w=XC ⟨k,0,⟨#[]⟩,⟨#[]⟩,J_,[],0,⟨#[]⟩⟩):y.kd=k:=by
 have b:=VH a;have e:XC y=XC ⟨k,0,⟨#[]⟩,⟨#[]⟩,J_,[],0,⟨#[]⟩⟩:=by rw[<- h,hw]
 clear a h hw;unfold XC at e;rcases hk with rfl|rfl|rfl|rfl|rfl<;>rcases b with h|h|h|h|h<;>rw[h]at e<;>first|exact h|(exfalso;revert e;decide)
theorem Ru{y:z_}(b:I9 y)(hk:y.kd=1):∃n,(1<=n/\n<=200)/\y=A_ n:=by
 rcases b with h|⟨a,c,_,rfl⟩|⟨a,_,rfl⟩|⟨m,ls,c,t,_,rfl⟩|rfl
 ·exact h
 ·cases hk
 ·cases hk
 ·cases hk
 cases hk
theorem Uz{y:z_}(d:I9 y)(hk:y.kd=2):∃a b,(Y5 a.data.toList=true/\b.size<=300)/\y=Mc a b:=by
 rcases d with⟨n,_,rfl⟩|h|⟨a,_,rfl⟩|⟨m,ls,c,t,_,rfl⟩|rfl
 ·cases hk
 ·exact h
 ·cases hk
 ·cases hk
 cases hk
theorem Qu{y:z_}(b:I9 y)(hk:y.kd=3):∃a,Y5 a.data.toList=true/\y=Oc a:=by
 rcases b with⟨n,_,rfl⟩|⟨a,c,_,rfl⟩|h|⟨m,ls,c,t,_,rfl⟩|rfl
 ·cases hk
 ·cases hk
 ·exact h
 ·cases hk
 cases hk
theorem AB{y:z_}(b:I9 y)(hk:y.kd=4):∃m ls c t,(ig m=true/\Ig ls/\vr c t.data.toList=true)/\y=Xg m ls c t:=by
 rcases b with⟨n,_,rfl⟩|⟨a,c,_,rfl⟩|⟨a,_,rfl⟩|h|rfl
 ·cases hk
 ·cases hk
 ·cases hk
 ·exact h
 cases hk
theorem Zz{y:z_}(b:I9 y)(hk:y.kd=5):y=Ua:=by
 rcases b with⟨n,_,rfl⟩|⟨a,c,_,rfl⟩|⟨a,_,rfl⟩|⟨m,ls,c,t,_,rfl⟩|h
 ·cases hk
 ·cases hk
 ·cases hk
 ·cases hk
 exact h
theorem zV(hw:Y1 f≠Ul)(c:b≠[])(x:z_):OD (f::b) x false:=by
 refine RG (λy a e=>?_) x;obtain⟨h1,h2⟩:=Af a e;by_cases hk:y.kd=4
 ·apply hw;rw[h1];unfold XC;rw[if_neg O0,if_neg O0,if_neg O0,if_pos hk]
 exact c (h2 hk)
theorem zT(h1:Y1 f≠Ul)(h2:Y1 f≠Je)(g:Y1 f≠Si)(d:Y1 f≠Qh)(c:Y1 f≠qh)(x:z_):OD (f::b) x false:=by
 refine RG (λy a e=>?_) x;obtain⟨hw,_⟩:=Af a e;unfold XC at hw;split at hw
 ·exact h2 hw
 split at hw
 ·exact g hw
 split at hw
 ·exact d hw
 split at hw
 ·exact h1 hw
 exact c hw
theorem jO(hw:Y1 f=Je):OD [f] (A_ (ZI 200 (Y2 f))) (Oi 200 (Y2 f)):=by
 constructor
 ·intro y c e;obtain⟨h1,_⟩:=Af c e;obtain⟨n,hn,rfl⟩:=Ru c (Di c (.inl rfl) h1 (by rw[hw];rfl));have i:f=Je++32::dec n:=(qp e).1;have hr:Y2 f=dec n:=by rw[i];exact(G8 U5).2
  obtain⟨a,b⟩:=dA (M:=200) (n:=n) O0 O0;rw[hr,a,b];exact⟨rfl,rfl⟩
 intro h _;have d:=(YL h).1;have g:Y2 f≠[]:=by rw[d];exact LJ _
 show [f]=[Je++32::dec (ZI 200 (Y2 f))];rw[<- d,<- hw,<- Ff g]
theorem fU{t:List UInt8}(hw:Y1 f=Si)(g:Unq (Y2 (Y2 f)) t ok):OD [f] (Mc (U3 (Y1 (Y2 f))) (U3 t)) ok:=by
 constructor
 ·intro y d e;obtain⟨h1,_⟩:=Af d e;obtain⟨a,b,i,rfl⟩:=Uz d (Di d (.inr (.inl rfl)) h1 (by rw[hw];rfl));have j:f=Si++32::(a.data.toList++32::Z5 b.data.toList):=(qp e).1;have hr:Y2 f=a.data.toList++32::Z5 b.data.toList:=by rw[j];exact(G8 U5).2
  obtain⟨w1,c⟩:=G8 (r:=Z5 b.data.toList) (Ja i.1).1;rw[<- hr]at w1 c;cases ok
  ·exact absurd c (g.2 rfl _)
  have:t=b.data.toList:=zn ((g.1 rfl).symm.trans c);rw[w1,this];exact⟨rfl,rfl⟩
 intro h _;have q:=g.1 h;have h2:Y2 (Y2 f)≠[]:=by rw[q];exact bH _
 have h1:Y2 f≠[]:=λh=>by rw[h]at h2;exact h2 rfl
 show [f]=[Si++32::(Y1 (Y2 f)++32::Z5 t)];rw[<- q,<- Ff h2,<- hw,<- Ff h1]
theorem YS(hw:Y1 f=Qh):OD [f] (Oc (U3 (Y2 f))) true:=by
 constructor
 ·intro y b e;obtain⟨h1,_⟩:=Af b e;obtain⟨a,c,rfl⟩:=Qu b (Di b (.inr (.inr (.inl rfl))) h1 (by rw[hw];rfl));have i:f=Qh++32::a.data.toList:=(qp e).1;have hr:Y2 f=a.data.toList:=by rw[i];exact(G8 U5).2
  rw[hr];exact⟨rfl,rfl⟩
 intro _ hx;obtain⟨a,c,e⟩:=Qu hx rfl;have g:U3 (Y2 f)=a:=G7 z_.fn e;have d:Y2 f≠[]:=λh=>by
  rw[<- g,a_,h]at c;cases c
 show [f]=[Qh++32::Y2 f];rw[<- hw,<- Ff d]
theorem ZO(hw:Y1 f=qh):OD [f] Ua (decide ((32:UInt8)∉f)):=by
 constructor
 ·intro y a e;obtain⟨h1,_⟩:=Af a e;have:=Zz a (Di a (.inr (.inr (.inr (.inr rfl)))) h1 (by rw[hw];rfl));subst this;have b:=(qp e).1;subst b;exact⟨U5,rfl⟩
 intro h _;rw[Pe]at h;have:=(Jj h).1;show [f]=[qh];rw[<- this,hw]
theorem ZT{y:z_}(a:I9 y)(hw:Y1 f=Ul)(e:f::b=n_ y):∃m ls c t,(ig m=true/\Ig ls/\vr c t.data.toList=true)/\y=Xg m ls c t/\Y2 f=je m/\b=ls.map Bd++[mg++32::Ec c t]:=by
 obtain⟨h1,_⟩:=Af a e;obtain⟨m,ls,c,t,d,rfl⟩:=AB a (Di a (.inr (.inr (.inr (.inl rfl)))) h1 (by rw[hw];rfl));obtain⟨e1,g⟩:=qp e;refine⟨m,ls,c,t,d,rfl,?_,g⟩;rw[e1];exact(G8 U5).2
theorem sS(hw:Y1 f=Ul)(x:z_):OD [f] x false:=by
 refine RG (λy a e=>?_) x;obtain⟨m,ls,c,t,_,_,_,b⟩:=ZT a hw e;have:=G7 List.length b;simp at this
theorem tZ{g:List UInt8}{m:M3}{ls:List L4}{c:Int}{t:BY}{o1 o2 o3:Bool}(hw:Y1 f=Ul)(hm:Tz (Y2 f) m o1)(hl:Un b ls o2)(hr:PE (Y2 g) c t o3):
 (o1=true->o2=true->Y1 g=mg->o3=true->OD (f::(b++[g])) (Xg m ls c t) true)/\(¬(o1=true/\o2=true/\Y1 g=mg/\o3=true)->∀x,OD (f::(b++[g])) x false):=by
 have s:∀y,I9 y->f::(b++[g])=n_ y->(o1=true/\o2=true/\Y1 g=mg/\o3=true)/\Xg m ls c t=y:=by
  intro y a e;obtain⟨m',h,n,d,⟨k,j,i⟩,rfl,e1,E⟩:=ZT a hw e;obtain⟨D,l⟩:=List.append_inj' E rfl;have l:=(qp l).1;obtain⟨w1,o⟩:=G8 (r:=Ec n d) (show(32:UInt8)∉mg by decide);rw[<- l]at w1 o;obtain⟨a1,a2⟩:=hl.1 h j.2 D;obtain⟨I,H,F⟩:=hr.1 n d (Dh i).1 (Dh i).2 o;have ho:o1=true:=by
   cases o1
   ·exact absurd e1 (hm.2 rfl m' k)
   rfl
  have z:=oD (hm.1 ho).1 k (by rw[<- (hm.1 ho).2,e1]);exact⟨⟨ho,a1,w1,I⟩,by rw[z,a2,H,F]⟩
 constructor
 ·intro h1 h2 B A;refine⟨λy a e=>⟨rfl,(s y a e).2⟩,λ_ hx=>?_⟩;obtain⟨m',h,n,d,⟨k,j,i⟩,e⟩:=AB hx rfl;have C:ls=h:=G7 z_.ls e;have p:=hr.2 A;have v:Y2 g≠[]:=by rw[p];exact lF _ _
  have q:=(hm.1 h1).2;have u:Y2 f≠[]:=by rw[q];exact QM m
  show f::(b++[g])=(Ul++32::je m)::(ls.map Bd++[mg++32::Ec c t]);rw[<- q,<- p,<- hw,<- B,<- Ff v,<- Ff u,<- hl.2 h2 (by rw[C];exact j.2)]
 intro w x;exact RG (λy a e=>w (s y a e).1) x
def RE(l:List UInt8)(x:z_)(ok:Bool):Prop:=(ok=true->I9 x/\P_ x=l)/\(ok=false->∀y,I9 y->P_ y≠l)
theorem ZH{y:z_}(b:I9 y)(e:P_ y=l):Ti l=true/\Z8 10 l.dropLast=n_ y:=by
 have hc:=sH (n_ y) (uH b);have d:n_ y≠[]:=by unfold n_;(repeat' split)<;>simp
 have a:Ti l=true:=by
  rw[<- e];unfold P_;rcases Xx (n_ y)with h|⟨r,c,h⟩
  ·exact absurd h d
  rw[h,Px];have:ve (r++[c])=(ve r++c)++[10]:=by simp[ve]
  rw[this];exact JX _
 refine⟨a,?_⟩;have h2:=zB a;have:Z8 10 (l.dropLast++[10])=n_ y++[[]]:=by rw[<- h2,<- e];exact hc
 rw[jT]at this;exact List.append_cancel_right this
theorem a0D(h:Ti l=false)(x:z_):RE l x false:=by
 refine⟨(λh=>by cases h),λ_ y a e=>?_⟩;rw[(ZH a e).1]at h;cases h
theorem kX(h:16000<l.length)(x:z_):RE l x false:=by
 refine⟨(λh=>by cases h),λ_ y a e=>?_⟩;have:=UM a;rw[e]at this;omega
theorem dX{x:z_}(h:Ti l=true)(hr:OD (Z8 10 l.dropLast) x ok):(ok=true->I9 x->RE l x true)/\(¬(ok=true/\I9 x)->∀z,RE l z false):=by
 constructor
 ·intro h1 h2;refine⟨λ_=>⟨h2,?_⟩,(λh=>by cases h)⟩;unfold P_;rw[<- hr.2 h1 h2,sV];exact(zB h).symm
 intro d z;refine⟨(λh=>by cases h),λ_ y c e=>?_⟩;obtain⟨a,b⟩:=hr.1 y c (ZH c e).2;exact d ⟨a,by rw[b];exact c⟩
def Vl(ep:Int)(fn ft kn kt ka:BY)(cd:Int)(tx:BY)(ep2:Int)(fn2 ft2 kn2 kt2 ka2:BY)(cd2:Int)(tx2:BY)(la lb:Nat):Prop:=ep=ep2/\fn=fn2/\ft=ft2/\kn=kn2/\kt=kt2/\ka=ka2/\la=lb/\cd=cd2/\tx=tx2
theorem PV(kd ep cd x m d:Int)(fn ft kn kt b tx l k j i g c:BY)(B A:OA)(la lb z y:Nat)(w:World)(hla:la<=1048576)(hlb:lb<=1048576):
 Calls prog 199 #[.agg #[Sc Se kd,Sc Se ep,Sb fn,Sb ft,Sb kn,Sb kt,Sb b,Sa B la z,Sc Se cd,Sb tx],.agg #[Sc Se x,Sc Se m,Sb l,Sb k,Sb j,Sb i,Sb g,Sa A lb y,Sc Se d,Sb c]] w λe w'=>Yn (Vl ep fn ft kn kt b cd tx m l k j i g d c la lb) e/\Bw w w':=by
 have f:∀o p,Bw w ((w.alloc o).alloc p):=λo p=>U6.alloc J4 _;rcases(Ko (ep=m)).symm with e0|e0
 ·have a:Hid (Yn (Vl ep fn ft kn kt b cd tx m l k j i g d c la lb) (Sf (.bool false))):=T_ (λh=>e0 h.1)
  go_in
  go_wp2
  all_goals go_ret
  all_goals exact⟨a.o,f _ _⟩
 obtain rfl:=e0;rcases(Ko (fn.toList=l.toList)).symm with e1|e1
 ·have a:Hid (Yn (Vl ep fn ft kn kt b cd tx ep l k j i g d c la lb) (Sf (.bool false))):=T_ (λh=>e1 (by rw[h.2.1]))
  go_in
  go_wp2
  all_goals go_ret
  all_goals exact⟨a.o,f _ _⟩
 obtain rfl:=(Nq _ _).1 e1;clear e1;rcases(Ko (ft.toList=k.toList)).symm with t|t
 ·have a:Hid (Yn (Vl ep fn ft kn kt b cd tx ep fn k j i g d c la lb) (Sf (.bool false))):=T_ (λh=>t (by rw[h.2.2.1]))
  go_in
  go_wp2
  all_goals go_ret
  all_goals exact⟨a.o,f _ _⟩
 obtain rfl:=(Nq _ _).1 t;clear t;rcases(Ko (kn.toList=j.toList)).symm with s|s
 ·have a:Hid (Yn (Vl ep fn ft kn kt b cd tx ep fn ft j i g d c la lb) (Sf (.bool false))):=T_ (λh=>s (by rw[h.2.2.2.1]))
  go_in
  go_wp2
  all_goals go_ret
  all_goals exact⟨a.o,f _ _⟩
 obtain rfl:=(Nq _ _).1 s;clear s;rcases(Ko (kt.toList=i.toList)).symm with r|r
 ·have a:Hid (Yn (Vl ep fn ft kn kt b cd tx ep fn ft kn i g d c la lb) (Sf (.bool false))):=T_ (λh=>r (by rw[h.2.2.2.2.1]))
  go_in
  go_wp2
  all_goals go_ret
  all_goals exact⟨a.o,f _ _⟩
 obtain rfl:=(Nq _ _).1 r;clear r;rcases(Ko (b.toList=g.toList)).symm with q|q
 ·have a:Hid (Yn (Vl ep fn ft kn kt b cd tx ep fn ft kn kt g d c la lb) (Sf (.bool false))):=T_ (λh=>q (by rw[h.2.2.2.2.2.1]))
  go_in
  go_wp2
  all_goals go_ret
  all_goals exact⟨a.o,f _ _⟩
 obtain rfl:=(Nq _ _).1 q;clear q;rcases(Ko (la=lb)).symm with u|u
 ·have a:Hid (Yn (Vl ep fn ft kn kt b cd tx ep fn ft kn kt b d c la lb) (Sf (.bool false))):=T_ (λh=>u h.2.2.2.2.2.2.1);have hlen2:¬(la:Int)=(lb:Int):=O0
  go_in
  go_wp2
  all_goals go_ret
  all_goals exact⟨a.o,f _ _⟩
 obtain rfl:=u;rcases(Ko (cd=d)).symm with v|v
 ·have a:Hid (Yn (Vl ep fn ft kn kt b cd tx ep fn ft kn kt b d c la la) (Sf (.bool false))):=T_ (λh=>v h.2.2.2.2.2.2.2.1)
  go_in
  go_wp2
  all_goals go_ret
  all_goals exact⟨a.o,f _ _⟩
 obtain rfl:=v;rcases(Ko (tx.toList=c.toList)).symm with n|n
 ·have a:Hid (Yn (Vl ep fn ft kn kt b cd tx ep fn ft kn kt b cd c la la) (Sf (.bool false))):=T_ (λh=>n (by rw[h.2.2.2.2.2.2.2.2]))
  go_in
  go_wp2
  all_goals go_ret
  all_goals exact⟨a.o,f _ _⟩
 obtain rfl:=(Nq _ _).1 n;clear n;have a:Hid (Yn (Vl ep fn ft kn kt b cd tx ep fn ft kn kt b cd tx la la) (Sf (.bool true))):=Yk ⟨rfl,rfl,rfl,rfl,rfl,rfl,rfl,rfl,rfl⟩
 go_in
 go_wp2
 all_goals go_ret
 all_goals exact⟨a.o,f _ _⟩
theorem a3y(w:World)(x y z q:Value)(t:TypeId):∀j u,[x,y,z,q][j]?=some u->(w.alloc (.cells #[x,y,z,q] t)).cell? ((⟨w.heap.size,0,none⟩:Addr).add j)=some u:=by
 intro j u h
 match j,h with
 | 0,h=>simp at h;subst h;simp[Addr.add]
 | 1,h=>simp at h;subst h;simp[Addr.add]
 | 2,h=>simp at h;subst h;simp[Addr.add]
 | 3,h=>simp at h;subst h;simp[Addr.add]
theorem a0l{g:Nat}(a:g=w.heap.size)(x y z q:Value)(t:TypeId):∀j u,[x,y,z,q][j]?=some u->(w.alloc (.cells #[x,y,z,q] t)).cell? ((⟨g,0,none⟩:Addr).add j)=some u:=by
 subst a;exact a3y w x y z q t
theorem iI(is:List L4)(x:L4):YI (is++[x])=YI is++[.bool x.has,Sb x.nm,Sc Se x.cd,Sb x.tx]:=by simp[YI]
def AV(ss:List (List UInt8))(k:Nat)(xs:List L4):Prop:=xs.length=k/\∀i,i<k->Bo (ss.getD i []) (xs.getD i K_) true/\(xs.getD i K_).le 1048576
theorem GN{k:Nat}{x:L4}(h:AV ss k xs)(hr:Bo (ss.getD k []) x true)(hx:x.le 1048576):AV ss (k+1) (xs++[x]):=by
 obtain⟨h1,h2⟩:=h;refine⟨by simp[h1],λi hi=>?_⟩;rcases Z7 i k with hk|hk
 ·have e:(xs++[x]).getD i K_=xs.getD i K_:=by
   simp only[Qk];rw[D_ O0]
  rw[e];exact h2 i hk
 obtain rfl:i=k:=O0;have e:(xs++[x]).getD i K_=x:=by
  simp only[Qk];rw[Yf O0,h1];simp
 rw[e];exact⟨hr,hx⟩
theorem vH(h:AV ss ss.length xs):Un ss xs true/\∀i,(xs.getD i K_).le 1048576:=by
 refine⟨LH h.1 λi a=>(h.2 i a).1,λi=>?_⟩;rcases Z7 i ss.length with a|a
 ·exact(h.2 i a).2
 have:xs.getD i K_=K_:=by
  simp only[Qk];rw[Eb (by have:=h.1;omega)];rfl
 rw[this];exact⟨Y4 _,Y4 _⟩
def MZ(w w':World)(ss:List (List UInt8))(e:Ending):Prop:=∃(xs:List L4)(ok:Bool)(ao:OA)(c:Nat),e=Sf (.tuple #[Sa ao xs.length c,.bool ok])/\Un ss xs ok/\(∀i,(xs.getD i K_).le 1048576)/\xs.length<=ss.length/\Fh w' w.heap.size ao xs
theorem a5e(B o cp:Nat)(ss:List (List UInt8))(w:World)(z:Vd w)(hc:Ej w B o ss)(s:∀i,i<ss.length->(ss.getD i []).length<=16000)(hl:ss.length<=16001):
 Calls prog 298 #[Sa (some ⟨B,o,none⟩) ss.length cp] w λe w'=>MZ w w' ss e/\Bw w w':=by
 obtain⟨C,A,F,E,D⟩:=info_parts FM;have S:=U0 hc;have R:=U0 z;have P:=U0 s;have N:=hc.1;clear hc s z
 go_in
 go_wp2;go_loopw[4,11] (λv i wr=>∃(k:Nat)(xs:List L4),k<=ss.length/\i=Sc Se k/\wr.ownsRow w.heap.size 213 4 v k (YI xs)/\Hid (AV ss k xs)/\Below w.heap.size w wr) (λ_ i _=>ss.length-(RowKit.intOf i).toNat);exact⟨0,[],Y4 _,rfl,⟨rfl,.inl ⟨rfl,rfl⟩⟩,⟨rfl,λi A=>O0⟩,O4 _ _⟩;obtain⟨k,xs,hk,rfl,g,ha,b⟩:=hrel;by_cases l:k<ss.length
 ·have hcell:=(b.cell (by exact N)).trans (S.o.2 k l);have hr:=P.o k l;have I:=S9 R.o b;have p:Hid (∀x,Bo (ss.getD k []) x false->Un ss [] false):=λx h=>XJ l h [];have n:Hid (∀x:L4,Bo (ss.getD k []) x true->x.le 1048576->AV ss (k+1) (xs++[x])):=λx h1 h2=>GN ha.o h1 h2;have hz0':=b.size;generalize ss.getD k []=t at*
  go_wp2_with fail
  refine(a4j t _ hr (S9 I ?drw)).mono ?_
  case drw=>first|exact O4 _ _|exact(O4 _ _).drew|exact(O4 _ _).drew.drew
  rintro e w1⟨⟨x,ok,rfl,d,hx⟩,m⟩;have q:Hid (Bw wr w1):=by first|exact m|exact((O4 _ _).drew).trans m
  have y:=Yx g q.o;have hz1':=q.o.size;have f:=E5 b q.o;clear m g;unfold L4.v;cases ok
  ·have Q:Hid (∀u,MZ w u ss (Sf (.tuple #[vN,.bool false]))):=λu=>⟨[],false,none,0,rfl,p.o x d,λi=>⟨Y4 _,Y4 _⟩,Y4 _,.inl rfl,.inl rfl⟩;clear p n d;go_wp2;go_ret2;exact⟨Q.o _,f.alloc f.size _⟩
  have a:=U0 (n.o x d hx);clear p n d
  go_wp2_with(at_builtin;refine wpList_append_own _ rfl _ _ 116 rfl w.heap.size 213 C (.agg #[.bool false,Sb ⟨#[]⟩,Sc Se 0,Sb ⟨#[]⟩]) 4 48 underlying116 A F E D rfl U5 _ _ _ rfl ((y.alloc _).alloc _) ⟨w1.heap.size+1,0,none⟩ 1 1 [_,_,_,_] rfl rfl (a0l J4 _ _ _ _ _) (by intro u r;simp at r;rcases r with rfl|rfl|rfl|rfl<;>rfl) (by unfold maxLen;omega) O0 L8 ?_;intro v' w2 H L _)
  go_roundw
  ·have O:=((f.alloc f.size _).alloc L8 _).grown L L8 (λj K=>(y.lt j K).1);refine⟨k+1,xs++[x],O0,by go_num,?_,a,O⟩;rw[iI];exact H
  exact V9
 have a:Hid (Un ss xs true/\(∀i,(xs.getD i K_).le 1048576)/\xs.length=ss.length):=by
  obtain rfl:k=ss.length:=O0;exact⟨(vH ha.o).1,(vH ha.o).2,ha.o.1⟩
 obtain rfl:k=ss.length:=O0;obtain⟨ao,c,hv,J⟩:=TK g a.o.2.2.symm;subst hv;go_wp2;go_ret2;exact⟨⟨xs,true,ao,c,by rw[a.o.2.2];rfl,a.o.1,a.o.2.1,by rw[a.o.2.2];exact Y7 _,J⟩,b⟩
def kW(x:z_)(ai:OA)(ci:Nat):Value:=if x.kd=1 then .iface 306 (Sc Se x.ep) else if x.kd=2 then .iface 307 (.agg #[Sb x.fn,Sb x.ft]) else if x.kd=3 then .iface 308 (Sb x.fn) else if x.kd=4 then .iface 310 (.agg #[Sb x.km.nm,Sb x.km.tl,Sb x.km.ar,Sa ai x.ls.length ci,Sc Se x.cd,Sb x.tx]) else .iface 313 (.agg #[])
def ShE(x:z_):Prop:=(∃n,x=A_ n)\/(∃a b,x=Mc a b)\/(∃a,x=Oc a)\/(∃m ls c t,x=Xg m ls c t)\/x=Ua
theorem Fh.bel{w':World}{B:Nat}{ao:OA}{is:List L4}(h:Fh w B ao is)(a:Bw w w'):Fh w' B ao is:=
 ⟨Q7 h.at' a,h.own.imp id λ⟨g,h1,h2,b⟩=>⟨g,h1,h2,b.below a⟩⟩
def a1a(L:List (List UInt8))(w w':World)(e:Ending):Prop:=(∃v,e=Sf (.tuple #[v,.bool false])/\∀z,OD L z false)\/(∃(x:z_)(ai:OA)(ci:Nat),e=Sf (.tuple #[kW x ai ci,.bool true])/\OD L x true/\ShE x/\x.le 1048576/\Fh w' w.heap.size ai x.ls)
theorem Tn(h:∀z,OD L z false)(w w':World):a1a L w w' (Sf (.tuple #[.nilIface,.bool false])):=.inl ⟨_,rfl,h⟩
theorem a4n(f p:List UInt8)(b:List (List UInt8))(g o cp:Nat)(w:World)(W:Y2 f=p)(hw:Y1 f=Ul)(hs:p.length<=16000)(A:Vd w)(hb:b.length<=16001)(hcp:b.length<=cp)(B:Ej w g o b)(I:∀i,i<b.length->(b.getD i []).length<=16000):
 Calls prog 261 #[Sb (U3 p),Sa (some ⟨g,o,none⟩) b.length cp] w λe w'=>a1a (f::b) w w' e/\Bw w w':=by
 rcases Xx b with n|⟨j,last,n⟩
 ·subst n;have l:Hid (∀z,OD [f] z false):=λz=>sS hw z
  go_in
  go_wp2;go_ret2;exact⟨Tn l _ _,O4 _ _⟩
 rw[Px]at n;have HL:=U0 B;have hlen:b.length=j.length+1:=by rw[n];simp
 have Z:Ej w g o j:=⟨B.1,λi F=>(B.2 i O0).trans (by rw[n];simp only[Qk];rw[D_ F])⟩;have cl:w.cell? (aA g (o+j.length))=some (vS (U3 last)):=(B.2 j.length O0).trans (by rw[n];simp only[Qk];rw[Yf A8];simp);have a8w:∀i,i<j.length->(j.getD i []).length<=16000:=λi F=>by
  have h:=I i O0;rw[n]at h;simp only[Qk]at h ⊢;rw[D_ F]at h;exact h
 have hll:last.length<=16000:=by
  have h:=I j.length O0;rw[n]at h;simp only[Qk]at h;rw[Yf A8]at h;simpa using h
 have hg:=B.1;have hne:¬(b.length=0):=O0;have hbl:j.length<=16000:=O0;have hcp2:j.length+1<=cp:=O0;rw[hlen]
 go_in
 have hwr:wrap64 (j.length:Int)=(j.length:Int):=IntWalk.wrap64_in _ O0;have J:=λ(m:M3) (ls:List L4) (c:Int) (t:BY) (o1 o2 o3:Bool) hm hl hr=>tZ (f:=f) (g:=last) (b:=j) (m:=m) (ls:=ls) (c:=c) (t:=t) (o1:=o1) (o2:=o2) (o3:=o3) hw hm hl hr;rw[W,<- n]at J
 go_wp2_with fail
 refine(a4d p _ hs A).mono ?_;rintro e w1⟨⟨m,o1,rfl,hm⟩,H⟩;have hm1:=S9 A H;have R:=H.size;unfold M3.v;have D:=λE=>H.alloc R E;have cl1:=λE=>((D E).cell (by exact hg)).trans cl;have hcc:¬cp<j.length:=O0
 go_wp2_with fail
 refine(a5e g o cp j _ (S9 A (D _)) (Rt Z (D _)) a8w O0).mono ?_;rintro e x⟨⟨ls,o2,ao,ac,rfl,V,a8x,hlc,hlk⟩,u⟩;have q:(w1.alloc (.cells #[vS m.nm,vS m.tl,vS m.ar] 142)).heap.size=w1.heap.size+1:=J4;have hz2:w1.heap.size+1<=x.heap.size:=by have h:=u.size;rw[q]at h;exact h
 have L:=(D _).trans (u.mono (by rw[q];omega));have cl2:=(u.cell (by rw[q];show g<_;omega)).trans (cl1 _);have m0:x.cell? (aW w1 0)=some (vS m.nm):=(u.cell (by rw[q];exact Vj _)).trans (by simp[go_sem]);have m1:x.cell? (aW w1 1)=some (vS m.tl):=(u.cell (by rw[q];exact Vj _)).trans (by simp[go_sem]);have m2:x.cell? (aW w1 2)=some (vS m.ar):=(u.cell (by rw[q];exact Vj _)).trans (by simp[go_sem]);have hlk2:Fh x w.heap.size ao ls:=hlk.mono (by rw[q];omega);have Y:=S9 A L;have hrs:=X8 last
 go_wp2_with fail
 refine(IL last _ O0 Y).mono ?_;rintro e w3⟨⟨y,rfl⟩,s⟩;have K:=E5 L s;have X:=S9 A K;have a8y:=Fh.bel hlk2 s;have Q:=(s.cell (by show w1.heap.size<_;omega)).trans m0;have n1:=(s.cell (by show w1.heap.size<_;omega)).trans m1;have n2:=(s.cell (by show w1.heap.size<_;omega)).trans m2;have hz3:=s.size
 go_wp2_with fail
 refine(a3O (Y2 last) _ O0 X).mono ?_;rintro e w4⟨⟨c,t,o3,rfl,U,S⟩,r⟩;have d:=E5 K r;have a8z:=Fh.bel a8y r;have P:=(r.cell (by show w1.heap.size<_;omega)).trans Q;have O:=(r.cell (by show w1.heap.size<_;omega)).trans n1;have N:=(r.cell (by show w1.heap.size<_;omega)).trans n2;have hz4:=r.size;have hR:=J m ls c t o1 o2 o3 hm V U;have hKS:o1=true->m.le 1048576:=λh=>by
  have a:=EF (hm.1 h).1;simp only[Uy,ByteArray.size_data]at a;exact⟨O0,O0,O0⟩
 have hgv:((U3 (Y1 last)).toList==[103,97,118,101])=decide (Y1 last=mg):=by
  rw[ByteArray.toList_eq,a_];by_cases h:Y1 last=mg
  ·rw[X_ h,h];rfl
  rw[j_ h];exact S_.2 h
 have C:(o1=false\/o2=false\/decide (Y1 last=mg)=false\/o3=false)->Hid (∀z,OD (f::b) z false):=λh=>hR.2 (λk=>by
  rcases h with h|h|h|h
  ·rw[h]at k;cases k.1
  ·rw[h]at k;cases k.2.1
  ·rw[Xu]at h;exact h k.2.2.1
  rw[h]at k;cases k.2.2.2)
 have a8A:o1=true->o2=true->decide (Y1 last=mg)=true->o3=true->Hid (OD (f::b) (Xg m ls c t) true):=λh1 h2 h3 h4=>hR.1 h1 h2 (TA h3) h4;generalize decide (Y1 last=mg)=gv at*;generalize U3 (Y1 last)=wl at*;cases o1
 ·have l:=C (.inl rfl);go_wp2
  all_goals go_ret2
  all_goals exact⟨Tn l.o _ _,by first|exact d|exact d.alloc d.size _⟩
 cases o2
 ·have l:=C (.inr (.inl rfl));go_wp2
  all_goals go_ret2
  all_goals exact⟨Tn l.o _ _,by first|exact d|exact d.alloc d.size _⟩
 cases gv
 ·have l:=C (.inr (.inr (.inl rfl)));go_wp2
  all_goals go_ret2
  all_goals exact⟨Tn l.o _ _,by first|exact d|exact d.alloc d.size _⟩
 cases o3
 ·have l:=C (.inr (.inr (.inr rfl)));go_wp2
  all_goals go_ret2
  all_goals exact⟨Tn l.o _ _,by first|exact d|exact d.alloc d.size _⟩
 have l:=a8A rfl rfl rfl rfl;have HKS:=hKS rfl;have q0:=past (p:=(aW w1 0)) (by show w1.heap.size<_;omega) P;have q1:=past (p:=(aW w1 1)) (by show w1.heap.size<_;omega) O;have q2:=past (p:=(aW w1 2)) (by show w1.heap.size<_;omega) N;go_wp2;go_ret2;exact⟨.inr ⟨Xg m ls c t,ao,ac,rfl,l,.inr (.inr (.inr (.inl ⟨m,ls,c,t,rfl⟩))),⟨Y4 _,Y4 _,HKS,⟨by show ls.length<=1048576;omega,a8x⟩,S⟩,a8z.bel U6⟩,d.alloc d.size _⟩
theorem xG(x:z_)(h1:x.fn.size<=1048576)(h2:x.ft.size<=1048576)(c:x.km=J_)(b:x.ls=[])(a:x.tx=⟨#[]⟩):x.le 1048576:=by
 refine⟨h1,h2,?_,?_,?_⟩
 ·rw[c];exact⟨Y4 _,Y4 _,Y4 _⟩
 ·rw[b];exact⟨Y4 _,λ_=>⟨Y4 _,Y4 _⟩⟩
 rw[a];exact Y4 _
theorem xq(l w:List UInt8):((U3 (Y1 l)).toList==w)=decide (Y1 l=w):=by
 rw[ByteArray.toList_eq,a_];by_cases h:Y1 l=w
 ·rw[X_ h,h];simp
 rw[j_ h];exact S_.2 h
theorem a0a(l:List UInt8)(w:World)(hs:l.length<=1048700)(hm:Vd w):
 Calls prog 256 #[Sb (U3 l),Sb ⟨#[32]⟩] w λe w'=>e=Sf (.tuple #[Sb (U3 (Y1 l)),Sb (U3 (Y2 l)),.bool (decide ((32:UInt8)∈l))])/\Bw w w':=by
 obtain⟨_,m,hm⟩:=hm;refine(Tryz.strings_Cut (U3 l) ⟨#[32]⟩ m w (by rw[I5];omega) hm).mono ?_;rintro e w'⟨rfl,n,rfl⟩;refine⟨?_,below_drewN n⟩;have b:(Lib.cut l [32]).2.2=decide ((32:UInt8)∈l):=by
  unfold Lib.cut;rcases Nv l with⟨h,a⟩|⟨i,h,hm,_,_⟩
  ·rw[h,U7 O0,j_ a]
  rw[h,D8 O0,X_ hm]
 rw[<- IK,<- LG,<- b];rfl
theorem c218(f:List UInt8)(b:List (List UInt8))(g:Nat)(w:World)(hs:f.length<=16000)(D:Vd w)(Y:b.length<=16001)(q:Ej w g 0 (f::b))(W:∀i,i<b.length->(b.getD i []).length<=16000):
 Calls prog 218 #[Sa (some ⟨g,0,none⟩) (b.length+1) (b.length+1)] w λe w'=>a1a (f::b) w w' e/\Bw w w':=by
 have c0:w.cell? (aA g 0)=some (vS (U3 f)):=q.2 0 J4;have S:Ej w g 1 b:=⟨q.1,λi F=>by
  have h:=q.2 (i+1) L8;rw[Y8]at h;rw[Nat.add_comm 1 i,h];rfl⟩
 have V:=q.1;obtain⟨o1,ho1,R⟩:∃o1,(if b=[] then some (aA g 0) else some (aA g 1))=some (aA g o1)/\Ej w g o1 b:=by
  by_cases C:b=[]
  ·exact⟨0,by rw[D8 C],V,λi F=>by subst C;cases F⟩
  exact⟨1,by rw[U7 C],S⟩
 have hrs:=X8 f;have HBS:=U0 W
 go_in
 go_wp2_with fail
 refine(a0a f _ O0 D).mono ?_;rintro e w1⟨rfl,c⟩;have E:=S9 D c;have U:=Rt R c;have O:=xq f [114,97,110];have N:=xq f [101,112,111,99,104];have L:=xq f [102,105,108,101];have K:=xq f [100,114,111,112];have J:=xq f [99,108,101,97,114];by_cases j:Y1 f=Ul
 ·rw[show(decide (Y1 f=[114,97,110]))=true from X_ j]at O;have Z:=λu=>a4n f (Y2 f) b g o1 b.length u rfl j O0;generalize U3 (Y1 f)=wd at*;have hif:¬((b.length:Int)+1<1):=O0
  go_wp2_with fail
  refine(Z _ E Y A8 U HBS).mono ?_;rintro e s⟨hr,B⟩;have I:=E5 c B;rcases hr with⟨v,rfl,p⟩|⟨x,P,ci,rfl,h1,h2,h3,h4⟩
  ·have a:=U0 p;go_wp2;go_ret2;exact⟨.inl ⟨v,rfl,a⟩,I⟩
  have a:Hid (OD (f::b) x true/\ShE x/\x.le 1048576/\Fh s w.heap.size P x.ls):=⟨h1,h2,h3,h4.mono c.size⟩;go_wp2;go_ret2;exact⟨.inr ⟨x,P,ci,rfl,a.o.1,a.o.2.1,a.o.2.2.1,a.o.2.2.2⟩,I⟩
 rw[show(decide (Y1 f=[114,97,110]))=false from j_ j]at O;by_cases A:b=[]
 ·subst A;by_cases n:Y1 f=Je
  ·rw[show(decide (Y1 f=[101,112,111,99,104]))=true from X_ n]at N;have a:=U0 (jO n);generalize U3 (Y1 f)=wd at*
   go_wp2_with fail
   refine(PZ 200 (U3 (Y2 f)) _ (by rw[I5];omega) O0 O0).mono ?_;rintro e s⟨rfl,rfl⟩;rw[a_];cases p:Oi 200 (Y2 f)
   ·rw[p]at a;go_wp2;go_ret2;exact⟨.inl ⟨_,rfl,λz=>⟨λy d e=>absurd (a.o.1 y d e).1 U5,(λh=>by cases h)⟩⟩,c⟩
   rw[p]at a;go_wp2;go_ret2;exact⟨.inr ⟨A_ (ZI 200 (Y2 f)),none,0,rfl,a,.inl ⟨_,rfl⟩,xG _ (Y4 _) (Y4 _) rfl rfl rfl,⟨.inl rfl,.inl rfl⟩⟩,c⟩
  rw[show(decide (Y1 f=[101,112,111,99,104]))=false from j_ n]at N;by_cases m:Y1 f=Si
  ·rw[show(decide (Y1 f=[102,105,108,101]))=true from X_ m]at L;have HNf:=λt ok o=>fU (f:=f) (t:=t) (ok:=ok) m o;have a7t:=X8 (Y2 f);generalize U3 (Y1 f)=wd at*
   go_wp2_with fail
   refine(a0a (Y2 f) _ O0 E).mono ?_;rintro e s⟨rfl,B⟩
   go_wp2_with fail
   refine(NT (Y2 (Y2 f)) _ O0).mono ?_;rintro e w3⟨⟨t,ok,rfl,o⟩,X⟩;have a:=U0 (HNf t ok o);have Q:ok=true->t.length<=16000:=λh=>by
    have:=Fp t;rw[<- o.1 h]at this;omega
   have H:=c.trans ((E5 B X).mono c.size);cases ok
   ·go_wp2;go_ret2;exact⟨.inl ⟨_,rfl,λz=>⟨λy d e=>absurd (a.o.1 y d e).1 U5,(λh=>by cases h)⟩⟩,H⟩
   have a9k:=Q rfl;go_wp2;go_ret2;exact⟨.inr ⟨Mc (U3 (Y1 (Y2 f))) (U3 t),none,0,rfl,a,.inr (.inl ⟨_,_,rfl⟩),xG _ (by show(U3 (Y1 (Y2 f))).size<=1048576;rw[I5];omega) (by show(U3 t).size<=1048576;rw[I5];omega) rfl rfl rfl,⟨.inl rfl,.inl rfl⟩⟩,H⟩
  rw[show(decide (Y1 f=[102,105,108,101]))=false from j_ m]at L;by_cases l:Y1 f=Qh
  ·rw[show(decide (Y1 f=[100,114,111,112]))=true from X_ l]at K;have a:=U0 (YS l);generalize U3 (Y1 f)=wd at*;go_wp2;go_ret2;exact⟨.inr ⟨Oc (U3 (Y2 f)),none,0,rfl,a,.inr (.inr (.inl ⟨_,rfl⟩)),xG _ (by show(U3 (Y2 f)).size<=1048576;rw[I5];omega) (Y4 _) rfl rfl rfl,⟨.inl rfl,.inl rfl⟩⟩,c⟩
  rw[show(decide (Y1 f=[100,114,111,112]))=false from j_ l]at K;by_cases k:Y1 f=qh
  ·rw[show(decide (Y1 f=[99,108,101,97,114]))=true from X_ k]at J;have a:=U0 (ZO k);generalize U3 (Y1 f)=wd at*;by_cases r:(32:UInt8)∈f
   ·rw[show decide ((32:UInt8)∉f)=false from j_ (λh=>h r)]at a;rw[X_ r];go_wp2;go_ret2;exact⟨.inl ⟨_,rfl,λz=>⟨λy d e=>absurd (a.o.1 y d e).1 U5,(λh=>by cases h)⟩⟩,c⟩
   rw[show decide ((32:UInt8)∉f)=true from X_ r]at a;rw[j_ r];go_wp2;go_ret2;exact⟨.inr ⟨Ua,none,0,rfl,a,.inr (.inr (.inr (.inr rfl))),xG _ (Y4 _) (Y4 _) rfl rfl rfl,⟨.inl rfl,.inl rfl⟩⟩,c⟩
  rw[show(decide (Y1 f=[99,108,101,97,114]))=false from j_ k]at J;have a:Hid (∀z,OD [f] z false):=λz=>zT j n m l k z;generalize U3 (Y1 f)=wd at*;go_wp2;go_ret2;exact⟨Tn a _ _,c⟩
 have a:Hid (∀z,OD (f::b) z false):=λz=>zV j A z;have hbl:1<=b.length:=dm.2 A;have hb1':decide (1<(b.length:Int)+1)=true:=L8;generalize U3 (Y1 f)=wd at*;go_wp2;go_ret2;exact⟨Tn a _ _,c⟩
theorem a6E (v:Value) (w:World):(Go.method 621 306 v "loop.example/kiln/impl.isSound").run prog w=.ok (409,v) w:=Y0
theorem a5I (v:Value) (w:World):(Go.method 621 307 v "loop.example/kiln/impl.isSound").run prog w=.ok (412,v) w:=Y0
theorem a5s (v:Value) (w:World):(Go.method 621 308 v "loop.example/kiln/impl.isSound").run prog w=.ok (414,v) w:=Y0
theorem a5r (v:Value) (w:World):(Go.method 621 310 v "loop.example/kiln/impl.isSound").run prog w=.ok (416,v) w:=Y0
theorem a5Q (v:Value) (w:World):(Go.method 621 313 v "loop.example/kiln/impl.isSound").run prog w=.ok (418,v) w:=Y0
theorem PI(n:Int):I9 (A_ n)↔(1<=n/\n<=200):=by
 constructor
 ·intro h;obtain⟨m,hm,e⟩:=Ru h rfl;have:n=m:=G7 z_.ep e;rw[this];exact hm
 intro h;exact .inl ⟨n,h,rfl⟩
theorem SK(a b:BY):I9 (Mc a b)↔(Y5 a.data.toList=true/\b.size<=300):=by
 constructor
 ·intro h;obtain⟨d,b',hm,e⟩:=Uz h rfl;have e1:a=d:=G7 z_.fn e;have c:b=b':=G7 z_.ft e;rw[e1,c];exact hm
 intro h;exact .inr (.inl ⟨a,b,h,rfl⟩)
theorem PL(a:BY):I9 (Oc a)↔Y5 a.data.toList=true:=by
 constructor
 ·intro h;obtain⟨b,hm,e⟩:=Qu h rfl;have e1:a=b:=G7 z_.fn e;rw[e1];exact hm
 intro h;exact .inr (.inr (.inl ⟨a,h,rfl⟩))
theorem KT(m:M3)(ls:List L4)(c:Int)(t:BY):I9 (Xg m ls c t)↔Fg m ls c t:=by
 constructor
 ·intro h;obtain⟨m',b,i,a,hm,e⟩:=AB h rfl;have e1:m=m':=G7 z_.km e;have g:ls=b:=G7 z_.ls e;have f:c=i:=G7 z_.cd e;have d:t=a:=G7 z_.tx e;rw[e1,g,f,d];exact hm
 intro h;exact .inr (.inr (.inr (.inl ⟨m,ls,c,t,h,rfl⟩)))
def vV(l:List UInt8)(w w':World)(e:Ending):Prop:=(e=Sf (.tuple #[.nilIface,.bool false])/\∀z,RE l z false)\/(∃(x:z_)(ai:OA)(ci:Nat),e=Sf (.tuple #[kW x ai ci,.bool true])/\RE l x true/\ShE x/\x.le 1048576/\Fh w' w.heap.size ai x.ls)
theorem a5c(s:BY)(w:World)(hs:s.size<=1048576)(H:Vd w):
 Calls prog 163 #[Sb s] w λe w'=>vV s.data.toList w w' e/\Bw w w':=by
 have hsl:s.data.toList.length=s.size:=J4;by_cases h16:s.size<=16000
 ·have hd:decide (16000<(s.size:Int))=false:=L8
  go_in
  go_wp2_with fail
  refine(a5j s _ O0 H).mono ?_;rintro e w1⟨hr,D⟩;rcases hr with⟨F,rfl⟩|⟨F,g,rfl,hg0,I⟩
  ·have d:Hid (∀z,RE s.data.toList z false):=λz=>a0D F z;go_wp2;go_ret2;exact⟨.inl ⟨rfl,d⟩,D⟩
  have N:=Zn 10 s.data.toList.dropLast;have J:s.data.toList.dropLast.length<=16000:=by rw[List.length_dropLast];omega
  have K:=zi 10 s.data.toList.dropLast;have O:=λx ok hr=>dX (l:=s.data.toList) (x:=x) (ok:=ok) F hr;generalize Z8 10 s.data.toList.dropLast=L at*;obtain⟨f,b,rfl⟩:∃f b,L=f::b:=by
   cases L with
   | nil=>simp at N
   | cons f b=>exact⟨f,b,rfl⟩
  have U:f.length<=16000:=X7 (K 0) J;have V:∀i,i<b.length->(b.getD i []).length<=16000:=λi _=>X7 (K (i+1)) J;have W:b.length<=16001:=by simp at N;omega
  have R:Ej w1 g 0 (f::b):=⟨I.1,λi S=>by rw[Y8];exact I.2 i S⟩;have Q:=S9 H D;simp only[f_]
  go_wp2_with fail
  refine(c218 f b g _ U Q W R V).mono ?_;rintro e w2⟨hr,X⟩;have A:=E5 D X;rcases hr with⟨v,rfl,P⟩|⟨x,u,q,rfl,h1,h2,p,Y⟩
  ·have d:=U0 ((O Fj false (P _)).2 (λh=>by cases h.1));go_wp2;go_ret2;exact⟨.inl ⟨rfl,d⟩,A⟩
  have hR:=O x true h1;have B:=Y.mono D.size;rcases h2 with⟨n,rfl⟩|⟨a,c,rfl⟩|⟨a,rfl⟩|⟨m,ls,c,t,rfl⟩|rfl
  ·have E:=a6E;have he:kW (A_ n) u q=.iface 306 (vI n):=rfl;rw[he]
   go_wp2_with fail
   refine(a4S n _).mono ?_;rintro e C⟨⟨r,rfl,o⟩,j⟩;have k:=E5 A j;have y:=Fh.bel B j;cases r
   ·have d:=U0 (hR.2 (λh=>absurd (o.2 ((PI n).1 h.2)) U5));go_wp2;go_ret2;exact⟨.inl ⟨rfl,d⟩,k⟩
   have d:=U0 (hR.1 (by first|rfl|trivial) ((PI n).2 (o.1 rfl)));go_wp2;go_ret2;exact⟨.inr ⟨A_ n,u,q,rfl,d,.inl ⟨_,rfl⟩,p,y⟩,k⟩
  ·have E:=a5I;have he:kW (Mc a c) u q=.iface 307 (.agg #[vS a,vS c]):=rfl;rw[he]
   go_wp2_with fail
   refine(a6f a c _ (X7 p.1 O0) (X7 p.2.1 O0)).mono ?_;rintro e C⟨⟨r,rfl,o⟩,j⟩;have k:=E5 A j;have y:=Fh.bel B j;cases r
   ·have d:=U0 (hR.2 (λh=>absurd (o.2 ((SK a c).1 h.2)) U5));go_wp2;go_ret2;exact⟨.inl ⟨rfl,d⟩,k⟩
   have d:=U0 (hR.1 (by first|rfl|trivial) ((SK a c).2 (o.1 rfl)));go_wp2;go_ret2;exact⟨.inr ⟨Mc a c,u,q,rfl,d,.inr (.inl ⟨_,_,rfl⟩),p,y⟩,k⟩
  ·have E:=a5s;have he:kW (Oc a) u q=.iface 308 (vS a):=rfl;rw[he]
   go_wp2_with fail
   refine(a4x a _ (X7 p.1 O0)).mono ?_;rintro e C⟨⟨r,rfl,o⟩,j⟩;have k:=E5 A j;have y:=Fh.bel B j;cases r
   ·have d:=U0 (hR.2 (λh=>absurd (o.2 ((PL a).1 h.2)) U5));go_wp2;go_ret2;exact⟨.inl ⟨rfl,d⟩,k⟩
   have d:=U0 (hR.1 (by first|rfl|trivial) ((PL a).2 (o.1 rfl)));go_wp2;go_ret2;exact⟨.inr ⟨Oc a,u,q,rfl,d,.inr (.inr (.inl ⟨_,rfl⟩)),p,y⟩,k⟩
  ·have E:=a5r;have he:kW (Xg m ls c t) u q=.iface 310 (.agg #[vS m.nm,vS m.tl,vS m.ar,vL u ls.length q,vI c,vS t]):=rfl;rw[he]
   go_wp2_with fail
   refine(a4H m ls c t u q _ p.2.2.1 p.2.2.2.1.1 p.2.2.2.1.2 p.2.2.2.2 B.at').mono ?_;rintro e C⟨⟨r,rfl,o⟩,j⟩;have k:=E5 A j;have y:=Fh.bel B j;cases r
   ·have d:=U0 (hR.2 (λh=>absurd (o.2 ((KT m ls c t).1 h.2)) U5));go_wp2;go_ret2;exact⟨.inl ⟨rfl,d⟩,k⟩
   have d:=U0 (hR.1 (by first|rfl|trivial) ((KT m ls c t).2 (o.1 rfl)));go_wp2;go_ret2;exact⟨.inr ⟨Xg m ls c t,u,q,rfl,d,.inr (.inr (.inr (.inl ⟨_,_,_,_,rfl⟩))),p,y⟩,k⟩
  have E:=a5Q;have he:kW (Ua) u q=.iface 313 (.agg #[]):=rfl;rw[he]
  go_wp2_with fail
  refine(a4Z _).mono ?_;rintro e C⟨⟨r,rfl,o⟩,j⟩;have k:=E5 A j;have y:=Fh.bel B j;cases r
  ·have d:=U0 (hR.2 (λh=>absurd (o.2 trivial) U5));go_wp2;go_ret2;exact⟨.inl ⟨rfl,d⟩,k⟩
  have d:=U0 (hR.1 (by first|rfl|trivial) (.inr (.inr (.inr (.inr rfl)))));go_wp2;go_ret2;exact⟨.inr ⟨Ua,u,q,rfl,d,.inr (.inr (.inr (.inr rfl))),p,y⟩,k⟩
 have d:Hid (∀z,RE s.data.toList z false):=λz=>kX O0 z;have hd:decide (16000<(s.size:Int))=true:=L8
 go_in
 go_wp2;go_ret2;exact⟨.inl ⟨rfl,d⟩,O4 _ _⟩

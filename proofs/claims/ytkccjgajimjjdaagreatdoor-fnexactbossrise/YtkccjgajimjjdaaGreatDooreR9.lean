import Derived.Test.YtkccjgajimjjdaaGreatDooreRQ
set_option maxRecDepth 100000
set_option linter.unusedVariables false
set_option maxHeartbeats 8000000
namespace Go.Proofs.YtkccjgajimjjdaaGreatDoor
open Proofs.Tryz Go.RowKit
variable{f l:List UInt8}{b ss:List (List UInt8)}{ok:Bool}{xs:List L4}
structure z_ where
 kd:Int
 ep:Int
 fn:BY
 ft:BY
 km:M3
 ls:List L4
 cd:Int
 tx:BY
def Dj:z_:=⟨0,0,⟨#[]⟩,⟨#[]⟩,L_,[],0,⟨#[]⟩⟩
def z_.le(x:z_)(B:Nat):Prop:=x.fn.size<=B/\x.ft.size<=B/\x.km.le B/\(x.ls.length<=B/\∀i,(x.ls.getD i M_).le B)/\x.tx.size<=B
def z_.c(x:z_)(ai:OA)(ci:Nat):List Value:=[.int .i64 x.kd,.int .i64 x.ep,.string x.fn,.string x.ft,.string x.km.nm,.string x.km.tl,.string x.km.ar,.slice ai x.ls.length ci,.int .i64 x.cd,.string x.tx]
theorem z_.fD(x:z_)(b:OA)(a:Nat):∀v∈x.c b a,v.oneCell'=true:=by simp[z_.c,Value.oneCell']
def J9(n:Int):z_:=⟨1,n,⟨#[]⟩,⟨#[]⟩,L_,[],0,⟨#[]⟩⟩
def Lc(a b:BY):z_:=⟨2,0,a,b,L_,[],0,⟨#[]⟩⟩
def Ec(a:BY):z_:=⟨3,0,a,⟨#[]⟩,L_,[],0,⟨#[]⟩⟩
def Qg(m:M3)(ls:List L4)(c:Int)(t:BY):z_:=⟨4,0,⟨#[]⟩,⟨#[]⟩,m,ls,c,t⟩
def Va:z_:=⟨5,0,⟨#[]⟩,⟨#[]⟩,L_,[],0,⟨#[]⟩⟩
def N9(x:z_):Prop:=(∃n,(1<=n/\n<=200)/\x=J9 n)\/(∃a b,(X6 a.data.toList=true/\b.size<=300)/\x=Lc a b)\/(∃a,X6 a.data.toList=true/\x=Ec a)\/(∃m ls c t,(Uf m=true/\yg ls/\vr c t.data.toList=true)/\x=Qg m ls c t)\/x=Va
def Ld(ls:List (List UInt8)):List UInt8:=ls.flatMap (·++[10])
theorem Vw(ls:List L4):P_ ls=Ld (ls.map Uc):=by
 unfold P_ Ld
 induction ls with
 | nil=>rfl
 | cons x r ih=>simp only[Hg,Fp,ih,yV]
theorem UG(ls:List (List UInt8))(h:∀l∈ls,(10:UInt8)∉l):x9 10 (Ld ls)=ls++[[]]:=by
 have:∀(ls P:List (List UInt8)),(∀l∈ls,(10:UInt8)∉l)->(Ld ls).foldl (cst 10) (P,[])=(P++ls,[]):=by
  intro ls
  induction ls with
  | nil=>intro P _;simp[Ld]
  | cons a r ih=>
   intro P h;have e:Ld (a::r)=(a++[10])++Ld r:=rfl;rw[e,jG,tH _ _ (h a E5),ih _ (λl hl=>h l (by simp[hl]))];simp
 unfold x9 V8;rw[this ls [] h];rfl
theorem kR(l:List UInt8):Ld (x9 10 l)=l++[10]:=by
 have:∀n,∀l:List UInt8,l.length<=n->Ld (x9 10 l)=l++[10]:=by
  intro n
  induction n with
  | zero=>
   intro l hl;obtain rfl:l=[]:=Qb.1 O0;rfl
  | succ n ih=>
   intro l hl;by_cases hm:(10:UInt8)∈l
   ·obtain⟨p,r,rfl,a⟩:=ZP hm;rw[DL a];have:=ih r (by simp at hl;omega);have e:Ld (p::x9 10 r)=(p++[10])++Ld (x9 10 r):=rfl;rw[e,this];simp
   rw[NU hm];simp[Ld]
 exact this l.length l X7
theorem iQ(l:List UInt8):x9 10 (l++[10])=x9 10 l++[[]]:=by
 unfold x9;rw[iq];simp[cst]
def Bd:List UInt8:=[101,112,111,99,104]
def Oi:List UInt8:=[102,105,108,101]
def Eh:List UInt8:=[100,114,111,112]
def Gl:List UInt8:=[114,97,110]
def ah:List UInt8:=[99,108,101,97,114]
def Vf:List UInt8:=[103,97,118,101]
def n_(x:z_):List (List UInt8):=if x.kd=1 then [Bd++32::dec x.ep] else if x.kd=2 then [Oi++32::(x.fn.data.toList++32::J6 x.ft.data.toList)] else if x.kd=3 then [Eh++32::x.fn.data.toList] else if x.kd=4 then(Gl++32::Yd x.km)::(x.ls.map Uc++[Vf++32::Dc x.cd x.tx]) else [ah]
def m_(x:z_):List UInt8:=Ld (n_ x)
theorem xG{x:z_}(h:N9 x):∀l∈n_ x,(10:UInt8)∉l:=by
 rcases h with⟨n,⟨h1,h2⟩,rfl⟩|⟨a,b,⟨h1,h2⟩,rfl⟩|⟨a,h1,rfl⟩|⟨m,ls,c,t,⟨h1,h2,j⟩,rfl⟩|rfl
 ·intro l hl;obtain rfl:l=Bd++32::dec n:=by simpa[n_,J9]using hl
  simp only[Dh,Xe,zo];exact⟨Z5,Z5,(ZF O0).2⟩
 ·intro l hl;obtain rfl:l=Oi++32::(a.data.toList++32::J6 b.data.toList):=by simpa[n_,Lc]using hl
  simp only[Dh,Xe,zo];exact⟨Z5,Z5,(Fa h1).2,Z5,Vj _⟩
 ·intro l hl;obtain rfl:l=Eh++32::a.data.toList:=by simpa[n_,Ec]using hl
  simp only[Dh,Xe,zo];exact⟨Z5,Z5,(Fa h1).2⟩
 ·intro l hl;obtain⟨n1,n2,_⟩:=Lh h1;have g:l=Gl++32::Yd m\/l∈ls.map Uc\/l=Vf++32::Dc c t:=by simpa[n_,Qg]using hl
  rcases g with rfl|hl|rfl
  ·rw[Yc];simp only[Dh,Xe,zo];exact⟨Z5,Z5,(Fa n1).2,Z5,(Fa n2).2,Z5,Vj _⟩
  ·obtain⟨y,f,rfl⟩:=zl.1 hl;obtain⟨i,d,e⟩:=Ze f;have:=h2.2 i d;rw[List.getD,L9 d,e]at this;exact OO this
  rw[qm];simp only[Dh,Xe,zo];exact⟨Z5,Z5,(ZF (xh j).1).2,Z5,Vj _⟩
 intro l hl;obtain rfl:l=ah:=by simpa[n_,Va]using hl
 decide
theorem IK{x:z_}(h:N9 x):(m_ x).length<=16000/\1<=(m_ x).length:=by
 rcases h with⟨n,⟨h1,h2⟩,rfl⟩|⟨a,b,⟨h1,h2⟩,rfl⟩|⟨a,h1,rfl⟩|⟨m,ls,c,t,⟨h1,h2,d⟩,rfl⟩|rfl
 ·have a:=dw n O0 O0;have e:m_ (J9 n)=Bd++32::dec n++[10]:=by simp[m_,n_,J9,Ld]
  rw[e];simp[Bd];omega
 ·have q:=yt b.data.toList;have k:=Nk h1;have z:b.data.toList.length=b.size:=E5;have e:m_ (Lc a b)=Oi++32::(a.data.toList++32::J6 b.data.toList)++[10]:=by simp[m_,n_,Lc,Ld]
  rw[e];simp only[P9,u_,Td,Oi];omega
 ·have k:=Nk h1;have e:m_ (Ec a)=Eh++32::a.data.toList++[10]:=by simp[m_,n_,Ec,Ld]
  rw[e];simp only[P9,u_,Td,Eh];omega
 ·have a:=mF h1;have q:=yt m.ar.data.toList;have l:=Xw h2;have r:=TF (xh d).1 (xh d).2 (NF d);have e:m_ (Qg m ls c t)=Gl++32::Yd m++[10]++P_ ls++(Vf++32::Dc c t++[10]):=by
   rw[Vw];simp[m_,n_,Qg,Ld]
  rw[e,Yc];simp only[P9,u_,Td,Gl,Vf];omega
 decide
def EC(L:List (List UInt8))(x:z_)(ok:Bool):Prop:=(∀y,N9 y->L=n_ y->ok=true/\x=y)/\(ok=true->N9 x->L=n_ x)
theorem vF{L:List (List UInt8)}(h:∀y,N9 y->L≠n_ y)(x:z_):EC L x false:=⟨λy a e=>absurd e (h y a),λh=>by cases h⟩
def oC(x:z_):List UInt8:=if x.kd=1 then Bd else if x.kd=2 then Oi else if x.kd=3 then Eh else if x.kd=4 then Gl else ah
theorem Af{y:z_}(d:N9 y){f:List UInt8}{b:List (List UInt8)}(e:f::b=n_ y):Y2 f=oC y/\(y.kd≠4->b=[]):=by
 rcases d with⟨n,_,rfl⟩|⟨a,c,_,rfl⟩|⟨a,_,rfl⟩|⟨m,ls,c,t,_,rfl⟩|rfl
 ·obtain⟨rfl,rfl⟩:=Ko e;exact⟨(E8 Z5).1,λ_=>rfl⟩
 ·obtain⟨rfl,rfl⟩:=Ko e;exact⟨(E8 Z5).1,λ_=>rfl⟩
 ·obtain⟨rfl,rfl⟩:=Ko e;exact⟨(E8 Z5).1,λ_=>rfl⟩
 ·obtain⟨rfl,rfl⟩:=Ko e;exact⟨(E8 Z5).1,λh=>absurd rfl h⟩
 obtain⟨rfl,rfl⟩:=Ko e;exact⟨(Jj Z5).1,λ_=>rfl⟩
theorem YH{y:z_}(b:N9 y):y.kd=1\/y.kd=2\/y.kd=3\/y.kd=4\/y.kd=5:=by
 rcases b with⟨n,_,rfl⟩|⟨a,c,_,rfl⟩|⟨a,_,rfl⟩|⟨m,ls,c,t,_,rfl⟩|rfl
 ·exact .inl rfl
 ·exact .inr (.inl rfl)
 ·exact .inr (.inr (.inl rfl))
 ·exact .inr (.inr (.inr (.inl rfl)))
 exact .inr (.inr (.inr (.inr rfl)))
theorem Wh{y:z_}(a:N9 y){w:List UInt8}{k:Int}(b:k=1\/k=2\/k=3\/k=4\/k=5)(h:w=oC y)(hw:w=oC ⟨k,0,⟨#[]⟩,⟨#[]⟩,L_,[],0,⟨#[]⟩⟩):y.kd=k:=by
 have c:=YH a;have e:oC y=oC ⟨k,0,⟨#[]⟩,⟨#[]⟩,L_,[],0,⟨#[]⟩⟩:=by rw[<- h,hw]
 clear a h hw;unfold oC at e;rcases b with rfl|rfl|rfl|rfl|rfl<;>rcases c with h|h|h|h|h<;>rw[h]at e<;>first|exact h|(exfalso;revert e;decide)
theorem wu{y:z_}(d:N9 y)(b:y.kd=1):∃n,(1<=n/\n<=200)/\y=J9 n:=by
 rcases d with h|⟨a,c,_,rfl⟩|⟨a,_,rfl⟩|⟨m,ls,c,t,_,rfl⟩|rfl
 ·exact h
 ·cases b
 ·cases b
 ·cases b
 cases b
theorem Jy{y:z_}(e:N9 y)(d:y.kd=2):∃a b,(X6 a.data.toList=true/\b.size<=300)/\y=Lc a b:=by
 rcases e with⟨n,_,rfl⟩|h|⟨a,_,rfl⟩|⟨m,ls,c,t,_,rfl⟩|rfl
 ·cases d
 ·exact h
 ·cases d
 ·cases d
 cases d
theorem Ju{y:z_}(d:N9 y)(b:y.kd=3):∃a,X6 a.data.toList=true/\y=Ec a:=by
 rcases d with⟨n,_,rfl⟩|⟨a,c,_,rfl⟩|h|⟨m,ls,c,t,_,rfl⟩|rfl
 ·cases b
 ·cases b
 ·exact h
 ·cases b
 cases b
theorem Zz{y:z_}(d:N9 y)(b:y.kd=4):∃m ls c t,(Uf m=true/\yg ls/\vr c t.data.toList=true)/\y=Qg m ls c t:=by
 rcases d with⟨n,_,rfl⟩|⟨a,c,_,rfl⟩|⟨a,_,rfl⟩|h|rfl
 ·cases b
 ·cases b
 ·cases b
 ·exact h
 cases b
theorem IB{y:z_}(d:N9 y)(b:y.kd=5):y=Va:=by
 rcases d with⟨n,_,rfl⟩|⟨a,c,_,rfl⟩|⟨a,_,rfl⟩|⟨m,ls,c,t,_,rfl⟩|h
 ·cases b
 ·cases b
 ·cases b
 ·cases b
 exact h
theorem AP(hw:Y2 f≠Gl)(d:b≠[])(x:z_):EC (f::b) x false:=by
 refine vF (λy c e=>?_) x;obtain⟨h1,h2⟩:=Af c e;by_cases a:y.kd=4
 ·apply hw;rw[h1];unfold oC;rw[if_neg O0,if_neg O0,if_neg O0,if_pos a]
 exact d (h2 a)
theorem eU(h1:Y2 f≠Gl)(h2:Y2 f≠Bd)(g:Y2 f≠Oi)(d:Y2 f≠Eh)(c:Y2 f≠ah)(x:z_):EC (f::b) x false:=by
 refine vF (λy a e=>?_) x;obtain⟨hw,_⟩:=Af a e;unfold oC at hw;split at hw
 ·exact h2 hw
 split at hw
 ·exact g hw
 split at hw
 ·exact d hw
 split at hw
 ·exact h1 hw
 exact c hw
theorem DN(hw:Y2 f=Bd):EC [f] (J9 (EI 200 (J3 f))) (Ci 200 (J3 f)):=by
 constructor
 ·intro y c e;obtain⟨h1,_⟩:=Af c e;obtain⟨n,hn,rfl⟩:=wu c (Wh c (.inl rfl) h1 (by rw[hw];rfl));have i:f=Bd++32::dec n:=(Ko e).1;have hr:J3 f=dec n:=by rw[i];exact(E8 Z5).2
  obtain⟨a,b⟩:=fA (M:=200) (n:=n) O0 O0;rw[hr,a,b];exact⟨rfl,rfl⟩
 intro h _;have d:=(xM h).1;have g:J3 f≠[]:=by rw[d];exact VJ _
 show [f]=[Bd++32::dec (EI 200 (J3 f))];rw[<- d,<- hw,<- Jf g]
theorem ES{t:List UInt8}(hw:Y2 f=Oi)(g:Unq (J3 (J3 f)) t ok):EC [f] (Lc (I4 (Y2 (J3 f))) (I4 t)) ok:=by
 constructor
 ·intro y d e;obtain⟨h1,_⟩:=Af d e;obtain⟨a,b,i,rfl⟩:=Jy d (Wh d (.inr (.inl rfl)) h1 (by rw[hw];rfl));have j:f=Oi++32::(a.data.toList++32::J6 b.data.toList):=(Ko e).1;have hr:J3 f=a.data.toList++32::J6 b.data.toList:=by rw[j];exact(E8 Z5).2
  obtain⟨w1,c⟩:=E8 (r:=J6 b.data.toList) (Fa i.1).1;rw[<- hr]at w1 c;cases ok
  ·exact absurd c (g.2 rfl _)
  have:t=b.data.toList:=Um ((g.1 rfl).symm.trans c);rw[w1,this];exact⟨rfl,rfl⟩
 intro h _;have q:=g.1 h;have h2:J3 (J3 f)≠[]:=by rw[q];exact LG _
 have h1:J3 f≠[]:=λh=>by rw[h]at h2;exact h2 rfl
 show [f]=[Oi++32::(Y2 (J3 f)++32::J6 t)];rw[<- q,<- Jf h2,<- hw,<- Jf h1]
theorem vP(hw:Y2 f=Eh):EC [f] (Ec (I4 (J3 f))) true:=by
 constructor
 ·intro y b e;obtain⟨h1,_⟩:=Af b e;obtain⟨a,c,rfl⟩:=Ju b (Wh b (.inr (.inr (.inl rfl))) h1 (by rw[hw];rfl));have i:f=Eh++32::a.data.toList:=(Ko e).1;have hr:J3 f=a.data.toList:=by rw[i];exact(E8 Z5).2
  rw[hr];exact⟨rfl,rfl⟩
 intro _ hx;obtain⟨a,c,e⟩:=Ju hx rfl;have g:I4 (J3 f)=a:=l7 z_.fn e;have d:J3 f≠[]:=λh=>by
  rw[<- g,f_,h]at c;cases c
 show [f]=[Eh++32::J3 f];rw[<- hw,<- Jf d]
theorem dO(hw:Y2 f=ah):EC [f] Va (decide ((32:UInt8)∉f)):=by
 constructor
 ·intro y a e;obtain⟨h1,_⟩:=Af a e;have:=IB a (Wh a (.inr (.inr (.inr (.inr rfl)))) h1 (by rw[hw];rfl));subst this;have b:=(Ko e).1;subst b;exact⟨Z5,rfl⟩
 intro h _;rw[rf]at h;have:=(Jj h).1;show [f]=[ah];rw[<- this,hw]
theorem JP{y:z_}(a:N9 y)(hw:Y2 f=Gl)(e:f::b=n_ y):∃m ls c t,(Uf m=true/\yg ls/\vr c t.data.toList=true)/\y=Qg m ls c t/\J3 f=Yd m/\b=ls.map Uc++[Vf++32::Dc c t]:=by
 obtain⟨h1,_⟩:=Af a e;obtain⟨m,ls,c,t,d,rfl⟩:=Zz a (Wh a (.inr (.inr (.inr (.inl rfl)))) h1 (by rw[hw];rfl));obtain⟨e1,g⟩:=Ko e;refine⟨m,ls,c,t,d,rfl,?_,g⟩;rw[e1];exact(E8 Z5).2
theorem MP(hw:Y2 f=Gl)(x:z_):EC [f] x false:=by
 refine vF (λy a e=>?_) x;obtain⟨m,ls,c,t,_,_,_,b⟩:=JP a hw e;have:=l7 List.length b;simp at this
theorem WV{g:List UInt8}{m:M3}{ls:List L4}{c:Int}{t:BY}{o1 o2 o3:Bool}(hw:Y2 f=Gl)(hm:Iy (J3 f) m o1)(hl:jo b ls o2)(hr:uD (J3 g) c t o3):
 (o1=true->o2=true->Y2 g=Vf->o3=true->EC (f::(b++[g])) (Qg m ls c t) true)/\(¬(o1=true/\o2=true/\Y2 g=Vf/\o3=true)->∀x,EC (f::(b++[g])) x false):=by
 have s:∀y,N9 y->f::(b++[g])=n_ y->(o1=true/\o2=true/\Y2 g=Vf/\o3=true)/\Qg m ls c t=y:=by
  intro y a e;obtain⟨m',h,n,d,⟨k,j,i⟩,rfl,e1,E⟩:=JP a hw e;obtain⟨D,l⟩:=List.append_inj' E rfl;have l:=(Ko l).1;obtain⟨w1,o⟩:=E8 (r:=Dc n d) (show(32:UInt8)∉Vf by decide);rw[<- l]at w1 o;obtain⟨a1,a2⟩:=hl.1 h j.2 D;obtain⟨I,H,F⟩:=hr.1 n d (xh i).1 (xh i).2 o;have ho:o1=true:=by
   cases o1
   ·exact absurd e1 (hm.2 rfl m' k)
   rfl
  have z:=KC (hm.1 ho).1 k (by rw[<- (hm.1 ho).2,e1]);exact⟨⟨ho,a1,w1,I⟩,by rw[z,a2,H,F]⟩
 constructor
 ·intro h1 h2 B A;refine⟨λy a e=>⟨rfl,(s y a e).2⟩,λ_ hx=>?_⟩;obtain⟨m',h,n,d,⟨k,j,i⟩,e⟩:=Zz hx rfl;have C:ls=h:=l7 z_.ls e;have p:=hr.2 A;have v:J3 g≠[]:=by rw[p];exact JE _ _
  have q:=(hm.1 h1).2;have u:J3 f≠[]:=by rw[q];exact LK m
  show f::(b++[g])=(Gl++32::Yd m)::(ls.map Uc++[Vf++32::Dc c t]);rw[<- q,<- p,<- hw,<- B,<- Jf v,<- Jf u,<- hl.2 h2 (by rw[C];exact j.2)]
 intro w x;exact vF (λy a e=>w (s y a e).1) x
def RE(l:List UInt8)(x:z_)(ok:Bool):Prop:=(ok=true->N9 x/\m_ x=l)/\(ok=false->∀y,N9 y->m_ y≠l)
theorem wH{y:z_}(b:N9 y)(e:m_ y=l):Ui l=true/\x9 10 l.dropLast=n_ y:=by
 have hc:=UG (n_ y) (xG b);have d:n_ y≠[]:=by unfold n_;(repeat' split)<;>simp
 have a:Ui l=true:=by
  rw[<- e];unfold m_;rcases vC (n_ y)with h|⟨r,c,h⟩
  ·exact absurd h d
  rw[h,WC];have:Ld (r++[c])=(Ld r++c)++[10]:=by simp[Ld]
  rw[this];exact IY _
 refine⟨a,?_⟩;have h2:=Az a;have:x9 10 (l.dropLast++[10])=n_ y++[[]]:=by rw[<- h2,<- e];exact hc
 rw[iQ]at this;exact List.append_cancel_right this
theorem a0F(h:Ui l=false)(x:z_):RE l x false:=by
 refine⟨(λh=>by cases h),λ_ y a e=>?_⟩;rw[(wH a e).1]at h;cases h
theorem RY(h:16000<l.length)(x:z_):RE l x false:=by
 refine⟨(λh=>by cases h),λ_ y a e=>?_⟩;have:=IK a;rw[e]at this;omega
theorem wW{x:z_}(h:Ui l=true)(hr:EC (x9 10 l.dropLast) x ok):(ok=true->N9 x->RE l x true)/\(¬(ok=true/\N9 x)->∀z,RE l z false):=by
 constructor
 ·intro h1 h2;refine⟨λ_=>⟨h2,?_⟩,(λh=>by cases h)⟩;unfold m_;rw[<- hr.2 h1 h2,kR];exact(Az h).symm
 intro d z;refine⟨(λh=>by cases h),λ_ y c e=>?_⟩;obtain⟨a,b⟩:=hr.1 y c (wH c e).2;exact d ⟨a,by rw[b];exact c⟩
def Ll(ep:Int)(fn ft kn kt ka:BY)(cd:Int)(tx:BY)(ep2:Int)(fn2 ft2 kn2 kt2 ka2:BY)(cd2:Int)(tx2:BY)(la lb:Nat):Prop:=ep=ep2/\fn=fn2/\ft=ft2/\kn=kn2/\kt=kt2/\ka=ka2/\la=lb/\cd=cd2/\tx=tx2
theorem c72(kd ep cd x m d:Int)(fn ft kn kt b tx l k j i g c:BY)(B A:OA)(la lb z y:Nat)(w:World)(hla:la<=1048576)(hlb:lb<=1048576):
 Calls prog 72 #[.agg #[.int .i64 kd,.int .i64 ep,.string fn,.string ft,.string kn,.string kt,.string b,.slice B la z,.int .i64 cd,.string tx],.agg #[.int .i64 x,.int .i64 m,.string l,.string k,.string j,.string i,.string g,.slice A lb y,.int .i64 d,.string c]] w λe w'=>zn (Ll ep fn ft kn kt b cd tx m l k j i g d c la lb) e/\Bw w w':=by
 have f:∀o p,Bw w ((w.alloc o).alloc p):=λo p=>Y6.alloc E5 _;rcases(bn (ep=m)).symm with e0|e0
 ·have a:Hid (zn (Ll ep fn ft kn kt b cd tx m l k j i g d c la lb) (.returned (.bool false))):=S_ (λh=>e0 h.1)
  go_in
  go_wp2
  all_goals go_ret
  all_goals exact⟨a.out,f _ _⟩
 obtain rfl:=e0;rcases(bn (fn.toList=l.toList)).symm with e1|e1
 ·have a:Hid (zn (Ll ep fn ft kn kt b cd tx ep l k j i g d c la lb) (.returned (.bool false))):=S_ (λh=>e1 (by rw[h.2.1]))
  go_in
  go_wp2
  all_goals go_ret
  all_goals exact⟨a.out,f _ _⟩
 obtain rfl:=(Vo _ _).1 e1;clear e1;rcases(bn (ft.toList=k.toList)).symm with t|t
 ·have a:Hid (zn (Ll ep fn ft kn kt b cd tx ep fn k j i g d c la lb) (.returned (.bool false))):=S_ (λh=>t (by rw[h.2.2.1]))
  go_in
  go_wp2
  all_goals go_ret
  all_goals exact⟨a.out,f _ _⟩
 obtain rfl:=(Vo _ _).1 t;clear t;rcases(bn (kn.toList=j.toList)).symm with s|s
 ·have a:Hid (zn (Ll ep fn ft kn kt b cd tx ep fn ft j i g d c la lb) (.returned (.bool false))):=S_ (λh=>s (by rw[h.2.2.2.1]))
  go_in
  go_wp2
  all_goals go_ret
  all_goals exact⟨a.out,f _ _⟩
 obtain rfl:=(Vo _ _).1 s;clear s;rcases(bn (kt.toList=i.toList)).symm with r|r
 ·have a:Hid (zn (Ll ep fn ft kn kt b cd tx ep fn ft kn i g d c la lb) (.returned (.bool false))):=S_ (λh=>r (by rw[h.2.2.2.2.1]))
  go_in
  go_wp2
  all_goals go_ret
  all_goals exact⟨a.out,f _ _⟩
 obtain rfl:=(Vo _ _).1 r;clear r;rcases(bn (b.toList=g.toList)).symm with q|q
 ·have a:Hid (zn (Ll ep fn ft kn kt b cd tx ep fn ft kn kt g d c la lb) (.returned (.bool false))):=S_ (λh=>q (by rw[h.2.2.2.2.2.1]))
  go_in
  go_wp2
  all_goals go_ret
  all_goals exact⟨a.out,f _ _⟩
 obtain rfl:=(Vo _ _).1 q;clear q;rcases(bn (la=lb)).symm with u|u
 ·have a:Hid (zn (Ll ep fn ft kn kt b cd tx ep fn ft kn kt b d c la lb) (.returned (.bool false))):=S_ (λh=>u h.2.2.2.2.2.2.1);have hlen2:¬(la:Int)=(lb:Int):=O0
  go_in
  go_wp2
  all_goals go_ret
  all_goals exact⟨a.out,f _ _⟩
 obtain rfl:=u;rcases(bn (cd=d)).symm with v|v
 ·have a:Hid (zn (Ll ep fn ft kn kt b cd tx ep fn ft kn kt b d c la la) (.returned (.bool false))):=S_ (λh=>v h.2.2.2.2.2.2.2.1)
  go_in
  go_wp2
  all_goals go_ret
  all_goals exact⟨a.out,f _ _⟩
 obtain rfl:=v;rcases(bn (tx.toList=c.toList)).symm with n|n
 ·have a:Hid (zn (Ll ep fn ft kn kt b cd tx ep fn ft kn kt b cd c la la) (.returned (.bool false))):=S_ (λh=>n (by rw[h.2.2.2.2.2.2.2.2]))
  go_in
  go_wp2
  all_goals go_ret
  all_goals exact⟨a.out,f _ _⟩
 obtain rfl:=(Vo _ _).1 n;clear n;have a:Hid (zn (Ll ep fn ft kn kt b cd tx ep fn ft kn kt b cd tx la la) (.returned (.bool true))):=Yk ⟨rfl,rfl,rfl,rfl,rfl,rfl,rfl,rfl,rfl⟩
 go_in
 go_wp2
 all_goals go_ret
 all_goals exact⟨a.out,f _ _⟩
theorem a3g(w:World)(x y z q:Value)(t:TypeId):∀j u,[x,y,z,q][j]?=some u->(w.alloc (.cells #[x,y,z,q] t)).cell? ((⟨w.heap.size,0,none⟩:Addr).add j)=some u:=by
 intro j u h
 match j,h with
 | 0,h=>simp at h;subst h;simp[Addr.add]
 | 1,h=>simp at h;subst h;simp[Addr.add]
 | 2,h=>simp at h;subst h;simp[Addr.add]
 | 3,h=>simp at h;subst h;simp[Addr.add]
theorem gZ{w:World}{g:Nat}(a:g=w.heap.size)(x y z q:Value)(t:TypeId):∀j u,[x,y,z,q][j]?=some u->(w.alloc (.cells #[x,y,z,q] t)).cell? ((⟨g,0,none⟩:Addr).add j)=some u:=by
 subst a;exact a3g w x y z q t
theorem kH(is:List L4)(x:L4):BI (is++[x])=BI is++[.bool x.has,.string x.nm,.int .i64 x.cd,.string x.tx]:=by simp[BI]
def YS(ss:List (List UInt8))(k:Nat)(xs:List L4):Prop:=xs.length=k/\∀i,i<k->Qm (ss.getD i []) (xs.getD i M_) true/\(xs.getD i M_).le 1048576
theorem tN{k:Nat}{x:L4}(h:YS ss k xs)(hr:Qm (ss.getD k []) x true)(hx:x.le 1048576):YS ss (k+1) (xs++[x]):=by
 obtain⟨h1,h2⟩:=h;refine⟨by simp[h1],λi hi=>?_⟩;rcases D8 i k with a|a
 ·have e:(xs++[x]).getD i M_=xs.getD i M_:=by
   simp only[Sj];rw[G_ O0]
  rw[e];exact h2 i a
 obtain rfl:i=k:=O0;have e:(xs++[x]).getD i M_=x:=by
  simp only[Sj];rw[Ue O0,h1];simp
 rw[e];exact⟨hr,hx⟩
theorem RH(h:YS ss ss.length xs):jo ss xs true/\∀i,(xs.getD i M_).le 1048576:=by
 refine⟨VG h.1 λi a=>(h.2 i a).1,λi=>?_⟩;rcases D8 i ss.length with a|a
 ·exact(h.2 i a).2
 have:xs.getD i M_=M_:=by
  simp only[Sj];rw[Zb (by have:=h.1;omega)];rfl
 rw[this];exact⟨J4 _,J4 _⟩
def zZ(w w':World)(ss:List (List UInt8))(e:Ending):Prop:=∃(xs:List L4)(ok:Bool)(ao:OA)(c:Nat),e=.returned (.tuple #[.slice ao xs.length c,.bool ok])/\jo ss xs ok/\(∀i,(xs.getD i M_).le 1048576)/\xs.length<=ss.length/\Xg w' w.heap.size ao xs
theorem a4r(B o cp:Nat)(ss:List (List UInt8))(w:World)(z:Jc w)(hc:Bj w B o ss)(s:∀i,i<ss.length->(ss.getD i []).length<=16000)(hl:ss.length<=16001):
 Calls prog 265 #[.slice (some ⟨B,o,none⟩) ss.length cp] w λe w'=>zZ w w' ss e/\Bw w w':=by
 obtain⟨C,A,F,E,D⟩:=info_parts kL;have S:=U0 hc;have R:=U0 z;have P:=U0 s;have N:=hc.1;clear hc s z
 go_in
 go_wp2;go_loopw[4,11] (λv i wr=>∃(k:Nat)(xs:List L4),k<=ss.length/\i=.int .i64 k/\wr.ownsRow w.heap.size 138 4 v k (BI xs)/\Hid (YS ss k xs)/\Below w.heap.size w wr) (λ_ i _=>ss.length-(RowKit.intOf i).toNat);exact⟨0,[],J4 _,rfl,⟨rfl,.inl ⟨rfl,rfl⟩⟩,⟨rfl,λi A=>O0⟩,G5 _ _⟩;obtain⟨k,xs,hk,rfl,g,ha,b⟩:=hrel;by_cases l:k<ss.length
 ·have hcell:=(b.cell (by exact N)).trans (S.out.2 k l);have hr:=P.out k l;have I:=Q9 R.out b;have p:Hid (∀x,Qm (ss.getD k []) x false->jo ss [] false):=λx h=>PI l h [];have n:Hid (∀x:L4,Qm (ss.getD k []) x true->x.le 1048576->YS ss (k+1) (xs++[x])):=λx h1 h2=>tN ha.out h1 h2;have hz0':=b.size;generalize ss.getD k []=t at*
  go_wp2_with fail
  refine(a3y t _ hr (Q9 I ?drw)).mono ?_
  case drw=>first|exact G5 _ _|exact(G5 _ _).drew|exact(G5 _ _).drew.drew
  rintro e w1⟨⟨x,ok,rfl,d,hx⟩,m⟩;have q:Hid (Bw wr w1):=by first|exact m|exact((G5 _ _).drew).trans m
  have y:=qw g q.out;have hz1':=q.out.size;have f:=J5 b q.out;clear m g;unfold L4.v;cases ok
  ·have Q:Hid (∀u,zZ w u ss (.returned (.tuple #[vN,.bool false]))):=λu=>⟨[],false,none,0,rfl,p.out x d,λi=>⟨J4 _,J4 _⟩,J4 _,.inl rfl,.inl rfl⟩;clear p n d;go_wp2;go_ret2;exact⟨Q.out _,f.alloc f.size _⟩
  have a:=U0 (n.out x d hx);clear p n d
  go_wp2_with(at_builtin;refine wpList_append_own _ rfl _ _ 70 rfl w.heap.size 138 C (.agg #[.bool false,.string ⟨#[]⟩,.int .i64 0,.string ⟨#[]⟩]) 4 48 underlying70 A F E D rfl Z5 _ _ _ rfl ((y.alloc _).alloc _) ⟨w1.heap.size+1,0,none⟩ 1 1 [_,_,_,_] rfl rfl (gZ E5 _ _ _ _ _) (by intro u r;simp at r;rcases r with rfl|rfl|rfl|rfl<;>rfl) (by unfold maxLen;omega) O0 Q8 ?_;intro v' w2 H L _)
  go_roundw
  ·have O:=((f.alloc f.size _).alloc Q8 _).grown L Q8 (λj K=>(y.lt j K).1);refine⟨k+1,xs++[x],O0,by go_num,?_,a,O⟩;rw[kH];exact H
  exact Z9
 have a:Hid (jo ss xs true/\(∀i,(xs.getD i M_).le 1048576)/\xs.length=ss.length):=by
  obtain rfl:k=ss.length:=O0;exact⟨(RH ha.out).1,(RH ha.out).2,ha.out.1⟩
 obtain rfl:k=ss.length:=O0;obtain⟨ao,c,hv,J⟩:=QL g a.out.2.2.symm;subst hv;go_wp2;go_ret2;exact⟨⟨xs,true,ao,c,by rw[a.out.2.2];rfl,a.out.1,a.out.2.1,by rw[a.out.2.2];exact J8 _,J⟩,b⟩

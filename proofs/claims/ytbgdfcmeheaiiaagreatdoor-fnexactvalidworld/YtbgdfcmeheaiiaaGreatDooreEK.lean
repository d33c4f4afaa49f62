import Derived.Test.YtbgdfcmeheaiiaaGreatDoortW4
import Derived.Test.YtbgdfcmeheaiiaaGreatDoorMB
import Derived.Test.YtbgdfcmeheaiiaaGreatDoorM8
set_option maxRecDepth 100000
set_option linter.unusedVariables false
set_option linter.unusedSimpArgs false
set_option maxHeartbeats 8000000
namespace Go.Proofs.YtbgdfcmeheaiiaaGreatDoor
open Proofs.Tryz Go.RowKit
variable{f l:List UInt8}{b:List (List UInt8)}{ok:Bool}{m:M3}{ls:List L4}{t:BY}{s:St}{base:Nat}{w':World}
structure u_ where
 kd:Int
 ep:Int
 fn:BY
 ft:BY
 km:M3
 ls:List L4
 cd:Int
 tx:BY
def Ji:u_:=⟨0,0,⟨#[]⟩,⟨#[]⟩,C_,[],0,⟨#[]⟩⟩
def u_.le(x:u_)(B:Nat):Prop:=x.fn.size<=B/\x.ft.size<=B/\x.km.le B/\(x.ls.length<=B/\∀i,(x.ls.getD i l_).le B)/\x.tx.size<=B
def u_.c(x:u_)(ai:OA)(ci:Nat):List Value:=[.int .i64 x.kd,.int .i64 x.ep,.string x.fn,.string x.ft,.string x.km.nm,.string x.km.tl,.string x.km.ar,.slice ai x.ls.length ci,.int .i64 x.cd,.string x.tx]
theorem u_.wC(x:u_)(b:OA)(a:Nat):∀v∈x.c b a,v.oneCell'=true:=by simp[u_.c,Value.oneCell']
def v_(n:Int):u_:=⟨1,n,⟨#[]⟩,⟨#[]⟩,C_,[],0,⟨#[]⟩⟩
def Xb(a b:BY):u_:=⟨2,0,a,b,C_,[],0,⟨#[]⟩⟩
def Vb(a:BY):u_:=⟨3,0,a,⟨#[]⟩,C_,[],0,⟨#[]⟩⟩
def xg(m:M3)(ls:List L4)(c:Int)(t:BY):u_:=⟨4,0,⟨#[]⟩,⟨#[]⟩,m,ls,c,t⟩
def U_:u_:=⟨5,0,⟨#[]⟩,⟨#[]⟩,C_,[],0,⟨#[]⟩⟩
def Z8(x:u_):Prop:=(∃n,(1<=n/\n<=200)/\x=v_ n)\/(∃a b,(Y5 a.data.toList=true/\b.size<=300)/\x=Xb a b)\/(∃a,Y5 a.data.toList=true/\x=Vb a)\/(∃m ls c t,(Xe m=true/\Ee ls/\vr c t.data.toList=true)/\x=xg m ls c t)\/x=U_
def jd(ls:List (List UInt8)):List UInt8:=ls.flatMap (·++[10])
theorem Iw(ls:List L4):Y9 ls=jd (ls.map Cc):=by
 unfold Y9 jd
 induction ls with
 | nil=>rfl
 | cons x r ih=>simp only[Ag,Hr,ih,MV]
theorem uH(ls:List (List UInt8))(h:∀l∈ls,(10:UInt8)∉l):L8 10 (jd ls)=ls++[[]]:=by
 have:∀(ls P:List (List UInt8)),(∀l∈ls,(10:UInt8)∉l)->(jd ls).foldl (cst 10) (P,[])=(P++ls,[]):=by
  intro ls
  induction ls with
  | nil=>intro P _;simp[jd]
  | cons a r ih=>
   intro P h;have e:jd (a::r)=(a++[10])++jd r:=rfl;rw[e,PE,qG _ _ (h a O4),ih _ (λl hl=>h l (by simp[hl]))];simp
 unfold L8 Z7;rw[this ls [] h];rfl
theorem dR(l:List UInt8):jd (L8 10 l)=l++[10]:=by
 have:∀n,∀l:List UInt8,l.length<=n->jd (L8 10 l)=l++[10]:=by
  intro n
  induction n with
  | zero=>
   intro l hl;obtain rfl:l=[]:=La.1 O0;rfl
  | succ n ih=>
   intro l hl;by_cases hm:(10:UInt8)∈l
   ·obtain⟨p,r,rfl,a⟩:=TP hm;rw[LK a];have:=ih r (by simp at hl;omega);have e:jd (p::L8 10 r)=(p++[10])++jd (L8 10 r):=rfl;rw[e,this];simp
   rw[wS hm];simp[jd]
 exact this l.length l Y8
theorem ER(l:List UInt8):L8 10 (l++[10])=L8 10 l++[[]]:=by
 unfold L8;rw[Po];simp[cst]
def Xd:List UInt8:=[101,112,111,99,104]
def Ph:List UInt8:=[102,105,108,101]
def dh:List UInt8:=[100,114,111,112]
def Dk:List UInt8:=[114,97,110]
def Fg:List UInt8:=[99,108,101,97,114]
def Gf:List UInt8:=[103,97,118,101]
def h_(x:u_):List (List UInt8):=if x.kd=1 then [Xd++32::dec x.ep] else if x.kd=2 then [Ph++32::(x.fn.data.toList++32::J5 x.ft.data.toList)] else if x.kd=3 then [dh++32::x.fn.data.toList] else if x.kd=4 then(Dk++32::Ad x.km)::(x.ls.map Cc++[Gf++32::Ob x.cd x.tx]) else [Fg]
def I_(x:u_):List UInt8:=jd (h_ x)
theorem LH{x:u_}(h:Z8 x):∀l∈h_ x,(10:UInt8)∉l:=by
 rcases h with⟨n,⟨h1,h2⟩,rfl⟩|⟨a,b,⟨h1,h2⟩,rfl⟩|⟨a,h1,rfl⟩|⟨m,ls,c,t,⟨h1,h2,j⟩,rfl⟩|rfl
 ·intro l hl;obtain rfl:l=Xd++32::dec n:=by simpa[h_,v_]using hl
  simp only[Cf,je,lm];exact⟨J6,J6,(KD O0).2⟩
 ·intro l hl;obtain rfl:l=Ph++32::(a.data.toList++32::J5 b.data.toList):=by simpa[h_,Xb]using hl
  simp only[Cf,je,lm];exact⟨J6,J6,(N_ h1).2,J6,Zi _⟩
 ·intro l hl;obtain rfl:l=dh++32::a.data.toList:=by simpa[h_,Vb]using hl
  simp only[Cf,je,lm];exact⟨J6,J6,(N_ h1).2⟩
 ·intro l hl;obtain⟨n1,n2,_⟩:=Ah h1;have g:l=Dk++32::Ad m\/l∈ls.map Cc\/l=Gf++32::Ob c t:=by simpa[h_,xg]using hl
  rcases g with rfl|hl|rfl
  ·rw[Nc];simp only[Cf,je,lm];exact⟨J6,J6,(N_ n1).2,J6,(N_ n2).2,J6,Zi _⟩
  ·obtain⟨y,f,rfl⟩:=Zm.1 hl;obtain⟨i,d,e⟩:=Ce f;have:=h2.2 i d;rw[List.getD,D9 d,e]at this;exact zM this
  rw[Jk];simp only[Cf,je,lm];exact⟨J6,J6,(KD (Xg j).1).2,J6,Zi _⟩
 intro l hl;obtain rfl:l=Fg:=by simpa[h_,U_]using hl
 decide
theorem MK{x:u_}(h:Z8 x):(I_ x).length<=16000/\1<=(I_ x).length:=by
 rcases h with⟨n,⟨h1,h2⟩,rfl⟩|⟨a,b,⟨h1,h2⟩,rfl⟩|⟨a,h1,rfl⟩|⟨m,ls,c,t,⟨h1,h2,d⟩,rfl⟩|rfl
 ·have a:=Bv n O0 O0;have e:I_ (v_ n)=Xd++32::dec n++[10]:=by simp[I_,h_,v_,jd]
  rw[e];simp[Xd];omega
 ·have q:=Zr b.data.toList;have k:=Yi h1;have z:b.data.toList.length=b.size:=O4;have e:I_ (Xb a b)=Ph++32::(a.data.toList++32::J5 b.data.toList)++[10]:=by simp[I_,h_,Xb,jd]
  rw[e];simp only[L9,x_,ve,Ph];omega
 ·have k:=Yi h1;have e:I_ (Vb a)=dh++32::a.data.toList++[10]:=by simp[I_,h_,Vb,jd]
  rw[e];simp only[L9,x_,ve,dh];omega
 ·have a:=qF h1;have q:=Zr m.ar.data.toList;have l:=xw h2;have r:=nD (Xg d).1 (Xg d).2 (UD d);have e:I_ (xg m ls c t)=Dk++32::Ad m++[10]++Y9 ls++(Gf++32::Ob c t++[10]):=by
   rw[Iw];simp[I_,h_,xg,jd]
  rw[e,Nc];simp only[L9,x_,ve,Dk,Gf];omega
 decide
def oC(L:List (List UInt8))(x:u_)(ok:Bool):Prop:=(∀y,Z8 y->L=h_ y->ok=true/\x=y)/\(ok=true->Z8 x->L=h_ x)
theorem XF{L:List (List UInt8)}(h:∀y,Z8 y->L≠h_ y)(x:u_):oC L x false:=⟨λy a e=>absurd e (h y a),λh=>by cases h⟩
def aC(x:u_):List UInt8:=if x.kd=1 then Xd else if x.kd=2 then Ph else if x.kd=3 then dh else if x.kd=4 then Dk else Fg
theorem He{y:u_}(d:Z8 y){f:List UInt8}{b:List (List UInt8)}(e:f::b=h_ y):O1 f=aC y/\(y.kd≠4->b=[]):=by
 rcases d with⟨n,_,rfl⟩|⟨a,c,_,rfl⟩|⟨a,_,rfl⟩|⟨m,ls,c,t,_,rfl⟩|rfl
 ·obtain⟨rfl,rfl⟩:=Ym e;exact⟨(N7 J6).1,λ_=>rfl⟩
 ·obtain⟨rfl,rfl⟩:=Ym e;exact⟨(N7 J6).1,λ_=>rfl⟩
 ·obtain⟨rfl,rfl⟩:=Ym e;exact⟨(N7 J6).1,λ_=>rfl⟩
 ·obtain⟨rfl,rfl⟩:=Ym e;exact⟨(N7 J6).1,λh=>absurd rfl h⟩
 obtain⟨rfl,rfl⟩:=Ym e;exact⟨(Oi J6).1,λ_=>rfl⟩
theorem BG{y:u_}(b:Z8 y):y.kd=1\/y.kd=2\/y.kd=3\/y.kd=4\/y.kd=5:=by
 rcases b with⟨n,_,rfl⟩|⟨a,c,_,rfl⟩|⟨a,_,rfl⟩|⟨m,ls,c,t,_,rfl⟩|rfl
 ·exact .inl rfl
 ·exact .inr (.inl rfl)
 ·exact .inr (.inr (.inl rfl))
 ·exact .inr (.inr (.inr (.inl rfl)))
 exact .inr (.inr (.inr (.inr rfl)))
theorem Ih{y:u_}(a:Z8 y){w:List UInt8}{k:Int}(b:k=1\/k=2\/k=3\/k=4\/k=5)(h:w=aC y)(hw:w=aC ⟨k,0,⟨#[]⟩,⟨#[]⟩,C_,[],0,⟨#[]⟩⟩):y.kd=k:=by
 have c:=BG a;have e:aC y=aC ⟨k,0,⟨#[]⟩,⟨#[]⟩,C_,[],0,⟨#[]⟩⟩:=by rw[<- h,hw]
 clear a h hw;unfold aC at e;rcases b with rfl|rfl|rfl|rfl|rfl<;>rcases c with h|h|h|h|h<;>rw[h]at e<;>first|exact h|(exfalso;revert e;decide)
theorem Dt{y:u_}(d:Z8 y)(b:y.kd=1):∃n,(1<=n/\n<=200)/\y=v_ n:=by
 rcases d with h|⟨a,c,_,rfl⟩|⟨a,_,rfl⟩|⟨m,ls,c,t,_,rfl⟩|rfl
 ·exact h
 ·cases b
 ·cases b
 ·cases b
 cases b
theorem qy{y:u_}(e:Z8 y)(d:y.kd=2):∃a b,(Y5 a.data.toList=true/\b.size<=300)/\y=Xb a b:=by
 rcases e with⟨n,_,rfl⟩|h|⟨a,_,rfl⟩|⟨m,ls,c,t,_,rfl⟩|rfl
 ·cases d
 ·exact h
 ·cases d
 ·cases d
 cases d
theorem Kt{y:u_}(d:Z8 y)(b:y.kd=3):∃a,Y5 a.data.toList=true/\y=Vb a:=by
 rcases d with⟨n,_,rfl⟩|⟨a,c,_,rfl⟩|h|⟨m,ls,c,t,_,rfl⟩|rfl
 ·cases b
 ·cases b
 ·exact h
 ·cases b
 cases b
theorem dB{y:u_}(d:Z8 y)(b:y.kd=4):∃m ls c t,(Xe m=true/\Ee ls/\vr c t.data.toList=true)/\y=xg m ls c t:=by
 rcases d with⟨n,_,rfl⟩|⟨a,c,_,rfl⟩|⟨a,_,rfl⟩|h|rfl
 ·cases b
 ·cases b
 ·cases b
 ·exact h
 cases b
theorem Gz{y:u_}(d:Z8 y)(b:y.kd=5):y=U_:=by
 rcases d with⟨n,_,rfl⟩|⟨a,c,_,rfl⟩|⟨a,_,rfl⟩|⟨m,ls,c,t,_,rfl⟩|h
 ·cases b
 ·cases b
 ·cases b
 ·cases b
 exact h
theorem fQ(hw:O1 f≠Dk)(d:b≠[])(x:u_):oC (f::b) x false:=by
 refine XF (λy c e=>?_) x;obtain⟨h1,h2⟩:=He c e;by_cases a:y.kd=4
 ·apply hw;rw[h1];unfold aC;rw[if_neg O0,if_neg O0,if_neg O0,if_pos a]
 exact d (h2 a)
theorem CQ(h1:O1 f≠Dk)(h2:O1 f≠Xd)(g:O1 f≠Ph)(d:O1 f≠dh)(c:O1 f≠Fg)(x:u_):oC (f::b) x false:=by
 refine XF (λy a e=>?_) x;obtain⟨hw,_⟩:=He a e;unfold aC at hw;split at hw
 ·exact h2 hw
 split at hw
 ·exact g hw
 split at hw
 ·exact d hw
 split at hw
 ·exact h1 hw
 exact c hw
theorem uN(hw:O1 f=Xd):oC [f] (v_ (iI 200 (Y1 f))) (Qh 200 (Y1 f)):=by
 constructor
 ·intro y c e;obtain⟨h1,_⟩:=He c e;obtain⟨n,hn,rfl⟩:=Dt c (Ih c (.inl rfl) h1 (by rw[hw];rfl));have i:f=Xd++32::dec n:=(Ym e).1;have hr:Y1 f=dec n:=by rw[i];exact(N7 J6).2
  obtain⟨a,b⟩:=Jz (M:=200) (n:=n) O0 O0;rw[hr,a,b];exact⟨rfl,rfl⟩
 intro h _;have d:=(IK h).1;have g:Y1 f≠[]:=by rw[d];exact TI _
 show [f]=[Xd++32::dec (iI 200 (Y1 f))];rw[<- d,<- hw,<- qf g]
theorem oP{t:List UInt8}(hw:O1 f=Ph)(g:Unq (Y1 (Y1 f)) t ok):oC [f] (Xb (Y2 (O1 (Y1 f))) (Y2 t)) ok:=by
 constructor
 ·intro y d e;obtain⟨h1,_⟩:=He d e;obtain⟨a,b,j,rfl⟩:=qy d (Ih d (.inr (.inl rfl)) h1 (by rw[hw];rfl));have k:f=Ph++32::(a.data.toList++32::J5 b.data.toList):=(Ym e).1;have hr:Y1 f=a.data.toList++32::J5 b.data.toList:=by rw[k];exact(N7 J6).2
  obtain⟨i,c⟩:=N7 (r:=J5 b.data.toList) (N_ j.1).1;rw[<- hr]at i c;cases ok
  ·exact absurd c (g.2 rfl _)
  have:t=b.data.toList:=Yl ((g.1 rfl).symm.trans c);rw[i,this];exact⟨rfl,rfl⟩
 intro h _;have q:=g.1 h;have h2:Y1 (Y1 f)≠[]:=by rw[q];exact OH _
 have h1:Y1 f≠[]:=λh=>by rw[h]at h2;exact h2 rfl
 show [f]=[Ph++32::(O1 (Y1 f)++32::J5 t)];rw[<- q,<- qf h2,<- hw,<- qf h1]
theorem QO(hw:O1 f=dh):oC [f] (Vb (Y2 (Y1 f))) true:=by
 constructor
 ·intro y b e;obtain⟨h1,_⟩:=He b e;obtain⟨a,c,rfl⟩:=Kt b (Ih b (.inr (.inr (.inl rfl))) h1 (by rw[hw];rfl));have i:f=dh++32::a.data.toList:=(Ym e).1;have hr:Y1 f=a.data.toList:=by rw[i];exact(N7 J6).2
  rw[hr];exact⟨rfl,rfl⟩
 intro _ hx;obtain⟨a,c,e⟩:=Kt hx rfl;have g:Y2 (Y1 f)=a:=U6 u_.fn e;have d:Y1 f≠[]:=λh=>by
  rw[<- g,Q9,h]at c;cases c
 show [f]=[dh++32::Y1 f];rw[<- hw,<- qf d]
theorem jO(hw:O1 f=Fg):oC [f] U_ (decide ((32:UInt8)∉f)):=by
 constructor
 ·intro y a e;obtain⟨h1,_⟩:=He a e;have:=Gz a (Ih a (.inr (.inr (.inr (.inr rfl)))) h1 (by rw[hw];rfl));subst this;have b:=(Ym e).1;subst b;exact⟨J6,rfl⟩
 intro h _;rw[Zc]at h;have:=(Oi h).1;show [f]=[Fg];rw[<- this,hw]
theorem kU{y:u_}(a:Z8 y)(hw:O1 f=Dk)(e:f::b=h_ y):∃m ls c t,(Xe m=true/\Ee ls/\vr c t.data.toList=true)/\y=xg m ls c t/\Y1 f=Ad m/\b=ls.map Cc++[Gf++32::Ob c t]:=by
 obtain⟨h1,_⟩:=He a e;obtain⟨m,ls,c,t,d,rfl⟩:=dB a (Ih a (.inr (.inr (.inr (.inl rfl)))) h1 (by rw[hw];rfl));obtain⟨e1,g⟩:=Ym e;refine⟨m,ls,c,t,d,rfl,?_,g⟩;rw[e1];exact(N7 J6).2
theorem iU(hw:O1 f=Dk)(x:u_):oC [f] x false:=by
 refine XF (λy a e=>?_) x;obtain⟨m,ls,c,t,_,_,_,b⟩:=kU a hw e;have:=U6 List.length b;simp at this
theorem wV{g:List UInt8}{c:Int}{o1 o2 o3:Bool}(hw:O1 f=Dk)(hm:iy (Y1 f) m o1)(hl:Ul b ls o2)(hr:bD (Y1 g) c t o3):
 (o1=true->o2=true->O1 g=Gf->o3=true->oC (f::(b++[g])) (xg m ls c t) true)/\(¬(o1=true/\o2=true/\O1 g=Gf/\o3=true)->∀x,oC (f::(b++[g])) x false):=by
 have u:∀y,Z8 y->f::(b++[g])=h_ y->(o1=true/\o2=true/\O1 g=Gf/\o3=true)/\xg m ls c t=y:=by
  intro y a e;obtain⟨m',h,n,d,⟨k,j,i⟩,rfl,e1,F⟩:=kU a hw e;obtain⟨E,l⟩:=List.append_inj' F rfl;have l:=(Ym l).1;obtain⟨p,o⟩:=N7 (r:=Ob n d) (show(32:UInt8)∉Gf by decide);rw[<- l]at p o;obtain⟨a1,a2⟩:=hl.1 h j.2 E;obtain⟨J,I,H⟩:=hr.1 n d (Xg i).1 (Xg i).2 o;have ho:o1=true:=by
   cases o1
   ·exact absurd e1 (hm.2 rfl m' k)
   rfl
  have A:=tC (hm.1 ho).1 k (by rw[<- (hm.1 ho).2,e1]);exact⟨⟨ho,a1,p,J⟩,by rw[A,a2,I,H]⟩
 constructor
 ·intro h1 h2 C B;refine⟨λy a e=>⟨rfl,(u y a e).2⟩,λ_ hx=>?_⟩;obtain⟨m',h,n,d,⟨k,j,i⟩,e⟩:=dB hx rfl;have D:ls=h:=U6 u_.ls e;have q:=hr.2 B;have w:Y1 g≠[]:=by rw[q];exact pF _ _
  have s:=(hm.1 h1).2;have v:Y1 f≠[]:=by rw[s];exact VL m
  show f::(b++[g])=(Dk++32::Ad m)::(ls.map Cc++[Gf++32::Ob c t]);rw[<- s,<- q,<- hw,<- C,<- qf w,<- qf v,<- hl.2 h2 (by rw[D];exact j.2)]
 intro z x;exact XF (λy a e=>z (u y a e).1) x
def RE(l:List UInt8)(x:u_)(ok:Bool):Prop:=(ok=true->Z8 x/\I_ x=l)/\(ok=false->∀y,Z8 y->I_ y≠l)
theorem aH{y:u_}(b:Z8 y)(e:I_ y=l):Xh l=true/\L8 10 l.dropLast=h_ y:=by
 have hc:=uH (h_ y) (LH b);have d:h_ y≠[]:=by unfold h_;(repeat' split)<;>simp
 have a:Xh l=true:=by
  rw[<- e];unfold I_;rcases iC (h_ y)with h|⟨r,c,h⟩
  ·exact absurd h d
  rw[h,fC];have:jd (r++[c])=(jd r++c)++[10]:=by simp[jd]
  rw[this];exact nV _
 refine⟨a,?_⟩;have h2:=Xz a;have:L8 10 (l.dropLast++[10])=h_ y++[[]]:=by rw[<- h2,<- e];exact hc
 rw[ER]at this;exact List.append_cancel_right this
theorem a0B(h:Xh l=false)(x:u_):RE l x false:=by
 refine⟨(λh=>by cases h),λ_ y a e=>?_⟩;rw[(aH a e).1]at h;cases h
theorem TW(h:16000<l.length)(x:u_):RE l x false:=by
 refine⟨(λh=>by cases h),λ_ y a e=>?_⟩;have:=MK a;rw[e]at this;omega
theorem lV{x:u_}(h:Xh l=true)(hr:oC (L8 10 l.dropLast) x ok):(ok=true->Z8 x->RE l x true)/\(¬(ok=true/\Z8 x)->∀z,RE l z false):=by
 constructor
 ·intro h1 h2;refine⟨λ_=>⟨h2,?_⟩,(λh=>by cases h)⟩;unfold I_;rw[<- hr.2 h1 h2,dR];exact(Xz h).symm
 intro d z;refine⟨(λh=>by cases h),λ_ y c e=>?_⟩;obtain⟨a,b⟩:=hr.1 y c (aH c e).2;exact d ⟨a,by rw[b];exact c⟩
def xk(ep:Int)(fn ft kn kt ka:BY)(cd:Int)(tx:BY)(ep2:Int)(fn2 ft2 kn2 kt2 ka2:BY)(cd2:Int)(tx2:BY)(la lb:Nat):Prop:=ep=ep2/\fn=fn2/\ft=ft2/\kn=kn2/\kt=kt2/\ka=ka2/\la=lb/\cd=cd2/\tx=tx2
theorem c206(kd ep cd y n f:Int)(fn ft kn b c tx m l k j i d:BY)(C B:OA)(la lb A z:Nat)(w:World)(hla:la<=1048576)(hlb:lb<=1048576):
 Calls prog 206 #[.agg #[.int .i64 kd,.int .i64 ep,.string fn,.string ft,.string kn,.string b,.string c,.slice C la A,.int .i64 cd,.string tx],.agg #[.int .i64 y,.int .i64 n,.string m,.string l,.string k,.string j,.string i,.slice B lb z,.int .i64 f,.string d]] w λe w'=>Ia (xk ep fn ft kn b c cd tx n m l k j i f d la lb) e/\Bw w w':=by
 have g:∀o p,Bw w ((w.alloc o).alloc p):=λo p=>P6.alloc O4 _;rcases(f_ (ep=n)).symm with e0|e0
 ·have a:Hid (Ia (xk ep fn ft kn b c cd tx n m l k j i f d la lb) (.returned (.bool false))):=Z5 (λh=>e0 h.1)
  go_in
  go_wp2
  all_goals go_ret
  all_goals exact⟨a.out,g _ _⟩
 obtain rfl:=e0;rcases(f_ (fn.toList=m.toList)).symm with e1|e1
 ·have a:Hid (Ia (xk ep fn ft kn b c cd tx ep m l k j i f d la lb) (.returned (.bool false))):=Z5 (λh=>e1 (by rw[h.2.1]))
  go_in
  go_wp2
  all_goals go_ret
  all_goals exact⟨a.out,g _ _⟩
 obtain rfl:=(Td _ _).1 e1;clear e1;rcases(f_ (ft.toList=l.toList)).symm with u|u
 ·have a:Hid (Ia (xk ep fn ft kn b c cd tx ep fn l k j i f d la lb) (.returned (.bool false))):=Z5 (λh=>u (by rw[h.2.2.1]))
  go_in
  go_wp2
  all_goals go_ret
  all_goals exact⟨a.out,g _ _⟩
 obtain rfl:=(Td _ _).1 u;clear u;rcases(f_ (kn.toList=k.toList)).symm with t|t
 ·have a:Hid (Ia (xk ep fn ft kn b c cd tx ep fn ft k j i f d la lb) (.returned (.bool false))):=Z5 (λh=>t (by rw[h.2.2.2.1]))
  go_in
  go_wp2
  all_goals go_ret
  all_goals exact⟨a.out,g _ _⟩
 obtain rfl:=(Td _ _).1 t;clear t;rcases(f_ (b.toList=j.toList)).symm with s|s
 ·have a:Hid (Ia (xk ep fn ft kn b c cd tx ep fn ft kn j i f d la lb) (.returned (.bool false))):=Z5 (λh=>s (by rw[h.2.2.2.2.1]))
  go_in
  go_wp2
  all_goals go_ret
  all_goals exact⟨a.out,g _ _⟩
 obtain rfl:=(Td _ _).1 s;clear s;rcases(f_ (c.toList=i.toList)).symm with r|r
 ·have a:Hid (Ia (xk ep fn ft kn b c cd tx ep fn ft kn b i f d la lb) (.returned (.bool false))):=Z5 (λh=>r (by rw[h.2.2.2.2.2.1]))
  go_in
  go_wp2
  all_goals go_ret
  all_goals exact⟨a.out,g _ _⟩
 obtain rfl:=(Td _ _).1 r;clear r;rcases(f_ (la=lb)).symm with v|v
 ·have a:Hid (Ia (xk ep fn ft kn b c cd tx ep fn ft kn b c f d la lb) (.returned (.bool false))):=Z5 (λh=>v h.2.2.2.2.2.2.1);have hlen2:¬(la:Int)=(lb:Int):=O0
  go_in
  go_wp2
  all_goals go_ret
  all_goals exact⟨a.out,g _ _⟩
 obtain rfl:=v;rcases(f_ (cd=f)).symm with x|x
 ·have a:Hid (Ia (xk ep fn ft kn b c cd tx ep fn ft kn b c f d la la) (.returned (.bool false))):=Z5 (λh=>x h.2.2.2.2.2.2.2.1)
  go_in
  go_wp2
  all_goals go_ret
  all_goals exact⟨a.out,g _ _⟩
 obtain rfl:=x;rcases(f_ (tx.toList=d.toList)).symm with q|q
 ·have a:Hid (Ia (xk ep fn ft kn b c cd tx ep fn ft kn b c cd d la la) (.returned (.bool false))):=Z5 (λh=>q (by rw[h.2.2.2.2.2.2.2.2]))
  go_in
  go_wp2
  all_goals go_ret
  all_goals exact⟨a.out,g _ _⟩
 obtain rfl:=(Td _ _).1 q;clear q;have a:Hid (Ia (xk ep fn ft kn b c cd tx ep fn ft kn b c cd tx la la) (.returned (.bool true))):=Jf ⟨rfl,rfl,rfl,rfl,rfl,rfl,rfl,rfl,rfl⟩
 go_in
 go_wp2
 all_goals go_ret
 all_goals exact⟨a.out,g _ _⟩
open Go.RowKit Go.Maps
theorem Vz{c:Int}(h:Zg s):(t_ s.wd s.ts s.rs m ls c t=0->J_ s m ls c t=(⟨s.wd,(Q7 s.wd (Sl ls c t) (s.ts,true)).1,yg s.rs (Wh s.wd m ls c t)⟩,0))/\(t_ s.wd s.ts s.rs m ls c t≠0->J_ s m ls c t=(st0,t_ s.wd s.ts s.rs m ls c t)):=by
 by_cases h1:bg m ls c t
 ·by_cases h2:(Q7 s.wd (Sl ls c t) (s.ts,true)).2=false
  ·simp[J_,t_,h,h1,h2]
  by_cases a:300<(Q7 s.wd (Sl ls c t) (s.ts,true)).1.length\/150<(yg s.rs (Wh s.wd m ls c t)).length
  ·simp[J_,t_,h,h1,h2,a]
  simp[J_,t_,h,h1,h2,a]
 simp[J_,t_,h,h1]
theorem UQ{c:Int}(h:¬Zg s):J_ s m ls c t=(st0,1):=by
 unfold J_;rw[D8 h]
def Nu(s:St)(m:M3)(ls:List L4)(c:Int)(t:BY)(base:Nat)(w':World)(e:Ending):Prop:=
 ∃ta tc ra rc,e=.returned (.tuple #[.agg #[.int .i64 (J_ s m ls c t).1.wd,.slice ta (J_ s m ls c t).1.ts.length tc,.slice ra (J_ s m ls c t).1.rs.length rc],.int .i64 (J_ s m ls c t).2])/\Bd w' base (J_ s m ls c t).1.ts (J_ s m ls c t).1.rs (.slice ta (J_ s m ls c t).1.ts.length tc) (.slice ra (J_ s m ls c t).1.rs.length rc)
theorem Yp(W:World)(base:Nat):Bd W base [] [] (.slice none 0 0) (.slice none 0 0):=⟨og _ _ _ _,[],rfl,og _ _ _ _,λi h=>absurd h (U7 _),λi j h=>absurd h (U7 _)⟩
theorem Gm{c:Int}{n:Int}(h:J_ s m ls c t=(st0,n)):Nu s m ls c t base w' (.returned (.tuple #[.agg #[.int .i64 0,.slice none 0 0,.slice none 0 0],.int .i64 n])):=by
 unfold Nu;rw[h];exact⟨none,0,none,0,rfl,Yp _ _⟩
theorem wM{c:Int}{d:Int}{a:LB}{b:List R3}{ta ra:OA}{tc rc:Nat}(h:J_ s m ls c t=(⟨d,a,b⟩,0))(e:Bd w' base a b (.slice ta a.length tc) (.slice ra b.length rc)):Nu s m ls c t base w' (.returned (.tuple #[.agg #[.int .i64 d,.slice ta a.length tc,.slice ra b.length rc],.int .i64 0])):=by
 unfold Nu;rw[h];exact⟨ta,tc,ra,rc,rfl,e⟩
theorem Bd.keep{W W':World}{ts:LB}{rs:List R3}{tv d:Value}(h:Bd W base ts rs tv d)(b:∀q,base<=q->q<W.heap.size->W'.heap[q]?=W.heap[q]?):Bd W' base ts rs tv d:=by
 obtain⟨h1,vs,h2⟩:=h;refine⟨G7 h1 (λq a=>b q (Y6 h1 a) (Oe h1 a)),vs,h2.len,G7 h2.row (λq a=>b q (Y6 h2.row a) (Oe h2.row a)),λi f=>?_,h2.apart⟩;obtain⟨g,c3,e,c⟩:=h2.gl i f;exact⟨g,c3,e,G7 c (λq a=>b q (Y6 c a) (Oe c a))⟩

import Derived.Test.YtkccjgajimjjdaaGreatDooreR9
import Derived.Test.YtkccjgajimjjdaaGreatDoorMB
import Derived.Test.YtkccjgajimjjdaaGreatDoorM8
set_option linter.unusedVariables false
set_option maxHeartbeats 8000000
set_option maxRecDepth 100000
namespace Go.Proofs.YtkccjgajimjjdaaGreatDoor
open Proofs.Tryz Go.RowKit
variable{W W' w':World}{s:St}{m:M3}{ls:List L4}{c:Int}{t:BY}{base:Nat}{rs:List R3}{v:Value}{vs:List Value}
def dX(x:z_)(ai:OA)(ci:Nat):Value:=if x.kd=1 then .iface 140 (.int .i64 x.ep) else if x.kd=2 then .iface 247 (.agg #[.string x.fn,.string x.ft]) else if x.kd=3 then .iface 248 (.string x.fn) else if x.kd=4 then .iface 250 (.agg #[.string x.km.nm,.string x.km.tl,.string x.km.ar,.slice ai x.ls.length ci,.int .i64 x.cd,.string x.tx]) else .iface 253 (.agg #[])
def ShE(x:z_):Prop:=(∃n,x=J9 n)\/(∃a b,x=Lc a b)\/(∃a,x=Ec a)\/(∃m ls c t,x=Qg m ls c t)\/x=Va
theorem Xg.bel{w:World}{B:Nat}{ao:OA}{is:List L4}(h:Xg w B ao is)(a:Bw w w'):Xg w' B ao is:=
 ⟨U7 h.at' a,h.own.imp id λ⟨g,h1,h2,b⟩=>⟨g,h1,h2,b.below a⟩⟩
def a0j(L:List (List UInt8))(w w':World)(e:Ending):Prop:=(∃v,e=.returned (.tuple #[v,.bool false])/\∀z,EC L z false)\/(∃(x:z_)(ai:OA)(ci:Nat),e=.returned (.tuple #[dX x ai ci,.bool true])/\EC L x true/\ShE x/\x.le 1048576/\Xg w' w.heap.size ai x.ls)
theorem Un{L:List (List UInt8)}(h:∀z,EC L z false)(w w':World):a0j L w w' (.returned (.tuple #[.nilIface,.bool false])):=.inl ⟨_,rfl,h⟩
theorem c227(f p:List UInt8)(b:List (List UInt8))(g o cp:Nat)(w:World)(Z:J3 f=p)(hw:Y2 f=Gl)(W:p.length<=16000)(A:Jc w)(hb:b.length<=16001)(hcp:b.length<=cp)(B:Bj w g o b)(I:∀i,i<b.length->(b.getD i []).length<=16000):
 Calls prog 227 #[.string (I4 p),.slice (some ⟨g,o,none⟩) b.length cp] w λe w'=>a0j (f::b) w w' e/\Bw w w':=by
 rcases vC b with n|⟨j,last,n⟩
 ·subst n;have l:Hid (∀z,EC [f] z false):=λz=>MP hw z
  go_in
  go_wp2;go_ret2;exact⟨Un l _ _,G5 _ _⟩
 rw[WC]at n;have HL:=U0 B;have hlen:b.length=j.length+1:=by rw[n];simp
 have a6E:Bj w g o j:=⟨B.1,λi F=>(B.2 i O0).trans (by rw[n];simp only[Sj];rw[G_ F])⟩;have cl:w.cell? (aA g (o+j.length))=some (vS (I4 last)):=(B.2 j.length O0).trans (by rw[n];simp only[Sj];rw[Ue X7];simp);have a7A:∀i,i<j.length->(j.getD i []).length<=16000:=λi F=>by
  have h:=I i O0;rw[n]at h;simp only[Sj]at h ⊢;rw[G_ F]at h;exact h
 have hll:last.length<=16000:=by
  have h:=I j.length O0;rw[n]at h;simp only[Sj]at h;rw[Ue X7]at h;simpa using h
 have hg:=B.1;have hne:¬(b.length=0):=O0;have hbl:j.length<=16000:=O0;have hcp2:j.length+1<=cp:=O0;rw[hlen]
 go_in
 have hwr:wrap64 (j.length:Int)=(j.length:Int):=IntWalk.wrap64_in _ O0;have J:=λ(m:M3) (ls:List L4) (c:Int) (t:BY) (o1 o2 o3:Bool) hm hl hr=>WV (f:=f) (g:=last) (b:=j) (m:=m) (ls:=ls) (c:=c) (t:=t) (o1:=o1) (o2:=o2) (o3:=o3) hw hm hl hr;rw[Z,<- n]at J
 go_wp2_with fail
 refine(a1V p _ W A).mono ?_;rintro e w1⟨⟨m,o1,rfl,hm⟩,H⟩;have hm1:=Q9 A H;have U:=H.size;unfold M3.v;have D:=λE=>H.alloc U E;have cl1:=λE=>((D E).cell (by exact hg)).trans cl;have hcc:¬cp<j.length:=O0
 go_wp2_with fail
 refine(a4r g o cp j _ (Q9 A (D _)) (Gs a6E (D _)) a7A O0).mono ?_;rintro e x⟨⟨ls,o2,ao,ac,rfl,Y,a7B,hlc,hlk⟩,u⟩;have q:(w1.alloc (.cells #[vS m.nm,vS m.tl,vS m.ar] 69)).heap.size=w1.heap.size+1:=E5;have hz2:w1.heap.size+1<=x.heap.size:=by have h:=u.size;rw[q]at h;exact h
 have L:=(D _).trans (u.mono (by rw[q];omega));have cl2:=(u.cell (by rw[q];show g<_;omega)).trans (cl1 _);have m0:x.cell? (aW w1 0)=some (vS m.nm):=(u.cell (by rw[q];exact Dl _)).trans (by simp[go_sem]);have S:x.cell? (aW w1 1)=some (vS m.tl):=(u.cell (by rw[q];exact Dl _)).trans (by simp[go_sem]);have R:x.cell? (aW w1 2)=some (vS m.ar):=(u.cell (by rw[q];exact Dl _)).trans (by simp[go_sem]);have hlk2:Xg x w.heap.size ao ls:=hlk.mono (by rw[q];omega);have hm2:=Q9 A L;have hrs:=Y8 last
 go_wp2_with fail
 refine(kM last _ O0 hm2).mono ?_;rintro e w3⟨⟨y,rfl⟩,s⟩;have K:=J5 L s;have hm3:=Q9 A K;have a7C:=Xg.bel hlk2 s;have Q:=(s.cell (by show w1.heap.size<_;omega)).trans m0;have n1:=(s.cell (by show w1.heap.size<_;omega)).trans S;have n2:=(s.cell (by show w1.heap.size<_;omega)).trans R;have hz3:=s.size
 go_wp2_with fail
 refine(a2m (J3 last) _ O0 hm3).mono ?_;rintro e w4⟨⟨c,t,o3,rfl,X,V⟩,r⟩;have d:=J5 K r;have a7D:=Xg.bel a7C r;have P:=(r.cell (by show w1.heap.size<_;omega)).trans Q;have O:=(r.cell (by show w1.heap.size<_;omega)).trans n1;have N:=(r.cell (by show w1.heap.size<_;omega)).trans n2;have hz4:=r.size;have hR:=J m ls c t o1 o2 o3 hm Y X;have hKS:o1=true->m.le 1048576:=λh=>by
  have a:=mF (hm.1 h).1;simp only[Zw,ByteArray.size_data]at a;exact⟨O0,O0,O0⟩
 have hgv:((I4 (Y2 last)).toList==[103,97,118,101])=decide (Y2 last=Vf):=by
  rw[ByteArray.toList_eq,f_];by_cases h:Y2 last=Vf
  ·rw[X_ h,h];rfl
  rw[o_ h];exact V_.2 h
 have C:(o1=false\/o2=false\/decide (Y2 last=Vf)=false\/o3=false)->Hid (∀z,EC (f::b) z false):=λh=>hR.2 (λk=>by
  rcases h with h|h|h|h
  ·rw[h]at k;cases k.1
  ·rw[h]at k;cases k.2.1
  ·rw[ru]at h;exact h k.2.2.1
  rw[h]at k;cases k.2.2.2)
 have a7E:o1=true->o2=true->decide (Y2 last=Vf)=true->o3=true->Hid (EC (f::b) (Qg m ls c t) true):=λh1 h2 h3 h4=>hR.1 h1 h2 (nK h3) h4;generalize decide (Y2 last=Vf)=gv at*;generalize I4 (Y2 last)=wl at*;cases o1
 ·have l:=C (.inl rfl);go_wp2
  all_goals go_ret2
  all_goals exact⟨Un l.out _ _,by first|exact d|exact d.alloc d.size _⟩
 cases o2
 ·have l:=C (.inr (.inl rfl));go_wp2
  all_goals go_ret2
  all_goals exact⟨Un l.out _ _,by first|exact d|exact d.alloc d.size _⟩
 cases gv
 ·have l:=C (.inr (.inr (.inl rfl)));go_wp2
  all_goals go_ret2
  all_goals exact⟨Un l.out _ _,by first|exact d|exact d.alloc d.size _⟩
 cases o3
 ·have l:=C (.inr (.inr (.inr rfl)));go_wp2
  all_goals go_ret2
  all_goals exact⟨Un l.out _ _,by first|exact d|exact d.alloc d.size _⟩
 have l:=a7E rfl rfl rfl rfl;have HKS:=hKS rfl;have q0:=past (p:=(aW w1 0)) (by show w1.heap.size<_;omega) P;have q1:=past (p:=(aW w1 1)) (by show w1.heap.size<_;omega) O;have q2:=past (p:=(aW w1 2)) (by show w1.heap.size<_;omega) N;go_wp2;go_ret2;exact⟨.inr ⟨Qg m ls c t,ao,ac,rfl,l,.inr (.inr (.inr (.inl ⟨m,ls,c,t,rfl⟩))),⟨J4 _,J4 _,HKS,⟨by show ls.length<=1048576;omega,a7B⟩,V⟩,a7D.bel Y6⟩,d.alloc d.size _⟩
theorem fG(x:z_)(h1:x.fn.size<=1048576)(h2:x.ft.size<=1048576)(c:x.km=L_)(b:x.ls=[])(a:x.tx=⟨#[]⟩):x.le 1048576:=by
 refine⟨h1,h2,?_,?_,?_⟩
 ·rw[c];exact⟨J4 _,J4 _,J4 _⟩
 ·rw[b];exact⟨J4 _,λ_=>⟨J4 _,J4 _⟩⟩
 rw[a];exact J4 _
theorem Bq(l w:List UInt8):((I4 (Y2 l)).toList==w)=decide (Y2 l=w):=by
 rw[ByteArray.toList_eq,f_];by_cases h:Y2 l=w
 ·rw[X_ h,h];simp
 rw[o_ h];exact V_.2 h
theorem FZ(l:List UInt8)(w:World)(hs:l.length<=1048700)(hm:Jc w):
 Calls prog 222 #[.string (I4 l),.string ⟨#[32]⟩] w λe w'=>e=.returned (.tuple #[.string (I4 (Y2 l)),.string (I4 (J3 l)),.bool (decide ((32:UInt8)∈l))])/\Bw w w':=by
 obtain⟨_,m,hm⟩:=hm;refine(Tryz.strings_Cut (I4 l) ⟨#[32]⟩ m w (by rw[P5];omega) hm).mono ?_;rintro e w'⟨rfl,n,rfl⟩;refine⟨?_,below_drewN n⟩;have b:(Lib.cut l [32]).2.2=decide ((32:UInt8)∈l):=by
  unfold Lib.cut;rcases Wu l with⟨h,a⟩|⟨i,h,hm,_,_⟩
  ·rw[h,Y7 O0,o_ a]
  rw[h,L8 O0,X_ hm]
 rw[<- NJ,<- UF,<- b];rfl
theorem a4p(f:List UInt8)(b:List (List UInt8))(g:Nat)(w:World)(hs:f.length<=16000)(D:Jc w)(Y:b.length<=16001)(q:Bj w g 0 (f::b))(W:∀i,i<b.length->(b.getD i []).length<=16000):
 Calls prog 187 #[.slice (some ⟨g,0,none⟩) (b.length+1) (b.length+1)] w λe w'=>a0j (f::b) w w' e/\Bw w w':=by
 have c0:w.cell? (aA g 0)=some (vS (I4 f)):=q.2 0 E5;have S:Bj w g 1 b:=⟨q.1,λi F=>by
  have h:=q.2 (i+1) Q8;rw[o9]at h;rw[Nat.add_comm 1 i,h];rfl⟩
 have V:=q.1;obtain⟨o1,ho1,R⟩:∃o1,(if b=[] then some (aA g 0) else some (aA g 1))=some (aA g o1)/\Bj w g o1 b:=by
  by_cases C:b=[]
  ·exact⟨0,by rw[L8 C],V,λi F=>by subst C;cases F⟩
  exact⟨1,by rw[Y7 C],S⟩
 have hrs:=Y8 f;have HBS:=U0 W
 go_in
 go_wp2_with fail
 refine(FZ f _ O0 D).mono ?_;rintro e w1⟨rfl,c⟩;have E:=Q9 D c;have U:=Gs R c;have O:=Bq f [114,97,110];have N:=Bq f [101,112,111,99,104];have L:=Bq f [102,105,108,101];have K:=Bq f [100,114,111,112];have J:=Bq f [99,108,101,97,114];by_cases j:Y2 f=Gl
 ·rw[show(decide (Y2 f=[114,97,110]))=true from X_ j]at O;have Z:=λu=>c227 f (J3 f) b g o1 b.length u rfl j O0;generalize I4 (Y2 f)=wd at*;have hif:¬((b.length:Int)+1<1):=O0
  go_wp2_with fail
  refine(Z _ E Y X7 U HBS).mono ?_;rintro e s⟨hr,B⟩;have I:=J5 c B;rcases hr with⟨v,rfl,p⟩|⟨x,P,ci,rfl,h1,h2,h3,h4⟩
  ·have a:=U0 p;go_wp2;go_ret2;exact⟨.inl ⟨v,rfl,a⟩,I⟩
  have a:Hid (EC (f::b) x true/\ShE x/\x.le 1048576/\Xg s w.heap.size P x.ls):=⟨h1,h2,h3,h4.mono c.size⟩;go_wp2;go_ret2;exact⟨.inr ⟨x,P,ci,rfl,a.out.1,a.out.2.1,a.out.2.2.1,a.out.2.2.2⟩,I⟩
 rw[show(decide (Y2 f=[114,97,110]))=false from o_ j]at O;by_cases A:b=[]
 ·subst A;by_cases n:Y2 f=Bd
  ·rw[show(decide (Y2 f=[101,112,111,99,104]))=true from X_ n]at N;have a:=U0 (DN n);generalize I4 (Y2 f)=wd at*
   go_wp2_with fail
   refine(xZ 200 (I4 (J3 f)) _ (by rw[P5];omega) O0 O0).mono ?_;rintro e s⟨rfl,rfl⟩;rw[f_];cases p:Ci 200 (J3 f)
   ·rw[p]at a;go_wp2;go_ret2;exact⟨.inl ⟨_,rfl,λz=>⟨λy d e=>absurd (a.out.1 y d e).1 Z5,(λh=>by cases h)⟩⟩,c⟩
   rw[p]at a;go_wp2;go_ret2;exact⟨.inr ⟨J9 (EI 200 (J3 f)),none,0,rfl,a,.inl ⟨_,rfl⟩,fG _ (J4 _) (J4 _) rfl rfl rfl,⟨.inl rfl,.inl rfl⟩⟩,c⟩
  rw[show(decide (Y2 f=[101,112,111,99,104]))=false from o_ n]at N;by_cases m:Y2 f=Oi
  ·rw[show(decide (Y2 f=[102,105,108,101]))=true from X_ m]at L;have HNf:=λt ok o=>ES (f:=f) (t:=t) (ok:=ok) m o;have a6y:=Y8 (J3 f);generalize I4 (Y2 f)=wd at*
   go_wp2_with fail
   refine(FZ (J3 f) _ O0 E).mono ?_;rintro e s⟨rfl,B⟩
   go_wp2_with fail
   refine(BP (J3 (J3 f)) _ O0).mono ?_;rintro e w3⟨⟨t,ok,rfl,o⟩,X⟩;have a:=U0 (HNf t ok o);have Q:ok=true->t.length<=16000:=λh=>by
    have:=Zo t;rw[<- o.1 h]at this;omega
   have H:=c.trans ((J5 B X).mono c.size);cases ok
   ·go_wp2;go_ret2;exact⟨.inl ⟨_,rfl,λz=>⟨λy d e=>absurd (a.out.1 y d e).1 Z5,(λh=>by cases h)⟩⟩,H⟩
   have a8l:=Q rfl;go_wp2;go_ret2;exact⟨.inr ⟨Lc (I4 (Y2 (J3 f))) (I4 t),none,0,rfl,a,.inr (.inl ⟨_,_,rfl⟩),fG _ (by show(I4 (Y2 (J3 f))).size<=1048576;rw[P5];omega) (by show(I4 t).size<=1048576;rw[P5];omega) rfl rfl rfl,⟨.inl rfl,.inl rfl⟩⟩,H⟩
  rw[show(decide (Y2 f=[102,105,108,101]))=false from o_ m]at L;by_cases l:Y2 f=Eh
  ·rw[show(decide (Y2 f=[100,114,111,112]))=true from X_ l]at K;have a:=U0 (vP l);generalize I4 (Y2 f)=wd at*;go_wp2;go_ret2;exact⟨.inr ⟨Ec (I4 (J3 f)),none,0,rfl,a,.inr (.inr (.inl ⟨_,rfl⟩)),fG _ (by show(I4 (J3 f)).size<=1048576;rw[P5];omega) (J4 _) rfl rfl rfl,⟨.inl rfl,.inl rfl⟩⟩,c⟩
  rw[show(decide (Y2 f=[100,114,111,112]))=false from o_ l]at K;by_cases k:Y2 f=ah
  ·rw[show(decide (Y2 f=[99,108,101,97,114]))=true from X_ k]at J;have a:=U0 (dO k);generalize I4 (Y2 f)=wd at*;by_cases r:(32:UInt8)∈f
   ·rw[show decide ((32:UInt8)∉f)=false from o_ (λh=>h r)]at a;rw[X_ r];go_wp2;go_ret2;exact⟨.inl ⟨_,rfl,λz=>⟨λy d e=>absurd (a.out.1 y d e).1 Z5,(λh=>by cases h)⟩⟩,c⟩
   rw[show decide ((32:UInt8)∉f)=true from X_ r]at a;rw[o_ r];go_wp2;go_ret2;exact⟨.inr ⟨Va,none,0,rfl,a,.inr (.inr (.inr (.inr rfl))),fG _ (J4 _) (J4 _) rfl rfl rfl,⟨.inl rfl,.inl rfl⟩⟩,c⟩
  rw[show(decide (Y2 f=[99,108,101,97,114]))=false from o_ k]at J;have a:Hid (∀z,EC [f] z false):=λz=>eU j n m l k z;generalize I4 (Y2 f)=wd at*;go_wp2;go_ret2;exact⟨Un a _ _,c⟩
 have a:Hid (∀z,EC (f::b) z false):=λz=>AP j A z;have hbl:1<=b.length:=Rl.2 A;have hb1':decide (1<(b.length:Int)+1)=true:=Q8;generalize I4 (Y2 f)=wd at*;go_wp2;go_ret2;exact⟨Un a _ _,c⟩
theorem a3J (v:Value) (w:World):(Go.method 567 140 v "loop.example/kiln/impl.isSound").run prog w=.ok (99,v) w:=Y1
theorem a4v (v:Value) (w:World):(Go.method 567 247 v "loop.example/kiln/impl.isSound").run prog w=.ok (377,v) w:=Y1
theorem a4E (v:Value) (w:World):(Go.method 567 248 v "loop.example/kiln/impl.isSound").run prog w=.ok (379,v) w:=Y1
theorem a5t (v:Value) (w:World):(Go.method 567 250 v "loop.example/kiln/impl.isSound").run prog w=.ok (381,v) w:=Y1
theorem a5z (v:Value) (w:World):(Go.method 567 253 v "loop.example/kiln/impl.isSound").run prog w=.ok (383,v) w:=Y1
theorem ZH(n:Int):N9 (J9 n)↔(1<=n/\n<=200):=by
 constructor
 ·intro h;obtain⟨m,hm,e⟩:=wu h rfl;have:n=m:=l7 z_.ep e;rw[this];exact hm
 intro h;exact .inl ⟨n,h,rfl⟩
theorem wK(a b:BY):N9 (Lc a b)↔(X6 a.data.toList=true/\b.size<=300):=by
 constructor
 ·intro h;obtain⟨d,b',hm,e⟩:=Jy h rfl;have e1:a=d:=l7 z_.fn e;have c:b=b':=l7 z_.ft e;rw[e1,c];exact hm
 intro h;exact .inr (.inl ⟨a,b,h,rfl⟩)
theorem zM(a:BY):N9 (Ec a)↔X6 a.data.toList=true:=by
 constructor
 ·intro h;obtain⟨b,hm,e⟩:=Ju h rfl;have e1:a=b:=l7 z_.fn e;rw[e1];exact hm
 intro h;exact .inr (.inr (.inl ⟨a,h,rfl⟩))
theorem dS(m:M3)(ls:List L4)(c:Int)(t:BY):N9 (Qg m ls c t)↔Fg m ls c t:=by
 constructor
 ·intro h;obtain⟨m',b,i,a,hm,e⟩:=Zz h rfl;have e1:m=m':=l7 z_.km e;have g:ls=b:=l7 z_.ls e;have f:c=i:=l7 z_.cd e;have d:t=a:=l7 z_.tx e;rw[e1,g,f,d];exact hm
 intro h;exact .inr (.inr (.inr (.inl ⟨m,ls,c,t,h,rfl⟩)))
def uU(l:List UInt8)(w w':World)(e:Ending):Prop:=(e=.returned (.tuple #[.nilIface,.bool false])/\∀z,RE l z false)\/(∃(x:z_)(ai:OA)(ci:Nat),e=.returned (.tuple #[dX x ai ci,.bool true])/\RE l x true/\ShE x/\x.le 1048576/\Xg w' w.heap.size ai x.ls)
theorem a5o(s:BY)(w:World)(hs:s.size<=1048576)(H:Jc w):
 Calls prog 140 #[.string s] w λe w'=>uU s.data.toList w w' e/\Bw w w':=by
 have hsl:s.data.toList.length=s.size:=E5;by_cases h16:s.size<=16000
 ·have hd:decide (16000<(s.size:Int))=false:=Q8
  go_in
  go_wp2_with fail
  refine(a5c s _ O0 H).mono ?_;rintro e w1⟨hr,D⟩;rcases hr with⟨F,rfl⟩|⟨F,g,rfl,hg0,I⟩
  ·have d:Hid (∀z,RE s.data.toList z false):=λz=>a0F F z;go_wp2;go_ret2;exact⟨.inl ⟨rfl,d⟩,D⟩
  have N:=Zn 10 s.data.toList.dropLast;have J:s.data.toList.dropLast.length<=16000:=by rw[List.length_dropLast];omega
  have K:=Rh 10 s.data.toList.dropLast;have O:=λx ok hr=>wW (l:=s.data.toList) (x:=x) (ok:=ok) F hr;generalize x9 10 s.data.toList.dropLast=L at*;obtain⟨f,b,rfl⟩:∃f b,L=f::b:=by
   cases L with
   | nil=>simp at N
   | cons f b=>exact⟨f,b,rfl⟩
  have U:f.length<=16000:=I8 (K 0) J;have V:∀i,i<b.length->(b.getD i []).length<=16000:=λi _=>I8 (K (i+1)) J;have W:b.length<=16001:=by simp at N;omega
  have R:Bj w1 g 0 (f::b):=⟨I.1,λi S=>by rw[o9];exact I.2 i S⟩;have Q:=Q9 H D;simp only[u_]
  go_wp2_with fail
  refine(a4p f b g _ U Q W R V).mono ?_;rintro e w2⟨hr,X⟩;have A:=J5 D X;rcases hr with⟨v,rfl,P⟩|⟨x,u,q,rfl,h1,h2,p,Y⟩
  ·have d:=U0 ((O Dj false (P _)).2 (λh=>by cases h.1));go_wp2;go_ret2;exact⟨.inl ⟨rfl,d⟩,A⟩
  have hR:=O x true h1;have B:=Y.mono D.size;rcases h2 with⟨n,rfl⟩|⟨a,c,rfl⟩|⟨a,rfl⟩|⟨m,ls,c,t,rfl⟩|rfl
  ·have E:=a3J;have he:dX (J9 n) u q=.iface 140 (vI n):=rfl;rw[he]
   go_wp2_with fail
   refine(c99 n _).mono ?_;rintro e C⟨⟨r,rfl,o⟩,j⟩;have k:=J5 A j;have y:=Xg.bel B j;cases r
   ·have d:=U0 (hR.2 (λh=>absurd (o.2 ((ZH n).1 h.2)) Z5));go_wp2;go_ret2;exact⟨.inl ⟨rfl,d⟩,k⟩
   have d:=U0 (hR.1 (by first|rfl|trivial) ((ZH n).2 (o.1 rfl)));go_wp2;go_ret2;exact⟨.inr ⟨J9 n,u,q,rfl,d,.inl ⟨_,rfl⟩,p,y⟩,k⟩
  ·have E:=a4v;have he:dX (Lc a c) u q=.iface 247 (.agg #[vS a,vS c]):=rfl;rw[he]
   go_wp2_with fail
   refine(a4e a c _ (I8 p.1 O0) (I8 p.2.1 O0)).mono ?_;rintro e C⟨⟨r,rfl,o⟩,j⟩;have k:=J5 A j;have y:=Xg.bel B j;cases r
   ·have d:=U0 (hR.2 (λh=>absurd (o.2 ((wK a c).1 h.2)) Z5));go_wp2;go_ret2;exact⟨.inl ⟨rfl,d⟩,k⟩
   have d:=U0 (hR.1 (by first|rfl|trivial) ((wK a c).2 (o.1 rfl)));go_wp2;go_ret2;exact⟨.inr ⟨Lc a c,u,q,rfl,d,.inr (.inl ⟨_,_,rfl⟩),p,y⟩,k⟩
  ·have E:=a4E;have he:dX (Ec a) u q=.iface 248 (vS a):=rfl;rw[he]
   go_wp2_with fail
   refine(a3O a _ (I8 p.1 O0)).mono ?_;rintro e C⟨⟨r,rfl,o⟩,j⟩;have k:=J5 A j;have y:=Xg.bel B j;cases r
   ·have d:=U0 (hR.2 (λh=>absurd (o.2 ((zM a).1 h.2)) Z5));go_wp2;go_ret2;exact⟨.inl ⟨rfl,d⟩,k⟩
   have d:=U0 (hR.1 (by first|rfl|trivial) ((zM a).2 (o.1 rfl)));go_wp2;go_ret2;exact⟨.inr ⟨Ec a,u,q,rfl,d,.inr (.inr (.inl ⟨_,rfl⟩)),p,y⟩,k⟩
  ·have E:=a5t;have he:dX (Qg m ls c t) u q=.iface 250 (.agg #[vS m.nm,vS m.tl,vS m.ar,vL u ls.length q,vI c,vS t]):=rfl;rw[he]
   go_wp2_with fail
   refine(a4h m ls c t u q _ p.2.2.1 p.2.2.2.1.1 p.2.2.2.1.2 p.2.2.2.2 B.at').mono ?_;rintro e C⟨⟨r,rfl,o⟩,j⟩;have k:=J5 A j;have y:=Xg.bel B j;cases r
   ·have d:=U0 (hR.2 (λh=>absurd (o.2 ((dS m ls c t).1 h.2)) Z5));go_wp2;go_ret2;exact⟨.inl ⟨rfl,d⟩,k⟩
   have d:=U0 (hR.1 (by first|rfl|trivial) ((dS m ls c t).2 (o.1 rfl)));go_wp2;go_ret2;exact⟨.inr ⟨Qg m ls c t,u,q,rfl,d,.inr (.inr (.inr (.inl ⟨_,_,_,_,rfl⟩))),p,y⟩,k⟩
  have E:=a5z;have he:dX (Va) u q=.iface 253 (.agg #[]):=rfl;rw[he]
  go_wp2_with fail
  refine(a3Q _).mono ?_;rintro e C⟨⟨r,rfl,o⟩,j⟩;have k:=J5 A j;have y:=Xg.bel B j;cases r
  ·have d:=U0 (hR.2 (λh=>absurd (o.2 trivial) Z5));go_wp2;go_ret2;exact⟨.inl ⟨rfl,d⟩,k⟩
  have d:=U0 (hR.1 (by first|rfl|trivial) (.inr (.inr (.inr (.inr rfl)))));go_wp2;go_ret2;exact⟨.inr ⟨Va,u,q,rfl,d,.inr (.inr (.inr (.inr rfl))),p,y⟩,k⟩
 have d:Hid (∀z,RE s.data.toList z false):=λz=>RY O0 z;have hd:decide (16000<(s.size:Int))=true:=Q8
 go_in
 go_wp2;go_ret2;exact⟨.inl ⟨rfl,d⟩,G5 _ _⟩
theorem a4u{x:z_}(c:x.kd=1):Ll x.ep x.fn x.ft x.km.nm x.km.tl x.km.ar x.cd x.tx x.ep ⟨#[]⟩ ⟨#[]⟩ ⟨#[]⟩ ⟨#[]⟩ ⟨#[]⟩ 0 ⟨#[]⟩ x.ls.length 0↔x=J9 x.ep:=by
 obtain⟨kd,ep,fn,ft,⟨kn,kt,ka⟩,ls,cd,tx⟩:=x;dsimp only at c;subst c;unfold Ll;constructor
 ·rintro⟨h1,h2,i,a,g,f,b,e,d⟩;dsimp only at*
  (try(have j:ls=[]:=Qb.1 b;subst j))
  subst_vars
  rfl
 intro h;obtain⟨-,h1,h2,i,a,b,e,d⟩:=z_.mk.inj h;obtain⟨a,g,f⟩:=M3.mk.inj a;exact⟨h1,h2,i,a,g,f,by first|rfl|(rw[b];rfl),e,d⟩
theorem a3w{x:z_}(c:x.kd=2):Ll x.ep x.fn x.ft x.km.nm x.km.tl x.km.ar x.cd x.tx 0 x.fn x.ft ⟨#[]⟩ ⟨#[]⟩ ⟨#[]⟩ 0 ⟨#[]⟩ x.ls.length 0↔x=Lc x.fn x.ft:=by
 obtain⟨kd,ep,fn,ft,⟨kn,kt,ka⟩,ls,cd,tx⟩:=x;dsimp only at c;subst c;unfold Ll;constructor
 ·rintro⟨h1,h2,i,a,g,f,b,e,d⟩;dsimp only at*
  (try(have j:ls=[]:=Qb.1 b;subst j))
  subst_vars
  rfl
 intro h;obtain⟨-,h1,h2,i,a,b,e,d⟩:=z_.mk.inj h;obtain⟨a,g,f⟩:=M3.mk.inj a;exact⟨h1,h2,i,a,g,f,by first|rfl|(rw[b];rfl),e,d⟩
theorem a5E{x:z_}(c:x.kd=3):Ll x.ep x.fn x.ft x.km.nm x.km.tl x.km.ar x.cd x.tx 0 x.fn ⟨#[]⟩ ⟨#[]⟩ ⟨#[]⟩ ⟨#[]⟩ 0 ⟨#[]⟩ x.ls.length 0↔x=Ec x.fn:=by
 obtain⟨kd,ep,fn,ft,⟨kn,kt,ka⟩,ls,cd,tx⟩:=x;dsimp only at c;subst c;unfold Ll;constructor
 ·rintro⟨h1,h2,i,a,g,f,b,e,d⟩;dsimp only at*
  (try(have j:ls=[]:=Qb.1 b;subst j))
  subst_vars
  rfl
 intro h;obtain⟨-,h1,h2,i,a,b,e,d⟩:=z_.mk.inj h;obtain⟨a,g,f⟩:=M3.mk.inj a;exact⟨h1,h2,i,a,g,f,by first|rfl|(rw[b];rfl),e,d⟩
theorem a4Q{x:z_}(c:x.kd=4):Ll x.ep x.fn x.ft x.km.nm x.km.tl x.km.ar x.cd x.tx 0 ⟨#[]⟩ ⟨#[]⟩ x.km.nm x.km.tl x.km.ar x.cd x.tx x.ls.length x.ls.length↔x=Qg x.km x.ls x.cd x.tx:=by
 obtain⟨kd,ep,fn,ft,⟨kn,kt,ka⟩,ls,cd,tx⟩:=x;dsimp only at c;subst c;unfold Ll;constructor
 ·rintro⟨h1,h2,i,a,g,f,b,e,d⟩;dsimp only at*
  (try(have j:ls=[]:=Qb.1 b;subst j))
  subst_vars
  rfl
 intro h;obtain⟨-,h1,h2,i,a,b,e,d⟩:=z_.mk.inj h;obtain⟨a,g,f⟩:=M3.mk.inj a;exact⟨h1,h2,i,a,g,f,by first|rfl|(rw[b];rfl),e,d⟩
theorem a4B{x:z_}(c:x.kd=5):Ll x.ep x.fn x.ft x.km.nm x.km.tl x.km.ar x.cd x.tx 0 ⟨#[]⟩ ⟨#[]⟩ ⟨#[]⟩ ⟨#[]⟩ ⟨#[]⟩ 0 ⟨#[]⟩ x.ls.length 0↔x=Va:=by
 obtain⟨kd,ep,fn,ft,⟨kn,kt,ka⟩,ls,cd,tx⟩:=x;dsimp only at c;subst c;unfold Ll;constructor
 ·rintro⟨h1,h2,i,a,g,f,b,e,d⟩;dsimp only at*
  (try(have j:ls=[]:=Qb.1 b;subst j))
  subst_vars
  rfl
 intro h;obtain⟨-,h1,h2,i,a,b,e,d⟩:=z_.mk.inj h;obtain⟨a,g,f⟩:=M3.mk.inj a;exact⟨h1,h2,i,a,g,f,by first|rfl|(rw[b];rfl),e,d⟩
theorem a0q{x:z_}(a:x.kd=1):N9 x↔(x=J9 x.ep/\(1<=x.ep/\x.ep<=200)):=by
 constructor
 ·intro h;obtain⟨n,h1,rfl⟩:=wu h a;exact⟨rfl,h1⟩
 rintro⟨h1,h2⟩;exact .inl ⟨_,h2,h1⟩
theorem a0W{x:z_}(c:x.kd=2):N9 x↔(x=Lc x.fn x.ft/\(X6 x.fn.data.toList=true/\x.ft.size<=300)):=by
 constructor
 ·intro h;obtain⟨a,b,h1,rfl⟩:=Jy h c;exact⟨rfl,h1⟩
 rintro⟨h1,h2⟩;exact .inr (.inl ⟨_,_,h2,h1⟩)
theorem a0k{x:z_}(b:x.kd=3):N9 x↔(x=Ec x.fn/\X6 x.fn.data.toList=true):=by
 constructor
 ·intro h;obtain⟨a,h1,rfl⟩:=Ju h b;exact⟨rfl,h1⟩
 rintro⟨h1,h2⟩;exact .inr (.inr (.inl ⟨_,h2,h1⟩))
theorem a0b{x:z_}(a:x.kd=4):N9 x↔(x=Qg x.km x.ls x.cd x.tx/\Fg x.km x.ls x.cd x.tx):=by
 constructor
 ·intro h;obtain⟨m,ls,c,t,h1,rfl⟩:=Zz h a;exact⟨rfl,h1⟩
 rintro⟨h1,h2⟩;exact .inr (.inr (.inr (.inl ⟨_,_,_,_,h2,h1⟩)))
theorem a2T{x:z_}(a:x.kd=5):N9 x↔x=Va:=by
 constructor
 ·intro h;exact IB h a
 intro h;exact .inr (.inr (.inr (.inr h)))
theorem cZ(n:Int):(⟨#[101,112,111,99,104,32]⟩:BY)++I4 (dec n)++⟨#[10]⟩=I4 (m_ (J9 n)):=by
 show I4 [101,112,111,99,104,32]++I4 (dec n)++I4 [10]=_;rw[Qc,Qc];simp[m_,n_,J9,Ld,Bd]
theorem a3b(a b:BY):(⟨#[102,105,108,101,32]⟩:BY)++a++⟨#[32]⟩++I4 (J6 b.data.toList)++⟨#[10]⟩=I4 (m_ (Lc a b)):=by
 show I4 [102,105,108,101,32]++I4 a.data.toList++I4 [32]++I4 (J6 b.data.toList)++I4 [10]=_;rw[Qc,Qc,Qc,Qc];simp[m_,n_,Lc,Ld,Oi]
theorem a3c(a:BY):(⟨#[100,114,111,112,32]⟩:BY)++a++⟨#[10]⟩=I4 (m_ (Ec a)):=by
 show I4 [100,114,111,112,32]++I4 a.data.toList++I4 [10]=_;rw[Qc,Qc];simp[m_,n_,Ec,Ld,Eh]
theorem a2o(m:M3)(ls:List L4)(c:Int)(t:BY):(⟨#[114,97,110,32]⟩:BY)++m.nm++⟨#[32]⟩++m.tl++⟨#[32]⟩++I4 (J6 m.ar.data.toList)++⟨#[10]⟩++I4 (P_ ls)++⟨#[103,97,118,101,32]⟩++I4 (Dc c t)++⟨#[10]⟩=I4 (m_ (Qg m ls c t)):=by
 show I4 [114,97,110,32]++I4 m.nm.data.toList++I4 [32]++I4 m.tl.data.toList++I4 [32]++I4 (J6 m.ar.data.toList)++I4 [10]++I4 (P_ ls)++I4 [103,97,118,101,32]++I4 (Dc c t)++I4 [10]=_;simp only[Qc];rw[Vw];simp[m_,n_,Qg,Ld,Gl,Vf,Yc]
theorem a2A:(⟨#[99,108,101,97,114,10]⟩:BY)=I4 (m_ Va):=by
 simp[m_,n_,Va,Ld,ah,I4]
theorem a1x(x:z_)(c:x.kd=1)(a:OA)(d:Nat)(w:World)(p:x.le 1048576)(hat:S9 w a x.ls):
 Calls prog 22 #[.agg #[.int .i64 1,.int .i64 x.ep,.string x.fn,.string x.ft,.string x.km.nm,.string x.km.tl,.string x.km.ar,.slice a x.ls.length d,.int .i64 x.cd,.string x.tx]] w λe w'=>kC (N9 x) (m_ x) e/\Bw w w':=by
 obtain⟨f1,f2,⟨m1,m2,m3⟩,⟨hl,hs⟩,f3⟩:=p;have q:∀o,Bw w (w.alloc o):=λo=>Y6
 go_in
 go_wp2_with fail
 refine(c72 1 x.ep x.cd 0 x.ep 0 x.fn x.ft x.km.nm x.km.tl x.km.ar x.tx ⟨#[]⟩ ⟨#[]⟩ ⟨#[]⟩ ⟨#[]⟩ ⟨#[]⟩ ⟨#[]⟩ a none x.ls.length 0 d 0 _ hl O0).mono ?_;rintro e w1⟨⟨r,rfl,hr⟩,j⟩;have k:=U0 (hr.trans (a4u c));have b:Below (w.heap.size+1) (w.alloc (.cells #[vI 1,vI x.ep,vS x.fn,vS x.ft,vS x.km.nm,vS x.km.tl,vS x.km.ar,vL a x.ls.length d,vI x.cd,vS x.tx] 74)) w1:=YD j;have f:=(q _).trans (b.mono O0);have s:=(a_ w [vI 1,vI x.ep,vS x.fn,vS x.ft,vS x.km.nm,vS x.km.tl,vS x.km.ar,vL a x.ls.length d,vI x.cd,vS x.tx] 74).below b O0;have hz1:w.heap.size<w1.heap.size:=by have h:=b.size;simp at h;omega
 clear hr j b;have k1:=s 1 _ rfl;cases r
 ·have g:Hid (kC (N9 x) (m_ x) (.returned vE)):=Jl (λh=>absurd (k.out.2 ((a0q c).1 h).1) Ik);go_wp2;go_ret;exact⟨g.out,f⟩
 have l:=U0 (k.out.1 rfl)
 go_wp2_with fail
 refine(c59 x.ep 1 200 _).mono ?_;rintro e w0⟨rfl,hw⟩;obtain rfl:=hw.symm;cases h3:decide (1<=x.ep/\x.ep<=200)
 ·have g:Hid (kC (N9 x) (m_ x) (.returned vE)):=Jl (λh=>of_decide_eq_false h3 ((a0q c).1 h).2);go_wp2;go_ret;exact⟨g.out,f⟩
 have n:=nK h3;have t:=U0 ((a0q c).2 ⟨l.out,n⟩);have m:=dw x.ep O0 O0;have z1:(I4 (dec x.ep)).size<=4:=by rw[P5];exact m
 have k0:¬9223372036854775807<6+(I4 (dec x.ep)).size:=O0;have k2:¬9223372036854775807<6+(I4 (dec x.ep)).size+1:=O0;have k2':¬9223372036854775807<=6+(I4 (dec x.ep)).size:=O0;have k3:¬(16000:Int)<6+((I4 (dec x.ep)).size:Int)+1:=O0;have u:Hid ((⟨#[101,112,111,99,104,32]⟩:BY)++I4 (dec x.ep)++⟨#[10]⟩=I4 (m_ x)):=by show _=_;rw[cZ,<- l.out]
 clear h3
 go_wp2_with fail
 refine(c73 (x.ep.toNat+1) x.ep _ O0 O0 (Dl _)).mono ?_;rintro e w4⟨rfl,i⟩;have v:=U0 (J5 f i);clear i;go_wp2;go_ret;exact⟨⟨_,rfl,.inl ⟨t.out,u.out⟩⟩,v.out⟩
theorem a2D(x:z_)(c:x.kd=3)(a:OA)(d:Nat)(w:World)(m:x.le 1048576)(hat:S9 w a x.ls):
 Calls prog 22 #[.agg #[.int .i64 3,.int .i64 x.ep,.string x.fn,.string x.ft,.string x.km.nm,.string x.km.tl,.string x.km.ar,.slice a x.ls.length d,.int .i64 x.cd,.string x.tx]] w λe w'=>kC (N9 x) (m_ x) e/\Bw w w':=by
 obtain⟨f1,f2,⟨m1,m2,m3⟩,⟨hl,hs⟩,f3⟩:=m;have n:∀o,Bw w (w.alloc o):=λo=>Y6
 go_in
 go_wp2_with fail
 refine(c72 3 x.ep x.cd 0 0 0 x.fn x.ft x.km.nm x.km.tl x.km.ar x.tx x.fn ⟨#[]⟩ ⟨#[]⟩ ⟨#[]⟩ ⟨#[]⟩ ⟨#[]⟩ a none x.ls.length 0 d 0 _ hl O0).mono ?_;rintro e w1⟨⟨r,rfl,hr⟩,i⟩;have j:=U0 (hr.trans (a5E c));have b:Below (w.heap.size+1) (w.alloc (.cells #[vI 3,vI x.ep,vS x.fn,vS x.ft,vS x.km.nm,vS x.km.tl,vS x.km.ar,vL a x.ls.length d,vI x.cd,vS x.tx] 74)) w1:=YD i;have f:=(n _).trans (b.mono O0);have p:=(a_ w [vI 3,vI x.ep,vS x.fn,vS x.ft,vS x.km.nm,vS x.km.tl,vS x.km.ar,vL a x.ls.length d,vI x.cd,vS x.tx] 74).below b O0;have hz1:w.heap.size<w1.heap.size:=by have h:=b.size;simp at h;omega
 clear hr i b;have k1:=p 2 _ rfl;cases r
 ·have g:Hid (kC (N9 x) (m_ x) (.returned vE)):=Jl (λh=>absurd (j.out.2 ((a0k c).1 h).1) Ik);go_wp2;go_ret;exact⟨g.out,f⟩
 have k:=U0 (j.out.1 rfl)
 go_wp2_with fail
 refine(VO x.fn _ O0).mono ?_;rintro e w0⟨rfl,hw⟩;obtain rfl:=hw.symm;cases h3:X6 x.fn.data.toList
 ·have g:Hid (kC (N9 x) (m_ x) (.returned vE)):=Jl (λh=>by have h1:=((a0k c).1 h).2;rw[h3]at h1;cases h1);go_wp2;go_ret;exact⟨g.out,f⟩
 have q:=U0 ((a0k c).2 ⟨k.out,h3⟩);have l:=(Nk h3).2;have z1:x.fn.size<=20:=by simpa using l
 have k0:¬9223372036854775807<5+x.fn.size:=O0;have k2:¬9223372036854775807<5+x.fn.size+1:=O0;have k2':¬9223372036854775807<=5+x.fn.size:=O0;have k3:¬(16000:Int)<5+(x.fn.size:Int)+1:=O0;have s:Hid ((⟨#[100,114,111,112,32]⟩:BY)++x.fn++⟨#[10]⟩=I4 (m_ x)):=by show _=_;rw[a3c,<- k.out]
 clear h3;go_wp2;go_ret;exact⟨⟨_,rfl,.inl ⟨q.out,s.out⟩⟩,f⟩
theorem a1F(x:z_)(d:x.kd=5)(a:OA)(c:Nat)(w:World)(k:x.le 1048576)(hat:S9 w a x.ls):
 Calls prog 22 #[.agg #[.int .i64 5,.int .i64 x.ep,.string x.fn,.string x.ft,.string x.km.nm,.string x.km.tl,.string x.km.ar,.slice a x.ls.length c,.int .i64 x.cd,.string x.tx]] w λe w'=>kC (N9 x) (m_ x) e/\Bw w w':=by
 obtain⟨f1,f2,⟨m1,m2,m3⟩,⟨hl,hs⟩,f3⟩:=k;have l:∀o,Bw w (w.alloc o):=λo=>Y6
 go_in
 go_wp2_with fail
 refine(c72 5 x.ep x.cd 0 0 0 x.fn x.ft x.km.nm x.km.tl x.km.ar x.tx ⟨#[]⟩ ⟨#[]⟩ ⟨#[]⟩ ⟨#[]⟩ ⟨#[]⟩ ⟨#[]⟩ a none x.ls.length 0 c 0 _ hl O0).mono ?_;rintro e w1⟨⟨r,rfl,hr⟩,f⟩;have i:=U0 (hr.trans (a4B d));have b:Below (w.heap.size+1) (w.alloc (.cells #[vI 5,vI x.ep,vS x.fn,vS x.ft,vS x.km.nm,vS x.km.tl,vS x.km.ar,vL a x.ls.length c,vI x.cd,vS x.tx] 74)) w1:=YD f;have g:=(l _).trans (b.mono O0);have bA:=(a_ w [vI 5,vI x.ep,vS x.fn,vS x.ft,vS x.km.nm,vS x.km.tl,vS x.km.ar,vL a x.ls.length c,vI x.cd,vS x.tx] 74).below b O0;have hz1:w.heap.size<w1.heap.size:=by have h:=b.size;simp at h;omega
 clear hr f b;cases r
 ·have n:Hid (kC (N9 x) (m_ x) (.returned vE)):=Jl (λh=>absurd (i.out.2 ((a2T d).1 h)) Ik);go_wp2;go_ret;exact⟨n.out,g⟩
 have j:=U0 (i.out.1 rfl);have m:=U0 ((a2T d).2 j.out);have p:Hid ((⟨#[99,108,101,97,114,10]⟩:BY)=I4 (m_ x)):=by show _=_;rw[a2A,<- j.out]
 go_wp2;go_ret;exact⟨⟨_,rfl,.inl ⟨m.out,p.out⟩⟩,g⟩
theorem a0P(x:z_)(c:OA)(b:Nat)(w:World)(h1:¬x.kd=1)(h2:¬x.kd=2)(h3:¬x.kd=3)(h4:¬x.kd=4)(h5:¬x.kd=5):
 Calls prog 22 #[.agg #[.int .i64 x.kd,.int .i64 x.ep,.string x.fn,.string x.ft,.string x.km.nm,.string x.km.tl,.string x.km.ar,.slice c x.ls.length b,.int .i64 x.cd,.string x.tx]] w λe w'=>kC (N9 x) (m_ x) e/\Bw w w':=by
 have a:∀o,Bw w (w.alloc o):=λo=>Y6;have d:Hid (kC (N9 x) (m_ x) (.returned vE)):=Jl (λh=>by rcases YH h with h|h|h|h|h<;>contradiction)
 go_in
 go_wp2;go_ret;exact⟨d.out,a _⟩
open Go.RowKit Go.Maps
theorem uz(h:Bh s):(x_ s.wd s.ts s.rs m ls c t=0->Aa s m ls c t=(⟨s.wd,(P8 s.wd (Pm ls c t) (s.ts,true)).1,Vg s.rs (Ri s.wd m ls c t)⟩,0))/\(x_ s.wd s.ts s.rs m ls c t≠0->Aa s m ls c t=(st0,x_ s.wd s.ts s.rs m ls c t)):=by
 by_cases h1:Fg m ls c t
 ·by_cases h2:(P8 s.wd (Pm ls c t) (s.ts,true)).2=false
  ·simp[Aa,x_,h,h1,h2]
  by_cases a:300<(P8 s.wd (Pm ls c t) (s.ts,true)).1.length\/150<(Vg s.rs (Ri s.wd m ls c t)).length
  ·simp[Aa,x_,h,h1,h2,a]
  simp[Aa,x_,h,h1,h2,a]
 simp[Aa,x_,h,h1]
theorem dU(h:¬Bh s):Aa s m ls c t=(st0,1):=by
 unfold Aa;rw[L8 h]
def Dw(s:St)(m:M3)(ls:List L4)(c:Int)(t:BY)(base:Nat)(w':World)(e:Ending):Prop:=
 ∃ta tc ra rc,e=.returned (.tuple #[.agg #[.int .i64 (Aa s m ls c t).1.wd,.slice ta (Aa s m ls c t).1.ts.length tc,.slice ra (Aa s m ls c t).1.rs.length rc],.int .i64 (Aa s m ls c t).2])/\Z_ w' base (Aa s m ls c t).1.ts (Aa s m ls c t).1.rs (.slice ta (Aa s m ls c t).1.ts.length tc) (.slice ra (Aa s m ls c t).1.rs.length rc)
theorem Kr(W:World)(base:Nat):Z_ W base [] [] (.slice none 0 0) (.slice none 0 0):=⟨Y_ _ _ _ _,[],rfl,Y_ _ _ _ _,λi h=>absurd h (y9 _),λi j h=>absurd h (y9 _)⟩
theorem Tn{n:Int}(h:Aa s m ls c t=(st0,n)):Dw s m ls c t base w' (.returned (.tuple #[.agg #[.int .i64 0,.slice none 0 0,.slice none 0 0],.int .i64 n])):=by
 unfold Dw;rw[h];exact⟨none,0,none,0,rfl,Kr _ _⟩
theorem YM{d:Int}{a:LB}{b:List R3}{ta ra:OA}{tc rc:Nat}(h:Aa s m ls c t=(⟨d,a,b⟩,0))(e:Z_ w' base a b (.slice ta a.length tc) (.slice ra b.length rc)):Dw s m ls c t base w' (.returned (.tuple #[.agg #[.int .i64 d,.slice ta a.length tc,.slice ra b.length rc],.int .i64 0])):=by
 unfold Dw;rw[h];exact⟨ta,tc,ra,rc,rfl,e⟩
theorem Z_.keep{ts:LB}{tv d:Value}(h:Z_ W base ts rs tv d)(b:∀q,base<=q->q<W.heap.size->W'.heap[q]?=W.heap[q]?):Z_ W' base ts rs tv d:=by
 obtain⟨h1,vs,h2⟩:=h;refine⟨I5 h1 (λq a=>b q (Z4 h1 a) (X9 h1 a)),vs,h2.len,I5 h2.row (λq a=>b q (Z4 h2.row a) (X9 h2.row a)),λi f=>?_,h2.apart⟩;obtain⟨g,c3,e,c⟩:=h2.gl i f;exact⟨g,c3,e,I5 c (λq a=>b q (Z4 c a) (X9 c a))⟩
theorem ZG{V1 T:World}{N:Nat}{n:Value}{y:R3}{c:OA}{b:Nat}(ho:vg V1 N v rs vs)(A:T.ownsRow N 213 3 (.slice c y.gs.length b) y.gs.length (gC y.gs))(s:T.ownsRow N 162 3 n (rs.length+1) (rC rs vs++[.string y.key,.slice c y.gs.length b,.string y.out]))
 (w:∀q,Ah V1 q 213->T.heap[q]?=V1.heap[q]?) (p:∀q,(Value.slice c y.gs.length b).ownBlock=some q->V1.heap.size<=q):vg T N n (rs++[y]) (vs++[.slice c y.gs.length b]):=by
 have g:∀i,i<rs.length->(vs++[Value.slice c y.gs.length b]).getD i undef=vs.getD i undef:=λi a=>by simp only[List.getD,G_ (show i<vs.length by rw[ho.len];exact a)]
 have k:(vs++[Value.slice c y.gs.length b]).getD rs.length undef=(vL c y.gs.length b):=by simp[List.getD,show rs.length=vs.length by rw[ho.len]]
 have u:∀i,i<rs.length->(rs++[y]).getD i h_=rs.getD i h_:=λi a=>by simp only[List.getD,G_ a]
 have t:(rs++[y]).getD rs.length h_=y:=by simp[List.getD]
 have o:∀i,i<rs.length->∀q,(vs.getD i undef).ownBlock=some q->q<V1.heap.size:=λi a q d=>by
  obtain⟨r,c3,e,h⟩:=ho.gl i a;rw[e]at d;exact X9 h d
 refine⟨by simp[ho.len],?_,λi a=>?_,λi j a x z=>?_⟩
 ·rw[iM _ _ _ _ ho.len,P9];exact s
 ·rw[P9,Oj]at a;rcases D8 i rs.length with l|hge
  ·rw[g i l,u i l];obtain⟨r,c3,e,h⟩:=ho.gl i l;exact⟨r,c3,e,I5 h (λq d=>w q (N7 h d))⟩
  obtain rfl:i=rs.length:=O0;rw[k,t];exact⟨c,b,rfl,A⟩
 rw[P9,Oj]at a x;rcases D8 i rs.length with m|hgi
 ·rw[g i m];rcases D8 j rs.length with f|hgj
  ·rw[g j f];exact ho.apart i j m f z
  obtain rfl:j=rs.length:=O0;rw[k]
  cases d:(vs.getD i undef).ownBlock with
  | none=>exact .inl rfl
  | some q=>
   refine .inr λe=>?_;have:=o i m q d;have:=p q e.symm;omega
 obtain rfl:i=rs.length:=O0;rw[k];have f:j<rs.length:=O0;rw[g j f]
 cases d:(Value.slice c y.gs.length b).ownBlock with
 | none=>exact .inl rfl
 | some q=>
  refine .inr λe=>?_;have:=o j f q e.symm;have:=p q d;omega
theorem vg.keep(h:vg W base v rs vs)(f:∀q t,Ah W q t->t=162\/t=213->base<=q->W'.heap[q]?=W.heap[q]?):vg W' base v rs vs:=
 ⟨h.len,I5 h.row (λq b=>f q 162 (N7 h.row b) (.inl rfl) (Z4 h.row b)),λi g=>by
  obtain⟨a,c,e,d⟩:=h.gl i g;exact⟨a,c,e,I5 d (λq b=>f q 213 (N7 d b) (.inr rfl) (Z4 d b))⟩,h.apart⟩
theorem Je{q:Nat}{t:TypeId}(h:Ah W q t):q<W.heap.size:=by
 obtain⟨cur,fr,e⟩:=h;exact(Eb.1 e).1
theorem a1J(x:z_)(g:x.kd=2)(b:OA)(i:Nat)(w:World)(I:x.le 1048576)(J:S9 w b x.ls):
 Calls prog 22 #[.agg #[.int .i64 2,.int .i64 x.ep,.string x.fn,.string x.ft,.string x.km.nm,.string x.km.tl,.string x.km.ar,.slice b x.ls.length i,.int .i64 x.cd,.string x.tx]] w λe w'=>kC (N9 x) (m_ x) e/\Bw w w':=by
 obtain⟨f1,f2,⟨m1,m2,m3⟩,⟨hl,hs⟩,f3⟩:=I;have N:∀o,Bw w (w.alloc o):=λo=>Y6
 go_in
 go_wp2_with fail
 refine(c72 2 x.ep x.cd 0 0 0 x.fn x.ft x.km.nm x.km.tl x.km.ar x.tx x.fn x.ft ⟨#[]⟩ ⟨#[]⟩ ⟨#[]⟩ ⟨#[]⟩ b none x.ls.length 0 i 0 _ hl O0).mono ?_;rintro e p⟨⟨r,rfl,hr⟩,v⟩;have B:=U0 (hr.trans (a3w g));have f:Below (w.heap.size+1) (w.alloc (.cells #[vI 2,vI x.ep,vS x.fn,vS x.ft,vS x.km.nm,vS x.km.tl,vS x.km.ar,vL b x.ls.length i,vI x.cd,vS x.tx] 74)) p:=YD v;have j:=(N _).trans (f.mono O0);have k:=(a_ w [vI 2,vI x.ep,vS x.fn,vS x.ft,vS x.km.nm,vS x.km.tl,vS x.km.ar,vL b x.ls.length i,vI x.cd,vS x.tx] 74).below f O0;have d:w.heap.size<p.heap.size:=by have h:=f.size;simp at h;omega
 clear hr v f;have n1:=k 2 _ rfl;have n2:=k 3 _ rfl;cases r
 ·have l:Hid (kC (N9 x) (m_ x) (.returned vE)):=Jl (λh=>absurd (B.out.2 ((a0W g).1 h).1) Ik);go_wp2;go_ret;exact⟨l.out,j⟩
 have C:=U0 (B.out.1 rfl)
 go_wp2_with fail
 refine(c74 x.fn x.ft _ O0 O0).mono ?_;rintro e w1⟨⟨E,rfl,s⟩,a⟩;have A:=U0 s;have z:=J5 j a;have H:=(a.cell (by exact d)).trans n1;have F:=(a.cell (by exact d)).trans n2;have q:=U9 d a.size;clear s a n1 n2 d k j J;cases E
 ·have l:Hid (kC (N9 x) (m_ x) (.returned vE)):=Jl (λh=>absurd (A.out.2 ((a0W g).1 h).2) Ik);go_wp2;go_ret;exact⟨l.out,z⟩
 have c:=A.out.1 rfl;have O:=U0 ((a0W g).2 ⟨C.out,c⟩);have n:=(Nk c.1).2;have z1:x.fn.size<=20:=by simpa using n
 have z2:=og x.ft;have z3:=c.2;have P:Hid ((⟨#[102,105,108,101,32]⟩:BY)++x.fn++⟨#[32]⟩++I4 (J6 x.ft.data.toList)++⟨#[10]⟩=I4 (m_ x)):=by show _=_;rw[a3b,<- C.out]
 have g0:¬9223372036854775807<5+x.fn.size:=O0;have g1':¬9223372036854775807<=5+x.fn.size:=O0;have g1:¬9223372036854775807<5+x.fn.size+1:=O0;have g2:¬9223372036854775807<5+x.fn.size+1+(I4 (J6 x.ft.data.toList)).size:=O0;have g3':¬9223372036854775807<=5+x.fn.size+1+(I4 (J6 x.ft.data.toList)).size:=O0;have g3:¬9223372036854775807<5+x.fn.size+1+(I4 (J6 x.ft.data.toList)).size+1:=O0;have g9:¬(16000:Int)<5+(x.fn.size:Int)+1+((I4 (J6 x.ft.data.toList)).size:Int)+1:=O0;clear c n
 go_wp2_with fail
 refine wp_region_held_drew (S:=(λu=>u.cell? (aW w 2)=some (vS x.fn)/\u.cell? (aW w 3)=some (vS x.ft))) Y1 ?_ λhHeld=>?_
 · ((try dsimp only);go_keep)
 iterate 8 refine sq ?_
 refine rq 8 λK y=>?_;go_simp;refine(IV x.ft _ O0).mono ?_;rintro e D⟨rfl,t⟩;have m:Hid (Bw w1 D):=((G5 _ _).drew).trans t;have d2:=(m.out.cell (by exact q)).trans H;have d3:=(m.out.cell (by exact q)).trans F;clear t
 go_wp2_with fail
 clear hHeld;refine xU y λhHeld=>?_;clear y K
 iterate 3 refine sq ?_
 refine wdn ?_;have L:=J5 z m.out;clear hHeld;go_wp2;go_ret;exact⟨⟨_,rfl,.inl ⟨O.out,P.out⟩⟩,L⟩

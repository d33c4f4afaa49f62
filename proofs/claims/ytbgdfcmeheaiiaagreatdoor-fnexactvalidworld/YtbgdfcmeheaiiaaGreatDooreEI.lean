import Derived.Test.YtbgdfcmeheaiiaaGreatDooreEK
set_option linter.unusedVariables false
set_option linter.unusedSimpArgs false
set_option maxHeartbeats 8000000
set_option maxRecDepth 100000
namespace Go.Proofs.YtbgdfcmeheaiiaaGreatDoor
open Proofs.Tryz Go.RowKit
variable{v:Value}{rs:List R3}{vs:List Value}{W:World}
def AV(x:u_)(ai:OA)(ci:Nat):Value:=if x.kd=1 then .iface 288 (.int .i64 x.ep) else if x.kd=2 then .iface 289 (.agg #[.string x.fn,.string x.ft]) else if x.kd=3 then .iface 290 (.string x.fn) else if x.kd=4 then .iface 292 (.agg #[.string x.km.nm,.string x.km.tl,.string x.km.ar,.slice ai x.ls.length ci,.int .i64 x.cd,.string x.tx]) else .iface 295 (.agg #[])
def ShE(x:u_):Prop:=(∃n,x=v_ n)\/(∃a b,x=Xb a b)\/(∃a,x=Vb a)\/(∃m ls c t,x=xg m ls c t)\/x=U_
theorem Qg.bel{w w':World}{B:Nat}{ao:OA}{is:List L4}(h:Qg w B ao is)(a:Bw w w'):Qg w' B ao is:=
 ⟨Z4 h.at' a,h.own.imp id λ⟨g,h1,h2,b⟩=>⟨g,h1,h2,b.below a⟩⟩
def iZ(L:List (List UInt8))(w w':World)(e:Ending):Prop:=(∃v,e=.returned (.tuple #[v,.bool false])/\∀z,oC L z false)\/(∃(x:u_)(ai:OA)(ci:Nat),e=.returned (.tuple #[AV x ai ci,.bool true])/\oC L x true/\ShE x/\x.le 1048576/\Qg w' w.heap.size ai x.ls)
theorem Cm{L:List (List UInt8)}(h:∀z,oC L z false)(w w':World):iZ L w w' (.returned (.tuple #[.nilIface,.bool false])):=.inl ⟨_,rfl,h⟩
theorem c234(f p:List UInt8)(b:List (List UInt8))(g o D:Nat)(w:World)(hp:Y1 f=p)(hw:O1 f=Dk)(Y:p.length<=16000)(B:Oc w)(hb:b.length<=16001)(hcp:b.length<=D)(C:Gi w g o b)(K:∀i,i<b.length->(b.getD i []).length<=16000):
 Calls prog 234 #[.string (Y2 p),.slice (some ⟨g,o,none⟩) b.length D] w λe w'=>iZ (f::b) w w' e/\Bw w w':=by
 rcases iC b with q|⟨l,last,q⟩
 ·subst q;have n:Hid (∀z,oC [f] z false):=λz=>iU hw z
  go_in
  go_wp2;go_ret2;exact⟨Cm n _ _,J4 _ _⟩
 rw[fC]at q;have HL:=U0 C;have hlen:b.length=l.length+1:=by rw[q];simp
 have a5O:Gi w g o l:=⟨C.1,λi I=>(C.2 i O0).trans (by rw[q];simp only[Fj];rw[R_ I])⟩;have cl:w.cell? (aA g (o+l.length))=some (vS (Y2 last)):=(C.2 l.length O0).trans (by rw[q];simp only[Fj];rw[rf Y8];simp);have a6J:∀i,i<l.length->(l.getD i []).length<=16000:=λi I=>by
  have h:=K i O0;rw[q]at h;simp only[Fj]at h ⊢;rw[R_ I]at h;exact h
 have hll:last.length<=16000:=by
  have h:=K l.length O0;rw[q]at h;simp only[Fj]at h;rw[rf Y8]at h;simpa using h
 have hg:=C.1;have hne:¬(b.length=0):=O0;have hbl:l.length<=16000:=O0;have hcp2:l.length+1<=D:=O0;rw[hlen]
 go_in
 have hwr:wrap64 (l.length:Int)=(l.length:Int):=IntWalk.wrap64_in _ O0;have L:=λ(m:M3) (ls:List L4) (c:Int) (t:BY) (o1 o2 o3:Bool) hm hl hr=>wV (f:=f) (g:=last) (b:=l) (m:=m) (ls:=ls) (c:=c) (t:=t) (o1:=o1) (o2:=o2) (o3:=o3) hw hm hl hr;rw[hp,<- q]at L
 go_wp2_with fail
 refine(a2g p _ Y B).mono ?_;rintro e d⟨⟨m,o1,rfl,hm⟩,J⟩;have hm1:=H9 B J;have W:=J.size;unfold M3.v;have F:=λH=>J.alloc W H;have cl1:=λH=>((F H).cell (by exact hg)).trans cl;have hcc:¬D<l.length:=O0
 go_wp2_with fail
 refine(a3Z g o D l _ (H9 B (F _)) (Xq a5O (F _)) a6J O0).mono ?_;rintro e A⟨⟨ls,o2,ao,ac,rfl,hrl,a6K,hlc,hlk⟩,x⟩;have r:(d.alloc (.cells #[vS m.nm,vS m.tl,vS m.ar] 68)).heap.size=d.heap.size+1:=O4;have hz2:d.heap.size+1<=A.heap.size:=by have h:=x.size;rw[r]at h;exact h
 have O:=(F _).trans (x.mono (by rw[r];omega));have cl2:=(x.cell (by rw[r];show g<_;omega)).trans (cl1 _);have m0:A.cell? (aW d 0)=some (vS m.nm):=(x.cell (by rw[r];exact su _)).trans (by simp[go_sem]);have V:A.cell? (aW d 1)=some (vS m.tl):=(x.cell (by rw[r];exact su _)).trans (by simp[go_sem]);have U:A.cell? (aW d 2)=some (vS m.ar):=(x.cell (by rw[r];exact su _)).trans (by simp[go_sem]);have hlk2:Qg A w.heap.size ao ls:=hlk.mono (by rw[r];omega);have hm2:=H9 B O;have hrs:=H8 last
 go_wp2_with fail
 refine(oL last _ O0 hm2).mono ?_;rintro e w3⟨⟨y,rfl⟩,u⟩;have N:=P5 O u;have hm3:=H9 B N;have a6L:=Qg.bel hlk2 u;have S:=(u.cell (by show d.heap.size<_;omega)).trans m0;have n1:=(u.cell (by show d.heap.size<_;omega)).trans V;have n2:=(u.cell (by show d.heap.size<_;omega)).trans U;have hz3:=u.size
 go_wp2_with fail
 refine(a2q (Y1 last) _ O0 hm3).mono ?_;rintro e w4⟨⟨c,t,o3,rfl,Z,X⟩,s⟩;have j:=P5 N s;have a6M:=Qg.bel a6L s;have R:=(s.cell (by show d.heap.size<_;omega)).trans S;have Q:=(s.cell (by show d.heap.size<_;omega)).trans n1;have P:=(s.cell (by show d.heap.size<_;omega)).trans n2;have hz4:=s.size;have hR:=L m ls c t o1 o2 o3 hm hrl Z;have hKS:o1=true->m.le 1048576:=λh=>by
  have a:=qF (hm.1 h).1;simp only[Yv,ByteArray.size_data]at a;exact⟨O0,O0,O0⟩
 have hgv:((Y2 (O1 last)).toList==[103,97,118,101])=decide (O1 last=Gf):=by
  rw[ByteArray.toList_eq,Q9];by_cases h:O1 last=Gf
  ·rw[m_ h,h];rfl
  rw[y9 h];exact K_.2 h
 have E:(o1=false\/o2=false\/decide (O1 last=Gf)=false\/o3=false)->Hid (∀z,oC (f::b) z false):=λh=>hR.2 (λk=>by
  rcases h with h|h|h|h
  ·rw[h]at k;cases k.1
  ·rw[h]at k;cases k.2.1
  ·rw[Ws]at h;exact h k.2.2.1
  rw[h]at k;cases k.2.2.2)
 have a6N:o1=true->o2=true->decide (O1 last=Gf)=true->o3=true->Hid (oC (f::b) (xg m ls c t) true):=λh1 h2 h3 h4=>hR.1 h1 h2 (Wn h3) h4;generalize decide (O1 last=Gf)=gv at*;generalize Y2 (O1 last)=wl at*;cases o1
 ·have n:=E (.inl rfl);go_wp2
  all_goals go_ret2
  all_goals exact⟨Cm n.out _ _,by first|exact j|exact j.alloc j.size _⟩
 cases o2
 ·have n:=E (.inr (.inl rfl));go_wp2
  all_goals go_ret2
  all_goals exact⟨Cm n.out _ _,by first|exact j|exact j.alloc j.size _⟩
 cases gv
 ·have n:=E (.inr (.inr (.inl rfl)));go_wp2
  all_goals go_ret2
  all_goals exact⟨Cm n.out _ _,by first|exact j|exact j.alloc j.size _⟩
 cases o3
 ·have n:=E (.inr (.inr (.inr rfl)));go_wp2
  all_goals go_ret2
  all_goals exact⟨Cm n.out _ _,by first|exact j|exact j.alloc j.size _⟩
 have n:=a6N rfl rfl rfl rfl;have HKS:=hKS rfl;have q0:=past (p:=(aW d 0)) (by show d.heap.size<_;omega) R;have q1:=past (p:=(aW d 1)) (by show d.heap.size<_;omega) Q;have q2:=past (p:=(aW d 2)) (by show d.heap.size<_;omega) P;go_wp2;go_ret2;exact⟨.inr ⟨xg m ls c t,ao,ac,rfl,n,.inr (.inr (.inr (.inl ⟨m,ls,c,t,rfl⟩))),⟨I4 _,I4 _,HKS,⟨by show ls.length<=1048576;omega,a6K⟩,X⟩,a6M.bel P6⟩,j.alloc j.size _⟩
theorem jE(x:u_)(h1:x.fn.size<=1048576)(h2:x.ft.size<=1048576)(c:x.km=C_)(b:x.ls=[])(a:x.tx=⟨#[]⟩):x.le 1048576:=by
 refine⟨h1,h2,?_,?_,?_⟩
 ·rw[c];exact⟨I4 _,I4 _,I4 _⟩
 ·rw[b];exact⟨I4 _,λ_=>⟨I4 _,I4 _⟩⟩
 rw[a];exact I4 _
theorem Eo(l w:List UInt8):((Y2 (O1 l)).toList==w)=decide (O1 l=w):=by
 rw[ByteArray.toList_eq,Q9];by_cases h:O1 l=w
 ·rw[m_ h,h];simp
 rw[y9 h];exact K_.2 h
theorem RY(l:List UInt8)(w:World)(hs:l.length<=1048700)(hm:Oc w):
 Calls prog 229 #[.string (Y2 l),.string ⟨#[32]⟩] w λe w'=>e=.returned (.tuple #[.string (Y2 (O1 l)),.string (Y2 (Y1 l)),.bool (decide ((32:UInt8)∈l))])/\Bw w w':=by
 obtain⟨_,m,hm⟩:=hm;refine(Tryz.strings_Cut (Y2 l) ⟨#[32]⟩ m w (by rw[Y4];omega) hm).mono ?_;rintro e w'⟨rfl,n,rfl⟩;refine⟨?_,below_drewN n⟩;have b:(Lib.cut l [32]).2.2=decide ((32:UInt8)∈l):=by
  unfold Lib.cut;rcases Gt l with⟨h,a⟩|⟨i,h,hm,_,_⟩
  ·rw[h,Y7 O0,y9 a]
  rw[h,D8 O0,m_ hm]
 rw[<- JI,<- JD,<- b];rfl
theorem a4l(f:List UInt8)(b:List (List UInt8))(g:Nat)(w:World)(hs:f.length<=16000)(D:Oc w)(Y:b.length<=16001)(q:Gi w g 0 (f::b))(W:∀i,i<b.length->(b.getD i []).length<=16000):
 Calls prog 170 #[.slice (some ⟨g,0,none⟩) (b.length+1) (b.length+1)] w λe w'=>iZ (f::b) w w' e/\Bw w w':=by
 have c0:w.cell? (aA g 0)=some (vS (Y2 f)):=q.2 0 O4;have S:Gi w g 1 b:=⟨q.1,λi F=>by
  have h:=q.2 (i+1) X7;rw[l7]at h;rw[Nat.add_comm 1 i,h];rfl⟩
 have V:=q.1;obtain⟨o1,ho1,R⟩:∃o1,(if b=[] then some (aA g 0) else some (aA g 1))=some (aA g o1)/\Gi w g o1 b:=by
  by_cases C:b=[]
  ·exact⟨0,by rw[D8 C],V,λi F=>by subst C;cases F⟩
  exact⟨1,by rw[Y7 C],S⟩
 have hrs:=H8 f;have HBS:=U0 W
 go_in
 go_wp2_with fail
 refine(RY f _ O0 D).mono ?_;rintro e w1⟨rfl,c⟩;have E:=H9 D c;have U:=Xq R c;have O:=Eo f [114,97,110];have N:=Eo f [101,112,111,99,104];have L:=Eo f [102,105,108,101];have K:=Eo f [100,114,111,112];have J:=Eo f [99,108,101,97,114];by_cases j:O1 f=Dk
 ·rw[show(decide (O1 f=[114,97,110]))=true from m_ j]at O;have Z:=λu=>c234 f (Y1 f) b g o1 b.length u rfl j O0;generalize Y2 (O1 f)=wd at*;have hif:¬((b.length:Int)+1<1):=O0
  go_wp2_with fail
  refine(Z _ E Y Y8 U HBS).mono ?_;rintro e s⟨hr,B⟩;have I:=P5 c B;rcases hr with⟨v,rfl,p⟩|⟨x,P,ci,rfl,h1,h2,h3,h4⟩
  ·have a:=U0 p;go_wp2;go_ret2;exact⟨.inl ⟨v,rfl,a⟩,I⟩
  have a:Hid (oC (f::b) x true/\ShE x/\x.le 1048576/\Qg s w.heap.size P x.ls):=⟨h1,h2,h3,h4.mono c.size⟩;go_wp2;go_ret2;exact⟨.inr ⟨x,P,ci,rfl,a.out.1,a.out.2.1,a.out.2.2.1,a.out.2.2.2⟩,I⟩
 rw[show(decide (O1 f=[114,97,110]))=false from y9 j]at O;by_cases A:b=[]
 ·subst A;by_cases n:O1 f=Xd
  ·rw[show(decide (O1 f=[101,112,111,99,104]))=true from m_ n]at N;have a:=U0 (uN n);generalize Y2 (O1 f)=wd at*
   go_wp2_with fail
   refine(QY 200 (Y2 (Y1 f)) _ (by rw[Y4];omega) O0 O0).mono ?_;rintro e s⟨rfl,rfl⟩;rw[Q9];cases p:Qh 200 (Y1 f)
   ·rw[p]at a;go_wp2;go_ret2;exact⟨.inl ⟨_,rfl,λz=>⟨λy d e=>absurd (a.out.1 y d e).1 J6,(λh=>by cases h)⟩⟩,c⟩
   rw[p]at a;go_wp2;go_ret2;exact⟨.inr ⟨v_ (iI 200 (Y1 f)),none,0,rfl,a,.inl ⟨_,rfl⟩,jE _ (I4 _) (I4 _) rfl rfl rfl,⟨.inl rfl,.inl rfl⟩⟩,c⟩
  rw[show(decide (O1 f=[101,112,111,99,104]))=false from y9 n]at N;by_cases m:O1 f=Ph
  ·rw[show(decide (O1 f=[102,105,108,101]))=true from m_ m]at L;have HNf:=λt ok o=>oP (f:=f) (t:=t) (ok:=ok) m o;have a5H:=H8 (Y1 f);generalize Y2 (O1 f)=wd at*
   go_wp2_with fail
   refine(RY (Y1 f) _ O0 E).mono ?_;rintro e s⟨rfl,B⟩
   go_wp2_with fail
   refine(nP (Y1 (Y1 f)) _ O0).mono ?_;rintro e w3⟨⟨t,ok,rfl,o⟩,X⟩;have a:=U0 (HNf t ok o);have Q:ok=true->t.length<=16000:=λh=>by
    have:=Gn t;rw[<- o.1 h]at this;omega
   have H:=c.trans ((P5 B X).mono c.size);cases ok
   ·go_wp2;go_ret2;exact⟨.inl ⟨_,rfl,λz=>⟨λy d e=>absurd (a.out.1 y d e).1 J6,(λh=>by cases h)⟩⟩,H⟩
   have a7t:=Q rfl;go_wp2;go_ret2;exact⟨.inr ⟨Xb (Y2 (O1 (Y1 f))) (Y2 t),none,0,rfl,a,.inr (.inl ⟨_,_,rfl⟩),jE _ (by show(Y2 (O1 (Y1 f))).size<=1048576;rw[Y4];omega) (by show(Y2 t).size<=1048576;rw[Y4];omega) rfl rfl rfl,⟨.inl rfl,.inl rfl⟩⟩,H⟩
  rw[show(decide (O1 f=[102,105,108,101]))=false from y9 m]at L;by_cases l:O1 f=dh
  ·rw[show(decide (O1 f=[100,114,111,112]))=true from m_ l]at K;have a:=U0 (QO l);generalize Y2 (O1 f)=wd at*;go_wp2;go_ret2;exact⟨.inr ⟨Vb (Y2 (Y1 f)),none,0,rfl,a,.inr (.inr (.inl ⟨_,rfl⟩)),jE _ (by show(Y2 (Y1 f)).size<=1048576;rw[Y4];omega) (I4 _) rfl rfl rfl,⟨.inl rfl,.inl rfl⟩⟩,c⟩
  rw[show(decide (O1 f=[100,114,111,112]))=false from y9 l]at K;by_cases k:O1 f=Fg
  ·rw[show(decide (O1 f=[99,108,101,97,114]))=true from m_ k]at J;have a:=U0 (jO k);generalize Y2 (O1 f)=wd at*;by_cases r:(32:UInt8)∈f
   ·rw[show decide ((32:UInt8)∉f)=false from y9 (λh=>h r)]at a;rw[m_ r];go_wp2;go_ret2;exact⟨.inl ⟨_,rfl,λz=>⟨λy d e=>absurd (a.out.1 y d e).1 J6,(λh=>by cases h)⟩⟩,c⟩
   rw[show decide ((32:UInt8)∉f)=true from m_ r]at a;rw[y9 r];go_wp2;go_ret2;exact⟨.inr ⟨U_,none,0,rfl,a,.inr (.inr (.inr (.inr rfl))),jE _ (I4 _) (I4 _) rfl rfl rfl,⟨.inl rfl,.inl rfl⟩⟩,c⟩
  rw[show(decide (O1 f=[99,108,101,97,114]))=false from y9 k]at J;have a:Hid (∀z,oC [f] z false):=λz=>CQ j n m l k z;generalize Y2 (O1 f)=wd at*;go_wp2;go_ret2;exact⟨Cm a _ _,c⟩
 have a:Hid (∀z,oC (f::b) z false):=λz=>fQ j A z;have hbl:1<=b.length:=Us.2 A;have hb1':decide (1<(b.length:Int)+1)=true:=X7;generalize Y2 (O1 f)=wd at*;go_wp2;go_ret2;exact⟨Cm a _ _,c⟩
theorem a4f (v:Value) (w:World):(Go.method 643 288 v "loop.example/kiln/impl.isSound").run prog w=.ok (410,v) w:=Y0
theorem a4Q (v:Value) (w:World):(Go.method 643 289 v "loop.example/kiln/impl.isSound").run prog w=.ok (412,v) w:=Y0
theorem a3s (v:Value) (w:World):(Go.method 643 290 v "loop.example/kiln/impl.isSound").run prog w=.ok (414,v) w:=Y0
theorem a4i (v:Value) (w:World):(Go.method 643 292 v "loop.example/kiln/impl.isSound").run prog w=.ok (416,v) w:=Y0
theorem a3S (v:Value) (w:World):(Go.method 643 295 v "loop.example/kiln/impl.isSound").run prog w=.ok (418,v) w:=Y0
theorem OG(n:Int):Z8 (v_ n)↔(1<=n/\n<=200):=by
 constructor
 ·intro h;obtain⟨m,hm,e⟩:=Dt h rfl;have:n=m:=U6 u_.ep e;rw[this];exact hm
 intro h;exact .inl ⟨n,h,rfl⟩
theorem yL(a b:BY):Z8 (Xb a b)↔(Y5 a.data.toList=true/\b.size<=300):=by
 constructor
 ·intro h;obtain⟨d,b',hm,e⟩:=qy h rfl;have e1:a=d:=U6 u_.fn e;have c:b=b':=U6 u_.ft e;rw[e1,c];exact hm
 intro h;exact .inr (.inl ⟨a,b,h,rfl⟩)
theorem fK(a:BY):Z8 (Vb a)↔Y5 a.data.toList=true:=by
 constructor
 ·intro h;obtain⟨b,hm,e⟩:=Kt h rfl;have e1:a=b:=U6 u_.fn e;rw[e1];exact hm
 intro h;exact .inr (.inr (.inl ⟨a,h,rfl⟩))
theorem lU(m:M3)(ls:List L4)(c:Int)(t:BY):Z8 (xg m ls c t)↔bg m ls c t:=by
 constructor
 ·intro h;obtain⟨m',b,i,a,hm,e⟩:=dB h rfl;have e1:m=m':=U6 u_.km e;have g:ls=b:=U6 u_.ls e;have f:c=i:=U6 u_.cd e;have d:t=a:=U6 u_.tx e;rw[e1,g,f,d];exact hm
 intro h;exact .inr (.inr (.inr (.inl ⟨m,ls,c,t,h,rfl⟩)))
def AP(l:List UInt8)(w w':World)(e:Ending):Prop:=(e=.returned (.tuple #[.nilIface,.bool false])/\∀z,RE l z false)\/(∃(x:u_)(ai:OA)(ci:Nat),e=.returned (.tuple #[AV x ai ci,.bool true])/\RE l x true/\ShE x/\x.le 1048576/\Qg w' w.heap.size ai x.ls)
theorem c116(s:BY)(w:World)(hs:s.size<=1048576)(H:Oc w):
 Calls prog 116 #[.string s] w λe w'=>AP s.data.toList w w' e/\Bw w w':=by
 have hsl:s.data.toList.length=s.size:=O4;by_cases h16:s.size<=16000
 ·have hd:decide (16000<(s.size:Int))=false:=X7
  go_in
  go_wp2_with fail
  refine(a4G s _ O0 H).mono ?_;rintro e P⟨hr,D⟩;rcases hr with⟨F,rfl⟩|⟨F,g,rfl,hg0,I⟩
  ·have d:Hid (∀z,RE s.data.toList z false):=λz=>a0B F z;go_wp2;go_ret2;exact⟨.inl ⟨rfl,d⟩,D⟩
  have N:=Sm 10 s.data.toList.dropLast;have J:s.data.toList.dropLast.length<=16000:=by rw[List.length_dropLast];omega
  have K:=yh 10 s.data.toList.dropLast;have O:=λx ok hr=>lV (l:=s.data.toList) (x:=x) (ok:=ok) F hr;generalize L8 10 s.data.toList.dropLast=L at*;obtain⟨f,b,rfl⟩:∃f b,L=f::b:=by
   cases L with
   | nil=>simp at N
   | cons f b=>exact⟨f,b,rfl⟩
  have V:f.length<=16000:=Q8 (K 0) J;have W:∀i,i<b.length->(b.getD i []).length<=16000:=λi _=>Q8 (K (i+1)) J;have X:b.length<=16001:=by simp at N;omega
  have S:Gi P g 0 (f::b):=⟨I.1,λi U=>by rw[l7];exact I.2 i U⟩;have R:=H9 H D;simp only[x_]
  go_wp2_with fail
  refine(a4l f b g _ V R X S W).mono ?_;rintro e w2⟨hr,Y⟩;have A:=P5 D Y;rcases hr with⟨v,rfl,Q⟩|⟨x,u,q,rfl,h1,h2,p,Z⟩
  ·have d:=U0 ((O Ji false (Q _)).2 (λh=>by cases h.1));go_wp2;go_ret2;exact⟨.inl ⟨rfl,d⟩,A⟩
  have hR:=O x true h1;have B:=Z.mono D.size;rcases h2 with⟨n,rfl⟩|⟨a,c,rfl⟩|⟨a,rfl⟩|⟨m,ls,c,t,rfl⟩|rfl
  ·have E:=a4f;have he:AV (v_ n) u q=.iface 288 (vI n):=rfl;rw[he]
   go_wp2_with fail
   refine(a4C n _).mono ?_;rintro e C⟨⟨r,rfl,o⟩,j⟩;have k:=P5 A j;have y:=Qg.bel B j;cases r
   ·have d:=U0 (hR.2 (λh=>absurd (o.2 ((OG n).1 h.2)) J6));go_wp2;go_ret2;exact⟨.inl ⟨rfl,d⟩,k⟩
   have d:=U0 (hR.1 (by first|rfl|trivial) ((OG n).2 (o.1 rfl)));go_wp2;go_ret2;exact⟨.inr ⟨v_ n,u,q,rfl,d,.inl ⟨_,rfl⟩,p,y⟩,k⟩
  ·have E:=a4Q;have he:AV (Xb a c) u q=.iface 289 (.agg #[vS a,vS c]):=rfl;rw[he]
   go_wp2_with fail
   refine(a4D a c _ (Q8 p.1 O0) (Q8 p.2.1 O0)).mono ?_;rintro e C⟨⟨r,rfl,o⟩,j⟩;have k:=P5 A j;have y:=Qg.bel B j;cases r
   ·have d:=U0 (hR.2 (λh=>absurd (o.2 ((yL a c).1 h.2)) J6));go_wp2;go_ret2;exact⟨.inl ⟨rfl,d⟩,k⟩
   have d:=U0 (hR.1 (by first|rfl|trivial) ((yL a c).2 (o.1 rfl)));go_wp2;go_ret2;exact⟨.inr ⟨Xb a c,u,q,rfl,d,.inr (.inl ⟨_,_,rfl⟩),p,y⟩,k⟩
  ·have E:=a3s;have he:AV (Vb a) u q=.iface 290 (vS a):=rfl;rw[he]
   go_wp2_with fail
   refine(a4y a _ (Q8 p.1 O0)).mono ?_;rintro e C⟨⟨r,rfl,o⟩,j⟩;have k:=P5 A j;have y:=Qg.bel B j;cases r
   ·have d:=U0 (hR.2 (λh=>absurd (o.2 ((fK a).1 h.2)) J6));go_wp2;go_ret2;exact⟨.inl ⟨rfl,d⟩,k⟩
   have d:=U0 (hR.1 (by first|rfl|trivial) ((fK a).2 (o.1 rfl)));go_wp2;go_ret2;exact⟨.inr ⟨Vb a,u,q,rfl,d,.inr (.inr (.inl ⟨_,rfl⟩)),p,y⟩,k⟩
  ·have E:=a4i;have he:AV (xg m ls c t) u q=.iface 292 (.agg #[vS m.nm,vS m.tl,vS m.ar,vL u ls.length q,vI c,vS t]):=rfl;rw[he]
   go_wp2_with fail
   refine(a2P m ls c t u q _ p.2.2.1 p.2.2.2.1.1 p.2.2.2.1.2 p.2.2.2.2 B.at').mono ?_;rintro e C⟨⟨r,rfl,o⟩,j⟩;have k:=P5 A j;have y:=Qg.bel B j;cases r
   ·have d:=U0 (hR.2 (λh=>absurd (o.2 ((lU m ls c t).1 h.2)) J6));go_wp2;go_ret2;exact⟨.inl ⟨rfl,d⟩,k⟩
   have d:=U0 (hR.1 (by first|rfl|trivial) ((lU m ls c t).2 (o.1 rfl)));go_wp2;go_ret2;exact⟨.inr ⟨xg m ls c t,u,q,rfl,d,.inr (.inr (.inr (.inl ⟨_,_,_,_,rfl⟩))),p,y⟩,k⟩
  have E:=a3S;have he:AV (U_) u q=.iface 295 (.agg #[]):=rfl;rw[he]
  go_wp2_with fail
  refine(a3B _).mono ?_;rintro e C⟨⟨r,rfl,o⟩,j⟩;have k:=P5 A j;have y:=Qg.bel B j;cases r
  ·have d:=U0 (hR.2 (λh=>absurd (o.2 trivial) J6));go_wp2;go_ret2;exact⟨.inl ⟨rfl,d⟩,k⟩
  have d:=U0 (hR.1 (by first|rfl|trivial) (.inr (.inr (.inr (.inr rfl)))));go_wp2;go_ret2;exact⟨.inr ⟨U_,u,q,rfl,d,.inr (.inr (.inr (.inr rfl))),p,y⟩,k⟩
 have d:Hid (∀z,RE s.data.toList z false):=λz=>TW O0 z;have hd:decide (16000<(s.size:Int))=true:=X7
 go_in
 go_wp2;go_ret2;exact⟨.inl ⟨rfl,d⟩,J4 _ _⟩
open Go.RowKit Go.Maps
theorem IG{V1 T:World}{N:Nat}{n:Value}{y:R3}{c:OA}{b:Nat}(ho:Yg V1 N v rs vs)(A:T.ownsRow N 256 3 (.slice c y.gs.length b) y.gs.length (gC y.gs))(s:T.ownsRow N 176 3 n (rs.length+1) (rC rs vs++[.string y.key,.slice c y.gs.length b,.string y.out]))
 (w:∀q,Oj V1 q 256->T.heap[q]?=V1.heap[q]?) (p:∀q,(Value.slice c y.gs.length b).ownBlock=some q->V1.heap.size<=q):Yg T N n (rs++[y]) (vs++[.slice c y.gs.length b]):=by
 have g:∀i,i<rs.length->(vs++[Value.slice c y.gs.length b]).getD i undef=vs.getD i undef:=λi a=>by simp only[List.getD,R_ (show i<vs.length by rw[ho.len];exact a)]
 have k:(vs++[Value.slice c y.gs.length b]).getD rs.length undef=(vL c y.gs.length b):=by simp[List.getD,show rs.length=vs.length by rw[ho.len]]
 have u:∀i,i<rs.length->(rs++[y]).getD i j_=rs.getD i j_:=λi a=>by simp only[List.getD,R_ a]
 have t:(rs++[y]).getD rs.length j_=y:=by simp[List.getD]
 have o:∀i,i<rs.length->∀q,(vs.getD i undef).ownBlock=some q->q<V1.heap.size:=λi a q d=>by
  obtain⟨r,c3,e,h⟩:=ho.gl i a;rw[e]at d;exact Oe h d
 refine⟨by simp[ho.len],?_,λi a=>?_,λi j a x z=>?_⟩
 ·rw[PL _ _ _ _ ho.len,L9];exact s
 ·rw[L9,Aj]at a;rcases P7 i rs.length with l|hge
  ·rw[g i l,u i l];obtain⟨r,c3,e,h⟩:=ho.gl i l;exact⟨r,c3,e,G7 h (λq d=>w q (N9 h d))⟩
  obtain rfl:i=rs.length:=O0;rw[k,t];exact⟨c,b,rfl,A⟩
 rw[L9,Aj]at a x;rcases P7 i rs.length with m|hgi
 ·rw[g i m];rcases P7 j rs.length with f|hgj
  ·rw[g j f];exact ho.apart i j m f z
  obtain rfl:j=rs.length:=O0;rw[k]
  cases d:(vs.getD i undef).ownBlock with
  | none=>exact .inl rfl
  | some q=>
   refine .inr λe=>?_;have:=o i m q d;have:=p q e.symm;omega
 obtain rfl:i=rs.length:=O0;rw[k];have f:j<rs.length:=O0;rw[g j f]
 cases d:(Value.slice c y.gs.length b).ownBlock with
 | none=>exact .inl rfl
 | some q=>
  refine .inr λe=>?_;have:=o j f q e.symm;have:=p q d;omega
theorem Yg.keep{W':World}{base:Nat}(h:Yg W base v rs vs)(f:∀q t,Oj W q t->t=176\/t=256->base<=q->W'.heap[q]?=W.heap[q]?):Yg W' base v rs vs:=
 ⟨h.len,G7 h.row (λq b=>f q 176 (N9 h.row b) (.inl rfl) (Y6 h.row b)),λi g=>by
  obtain⟨a,c,e,d⟩:=h.gl i g;exact⟨a,c,e,G7 d (λq b=>f q 256 (N9 d b) (.inr rfl) (Y6 d b))⟩,h.apart⟩
theorem Tm{q:Nat}{t:TypeId}(h:Oj W q t):q<W.heap.size:=by
 obtain⟨cur,fr,e⟩:=h;exact(Ua.1 e).1
theorem dX(v:Value)(w:World):(Instr.typeAssert (.iface 288 v) 207 288 true).run prog w=.ok (.tuple #[v,.bool true]) w:=Y0
theorem wX(v:Value)(w:World):(Instr.typeAssert (.iface 289 v) 207 288 true).run prog w=.ok (.tuple #[.int .i64 0,.bool false]) w:=Y0
theorem OU(v:Value)(w:World):(Instr.typeAssert (.iface 289 v) 207 289 true).run prog w=.ok (.tuple #[v,.bool true]) w:=Y0
theorem bV(v:Value)(w:World):(Instr.typeAssert (.iface 290 v) 207 288 true).run prog w=.ok (.tuple #[.int .i64 0,.bool false]) w:=Y0
theorem DX(v:Value)(w:World):(Instr.typeAssert (.iface 290 v) 207 289 true).run prog w=.ok (.tuple #[.agg #[.string ⟨#[]⟩,.string ⟨#[]⟩],.bool false]) w:=Y0
theorem UX(v:Value)(w:World):(Instr.typeAssert (.iface 290 v) 207 290 true).run prog w=.ok (.tuple #[v,.bool true]) w:=Y0
theorem vW(v:Value)(w:World):(Instr.typeAssert (.iface 292 v) 207 288 true).run prog w=.ok (.tuple #[.int .i64 0,.bool false]) w:=Y0
theorem GV(v:Value)(w:World):(Instr.typeAssert (.iface 292 v) 207 289 true).run prog w=.ok (.tuple #[.agg #[.string ⟨#[]⟩,.string ⟨#[]⟩],.bool false]) w:=Y0
theorem jY(v:Value)(w:World):(Instr.typeAssert (.iface 292 v) 207 290 true).run prog w=.ok (.tuple #[.string ⟨#[]⟩,.bool false]) w:=Y0
theorem LU(v:Value)(w:World):(Instr.typeAssert (.iface 292 v) 207 292 true).run prog w=.ok (.tuple #[v,.bool true]) w:=Y0
theorem YW(v:Value)(w:World):(Instr.typeAssert (.iface 295 v) 207 288 true).run prog w=.ok (.tuple #[.int .i64 0,.bool false]) w:=Y0
theorem OW(v:Value)(w:World):(Instr.typeAssert (.iface 295 v) 207 289 true).run prog w=.ok (.tuple #[.agg #[.string ⟨#[]⟩,.string ⟨#[]⟩],.bool false]) w:=Y0
theorem zW(v:Value)(w:World):(Instr.typeAssert (.iface 295 v) 207 290 true).run prog w=.ok (.tuple #[.string ⟨#[]⟩,.bool false]) w:=Y0
theorem vV(v:Value)(w:World):(Instr.typeAssert (.iface 295 v) 207 292 true).run prog w=.ok (.tuple #[.agg #[.string ⟨#[]⟩,.string ⟨#[]⟩,.string ⟨#[]⟩,.slice none 0 0,.int .i64 0,.string ⟨#[]⟩],.bool false]) w:=Y0
theorem JV(v:Value)(w:World):(Instr.typeAssert (.iface 295 v) 207 295 true).run prog w=.ok (.tuple #[v,.bool true]) w:=Y0
def zE:List Value:=[.int .i64 0,.int .i64 0,.string ⟨#[]⟩,.string ⟨#[]⟩,.string ⟨#[]⟩,.string ⟨#[]⟩,.string ⟨#[]⟩,.slice none 0 0,.int .i64 0,.string ⟨#[]⟩]

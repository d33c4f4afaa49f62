import Derived.Test.YtdgneicbmalnpaaGreatDooreEH
import Derived.Test.YtdgneicbmalnpaaGreatDoorM8
set_option linter.all false
set_option maxHeartbeats 0
set_option maxRecDepth 99999
open Go.Value renaming slice->Sa,string->Sb,int->Sc,pointer->Sd
open Go.IntKind renaming i64->Se
open Go.Ending renaming returned->Sf
namespace Go.Proofs.YtdgneicbmalnpaaGreatDoor
open Proofs.Tryz Go.RowKit
variable{s:St}{m:M3}{ls:List L4}{c:Int}{t:BY}{base:Nat}{W W' w':World}{rs:List R3}{v:Value}{vs:List Value}
theorem a4L{x:z_}(hk:x.kd=1):Vl x.ep x.fn x.ft x.km.nm x.km.tl x.km.ar x.cd x.tx x.ep ⟨#[]⟩ ⟨#[]⟩ ⟨#[]⟩ ⟨#[]⟩ ⟨#[]⟩ 0 ⟨#[]⟩ x.ls.length 0↔x=A_ x.ep:=by
 obtain⟨kd,ep,fn,ft,⟨kn,kt,ka⟩,ls,cd,tx⟩:=x;dsimp only at hk;subst hk;unfold Vl;constructor
 ·rintro⟨h1,h2,g,a,f,e,b,d,c⟩;dsimp only at*
  (try(have i:ls=[]:=Xb.1 b;subst i))
  subst_vars
  rfl
 intro h;obtain⟨-,h1,h2,g,a,b,d,c⟩:=z_.mk.inj h;obtain⟨a,f,e⟩:=M3.mk.inj a;exact⟨h1,h2,g,a,f,e,by first|rfl|(rw[b];rfl),d,c⟩
theorem a5o{x:z_}(hk:x.kd=2):Vl x.ep x.fn x.ft x.km.nm x.km.tl x.km.ar x.cd x.tx 0 x.fn x.ft ⟨#[]⟩ ⟨#[]⟩ ⟨#[]⟩ 0 ⟨#[]⟩ x.ls.length 0↔x=Mc x.fn x.ft:=by
 obtain⟨kd,ep,fn,ft,⟨kn,kt,ka⟩,ls,cd,tx⟩:=x;dsimp only at hk;subst hk;unfold Vl;constructor
 ·rintro⟨h1,h2,g,a,f,e,b,d,c⟩;dsimp only at*
  (try(have i:ls=[]:=Xb.1 b;subst i))
  subst_vars
  rfl
 intro h;obtain⟨-,h1,h2,g,a,b,d,c⟩:=z_.mk.inj h;obtain⟨a,f,e⟩:=M3.mk.inj a;exact⟨h1,h2,g,a,f,e,by first|rfl|(rw[b];rfl),d,c⟩
theorem a5W{x:z_}(hk:x.kd=3):Vl x.ep x.fn x.ft x.km.nm x.km.tl x.km.ar x.cd x.tx 0 x.fn ⟨#[]⟩ ⟨#[]⟩ ⟨#[]⟩ ⟨#[]⟩ 0 ⟨#[]⟩ x.ls.length 0↔x=Oc x.fn:=by
 obtain⟨kd,ep,fn,ft,⟨kn,kt,ka⟩,ls,cd,tx⟩:=x;dsimp only at hk;subst hk;unfold Vl;constructor
 ·rintro⟨h1,h2,g,a,f,e,b,d,c⟩;dsimp only at*
  (try(have i:ls=[]:=Xb.1 b;subst i))
  subst_vars
  rfl
 intro h;obtain⟨-,h1,h2,g,a,b,d,c⟩:=z_.mk.inj h;obtain⟨a,f,e⟩:=M3.mk.inj a;exact⟨h1,h2,g,a,f,e,by first|rfl|(rw[b];rfl),d,c⟩
theorem a6M{x:z_}(hk:x.kd=4):Vl x.ep x.fn x.ft x.km.nm x.km.tl x.km.ar x.cd x.tx 0 ⟨#[]⟩ ⟨#[]⟩ x.km.nm x.km.tl x.km.ar x.cd x.tx x.ls.length x.ls.length↔x=Xg x.km x.ls x.cd x.tx:=by
 obtain⟨kd,ep,fn,ft,⟨kn,kt,ka⟩,ls,cd,tx⟩:=x;dsimp only at hk;subst hk;unfold Vl;constructor
 ·rintro⟨h1,h2,g,a,f,e,b,d,c⟩;dsimp only at*
  (try(have i:ls=[]:=Xb.1 b;subst i))
  subst_vars
  rfl
 intro h;obtain⟨-,h1,h2,g,a,b,d,c⟩:=z_.mk.inj h;obtain⟨a,f,e⟩:=M3.mk.inj a;exact⟨h1,h2,g,a,f,e,by first|rfl|(rw[b];rfl),d,c⟩
theorem a5B{x:z_}(hk:x.kd=5):Vl x.ep x.fn x.ft x.km.nm x.km.tl x.km.ar x.cd x.tx 0 ⟨#[]⟩ ⟨#[]⟩ ⟨#[]⟩ ⟨#[]⟩ ⟨#[]⟩ 0 ⟨#[]⟩ x.ls.length 0↔x=Ua:=by
 obtain⟨kd,ep,fn,ft,⟨kn,kt,ka⟩,ls,cd,tx⟩:=x;dsimp only at hk;subst hk;unfold Vl;constructor
 ·rintro⟨h1,h2,g,a,f,e,b,d,c⟩;dsimp only at*
  (try(have i:ls=[]:=Xb.1 b;subst i))
  subst_vars
  rfl
 intro h;obtain⟨-,h1,h2,g,a,b,d,c⟩:=z_.mk.inj h;obtain⟨a,f,e⟩:=M3.mk.inj a;exact⟨h1,h2,g,a,f,e,by first|rfl|(rw[b];rfl),d,c⟩
theorem a0H{x:z_}(hk:x.kd=1):I9 x↔(x=A_ x.ep/\(1<=x.ep/\x.ep<=200)):=by
 constructor
 ·intro h;obtain⟨n,h1,rfl⟩:=Ru h hk;exact⟨rfl,h1⟩
 rintro⟨h1,h2⟩;exact .inl ⟨_,h2,h1⟩
theorem a0I{x:z_}(hk:x.kd=2):I9 x↔(x=Mc x.fn x.ft/\(Y5 x.fn.data.toList=true/\x.ft.size<=300)):=by
 constructor
 ·intro h;obtain⟨a,b,h1,rfl⟩:=Uz h hk;exact⟨rfl,h1⟩
 rintro⟨h1,h2⟩;exact .inr (.inl ⟨_,_,h2,h1⟩)
theorem a1W{x:z_}(hk:x.kd=3):I9 x↔(x=Oc x.fn/\Y5 x.fn.data.toList=true):=by
 constructor
 ·intro h;obtain⟨a,h1,rfl⟩:=Qu h hk;exact⟨rfl,h1⟩
 rintro⟨h1,h2⟩;exact .inr (.inr (.inl ⟨_,h2,h1⟩))
theorem a0L{x:z_}(hk:x.kd=4):I9 x↔(x=Xg x.km x.ls x.cd x.tx/\Fg x.km x.ls x.cd x.tx):=by
 constructor
 ·intro h;obtain⟨m,ls,c,t,h1,rfl⟩:=AB h hk;exact⟨rfl,h1⟩
 rintro⟨h1,h2⟩;exact .inr (.inr (.inr (.inl ⟨_,_,_,_,h2,h1⟩)))
theorem a3b{x:z_}(hk:x.kd=5):I9 x↔x=Ua:=by
 constructor
 ·intro h;exact Zz h hk
 intro h;exact .inr (.inr (.inr (.inr h)))
theorem a2I(n:Int):(⟨#[101,112,111,99,104,32]⟩:BY)++U3 (dec n)++⟨#[10]⟩=U3 (P_ (A_ n)):=by
 show U3 [101,112,111,99,104,32]++U3 (dec n)++U3 [10]=_;rw[Xc,Xc];simp[P_,n_,A_,ve,Je]
theorem a2x(a b:BY):(⟨#[102,105,108,101,32]⟩:BY)++a++⟨#[32]⟩++U3 (Z5 b.data.toList)++⟨#[10]⟩=U3 (P_ (Mc a b)):=by
 show U3 [102,105,108,101,32]++U3 a.data.toList++U3 [32]++U3 (Z5 b.data.toList)++U3 [10]=_;rw[Xc,Xc,Xc,Xc];simp[P_,n_,Mc,ve,Si]
theorem a2J(a:BY):(⟨#[100,114,111,112,32]⟩:BY)++a++⟨#[10]⟩=U3 (P_ (Oc a)):=by
 show U3 [100,114,111,112,32]++U3 a.data.toList++U3 [10]=_;rw[Xc,Xc];simp[P_,n_,Oc,ve,Qh]
theorem a3p(m:M3)(ls:List L4)(c:Int)(t:BY):(⟨#[114,97,110,32]⟩:BY)++m.nm++⟨#[32]⟩++m.tl++⟨#[32]⟩++U3 (Z5 m.ar.data.toList)++⟨#[10]⟩++U3 (N_ ls)++⟨#[103,97,118,101,32]⟩++U3 (Ec c t)++⟨#[10]⟩=U3 (P_ (Xg m ls c t)):=by
 show U3 [114,97,110,32]++U3 m.nm.data.toList++U3 [32]++U3 m.tl.data.toList++U3 [32]++U3 (Z5 m.ar.data.toList)++U3 [10]++U3 (N_ ls)++U3 [103,97,118,101,32]++U3 (Ec c t)++U3 [10]=_;simp only[Xc];rw[Xy];simp[P_,n_,Xg,ve,Ul,mg,Ed]
theorem a3v:(⟨#[99,108,101,97,114,10]⟩:BY)=U3 (P_ Ua):=by
 simp[P_,n_,Ua,ve,qh,U3]
theorem a1E(x:z_)(hk:x.kd=1)(a:OA)(c:Nat)(w:World)(n:x.le 1048576)(hat:O9 w a x.ls):
 Calls prog 152 #[.agg #[Sc Se 1,Sc Se x.ep,Sb x.fn,Sb x.ft,Sb x.km.nm,Sb x.km.tl,Sb x.km.ar,Sa a x.ls.length c,Sc Se x.cd,Sb x.tx]] w λe w'=>QC (I9 x) (P_ x) e/\Bw w w':=by
 obtain⟨f1,f2,⟨m1,m2,m3⟩,⟨hl,hs⟩,f3⟩:=n;have p:∀o,Bw w (w.alloc o):=λo=>U6
 go_in
 go_wp2_with fail
 refine(PV 1 x.ep x.cd 0 x.ep 0 x.fn x.ft x.km.nm x.km.tl x.km.ar x.tx ⟨#[]⟩ ⟨#[]⟩ ⟨#[]⟩ ⟨#[]⟩ ⟨#[]⟩ ⟨#[]⟩ a none x.ls.length 0 c 0 _ hl O0).mono ?_;rintro e w1⟨⟨r,rfl,hr⟩,i⟩;have j:=U0 (hr.trans (a4L hk));have b:Below (w.heap.size+1) (w.alloc (.cells #[vI 1,vI x.ep,vS x.fn,vS x.ft,vS x.km.nm,vS x.km.tl,vS x.km.ar,vL a x.ls.length c,vI x.cd,vS x.tx] 171)) w1:=bG i;have d:=(p _).trans (b.mono O0);have q:=(X9 w [vI 1,vI x.ep,vS x.fn,vS x.ft,vS x.km.nm,vS x.km.tl,vS x.km.ar,vL a x.ls.length c,vI x.cd,vS x.tx] 171).below b O0;have hz1:w.heap.size<w1.heap.size:=by have h:=b.size;simp at h;omega
 clear hr i b;have k1:=q 1 _ rfl;cases r
 ·have f:Hid (QC (I9 x) (P_ x) (Sf vE)):=Rl (λh=>absurd (j.o.2 ((a0H hk).1 h).1) Am);go_wp2;go_ret;exact⟨f.o,d⟩
 have k:=U0 (j.o.1 rfl)
 go_wp2_with fail
 refine(ZK x.ep 1 200 _).mono ?_;rintro e w0⟨rfl,hw⟩;obtain rfl:=hw.symm;cases h3:decide (1<=x.ep/\x.ep<=200)
 ·have f:Hid (QC (I9 x) (P_ x) (Sf vE)):=Rl (λh=>of_decide_eq_false h3 ((a0H hk).1 h).2);go_wp2;go_ret;exact⟨f.o,d⟩
 have m:=TA h3;have s:=U0 ((a0H hk).2 ⟨k.o,m⟩);have l:=Ux x.ep O0 O0;have z1:(U3 (dec x.ep)).size<=4:=by rw[I5];exact l
 have k0:¬9223372036854775807<6+(U3 (dec x.ep)).size:=O0;have k2:¬9223372036854775807<6+(U3 (dec x.ep)).size+1:=O0;have k2':¬9223372036854775807<=6+(U3 (dec x.ep)).size:=O0;have k3:¬(16000:Int)<6+((U3 (dec x.ep)).size:Int)+1:=O0;have t:Hid ((⟨#[101,112,111,99,104,32]⟩:BY)++U3 (dec x.ep)++⟨#[10]⟩=U3 (P_ x)):=by show _=_;rw[a2I,<- k.o]
 clear h3
 go_wp2_with fail
 refine(a1e (x.ep.toNat+1) x.ep _ O0 O0 (Vj _)).mono ?_;rintro e w4⟨rfl,g⟩;have u:=U0 (E5 d g);clear g;go_wp2;go_ret;exact⟨⟨_,rfl,.inl ⟨s.o,t.o⟩⟩,u.o⟩
theorem a1M(x:z_)(hk:x.kd=3)(a:OA)(c:Nat)(w:World)(l:x.le 1048576)(hat:O9 w a x.ls):
 Calls prog 152 #[.agg #[Sc Se 3,Sc Se x.ep,Sb x.fn,Sb x.ft,Sb x.km.nm,Sb x.km.tl,Sb x.km.ar,Sa a x.ls.length c,Sc Se x.cd,Sb x.tx]] w λe w'=>QC (I9 x) (P_ x) e/\Bw w w':=by
 obtain⟨f1,f2,⟨m1,m2,m3⟩,⟨hl,hs⟩,f3⟩:=l;have m:∀o,Bw w (w.alloc o):=λo=>U6
 go_in
 go_wp2_with fail
 refine(PV 3 x.ep x.cd 0 0 0 x.fn x.ft x.km.nm x.km.tl x.km.ar x.tx x.fn ⟨#[]⟩ ⟨#[]⟩ ⟨#[]⟩ ⟨#[]⟩ ⟨#[]⟩ a none x.ls.length 0 c 0 _ hl O0).mono ?_;rintro e w1⟨⟨r,rfl,hr⟩,g⟩;have i:=U0 (hr.trans (a5W hk));have b:Below (w.heap.size+1) (w.alloc (.cells #[vI 3,vI x.ep,vS x.fn,vS x.ft,vS x.km.nm,vS x.km.tl,vS x.km.ar,vL a x.ls.length c,vI x.cd,vS x.tx] 171)) w1:=bG g;have d:=(m _).trans (b.mono O0);have n:=(X9 w [vI 3,vI x.ep,vS x.fn,vS x.ft,vS x.km.nm,vS x.km.tl,vS x.km.ar,vL a x.ls.length c,vI x.cd,vS x.tx] 171).below b O0;have hz1:w.heap.size<w1.heap.size:=by have h:=b.size;simp at h;omega
 clear hr g b;have k1:=n 2 _ rfl;cases r
 ·have f:Hid (QC (I9 x) (P_ x) (Sf vE)):=Rl (λh=>absurd (i.o.2 ((a1W hk).1 h).1) Am);go_wp2;go_ret;exact⟨f.o,d⟩
 have j:=U0 (i.o.1 rfl)
 go_wp2_with fail
 refine(c21 x.fn _ O0).mono ?_;rintro e w0⟨rfl,hw⟩;obtain rfl:=hw.symm;cases h3:Y5 x.fn.data.toList
 ·have f:Hid (QC (I9 x) (P_ x) (Sf vE)):=Rl (λh=>by have h1:=((a1W hk).1 h).2;rw[h3]at h1;cases h1);go_wp2;go_ret;exact⟨f.o,d⟩
 have p:=U0 ((a1W hk).2 ⟨j.o,h3⟩);have k:=(Rk h3).2;have z1:x.fn.size<=20:=by simpa using k
 have k0:¬9223372036854775807<5+x.fn.size:=O0;have k2:¬9223372036854775807<5+x.fn.size+1:=O0;have k2':¬9223372036854775807<=5+x.fn.size:=O0;have k3:¬(16000:Int)<5+(x.fn.size:Int)+1:=O0;have q:Hid ((⟨#[100,114,111,112,32]⟩:BY)++x.fn++⟨#[10]⟩=U3 (P_ x)):=by show _=_;rw[a2J,<- j.o]
 clear h3;go_wp2;go_ret;exact⟨⟨_,rfl,.inl ⟨p.o,q.o⟩⟩,d⟩
theorem a1f(x:z_)(hk:x.kd=5)(a:OA)(c:Nat)(w:World)(j:x.le 1048576)(hat:O9 w a x.ls):
 Calls prog 152 #[.agg #[Sc Se 5,Sc Se x.ep,Sb x.fn,Sb x.ft,Sb x.km.nm,Sb x.km.tl,Sb x.km.ar,Sa a x.ls.length c,Sc Se x.cd,Sb x.tx]] w λe w'=>QC (I9 x) (P_ x) e/\Bw w w':=by
 obtain⟨f1,f2,⟨m1,m2,m3⟩,⟨hl,hs⟩,f3⟩:=j;have k:∀o,Bw w (w.alloc o):=λo=>U6
 go_in
 go_wp2_with fail
 refine(PV 5 x.ep x.cd 0 0 0 x.fn x.ft x.km.nm x.km.tl x.km.ar x.tx ⟨#[]⟩ ⟨#[]⟩ ⟨#[]⟩ ⟨#[]⟩ ⟨#[]⟩ ⟨#[]⟩ a none x.ls.length 0 c 0 _ hl O0).mono ?_;rintro e w1⟨⟨r,rfl,hr⟩,d⟩;have g:=U0 (hr.trans (a5B hk));have b:Below (w.heap.size+1) (w.alloc (.cells #[vI 5,vI x.ep,vS x.fn,vS x.ft,vS x.km.nm,vS x.km.tl,vS x.km.ar,vL a x.ls.length c,vI x.cd,vS x.tx] 171)) w1:=bG d;have f:=(k _).trans (b.mono O0);have bA:=(X9 w [vI 5,vI x.ep,vS x.fn,vS x.ft,vS x.km.nm,vS x.km.tl,vS x.km.ar,vL a x.ls.length c,vI x.cd,vS x.tx] 171).below b O0;have hz1:w.heap.size<w1.heap.size:=by have h:=b.size;simp at h;omega
 clear hr d b;cases r
 ·have m:Hid (QC (I9 x) (P_ x) (Sf vE)):=Rl (λh=>absurd (g.o.2 ((a3b hk).1 h)) Am);go_wp2;go_ret;exact⟨m.o,f⟩
 have i:=U0 (g.o.1 rfl);have l:=U0 ((a3b hk).2 i.o);have n:Hid ((⟨#[99,108,101,97,114,10]⟩:BY)=U3 (P_ x)):=by show _=_;rw[a3v,<- i.o]
 go_wp2;go_ret;exact⟨⟨_,rfl,.inl ⟨l.o,n.o⟩⟩,f⟩
theorem tY(x:z_)(c:OA)(b:Nat)(w:World)(h1:¬x.kd=1)(h2:¬x.kd=2)(h3:¬x.kd=3)(h4:¬x.kd=4)(h5:¬x.kd=5):
 Calls prog 152 #[.agg #[Sc Se x.kd,Sc Se x.ep,Sb x.fn,Sb x.ft,Sb x.km.nm,Sb x.km.tl,Sb x.km.ar,Sa c x.ls.length b,Sc Se x.cd,Sb x.tx]] w λe w'=>QC (I9 x) (P_ x) e/\Bw w w':=by
 have a:∀o,Bw w (w.alloc o):=λo=>U6;have d:Hid (QC (I9 x) (P_ x) (Sf vE)):=Rl (λh=>by rcases VH h with h|h|h|h|h<;>contradiction)
 go_in
 go_wp2;go_ret;exact⟨d.o,a _⟩
open Go.RowKit Go.Maps
theorem jB(h:Lh s):(v_ s.wd s.ts s.rs m ls c t=0->V_ s m ls c t=(⟨s.wd,(I8 s.wd (Xm ls c t) (s.ts,true)).1,Zg s.rs (Ui s.wd m ls c t)⟩,0))/\(v_ s.wd s.ts s.rs m ls c t≠0->V_ s m ls c t=(st0,v_ s.wd s.ts s.rs m ls c t)):=by
 by_cases h1:Fg m ls c t
 ·by_cases h2:(I8 s.wd (Xm ls c t) (s.ts,true)).2=false
  ·simp[V_,v_,h,h1,h2]
  by_cases a:300<(I8 s.wd (Xm ls c t) (s.ts,true)).1.length\/150<(Zg s.rs (Ui s.wd m ls c t)).length
  ·simp[V_,v_,h,h1,h2,a]
  simp[V_,v_,h,h1,h2,a]
 simp[V_,v_,h,h1]
theorem ES(h:¬Lh s):V_ s m ls c t=(st0,1):=by
 unfold V_;rw[D8 h]
def Rx(s:St)(m:M3)(ls:List L4)(c:Int)(t:BY)(base:Nat)(w':World)(e:Ending):Prop:=
 ∃ta tc ra rc,e=Sf (.tuple #[.agg #[Sc Se (V_ s m ls c t).1.wd,.slice ta (V_ s m ls c t).1.ts.length tc,.slice ra (V_ s m ls c t).1.rs.length rc],Sc Se (V_ s m ls c t).2])/\W_ w' base (V_ s m ls c t).1.ts (V_ s m ls c t).1.rs (.slice ta (V_ s m ls c t).1.ts.length tc) (.slice ra (V_ s m ls c t).1.rs.length rc)
theorem Xr(W:World)(base:Nat):W_ W base [] [] (Sa none 0 0) (Sa none 0 0):=⟨M_ _ _ _ _,[],rfl,M_ _ _ _ _,λi h=>absurd h (U8 _),λi j h=>absurd h (U8 _)⟩
theorem bn{n:Int}(h:V_ s m ls c t=(st0,n)):Rx s m ls c t base w' (Sf (.tuple #[.agg #[Sc Se 0,Sa none 0 0,Sa none 0 0],Sc Se n])):=by
 unfold Rx;rw[h];exact⟨none,0,none,0,rfl,Xr _ _⟩
theorem PO{d:Int}{a:LB}{b:List R3}{ta ra:OA}{tc rc:Nat}(h:V_ s m ls c t=(⟨d,a,b⟩,0))(hs:W_ w' base a b (Sa ta a.length tc) (Sa ra b.length rc)):Rx s m ls c t base w' (Sf (.tuple #[.agg #[Sc Se d,Sa ta a.length tc,Sa ra b.length rc],Sc Se 0])):=by
 unfold Rx;rw[h];exact⟨ta,tc,ra,rc,rfl,hs⟩
theorem W_.keep{ts:LB}{tv c:Value}(h:W_ W base ts rs tv c)(hk:∀q,base<=q->q<W.heap.size->W'.heap[q]?=W.heap[q]?):W_ W' base ts rs tv c:=by
 obtain⟨h1,vs,h2⟩:=h;refine⟨Z4 h1 (λq a=>hk q (X4 h1 a) (o_ h1 a)),vs,h2.len,Z4 h2.row (λq a=>hk q (X4 h2.row a) (o_ h2.row a)),λi d=>?_,h2.apart⟩;obtain⟨f,c3,e,b⟩:=h2.gl i d;exact⟨f,c3,e,Z4 b (λq a=>hk q (X4 b a) (o_ b a))⟩
theorem SI{V1 T:World}{N:Nat}{n:Value}{y:R3}{c:OA}{b:Nat}(ho:Bg V1 N v rs vs)(z:T.ownsRow N 235 3 (Sa c y.gs.length b) y.gs.length (gC y.gs))(s:T.ownsRow N 179 3 n (rs.length+1) (rC rs vs++[Sb y.key,Sa c y.gs.length b,Sb y.o]))
 (hk:∀q,oh V1 q 235->T.heap[q]?=V1.heap[q]?) (p:∀q,(Sa c y.gs.length b).ownBlock=some q->V1.heap.size<=q):Bg T N n (rs++[y]) (vs++[Sa c y.gs.length b]):=by
 have g:∀i,i<rs.length->(vs++[Sa c y.gs.length b]).getD i undef=vs.getD i undef:=λi a=>by simp only[List.getD,D_ (show i<vs.length by rw[ho.len];exact a)]
 have k:(vs++[Sa c y.gs.length b]).getD rs.length undef=(vL c y.gs.length b):=by simp[List.getD,show rs.length=vs.length by rw[ho.len]]
 have u:∀i,i<rs.length->(rs++[y]).getD i d_=rs.getD i d_:=λi a=>by simp only[List.getD,D_ a]
 have t:(rs++[y]).getD rs.length d_=y:=by simp[List.getD]
 have o:∀i,i<rs.length->∀q,(vs.getD i undef).ownBlock=some q->q<V1.heap.size:=λi a q d=>by
  obtain⟨r,c3,e,h⟩:=ho.gl i a;rw[e]at d;exact o_ h d
 refine⟨by simp[ho.len],?_,λi a=>?_,λi j a w x=>?_⟩
 ·rw[kN _ _ _ _ ho.len,Q9];exact s
 ·rw[Q9,jk]at a;rcases Z7 i rs.length with l|hge
  ·rw[g i l,u i l];obtain⟨r,c3,e,h⟩:=ho.gl i l;exact⟨r,c3,e,Z4 h (λq d=>hk q (X6 h d))⟩
  obtain rfl:i=rs.length:=O0;rw[k,t];exact⟨c,b,rfl,z⟩
 rw[Q9,jk]at a w;rcases Z7 i rs.length with m|hgi
 ·rw[g i m];rcases Z7 j rs.length with f|hgj
  ·rw[g j f];exact ho.apart i j m f x
  obtain rfl:j=rs.length:=O0;rw[k]
  cases d:(vs.getD i undef).ownBlock with
  | none=>exact .inl rfl
  | some q=>
   refine .inr λe=>?_;have:=o i m q d;have:=p q e.symm;omega
 obtain rfl:i=rs.length:=O0;rw[k];have f:j<rs.length:=O0;rw[g j f]
 cases d:(Sa c y.gs.length b).ownBlock with
 | none=>exact .inl rfl
 | some q=>
  refine .inr λe=>?_;have:=o j f q e.symm;have:=p q d;omega
theorem Bg.keep(h:Bg W base v rs vs)(hk:∀q t,oh W q t->t=179\/t=235->base<=q->W'.heap[q]?=W.heap[q]?):Bg W' base v rs vs:=
 ⟨h.len,Z4 h.row (λq b=>hk q 179 (X6 h.row b) (.inl rfl) (X4 h.row b)),λi f=>by
  obtain⟨a,c,e,d⟩:=h.gl i f;exact⟨a,c,e,Z4 d (λq b=>hk q 235 (X6 d b) (.inr rfl) (X4 d b))⟩,h.apart⟩
theorem Ld{q:Nat}{t:TypeId}(h:oh W q t):q<W.heap.size:=by
 obtain⟨cur,fr,e⟩:=h;exact(Ya.1 e).1
theorem a0N(x:z_)(hk:x.kd=2)(b:OA)(g:Nat)(w:World)(H:x.le 1048576)(I:O9 w b x.ls):
 Calls prog 152 #[.agg #[Sc Se 2,Sc Se x.ep,Sb x.fn,Sb x.ft,Sb x.km.nm,Sb x.km.tl,Sb x.km.ar,Sa b x.ls.length g,Sc Se x.cd,Sb x.tx]] w λe w'=>QC (I9 x) (P_ x) e/\Bw w w':=by
 obtain⟨f1,f2,⟨m1,m2,m3⟩,⟨hl,hs⟩,f3⟩:=H;have L:∀o,Bw w (w.alloc o):=λo=>U6
 go_in
 go_wp2_with fail
 refine(PV 2 x.ep x.cd 0 0 0 x.fn x.ft x.km.nm x.km.tl x.km.ar x.tx x.fn x.ft ⟨#[]⟩ ⟨#[]⟩ ⟨#[]⟩ ⟨#[]⟩ b none x.ls.length 0 g 0 _ hl O0).mono ?_;rintro e n⟨⟨r,rfl,hr⟩,t⟩;have A:=U0 (hr.trans (a5o hk));have f:Below (w.heap.size+1) (w.alloc (.cells #[vI 2,vI x.ep,vS x.fn,vS x.ft,vS x.km.nm,vS x.km.tl,vS x.km.ar,vL b x.ls.length g,vI x.cd,vS x.tx] 171)) n:=bG t;have i:=(L _).trans (f.mono O0);have j:=(X9 w [vI 2,vI x.ep,vS x.fn,vS x.ft,vS x.km.nm,vS x.km.tl,vS x.km.ar,vL b x.ls.length g,vI x.cd,vS x.tx] 171).below f O0;have d:w.heap.size<n.heap.size:=by have h:=f.size;simp at h;omega
 clear hr t f;have n1:=j 2 _ rfl;have n2:=j 3 _ rfl;cases r
 ·have k:Hid (QC (I9 x) (P_ x) (Sf vE)):=Rl (λh=>absurd (A.o.2 ((a0I hk).1 h).1) Am);go_wp2;go_ret;exact⟨k.o,i⟩
 have B:=U0 (A.o.1 rfl)
 go_wp2_with fail
 refine(jX x.fn x.ft _ O0 O0).mono ?_;rintro e w1⟨⟨D,rfl,q⟩,a⟩;have z:=U0 q;have y:=E5 i a;have F:=(a.cell (by exact d)).trans n1;have E:=(a.cell (by exact d)).trans n2;have p:=P9 d a.size;clear q a n1 n2 d j i I;cases D
 ·have k:Hid (QC (I9 x) (P_ x) (Sf vE)):=Rl (λh=>absurd (z.o.2 ((a0I hk).1 h).2) Am);go_wp2;go_ret;exact⟨k.o,y⟩
 have c:=z.o.1 rfl;have N:=U0 ((a0I hk).2 ⟨B.o,c⟩);have m:=(Rk c.1).2;have z1:x.fn.size<=20:=by simpa using m
 have z2:=vg x.ft;have z3:=c.2;have O:Hid ((⟨#[102,105,108,101,32]⟩:BY)++x.fn++⟨#[32]⟩++U3 (Z5 x.ft.data.toList)++⟨#[10]⟩=U3 (P_ x)):=by show _=_;rw[a2x,<- B.o]
 have g0:¬9223372036854775807<5+x.fn.size:=O0;have g1':¬9223372036854775807<=5+x.fn.size:=O0;have g1:¬9223372036854775807<5+x.fn.size+1:=O0;have g2:¬9223372036854775807<5+x.fn.size+1+(U3 (Z5 x.ft.data.toList)).size:=O0;have g3':¬9223372036854775807<=5+x.fn.size+1+(U3 (Z5 x.ft.data.toList)).size:=O0;have g3:¬9223372036854775807<5+x.fn.size+1+(U3 (Z5 x.ft.data.toList)).size+1:=O0;have g9:¬(16000:Int)<5+(x.fn.size:Int)+1+((U3 (Z5 x.ft.data.toList)).size:Int)+1:=O0;clear c m
 go_wp2_with fail
 refine wp_region_held_drew (S:=(λu=>u.cell? (aW w 2)=some (vS x.fn)/\u.cell? (aW w 3)=some (vS x.ft))) Y0 ?_ λhHeld=>?_
 · ((try dsimp only);go_keep)
 iterate 8 refine sq ?_
 refine rq 8 λK v=>?_;go_simp;refine(NM x.ft _ O0).mono ?_;rintro e C⟨rfl,s⟩;have l:Hid (Bw w1 C):=((O4 _ _).drew).trans s;have d2:=(l.o.cell (by exact p)).trans F;have d3:=(l.o.cell (by exact p)).trans E;clear s
 go_wp2_with fail
 clear hHeld;refine uT v λhHeld=>?_;clear v K
 iterate 3 refine sq ?_
 refine wdn ?_;have J:=E5 y l.o;clear hHeld;go_wp2;go_ret;exact⟨⟨_,rfl,.inl ⟨N.o,O.o⟩⟩,J⟩

import Derived.Test.YtbgdfcmeheaiiaaGreatDooreEI
set_option linter.unusedVariables false
set_option maxHeartbeats 8000000
set_option maxRecDepth 100000
set_option linter.unusedSimpArgs false
namespace Go.Proofs.YtbgdfcmeheaiiaaGreatDoor
open Proofs.Tryz Go.RowKit
variable{W W' u w:World}{B base k:Nat}{rs:List R3}{ts:LB}{rv tv:Value}{F l:List UInt8}{c:Int}{t:BY}{a:List (List UInt8)}{xs:List L4}{x:L4}
theorem a3Y{x:u_}(c:x.kd=1):xk x.ep x.fn x.ft x.km.nm x.km.tl x.km.ar x.cd x.tx x.ep ⟨#[]⟩ ⟨#[]⟩ ⟨#[]⟩ ⟨#[]⟩ ⟨#[]⟩ 0 ⟨#[]⟩ x.ls.length 0↔x=v_ x.ep:=by
 obtain⟨kd,ep,fn,ft,⟨kn,kt,ka⟩,ls,cd,tx⟩:=x;dsimp only at c;subst c;unfold xk;constructor
 ·rintro⟨h1,h2,i,a,g,f,b,e,d⟩;dsimp only at*
  (try(have j:ls=[]:=La.1 b;subst j))
  subst_vars
  rfl
 intro h;obtain⟨-,h1,h2,i,a,b,e,d⟩:=u_.mk.inj h;obtain⟨a,g,f⟩:=M3.mk.inj a;exact⟨h1,h2,i,a,g,f,by first|rfl|(rw[b];rfl),e,d⟩
theorem a3I{x:u_}(c:x.kd=2):xk x.ep x.fn x.ft x.km.nm x.km.tl x.km.ar x.cd x.tx 0 x.fn x.ft ⟨#[]⟩ ⟨#[]⟩ ⟨#[]⟩ 0 ⟨#[]⟩ x.ls.length 0↔x=Xb x.fn x.ft:=by
 obtain⟨kd,ep,fn,ft,⟨kn,kt,ka⟩,ls,cd,tx⟩:=x;dsimp only at c;subst c;unfold xk;constructor
 ·rintro⟨h1,h2,i,a,g,f,b,e,d⟩;dsimp only at*
  (try(have j:ls=[]:=La.1 b;subst j))
  subst_vars
  rfl
 intro h;obtain⟨-,h1,h2,i,a,b,e,d⟩:=u_.mk.inj h;obtain⟨a,g,f⟩:=M3.mk.inj a;exact⟨h1,h2,i,a,g,f,by first|rfl|(rw[b];rfl),e,d⟩
theorem a3r{x:u_}(c:x.kd=3):xk x.ep x.fn x.ft x.km.nm x.km.tl x.km.ar x.cd x.tx 0 x.fn ⟨#[]⟩ ⟨#[]⟩ ⟨#[]⟩ ⟨#[]⟩ 0 ⟨#[]⟩ x.ls.length 0↔x=Vb x.fn:=by
 obtain⟨kd,ep,fn,ft,⟨kn,kt,ka⟩,ls,cd,tx⟩:=x;dsimp only at c;subst c;unfold xk;constructor
 ·rintro⟨h1,h2,i,a,g,f,b,e,d⟩;dsimp only at*
  (try(have j:ls=[]:=La.1 b;subst j))
  subst_vars
  rfl
 intro h;obtain⟨-,h1,h2,i,a,b,e,d⟩:=u_.mk.inj h;obtain⟨a,g,f⟩:=M3.mk.inj a;exact⟨h1,h2,i,a,g,f,by first|rfl|(rw[b];rfl),e,d⟩
theorem a4S{x:u_}(c:x.kd=4):xk x.ep x.fn x.ft x.km.nm x.km.tl x.km.ar x.cd x.tx 0 ⟨#[]⟩ ⟨#[]⟩ x.km.nm x.km.tl x.km.ar x.cd x.tx x.ls.length x.ls.length↔x=xg x.km x.ls x.cd x.tx:=by
 obtain⟨kd,ep,fn,ft,⟨kn,kt,ka⟩,ls,cd,tx⟩:=x;dsimp only at c;subst c;unfold xk;constructor
 ·rintro⟨h1,h2,i,a,g,f,b,e,d⟩;dsimp only at*
  (try(have j:ls=[]:=La.1 b;subst j))
  subst_vars
  rfl
 intro h;obtain⟨-,h1,h2,i,a,b,e,d⟩:=u_.mk.inj h;obtain⟨a,g,f⟩:=M3.mk.inj a;exact⟨h1,h2,i,a,g,f,by first|rfl|(rw[b];rfl),e,d⟩
theorem a3d{x:u_}(c:x.kd=5):xk x.ep x.fn x.ft x.km.nm x.km.tl x.km.ar x.cd x.tx 0 ⟨#[]⟩ ⟨#[]⟩ ⟨#[]⟩ ⟨#[]⟩ ⟨#[]⟩ 0 ⟨#[]⟩ x.ls.length 0↔x=U_:=by
 obtain⟨kd,ep,fn,ft,⟨kn,kt,ka⟩,ls,cd,tx⟩:=x;dsimp only at c;subst c;unfold xk;constructor
 ·rintro⟨h1,h2,i,a,g,f,b,e,d⟩;dsimp only at*
  (try(have j:ls=[]:=La.1 b;subst j))
  subst_vars
  rfl
 intro h;obtain⟨-,h1,h2,i,a,b,e,d⟩:=u_.mk.inj h;obtain⟨a,g,f⟩:=M3.mk.inj a;exact⟨h1,h2,i,a,g,f,by first|rfl|(rw[b];rfl),e,d⟩
theorem oZ{x:u_}(a:x.kd=1):Z8 x↔(x=v_ x.ep/\(1<=x.ep/\x.ep<=200)):=by
 constructor
 ·intro h;obtain⟨n,h1,rfl⟩:=Dt h a;exact⟨rfl,h1⟩
 rintro⟨h1,h2⟩;exact .inl ⟨_,h2,h1⟩
theorem nZ{x:u_}(c:x.kd=2):Z8 x↔(x=Xb x.fn x.ft/\(Y5 x.fn.data.toList=true/\x.ft.size<=300)):=by
 constructor
 ·intro h;obtain⟨a,b,h1,rfl⟩:=qy h c;exact⟨rfl,h1⟩
 rintro⟨h1,h2⟩;exact .inr (.inl ⟨_,_,h2,h1⟩)
theorem ZY{x:u_}(b:x.kd=3):Z8 x↔(x=Vb x.fn/\Y5 x.fn.data.toList=true):=by
 constructor
 ·intro h;obtain⟨a,h1,rfl⟩:=Kt h b;exact⟨rfl,h1⟩
 rintro⟨h1,h2⟩;exact .inr (.inr (.inl ⟨_,h2,h1⟩))
theorem GZ{x:u_}(a:x.kd=4):Z8 x↔(x=xg x.km x.ls x.cd x.tx/\bg x.km x.ls x.cd x.tx):=by
 constructor
 ·intro h;obtain⟨m,ls,c,t,h1,rfl⟩:=dB h a;exact⟨rfl,h1⟩
 rintro⟨h1,h2⟩;exact .inr (.inr (.inr (.inl ⟨_,_,_,_,h2,h1⟩)))
theorem a2u{x:u_}(a:x.kd=5):Z8 x↔x=U_:=by
 constructor
 ·intro h;exact Gz h a
 intro h;exact .inr (.inr (.inr (.inr h)))
theorem a2l(n:Int):(⟨#[101,112,111,99,104,32]⟩:BY)++Y2 (dec n)++⟨#[10]⟩=Y2 (I_ (v_ n)):=by
 show Y2 [101,112,111,99,104,32]++Y2 (dec n)++Y2 [10]=_;rw[U9,U9];simp[I_,h_,v_,jd,Xd]
theorem a2I(a b:BY):(⟨#[102,105,108,101,32]⟩:BY)++a++⟨#[32]⟩++Y2 (J5 b.data.toList)++⟨#[10]⟩=Y2 (I_ (Xb a b)):=by
 show Y2 [102,105,108,101,32]++Y2 a.data.toList++Y2 [32]++Y2 (J5 b.data.toList)++Y2 [10]=_;rw[U9,U9,U9,U9];simp[I_,h_,Xb,jd,Ph]
theorem a2p(a:BY):(⟨#[100,114,111,112,32]⟩:BY)++a++⟨#[10]⟩=Y2 (I_ (Vb a)):=by
 show Y2 [100,114,111,112,32]++Y2 a.data.toList++Y2 [10]=_;rw[U9,U9];simp[I_,h_,Vb,jd,dh]
theorem a1l(m:M3)(ls:List L4)(c:Int)(t:BY):(⟨#[114,97,110,32]⟩:BY)++m.nm++⟨#[32]⟩++m.tl++⟨#[32]⟩++Y2 (J5 m.ar.data.toList)++⟨#[10]⟩++Y2 (Y9 ls)++⟨#[103,97,118,101,32]⟩++Y2 (Ob c t)++⟨#[10]⟩=Y2 (I_ (xg m ls c t)):=by
 show Y2 [114,97,110,32]++Y2 m.nm.data.toList++Y2 [32]++Y2 m.tl.data.toList++Y2 [32]++Y2 (J5 m.ar.data.toList)++Y2 [10]++Y2 (Y9 ls)++Y2 [103,97,118,101,32]++Y2 (Ob c t)++Y2 [10]=_;simp only[U9];rw[Iw];simp[I_,h_,xg,jd,Dk,Gf,Nc]
theorem a1h:(⟨#[99,108,101,97,114,10]⟩:BY)=Y2 (I_ U_):=by
 simp[I_,h_,U_,jd,Fg,Y2]
theorem IZ(x:u_)(c:x.kd=1)(a:OA)(d:Nat)(w:World)(q:x.le 1048576)(hat:X6 w a x.ls):
 Calls prog 153 #[.agg #[.int .i64 1,.int .i64 x.ep,.string x.fn,.string x.ft,.string x.km.nm,.string x.km.tl,.string x.km.ar,.slice a x.ls.length d,.int .i64 x.cd,.string x.tx]] w λe w'=>VB (Z8 x) (I_ x) e/\Bw w w':=by
 obtain⟨f1,f2,⟨m1,m2,m3⟩,⟨hl,hs⟩,f3⟩:=q;have s:∀o,Bw w (w.alloc o):=λo=>P6
 go_in
 go_wp2_with fail
 refine(c206 1 x.ep x.cd 0 x.ep 0 x.fn x.ft x.km.nm x.km.tl x.km.ar x.tx ⟨#[]⟩ ⟨#[]⟩ ⟨#[]⟩ ⟨#[]⟩ ⟨#[]⟩ ⟨#[]⟩ a none x.ls.length 0 d 0 _ hl O0).mono ?_;rintro e i⟨⟨r,rfl,hr⟩,k⟩;have l:=U0 (hr.trans (a3Y c));have b:Below (w.heap.size+1) (w.alloc (.cells #[vI 1,vI x.ep,vS x.fn,vS x.ft,vS x.km.nm,vS x.km.tl,vS x.km.ar,vL a x.ls.length d,vI x.cd,vS x.tx] 168)) i:=Tq k;have f:=(s _).trans (b.mono O0);have t:=(I9 w [vI 1,vI x.ep,vS x.fn,vS x.ft,vS x.km.nm,vS x.km.tl,vS x.km.ar,vL a x.ls.length d,vI x.cd,vS x.tx] 168).below b O0;have hz1:w.heap.size<i.heap.size:=by have h:=b.size;simp at h;omega
 clear hr k b;have k1:=t 1 _ rfl;cases r
 ·have g:Hid (VB (Z8 x) (I_ x) (.returned vE)):=ak (λh=>absurd (l.out.2 ((oZ c).1 h).1) Jh);go_wp2;go_ret;exact⟨g.out,f⟩
 have m:=U0 (l.out.1 rfl)
 go_wp2_with fail
 refine(c15 x.ep 1 200 _).mono ?_;rintro e w0⟨rfl,hw⟩;obtain rfl:=hw.symm;cases h3:decide (1<=x.ep/\x.ep<=200)
 ·have g:Hid (VB (Z8 x) (I_ x) (.returned vE)):=ak (λh=>yA h3 ((oZ c).1 h).2);go_wp2;go_ret;exact⟨g.out,f⟩
 have p:=Wn h3;have u:=U0 ((oZ c).2 ⟨m.out,p⟩);have n:=Bv x.ep O0 O0;have z1:(Y2 (dec x.ep)).size<=4:=by rw[Y4];exact n
 have k0:¬9223372036854775807<6+(Y2 (dec x.ep)).size:=O0;have k2:¬9223372036854775807<6+(Y2 (dec x.ep)).size+1:=O0;have k2':¬9223372036854775807<=6+(Y2 (dec x.ep)).size:=O0;have k3:¬(16000:Int)<6+((Y2 (dec x.ep)).size:Int)+1:=O0;have v:Hid ((⟨#[101,112,111,99,104,32]⟩:BY)++Y2 (dec x.ep)++⟨#[10]⟩=Y2 (I_ x)):=by show _=_;rw[a2l,<- m.out]
 clear h3
 go_wp2_with fail
 refine(c99 (x.ep.toNat+1) x.ep _ O0 O0 (su _)).mono ?_;rintro e w4⟨rfl,j⟩;have y:=U0 (P5 f j);clear j;go_wp2;go_ret;exact⟨⟨_,rfl,.inl ⟨u.out,v.out⟩⟩,y.out⟩
theorem a0M(x:u_)(c:x.kd=3)(a:OA)(d:Nat)(w:World)(n:x.le 1048576)(hat:X6 w a x.ls):
 Calls prog 153 #[.agg #[.int .i64 3,.int .i64 x.ep,.string x.fn,.string x.ft,.string x.km.nm,.string x.km.tl,.string x.km.ar,.slice a x.ls.length d,.int .i64 x.cd,.string x.tx]] w λe w'=>VB (Z8 x) (I_ x) e/\Bw w w':=by
 obtain⟨f1,f2,⟨m1,m2,m3⟩,⟨hl,hs⟩,f3⟩:=n;have p:∀o,Bw w (w.alloc o):=λo=>P6
 go_in
 go_wp2_with fail
 refine(c206 3 x.ep x.cd 0 0 0 x.fn x.ft x.km.nm x.km.tl x.km.ar x.tx x.fn ⟨#[]⟩ ⟨#[]⟩ ⟨#[]⟩ ⟨#[]⟩ ⟨#[]⟩ a none x.ls.length 0 d 0 _ hl O0).mono ?_;rintro e i⟨⟨r,rfl,hr⟩,j⟩;have k:=U0 (hr.trans (a3r c));have b:Below (w.heap.size+1) (w.alloc (.cells #[vI 3,vI x.ep,vS x.fn,vS x.ft,vS x.km.nm,vS x.km.tl,vS x.km.ar,vL a x.ls.length d,vI x.cd,vS x.tx] 168)) i:=Tq j;have f:=(p _).trans (b.mono O0);have q:=(I9 w [vI 3,vI x.ep,vS x.fn,vS x.ft,vS x.km.nm,vS x.km.tl,vS x.km.ar,vL a x.ls.length d,vI x.cd,vS x.tx] 168).below b O0;have hz1:w.heap.size<i.heap.size:=by have h:=b.size;simp at h;omega
 clear hr j b;have k1:=q 2 _ rfl;cases r
 ·have g:Hid (VB (Z8 x) (I_ x) (.returned vE)):=ak (λh=>absurd (k.out.2 ((ZY c).1 h).1) Jh);go_wp2;go_ret;exact⟨g.out,f⟩
 have l:=U0 (k.out.1 rfl)
 go_wp2_with fail
 refine(EM x.fn _ O0).mono ?_;rintro e w0⟨rfl,hw⟩;obtain rfl:=hw.symm;cases h3:Y5 x.fn.data.toList
 ·have g:Hid (VB (Z8 x) (I_ x) (.returned vE)):=ak (λh=>by have h1:=((ZY c).1 h).2;rw[h3]at h1;cases h1);go_wp2;go_ret;exact⟨g.out,f⟩
 have s:=U0 ((ZY c).2 ⟨l.out,h3⟩);have m:=(Yi h3).2;have z1:x.fn.size<=20:=by simpa using m
 have k0:¬9223372036854775807<5+x.fn.size:=O0;have k2:¬9223372036854775807<5+x.fn.size+1:=O0;have k2':¬9223372036854775807<=5+x.fn.size:=O0;have k3:¬(16000:Int)<5+(x.fn.size:Int)+1:=O0;have t:Hid ((⟨#[100,114,111,112,32]⟩:BY)++x.fn++⟨#[10]⟩=Y2 (I_ x)):=by show _=_;rw[a2p,<- l.out]
 clear h3;go_wp2;go_ret;exact⟨⟨_,rfl,.inl ⟨s.out,t.out⟩⟩,f⟩
theorem a0O(x:u_)(d:x.kd=5)(a:OA)(c:Nat)(w:World)(l:x.le 1048576)(hat:X6 w a x.ls):
 Calls prog 153 #[.agg #[.int .i64 5,.int .i64 x.ep,.string x.fn,.string x.ft,.string x.km.nm,.string x.km.tl,.string x.km.ar,.slice a x.ls.length c,.int .i64 x.cd,.string x.tx]] w λe w'=>VB (Z8 x) (I_ x) e/\Bw w w':=by
 obtain⟨f1,f2,⟨m1,m2,m3⟩,⟨hl,hs⟩,f3⟩:=l;have m:∀o,Bw w (w.alloc o):=λo=>P6
 go_in
 go_wp2_with fail
 refine(c206 5 x.ep x.cd 0 0 0 x.fn x.ft x.km.nm x.km.tl x.km.ar x.tx ⟨#[]⟩ ⟨#[]⟩ ⟨#[]⟩ ⟨#[]⟩ ⟨#[]⟩ ⟨#[]⟩ a none x.ls.length 0 c 0 _ hl O0).mono ?_;rintro e f⟨⟨r,rfl,hr⟩,g⟩;have j:=U0 (hr.trans (a3d d));have b:Below (w.heap.size+1) (w.alloc (.cells #[vI 5,vI x.ep,vS x.fn,vS x.ft,vS x.km.nm,vS x.km.tl,vS x.km.ar,vL a x.ls.length c,vI x.cd,vS x.tx] 168)) f:=Tq g;have i:=(m _).trans (b.mono O0);have bA:=(I9 w [vI 5,vI x.ep,vS x.fn,vS x.ft,vS x.km.nm,vS x.km.tl,vS x.km.ar,vL a x.ls.length c,vI x.cd,vS x.tx] 168).below b O0;have hz1:w.heap.size<f.heap.size:=by have h:=b.size;simp at h;omega
 clear hr g b;cases r
 ·have p:Hid (VB (Z8 x) (I_ x) (.returned vE)):=ak (λh=>absurd (j.out.2 ((a2u d).1 h)) Jh);go_wp2;go_ret;exact⟨p.out,i⟩
 have k:=U0 (j.out.1 rfl);have n:=U0 ((a2u d).2 k.out);have q:Hid ((⟨#[99,108,101,97,114,10]⟩:BY)=Y2 (I_ x)):=by show _=_;rw[a1h,<- k.out]
 go_wp2;go_ret;exact⟨⟨_,rfl,.inl ⟨n.out,q.out⟩⟩,i⟩
theorem fV(x:u_)(c:OA)(b:Nat)(w:World)(h1:¬x.kd=1)(h2:¬x.kd=2)(h3:¬x.kd=3)(h4:¬x.kd=4)(h5:¬x.kd=5):
 Calls prog 153 #[.agg #[.int .i64 x.kd,.int .i64 x.ep,.string x.fn,.string x.ft,.string x.km.nm,.string x.km.tl,.string x.km.ar,.slice c x.ls.length b,.int .i64 x.cd,.string x.tx]] w λe w'=>VB (Z8 x) (I_ x) e/\Bw w w':=by
 have a:∀o,Bw w (w.alloc o):=λo=>P6;have d:Hid (VB (Z8 x) (I_ x) (.returned vE)):=ak (λh=>by rcases BG h with h|h|h|h|h<;>contradiction)
 go_in
 go_wp2;go_ret;exact⟨d.out,a _⟩
theorem aZ(x:u_)(s:x.kd=4)(b:OA)(i:Nat)(w:World)(hle:x.le 1048576)(z:X6 w b x.ls):
 Calls prog 153 #[.agg #[.int .i64 4,.int .i64 x.ep,.string x.fn,.string x.ft,.string x.km.nm,.string x.km.tl,.string x.km.ar,.slice b x.ls.length i,.int .i64 x.cd,.string x.tx]] w λe w'=>VB (Z8 x) (I_ x) e/\Bw w w':=by
 obtain⟨f1,f2,⟨m1,m2,m3⟩,⟨hl,y⟩,f3⟩:=hle;have hB0:∀o,Bw w (w.alloc o):=λo=>P6
 go_in
 go_wp2_with fail
 refine(c206 4 x.ep x.cd 0 0 x.cd x.fn x.ft x.km.nm x.km.tl x.km.ar x.tx ⟨#[]⟩ ⟨#[]⟩ x.km.nm x.km.tl x.km.ar x.tx b b x.ls.length x.ls.length i i _ hl hl).mono ?_;rintro e F⟨⟨r,rfl,hr⟩,Q⟩;have U:=U0 (hr.trans (a4S s));have q:Below (w.heap.size+1) (w.alloc (.cells #[vI 4,vI x.ep,vS x.fn,vS x.ft,vS x.km.nm,vS x.km.tl,vS x.km.ar,vL b x.ls.length i,vI x.cd,vS x.tx] 168)) F:=Tq Q;have t:=(hB0 _).trans (q.mono O0);have m:=(I9 w [vI 4,vI x.ep,vS x.fn,vS x.ft,vS x.km.nm,vS x.km.tl,vS x.km.ar,vL b x.ls.length i,vI x.cd,vS x.tx] 168).below q O0;have d:w.heap.size<F.heap.size:=by have h:=q.size;simp at h;omega
 clear hr Q q;have J:=m 4 _ rfl;have n5:=m 5 _ rfl;have n6:=m 6 _ rfl;have n7:=m 7 _ rfl;have I:=m 8 _ rfl;have H:=m 9 _ rfl;cases r
 ·have B:Hid (VB (Z8 x) (I_ x) (.returned vE)):=ak (λh=>absurd (U.out.2 ((GZ s).1 h).1) Jh);go_wp2;go_ret;exact⟨B.out,t⟩
 have V:=U0 (U.out.1 rfl)
 go_wp2_with fail
 refine(c208 x.km x.ls x.cd x.tx b i _ ⟨m1,m2,m3⟩ hl y f3 (Z4 z t)).mono ?_;rintro e X⟨⟨Y,rfl,L⟩,a⟩;have R:=U0 L;have A:=P5 t a;have k4:=(a.cell (by exact d)).trans J;have k5:=(a.cell (by exact d)).trans n5;have k6:=(a.cell (by exact d)).trans n6;have k7:=(a.cell (by exact d)).trans n7;have k8:=(a.cell (by exact d)).trans I;have k9:=(a.cell (by exact d)).trans H;have l:=G9 d a.size;have HAT:=U0 z;have HS:=U0 y;clear L a J n5 n6 n7 I H d m t z y;cases Y
 ·have B:Hid (VB (Z8 x) (I_ x) (.returned vE)):=ak (λh=>absurd (R.out.2 ((GZ s).1 h).2) Jh);go_wp2;go_ret;exact⟨B.out,A⟩
 have p:=U0 (R.out.1 rfl);have HOK:=U0 ((GZ s).2 ⟨V.out,p.out⟩);obtain⟨E,D,C⟩:=qF p.out.1;have y0:x.km.nm.size<=20:=by simpa using E
 have y1:x.km.tl.size<=20:=by simpa using D
 have y2:x.km.ar.size<=300:=by simpa using C
 have y3:=Le x.km.ar;have y4:(Y2 (Y9 x.ls)).size<=13950:=by rw[Y4];exact xw p.out.2.1
 have v:=U0 (Xg p.out.2.2);have y5:(Y2 (Ob x.cd x.tx)).size<=904:=by rw[Y4];exact nD v.out.1 v.out.2 (UD p.out.2.2)
 have HE:Hid ((⟨#[114,97,110,32]⟩:BY)++x.km.nm++⟨#[32]⟩++x.km.tl++⟨#[32]⟩++Y2 (J5 x.km.ar.data.toList)++⟨#[10]⟩++Y2 (Y9 x.ls)++⟨#[103,97,118,101,32]⟩++Y2 (Ob x.cd x.tx)++⟨#[10]⟩=Y2 (I_ x)):=by show _=_;rw[a1l,<- V.out]
 have g0:¬9223372036854775807<4+x.km.nm.size:=O0;have g1':¬9223372036854775807<=4+x.km.nm.size:=O0;have g1:¬9223372036854775807<4+x.km.nm.size+1:=O0;have g2:¬9223372036854775807<4+x.km.nm.size+1+x.km.tl.size:=O0;have g3':¬9223372036854775807<=4+x.km.nm.size+1+x.km.tl.size:=O0;have g3:¬9223372036854775807<4+x.km.nm.size+1+x.km.tl.size+1:=O0;have g4:¬9223372036854775807<4+x.km.nm.size+1+x.km.tl.size+1+(Y2 (J5 x.km.ar.data.toList)).size:=O0;have g5':¬9223372036854775807<=4+x.km.nm.size+1+x.km.tl.size+1+(Y2 (J5 x.km.ar.data.toList)).size:=O0;have g5:¬9223372036854775807<4+x.km.nm.size+1+x.km.tl.size+1+(Y2 (J5 x.km.ar.data.toList)).size+1:=O0;have g6:¬9223372036854775807<4+x.km.nm.size+1+x.km.tl.size+1+(Y2 (J5 x.km.ar.data.toList)).size+1+(Y2 (Y9 x.ls)).size:=O0;have g7:¬9223372036854775807<4+x.km.nm.size+1+x.km.tl.size+1+(Y2 (J5 x.km.ar.data.toList)).size+1+(Y2 (Y9 x.ls)).size+5:=O0;have g8:¬9223372036854775807<4+x.km.nm.size+1+x.km.tl.size+1+(Y2 (J5 x.km.ar.data.toList)).size+1+(Y2 (Y9 x.ls)).size+5+(Y2 (Ob x.cd x.tx)).size:=O0;have g9':¬9223372036854775807<=4+x.km.nm.size+1+x.km.tl.size+1+(Y2 (J5 x.km.ar.data.toList)).size+1+(Y2 (Y9 x.ls)).size+5+(Y2 (Ob x.cd x.tx)).size:=O0;have g9:¬9223372036854775807<4+x.km.nm.size+1+x.km.tl.size+1+(Y2 (J5 x.km.ar.data.toList)).size+1+(Y2 (Y9 x.ls)).size+5+(Y2 (Ob x.cd x.tx)).size+1:=O0;have h9:¬(16000:Int)<4+(x.km.nm.size:Int)+1+(x.km.tl.size:Int)+1+((Y2 (J5 x.km.ar.data.toList)).size:Int)+1+((Y2 (Y9 x.ls)).size:Int)+5+((Y2 (Ob x.cd x.tx)).size:Int)+1:=O0;clear E D C
 go_wp2_with fail
 refine wp_region_held_drew (S:=(λu=>u.cell? (aW w 4)=some (vS x.km.nm)/\u.cell? (aW w 5)=some (vS x.km.tl)/\u.cell? (aW w 6)=some (vS x.km.ar)/\u.cell? (aW w 7)=some (vL b x.ls.length i)/\u.cell? (aW w 8)=some (vI x.cd)/\u.cell? (aW w 9)=some (vS x.tx))) Y0 ?_ λhHeld=>?_
 · ((try dsimp only);go_keep)
 refine U8 0 ?_;refine U8 1 ?_;refine U8 2 ?_;refine U8 3 ?_;refine U8 4 ?_;refine U8 5 ?_;refine U8 6 ?_;refine U8 7 ?_;refine U8 8 ?_;refine U8 9 ?_;refine U8 10 ?_;refine U8 11 ?_;refine U8 12 ?_;refine U8 16 ?_;refine U8 17 ?_;refine U8 21 ?_;refine U8 22 ?_;refine rq 13 λK g=>?_;go_simp;refine(eH x.km.ar _ O0).mono ?_;rintro e W⟨rfl,P⟩;have c:Hid (Bw X W):=((J4 _ _).drew).trans P;have p4:=(c.out.cell (by exact l)).trans k4;have p5:=(c.out.cell (by exact l)).trans k5;have p6:=(c.out.cell (by exact l)).trans k6;have p7:=(c.out.cell (by exact l)).trans k7;have p8:=(c.out.cell (by exact l)).trans k8;have p9:=(c.out.cell (by exact l)).trans k9;have f:=G9 l c.out.size;clear P
 go_wp2_with fail
 clear hHeld;refine rF g λhHeld=>?_;clear g K
 iterate 2 refine sq ?_
 refine rq 18 λK g=>?_;go_simp;refine(a1o b i x.ls _ p.out.2.1 HS (Z4 HAT (P5 A c))).mono ?_;rintro e w3⟨rfl,O⟩;have j:=U0 O;have q4:=(j.out.cell (by exact f)).trans p4;have q5:=(j.out.cell (by exact f)).trans p5;have q6:=(j.out.cell (by exact f)).trans p6;have q7:=(j.out.cell (by exact f)).trans p7;have q8:=(j.out.cell (by exact f)).trans p8;have Z:=(j.out.cell (by exact f)).trans p9;have k:=G9 f j.out.size;clear O
 go_wp2_with fail
 clear hHeld;refine rF g λhHeld=>?_;clear g K
 iterate 2 refine sq ?_
 refine rq 23 λK g=>?_;go_simp;refine(a0E x.cd x.tx _ v.out.1 (by have:=v.out.2;omega) O0).mono ?_;rintro e w4⟨rfl,N⟩;have n:=U0 N;have r4:=(n.out.cell (by exact k)).trans q4;have r5:=(n.out.cell (by exact k)).trans q5;have r6:=(n.out.cell (by exact k)).trans q6;have r7:=(n.out.cell (by exact k)).trans q7;have r8:=(n.out.cell (by exact k)).trans q8;have r9:=(n.out.cell (by exact k)).trans Z;clear N
 go_wp2_with fail
 clear hHeld;refine rF g λhHeld=>?_;clear g K
 iterate 3 refine sq ?_
 refine wdn ?_;have hB2:=((P5 A c).trans (j.out.mono (Uu f))).trans (n.out.mono (Uu k));clear hHeld;go_wp2;go_ret;exact⟨⟨_,rfl,.inl ⟨HOK,HE⟩⟩,hB2⟩
open Go.RowKit Go.Maps
theorem flat3{α:Type}(f:α->List Value)(hf:∀a,(f a).length=3):∀(l:List α)(k:Nat)(b:k<l.length)(j:Nat),j<3->(l.flatMap f)[k*3+j]?=(f (l[k]))[j]?
 | [],k,b,_,_=>absurd b (U7 _)
 | x::r,0,_,j,hj=>by
  rw[Ag,R_ (by rw[hf];omega)];simp
 | x::r,k+1,b,j,hj=>by
  have c:=flat3 f hf r k (by simpa using b) j hj;rw[Ag,rf (by rw[hf];omega),hf];have e:(k+1)*3+j-3=k*3+j:=O0;rw[e,c];simp
theorem vY(rs:List R3)(vs:List Value)(k:Nat)(a:k<rs.length):(rC rs vs)[k*3]?=some (.string (rs.getD k j_).key)/\(rC rs vs)[k*3+1]?=some (vs.getD k undef)/\(rC rs vs)[k*3+2]?=some (.string (rs.getD k j_).out):=by
 have h:=flat3 (λi=>[Value.string (rs.getD i j_).key,vs.getD i undef,Value.string (rs.getD i j_).out]) (λ_=>rfl) (List.range rs.length) k (by simpa using a);have h0:=h 0 O0;have h1:=h 1 O0;have h2:=h 2 O0;simp only[List.getElem_range]at h0 h1 h2;exact⟨h0,h1,h2⟩
theorem aI{a2:OA}{c2:Nat}{vs:List Value}(h:Yg W base (.slice a2 rs.length c2) rs vs):Eg W a2 rs:=by
 have b:=h.row;rcases h.row.2 with⟨hv,h0⟩|⟨g,cap,cur,hv,hg,f,_⟩
 ·exact .inl (La.1 h0)
 simp only[Ir]at hv;obtain⟨rfl,_,rfl⟩:=hv;refine .inr ⟨g,0,rfl,(Ua.1 f).1,λk d=>?_⟩;obtain⟨j,a1,a2⟩:=vY rs vs k d;obtain⟨a,c,e,i⟩:=h.gl k d;refine⟨a,c,?_,?_,?_,OJ i⟩
 ·rw[l7,b.cellAt (k*3) O0];exact j
 ·rw[l7,b.cellAt (k*3+1) O0,a1,e]
 rw[l7,b.cellAt (k*3+2) O0];exact a2
theorem Es(h:Bd W base ts rs tv rv)(a:∀q t,Oj W q t->t=9\/t=176\/t=256->W'.heap[q]?=W.heap[q]?):Bd W' base ts rs tv rv:=by
 obtain⟨h1,vs,h2⟩:=h;exact⟨G7 h1 (λq b=>a q 9 (N9 h1 b) (.inl rfl)),vs,h2.keep (λq t hT ht _=>a q t hT (.inr ht))⟩
theorem Gw(h:Bd W base ts rs tv rv)(a:Bw W W'):Bd W' base ts rs tv rv:=
 Es h (λq t hT _=>a.block q (Tm hT))
theorem Qv{base':Nat}(h:Bd W base ts rs tv rv)(a:base'<=base):Bd W base' ts rs tv rv:=by
 obtain⟨h1,vs,h⟩:=h;exact⟨a_ h1 a,vs,h.len,a_ h.row a,λi b=>by
  obtain⟨d,c3,e,c⟩:=h.gl i b;exact⟨d,c3,e,a_ c a⟩,h.apart⟩
theorem VJ:Ji.le 1048576:=⟨I4 _,I4 _,⟨I4 _,I4 _,I4 _⟩,⟨I4 _,λ_=>⟨I4 _,I4 _⟩⟩,I4 _⟩
theorem a0V(x:u_)(g:x.kd=2)(b:OA)(i:Nat)(w:World)(J:x.le 1048576)(L:X6 w b x.ls):
 Calls prog 153 #[.agg #[.int .i64 2,.int .i64 x.ep,.string x.fn,.string x.ft,.string x.km.nm,.string x.km.tl,.string x.km.ar,.slice b x.ls.length i,.int .i64 x.cd,.string x.tx]] w λe w'=>VB (Z8 x) (I_ x) e/\Bw w w':=by
 obtain⟨f1,f2,⟨m1,m2,m3⟩,⟨hl,hs⟩,f3⟩:=J;have O:∀o,Bw w (w.alloc o):=λo=>P6
 go_in
 go_wp2_with fail
 refine(c206 2 x.ep x.cd 0 0 0 x.fn x.ft x.km.nm x.km.tl x.km.ar x.tx x.fn x.ft ⟨#[]⟩ ⟨#[]⟩ ⟨#[]⟩ ⟨#[]⟩ b none x.ls.length 0 i 0 _ hl O0).mono ?_;rintro e p⟨⟨r,rfl,hr⟩,v⟩;have B:=U0 (hr.trans (a3I g));have f:Below (w.heap.size+1) (w.alloc (.cells #[vI 2,vI x.ep,vS x.fn,vS x.ft,vS x.km.nm,vS x.km.tl,vS x.km.ar,vL b x.ls.length i,vI x.cd,vS x.tx] 168)) p:=Tq v;have j:=(O _).trans (f.mono O0);have k:=(I9 w [vI 2,vI x.ep,vS x.fn,vS x.ft,vS x.km.nm,vS x.km.tl,vS x.km.ar,vL b x.ls.length i,vI x.cd,vS x.tx] 168).below f O0;have d:w.heap.size<p.heap.size:=by have h:=f.size;simp at h;omega
 clear hr v f;have n1:=k 2 _ rfl;have n2:=k 3 _ rfl;cases r
 ·have l:Hid (VB (Z8 x) (I_ x) (.returned vE)):=ak (λh=>absurd (B.out.2 ((nZ g).1 h).1) Jh);go_wp2;go_ret;exact⟨l.out,j⟩
 have C:=U0 (B.out.1 rfl)
 go_wp2_with fail
 refine(XU x.fn x.ft _ O0 O0).mono ?_;rintro e E⟨⟨F,rfl,s⟩,a⟩;have A:=U0 s;have z:=P5 j a;have I:=(a.cell (by exact d)).trans n1;have H:=(a.cell (by exact d)).trans n2;have q:=G9 d a.size;clear s a n1 n2 d k j L;cases F
 ·have l:Hid (VB (Z8 x) (I_ x) (.returned vE)):=ak (λh=>absurd (A.out.2 ((nZ g).1 h).2) Jh);go_wp2;go_ret;exact⟨l.out,z⟩
 have c:=A.out.1 rfl;have P:=U0 ((nZ g).2 ⟨C.out,c⟩);have n:=(Yi c.1).2;have z1:x.fn.size<=20:=by simpa using n
 have z2:=Le x.ft;have z3:=c.2;have Q:Hid ((⟨#[102,105,108,101,32]⟩:BY)++x.fn++⟨#[32]⟩++Y2 (J5 x.ft.data.toList)++⟨#[10]⟩=Y2 (I_ x)):=by show _=_;rw[a2I,<- C.out]
 have g0:¬9223372036854775807<5+x.fn.size:=O0;have g1':¬9223372036854775807<=5+x.fn.size:=O0;have g1:¬9223372036854775807<5+x.fn.size+1:=O0;have g2:¬9223372036854775807<5+x.fn.size+1+(Y2 (J5 x.ft.data.toList)).size:=O0;have g3':¬9223372036854775807<=5+x.fn.size+1+(Y2 (J5 x.ft.data.toList)).size:=O0;have g3:¬9223372036854775807<5+x.fn.size+1+(Y2 (J5 x.ft.data.toList)).size+1:=O0;have g9:¬(16000:Int)<5+(x.fn.size:Int)+1+((Y2 (J5 x.ft.data.toList)).size:Int)+1:=O0;clear c n
 go_wp2_with fail
 refine wp_region_held_drew (S:=(λu=>u.cell? (aW w 2)=some (vS x.fn)/\u.cell? (aW w 3)=some (vS x.ft))) Y0 ?_ λhHeld=>?_
 · ((try dsimp only);go_keep)
 iterate 8 refine sq ?_
 refine rq 8 λK y=>?_;go_simp;refine(eH x.ft _ O0).mono ?_;rintro e D⟨rfl,t⟩;have m:Hid (Bw E D):=((J4 _ _).drew).trans t;have d2:=(m.out.cell (by exact q)).trans I;have d3:=(m.out.cell (by exact q)).trans H;clear t
 go_wp2_with fail
 clear hHeld;refine rF y λhHeld=>?_;clear y K
 iterate 3 refine sq ?_
 refine wdn ?_;have N:=P5 z m.out;clear hHeld;go_wp2;go_ret;exact⟨⟨_,rfl,.inl ⟨P.out,Q.out⟩⟩,N⟩
def FN(l:List UInt8)(x:L4)(ok:Bool):Prop:=(∀y,Oh y->l=Cc y->ok=true/\x=y)/\(MB l=false->ok=false)
def lZ(l:List UInt8)(e:Ending):Prop:=∃(x:L4)(ok:Bool),e=.returned (.tuple #[x.v,.bool ok])/\FN l x ok/\x.le 1048576
theorem a0p(h:MB l=false)(x:L4):FN l x false:=by
 refine⟨λy b e=>?_,λ_=>rfl⟩;obtain⟨a,_⟩:=Qm b.1;rw[<- e]at a;rw[(xu a).1]at h;cases h
theorem aX(h:MB l=true)(hr:DK (Y1 (Y1 l)) c t):FN l ⟨Cj l,Y2 (O1 (Y1 l)),c,t⟩ true:=by
 constructor
 ·intro y f e;obtain⟨a,b,d⟩:=Qm f.1;rw[<- e]at a b d;obtain⟨h1,h2⟩:=hr _ _ (Bh f).1 (Bh f).2 d;refine⟨rfl,?_⟩;rw[(xu a).2,b,h1,h2];rfl
 intro e;rw[h]at e;cases e
theorem a2b(l:List UInt8)(w:World)(hs:l.length<=16000):
 Calls prog 151 #[.string (Y2 l)] w λe w'=>lZ l e/\Bw w w':=by
 have X:Bw w (w.alloc (.cells #[.bool false,vE,vO,vE] 201)):=P6;have hr:=H8 l;have hr2:=H8 (Y1 l);have h1:=has_eq l;have h2:=SQ l;have W:MB l=(Cj l||decide (O1 l=[97,115,107])):=rfl
 go_in
 go_wp2_with fail
 refine(Vs l _ O0 2 O0 O0).mono ?_;rintro e j⟨⟨g,cp,rfl,U,I⟩,V⟩;have q:j.cell? (aA g 0)=some (vS (Y2 (O1 l))):=I.2 0 (by simp[H_]);have p:j.cell? (aA g 1)=some (vS (Y2 (O1 (Y1 l)))):=I.2 1 (by simp[H_]);have o:=I.1;have H:Below (w.heap.size+1) (w.alloc (.cells #[.bool false,vE,vO,vE] 201)) j:=Tq V;have hg2:w.heap.size<g:=by have h:=U;simp at h;omega
 have F:=X.trans (H.mono O0);obtain⟨D,E⟩:=iG (vs:=[.bool false,vE,vO,vE]) H;have O:MB l=false->Hid (lZ l (.returned (.tuple #[.agg #[.bool false,vE,vO,vE],.bool false]))):=λh=>⟨l_,false,rfl,a0p h _,⟨I4 _,I4 _⟩⟩;have N:MB l=true->∀c t,DK (Y1 (Y1 l)) c t->t.size<=1048576->Hid (lZ l (.returned (.tuple #[.agg #[.bool (Cj l),vS (Y2 (O1 (Y1 l))),vI c,vS t],.bool true]))):=λh c t Q ht=>⟨⟨Cj l,Y2 (O1 (Y1 l)),c,t⟩,true,rfl,aX h Q,⟨by show(Y2 (O1 (Y1 l))).size<=1048576;rw[Y4];omega,ht⟩⟩;have L:=c152 (Y1 (Y1 l));have P:Y2 (d_ l 2)=Y2 (Y1 (Y1 l)):=rfl;rw[P];have J:(Y1 (Y1 l)).length<=16000:=O0;generalize Y1 (Y1 l)=R at*;generalize Y2 (O1 (Y1 l))=B at*;generalize decide (O1 l=[97,115,107])=a at*;generalize Cj l=h at*;generalize MB l=i at*;generalize Y2 (O1 l)=s at*;have n:w.heap.size<j.heap.size:=by have h:=H.size;simp at h;omega
 subst W;cases h
 ·cases a
  ·have k:=O rfl
   go_wp2_with(refine J7 rfl 201 (.tmp 2) (.tmp 21) rfl w.heap.size 0 rfl [.bool false,vE,vO,vE] rfl (g_ D _ rfl) E (by simp[Value.oneCell']) Y0 rfl ?_)
   have m:=E5.fill (B:=w.heap.size) [.bool false,vE,vO,vE] [] [.bool false,vE,vO,vE] [] 0 D rfl rfl;refine o7 (v:=.tuple #[.agg #[.bool false,vE,vO,vE],.bool false]) (by exact Y_ results151 _ _ w.heap.size _ _ _ rfl rfl m underlying201 rfl Y0) rfl ⟨k,by exact Ya Y8 _ 0 F⟩
  clear O
  go_wp2_with fail
  refine wp_region_held_drew (S:=(λu=>u.cell? (aA g 0)=some (vS s)/\u.cell? (aA g 1)=some (vS B))) Y0 ?_ λhHeld=>?_
  ·exact⟨q,p⟩
  iterate 8 refine sq ?_
  refine rq 8 λK d=>?_;go_simp;refine(L _ J).mono ?_;rintro e r⟨⟨c,t,rfl,y,x⟩,z⟩;have b:Bw j r:=((J4 _ _).drew).trans z;have f:=D.below b n;have A:=E.below b n;have C:=P5 F b;have k:=N (by first|rfl|trivial) c t y x;have e0:=(b.cell (by exact o)).trans q;have e1:=(b.cell (by exact o)).trans p
  go_wp2_with fail
  refine X8 d ?_ λhHeld=>?_
  ·exact⟨e0,e1⟩
  refine sq ?_;refine rq 10 λK d=>?_;refine Jc rfl 201 (.tmp 2) (.tmp 31) rfl w.heap.size 0 rfl [.bool false,vS B,vI c,vS t] rfl (g_ f _ rfl) A (by simp[Value.oneCell']) Y0 rfl ?_;refine X8 d ?_ λhHeld=>?_
  ·exact⟨(P_ _ 0 (aA g 0) (by show g≠w.heap.size;omega)).trans e0,(P_ _ 0 (aA g 1) (by show g≠w.heap.size;omega)).trans e1⟩
  refine sq ?_;refine wdn ?_;go_wp2;have m:=E5.fill (B:=w.heap.size) [.bool false,vS B,vI c,vS t] [] [.bool false,vE,vO,vE] [] 0 f rfl rfl;refine o7 (v:=.tuple #[.agg #[.bool false,vS B,vI c,vS t],.bool true]) (by exact Y_ results151 _ _ w.heap.size _ _ _ rfl rfl m underlying201 rfl Y0) rfl ⟨k,by exact Ya Y8 _ 0 C⟩
 clear O;cases a
 ·go_wp2_with fail
  refine wp_region_held_drew (S:=(λu=>u.cell? (aA g 0)=some (vS s)/\u.cell? (aA g 1)=some (vS B))) Y0 ?_ λhHeld=>?_
  ·exact⟨q,p⟩
  iterate 8 refine sq ?_
  refine rq 8 λK d=>?_;go_simp;refine(L _ J).mono ?_;rintro e r⟨⟨c,t,rfl,y,x⟩,z⟩;have b:Bw j r:=((J4 _ _).drew).trans z;have f:=D.below b n;have A:=E.below b n;have C:=P5 F b;have k:=N (by first|rfl|trivial) c t y x;have e0:=(b.cell (by exact o)).trans q;have e1:=(b.cell (by exact o)).trans p
  go_wp2_with fail
  refine X8 d ?_ λhHeld=>?_
  ·exact⟨e0,e1⟩
  refine sq ?_;refine rq 10 λK d=>?_;refine Jc rfl 201 (.tmp 2) (.tmp 31) rfl w.heap.size 0 rfl [.bool true,vS B,vI c,vS t] rfl (g_ f _ rfl) A (by simp[Value.oneCell']) Y0 rfl ?_;refine X8 d ?_ λhHeld=>?_
  ·exact⟨(P_ _ 0 (aA g 0) (by show g≠w.heap.size;omega)).trans e0,(P_ _ 0 (aA g 1) (by show g≠w.heap.size;omega)).trans e1⟩
  refine sq ?_;refine wdn ?_;go_wp2;have m:=E5.fill (B:=w.heap.size) [.bool true,vS B,vI c,vS t] [] [.bool false,vE,vO,vE] [] 0 f rfl rfl;refine o7 (v:=.tuple #[.agg #[.bool true,vS B,vI c,vS t],.bool true]) (by exact Y_ results151 _ _ w.heap.size _ _ _ rfl rfl m underlying201 rfl Y0) rfl ⟨k,by exact Ya Y8 _ 0 C⟩
 go_wp2_with fail
 refine wp_region_held_drew (S:=(λu=>u.cell? (aA g 0)=some (vS s)/\u.cell? (aA g 1)=some (vS B))) Y0 ?_ λhHeld=>?_
 ·exact⟨q,p⟩
 iterate 8 refine sq ?_
 refine rq 8 λK d=>?_;go_simp;refine(L _ J).mono ?_;rintro e r⟨⟨c,t,rfl,y,x⟩,z⟩;have b:Bw j r:=((J4 _ _).drew).trans z;have f:=D.below b n;have A:=E.below b n;have C:=P5 F b;have k:=N (by first|rfl|trivial) c t y x;have e0:=(b.cell (by exact o)).trans q;have e1:=(b.cell (by exact o)).trans p
 go_wp2_with fail
 refine X8 d ?_ λhHeld=>?_
 ·exact⟨e0,e1⟩
 refine sq ?_;refine rq 10 λK d=>?_;refine Jc rfl 201 (.tmp 2) (.tmp 31) rfl w.heap.size 0 rfl [.bool true,vS B,vI c,vS t] rfl (g_ f _ rfl) A (by simp[Value.oneCell']) Y0 rfl ?_;refine X8 d ?_ λhHeld=>?_
 ·exact⟨(P_ _ 0 (aA g 0) (by show g≠w.heap.size;omega)).trans e0,(P_ _ 0 (aA g 1) (by show g≠w.heap.size;omega)).trans e1⟩
 refine sq ?_;refine wdn ?_;go_wp2;have m:=E5.fill (B:=w.heap.size) [.bool true,vS B,vI c,vS t] [] [.bool false,vE,vO,vE] [] 0 f rfl rfl;refine o7 (v:=.tuple #[.agg #[.bool true,vS B,vI c,vS t],.bool true]) (by exact Y_ results151 _ _ w.heap.size _ _ _ rfl rfl m underlying201 rfl Y0) rfl ⟨k,by exact Ya Y8 _ 0 C⟩
theorem VN(x:u_)(a:OA)(b:Nat)(w:World)(d:x.le 1048576)(f:X6 w a x.ls):
 Calls prog 153 #[.agg (x.c a b).toArray] w λe w'=>VB (Z8 x) (I_ x) e/\Bw w w':=by
 show Calls prog 153 #[.agg #[.int .i64 x.kd,.int .i64 x.ep,.string x.fn,.string x.ft,.string x.km.nm,.string x.km.tl,.string x.km.ar,.slice a x.ls.length b,.int .i64 x.cd,.string x.tx]] w _;by_cases h1:x.kd=1
 ·have:=IZ x h1 a b w d f;rw[h1];exact this
 by_cases h2:x.kd=2
 ·have:=a0V x h2 a b w d f;rw[h2];exact this
 by_cases i:x.kd=3
 ·have:=a0M x i a b w d f;rw[i];exact this
 by_cases h:x.kd=4
 ·have:=aZ x h a b w d f;rw[h];exact this
 by_cases g:x.kd=5
 ·have:=a0O x g a b w d f;rw[g];exact this
 exact fV x a b w h1 h2 i h g
def RES(l:List UInt8)(x:u_)(ok:Bool):Prop:=(ok=true->Z8 x/\I_ x=l/\∀y,Z8 y->I_ y=l->x=y)/\(ok=false->∀y,Z8 y->I_ y≠l)
def Is4(l:List UInt8)(w':World)(e:Ending):Prop:=∃(x:u_)(ok:Bool)(ai:OA)(ci:Nat),e=.returned (.tuple #[.agg (x.c ai ci).toArray,.bool ok])/\RES l x ok/\(ok=false->x=Ji/\ai=none/\ci=0)/\x.le 1048576/\X6 w' ai x.ls
def eX(l:List UInt8)(x:u_):Prop:=∀y,Z8 y->I_ y=l->x=y
theorem Lp{a:BY}{x:u_}(hx:eX l x)(hT:(Z8 x/\a=Y2 (I_ x))\/(¬Z8 x/\a=⟨#[]⟩))(hl:l≠[])(he:a.data.toList=l):RES l x true:=by
 refine⟨λ_=>?_,(λh=>by cases h)⟩;rcases hT with⟨h1,h2⟩|⟨h1,h2⟩
 ·exact⟨h1,by rw[<- he,h2];rfl,hx⟩
 rw[h2]at he;exact absurd he.symm hl
theorem uw{a:BY}{x:u_}(hx:eX l x)(hT:(Z8 x/\a=Y2 (I_ x))\/(¬Z8 x/\a=⟨#[]⟩))(he:a.data.toList≠l):RES l Ji false:=by
 refine⟨(λh=>by cases h),λ_ y b e=>?_⟩;have:=hx y b e;subst this;rcases hT with⟨h1,h2⟩|⟨h1,h2⟩
 ·apply he;rw[h2];exact e
 exact h1 b
theorem xK(h:l=[]\/16000<l.length):RES l Ji false:=by
 refine⟨(λh=>by cases h),λ_ y a e=>?_⟩;have:=MK a;rw[e]at this;rcases h with h|h
 ·rw[h]at this;simp at this
 omega
theorem yJ{a:Act}(x:u_)(b:OA)(d:Nat)(ok:Bool)(g:RES l x ok)(f:ok=false->x=Ji/\b=none/\d=0)(hx:x.le 1048576)(h:X6 (fill u w.heap.size 0 (x.c b d)) b x.ls)(k:a.tmps.getD 2 undef=.pointer (some ⟨w.heap.size,0,none⟩))(j:a.tmps.getD 3 undef=.bool ok)(hd:a.defers=[])(hA:E5 u w.heap.size zE)(i:Bw w u):
 bodyPost prog Tryz.f89 (λe w'=>Is4 l w' e/\Bw w w') .ret a (fill u w.heap.size 0 (x.c b d)):=by
 have m:=E5.fill (B:=w.heap.size) (x.c b d) [] zE [] 0 hA rfl rfl;exact o7 (v:=.tuple #[.agg (x.c b d).toArray,.bool ok]) (Y_ results89 _ _ w.heap.size _ _ _ k j m underlying168 rfl Y0) hd ⟨⟨x,ok,b,d,rfl,g,f,hx,h⟩,Ya Y8 _ 0 i⟩
theorem Xj{a:Act}(b:RES l Ji false)(f:a.tmps.getD 2 undef=.pointer (some ⟨w.heap.size,0,none⟩))(d:a.tmps.getD 3 undef=.bool false)(hd:a.defers=[])(hA:E5 u w.heap.size zE)(c:Bw w u):
 bodyPost prog Tryz.f89 (λe w'=>Is4 l w' e/\Bw w w') .ret a (fill u w.heap.size 0 zE):=
 yJ Ji none 0 false b (λ_=>⟨rfl,rfl,rfl⟩) VJ (.inl rfl) f d hd hA c
theorem Nk(vs:List Value){c:OA}{is:List L4}(h:X6 u c is)(e:∀g o,c=some ⟨g,o,none⟩->g≠B):X6 (fill u B 0 vs) c is:=by
 rcases h with h|⟨b,off,h1,h2,f⟩
 ·exact .inl h
 refine .inr ⟨b,off,h1,by rw[qh];exact h2,λi d=>?_⟩;have a:=e b off h1;rw[P_ _ _ _ a,P_ _ _ _ a,P_ _ _ _ a,P_ _ _ _ a];exact f i d
theorem Py{e size n:Nat}{v:Value}{xs:List Value}(h:w.ownsRow B e size v n xs)(p:Addr)(y:Value)(hp:p.block<B):(w.setCell p y).ownsRow B e size v n xs:=by
 refine⟨h.1,?_⟩;rcases h.2 with h0|⟨g,c,cur,hv,b,a,r⟩
 ·exact .inl h0
 refine .inr ⟨g,c,cur,hv,b,?_,r⟩;rw[Go.Deep.blk_setCell_other w p y g O0];exact a
theorem Fa{P:Program}{ops:Array Oper}{rest:List Oper}{o:Oper}{a:Act}{Q:Exit->Act->World->Prop}(hw:Region.wanted o (yielded ops a.tmps)=true)(ty:TypeId)(x:Operand)(ho:o.op=.load ty x)
 (B:Nat) (hx:a.eval x=.pointer (some ⟨B,0,none⟩)) (cs:List Value) (d:TypeDesc) (hc:E5 w B cs)
 (b:P.underlying ty=some d) (hd:(match d with | .struct _ | .array _ _=>true|_=>false)=true) (c:(P.info? ty).map (·.size)=some cs.length)
 (h:wpList P ops Q rest (a.put o.dst (.agg cs.toArray)) w):wpList P ops Q (o::rest) a w:=by
 refine wpList_step λK e=>?_;rw[D8 hw];unfold Oper.wp execOp;simp only[ho,hx,Instr.loadAt,Instr.sureAddr,zi,uo,Nl,Hf w B ty cs d hc b hd c];exact e _ _ h
theorem Yk{y:u_}(a:Z8 y)(e:I_ y=l):L8 10 l=h_ y++[[]]:=by
 rw[<- e];exact uH _ (LH a)
theorem Hl{y:u_}(a:Z8 y)(e:I_ y=l):O1 ((L8 10 l).getD 0 [])=aC y:=by
 rw[Yk a e];have d:h_ y≠[]:=by unfold h_;(repeat' split)<;>simp
 obtain⟨f,b,c⟩:=List.exists_cons_of_ne_nil d;rw[c];exact(He a c.symm).1
theorem aP(x:u_)(h1:O1 ((L8 10 l).getD 0 [])≠Dk)(h2:O1 ((L8 10 l).getD 0 [])≠Xd)(d:O1 ((L8 10 l).getD 0 [])≠Ph)(c:O1 ((L8 10 l).getD 0 [])≠dh)(b:O1 ((L8 10 l).getD 0 [])≠Fg):eX l x:=by
 intro y a e;exfalso;have hw:=Hl a e;unfold aC at hw;split at hw
 ·exact h2 hw
 split at hw
 ·exact d hw
 split at hw
 ·exact c hw
 split at hw
 ·exact h1 hw
 exact b hw
theorem a2F(hF:(L8 10 l).getD 0 []=F)(hw:O1 F=Xd):eX l (v_ (n29 (Y1 F))):=by
 intro y a e;have h1:=Hl a e;rw[hF]at h1;obtain⟨n,hn,rfl⟩:=Dt a (Ih a (.inl rfl) h1 (by rw[hw];rfl));rw[Yk a e]at hF;have b:Xd++32::dec n=F:=hF;have hr:Y1 F=dec n:=by rw[<- b];exact(N7 J6).2
 rw[hr,CG O0 O0]
theorem a1v{t:List UInt8}(hF:(L8 10 l).getD 0 []=F)(hw:O1 F=Ph)(ht:∀q,Y1 (Y1 F)=J5 q->t=q):eX l (Xb (Y2 (O1 (Y1 F))) (Y2 t)):=by
 intro y c e;have h1:=Hl c e;rw[hF]at h1;obtain⟨a,b,g,rfl⟩:=qy c (Ih c (.inr (.inl rfl)) h1 (by rw[hw];rfl));rw[Yk c e]at hF;have h:Ph++32::(a.data.toList++32::J5 b.data.toList)=F:=hF;have hr:Y1 F=a.data.toList++32::J5 b.data.toList:=by rw[<- h];exact(N7 J6).2
 obtain⟨f,d⟩:=N7 (r:=J5 b.data.toList) (N_ g.1).1;rw[<- hr]at f d;rw[f,ht _ d];rfl
theorem a1w(hF:(L8 10 l).getD 0 []=F)(hw:O1 F=dh):eX l (Vb (Y2 (Y1 F))):=by
 intro y b e;have h1:=Hl b e;rw[hF]at h1;obtain⟨a,hn,rfl⟩:=Kt b (Ih b (.inr (.inr (.inl rfl))) h1 (by rw[hw];rfl));rw[Yk b e]at hF;have c:dh++32::a.data.toList=F:=hF;have hr:Y1 F=a.data.toList:=by rw[<- c];exact(N7 J6).2
 rw[hr];rfl
theorem a1F(hF:(L8 10 l).getD 0 []=F)(hw:O1 F=Fg):eX l U_:=by
 intro y a e;have h1:=Hl a e;rw[hF]at h1;exact(Gz a (Ih a (.inr (.inr (.inr (.inr rfl)))) h1 (by rw[hw];rfl))).symm
def zx(Ls:List (List UInt8))(k:Nat)(xs:List L4)(c:Int)(t:BY):Prop:=∀(f:List UInt8)(ys:List L4)(c':Int)(t':BY),Ee ys->vr c' t'.data.toList=true->Ls=f::(ys.map Cc++[Gf++32::Ob c' t',[]])->xs=ys.take (k-1)/\(ys.length+1<k->c=c'/\t=t')
theorem yR(a:List (List UInt8))(c:Int)(t:BY):zx a 1 [] c t:=λ_ ys _ _ _ _ _=>⟨O4,λh=>O0⟩
theorem kW(r:List UInt8):MB (Gf++32::r)=false:=by
 have:=(N7 (a:=Gf) (r:=r) J6).1;unfold MB Cj;rw[this];decide
theorem UF{f:List UInt8}{ys:List L4}{g:List UInt8}(hk1:1<=k)(b:k<a.length)(e:a=f::(ys.map Cc++[g,[]])):
 (∃h:k-1<ys.length,a.getD k []=Cc (ys[k-1]))\/(k=ys.length+1/\a.getD k []=g)\/(k=ys.length+2/\a.getD k []=[]):=by
 subst e;obtain⟨j,rfl⟩:∃j,k=j+1:=⟨k-1,O0⟩;have c:(f::(ys.map Cc++[g,[]])).getD (j+1) []=(ys.map Cc++[g,[]]).getD j []:=rfl;rw[c];simp only[x_,L9,Je,ve]at b;rcases P7 j ys.length with hl|hl
 ·refine .inl ⟨O0,?_⟩;rw[Fj,R_ (by simpa using hl)];simp[hl]
 right;rw[Fj,rf (by simpa using hl)];simp only[Je];have:j-ys.length=0\/j-ys.length=1:=O0;rcases this with h|h
 ·exact .inl ⟨O0,by rw[h];rfl⟩
 exact .inr ⟨O0,by rw[h];rfl⟩
theorem kX(h:zx a k xs c t)(j:1<=k)(l:k<a.length)(hx:FN (a.getD k []) x true):zx a (k+1) (xs++[x]) c t:=by
 intro f ys n g b hv e;obtain⟨h1,h2⟩:=h f ys n g b hv e;rcases UF j l e with⟨hl,e1⟩|⟨rfl,e1⟩|⟨rfl,e1⟩
 ·have d:=b.2 _ hl;have m:ys.getD (k-1) l_=ys[k-1]:=by simp[hl]
  rw[m]at d;obtain⟨_,i⟩:=hx.1 _ d e1;refine⟨?_,λh=>O0⟩;rw[h1,i,show k+1-1=(k-1)+1 by omega,Bz hl]
 ·have:=hx.2 (by rw[e1];exact kW _);cases this
 have:=hx.2 (by rw[e1];decide);cases this
theorem PZ{c2:Int}{t2:BY}(h:zx a k xs c t)(j:1<=k)(l:k<a.length)(hx:FN (a.getD k []) x false)(g:5<(a.getD k []).length)(hr:DK ((a.getD k []).drop 5) c2 t2):zx a (k+1) xs c2 t2:=by
 intro f ys n i b hv e;obtain⟨h1,h2⟩:=h f ys n i b hv e;rcases UF j l e with⟨hl,e1⟩|⟨rfl,e1⟩|⟨rfl,e1⟩
 ·have d:=b.2 _ hl;have m:ys.getD (k-1) l_=ys[k-1]:=by simp[hl]
  rw[m]at d;have:=(hx.1 _ d e1).1;cases this
 ·refine⟨?_,λ_=>hr _ _ (Xg hv).1 (Xg hv).2 (by rw[e1];rfl)⟩;rw[h1,p_ O0,p_ O0]
 rw[e1]at g;simp at g
theorem yX(h:zx a k xs c t)(m:1<=k)(n:k<a.length)(hx:FN (a.getD k []) x false)(j:¬5<(a.getD k []).length):zx a (k+1) xs c t:=by
 intro f ys d b g hv e;obtain⟨h1,h2⟩:=h f ys d b g hv e;rcases UF m n e with⟨hl,e1⟩|⟨rfl,e1⟩|⟨rfl,e1⟩
 ·have i:=g.2 _ hl;have o:ys.getD (k-1) l_=ys[k-1]:=by simp[hl]
  rw[o]at i;have:=(hx.1 _ i e1).1;cases this
 ·exfalso;rw[e1]at j;have l:Ob d b≠[]:=pF _ _;have:0<(Ob d b).length:=Us.2 l;apply j;simp only[L9,x_,Gf,ve];omega
 exact⟨by rw[h1,p_ O0,p_ O0],λ_=>h2 O0⟩
theorem a2H{q:List UInt8}(hF:(L8 10 l).getD 0 []=F)(hw:O1 F=Dk)(z:∀p,d_ (Y1 F) 2=J5 p->q=p)(w:zx (L8 10 l) (L8 10 l).length xs c t):eX l (xg ⟨Y2 (O1 (Y1 F)),Y2 (O1 (d_ (Y1 F) 1)),Y2 q⟩ xs c t):=by
 intro y a e;have h1:=Hl a e;rw[hF]at h1;obtain⟨m,ls,h,d,⟨n1,n2,n3⟩,rfl⟩:=dB a (Ih a (.inr (.inr (.inr (.inl rfl)))) h1 (by rw[hw];rfl));have hl:=Yk a e;have b:L8 10 l=(Dk++32::Ad m)::(ls.map Cc++[Gf++32::Ob h d,[]]):=by rw[hl];simp[h_,xg]
 obtain⟨f,o⟩:=w _ ls h d n2 n3 b;have hlen:(L8 10 l).length=ls.length+3:=by rw[b];simp
 obtain⟨rfl,rfl⟩:=o O0;rw[p_ O0]at f;rw[b]at hF;have A:Dk++32::Ad m=F:=hF;have hr:Y1 F=Ad m:=by rw[<- A];exact(N7 J6).2
 obtain⟨v,u,_⟩:=Ah n1;rw[Nc]at hr;obtain⟨n,k⟩:=N7 (r:=m.tl.data.toList++32::J5 m.ar.data.toList) (N_ v).1;obtain⟨j,i⟩:=N7 (r:=J5 m.ar.data.toList) (N_ u).1;have g:d_ (Y1 F) 1=m.tl.data.toList++32::J5 m.ar.data.toList:=by rw[hr];exact k
 have s:d_ (Y1 F) 2=J5 m.ar.data.toList:=by
  show Y1 (d_ (Y1 F) 1)=_;rw[g];exact i
 have x:=z _ s;rw[g,hr,n,j,x,f];rfl

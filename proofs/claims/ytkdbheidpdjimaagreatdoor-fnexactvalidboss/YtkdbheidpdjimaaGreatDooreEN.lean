import Derived.Test.YtkdbheidpdjimaaGreatDoortX1
set_option linter.unusedVariables false
set_option maxHeartbeats 8000000
set_option maxRecDepth 100000
namespace Go.Proofs.YtkdbheidpdjimaaGreatDoor
open Proofs.Tryz Go.RowKit
theorem a1h {x:p_} (c:x.kd=1):Dk x.ep x.fn x.ft x.km.nm x.km.tl x.km.ar x.cd x.tx x.ep ⟨#[]⟩ ⟨#[]⟩ ⟨#[]⟩ ⟨#[]⟩ ⟨#[]⟩ 0 ⟨#[]⟩ x.ls.length 0↔x=r_ x.ep:=by
 obtain ⟨kd,ep,fn,ft,⟨kn,kt,ka⟩,ls,cd,tx⟩:=x;dsimp only at c;subst c;unfold Dk;constructor
 · rintro ⟨h1,h2,i,a,g,f,b,e,d⟩;dsimp only at*
   (try (have j:ls=[]:=Ya.1 b;subst j))
   subst_vars
   rfl
 · intro h;obtain ⟨-,h1,h2,i,a,b,e,d⟩:=p_.mk.inj h;obtain ⟨a,g,f⟩:=M3.mk.inj a;exact ⟨h1,h2,i,a,g,f,by first | rfl | (rw [b];rfl),e,d⟩
theorem a0K {x:p_} (c:x.kd=2):Dk x.ep x.fn x.ft x.km.nm x.km.tl x.km.ar x.cd x.tx 0 x.fn x.ft ⟨#[]⟩ ⟨#[]⟩ ⟨#[]⟩ 0 ⟨#[]⟩ x.ls.length 0↔x=Vb x.fn x.ft:=by
 obtain ⟨kd,ep,fn,ft,⟨kn,kt,ka⟩,ls,cd,tx⟩:=x;dsimp only at c;subst c;unfold Dk;constructor
 · rintro ⟨h1,h2,i,a,g,f,b,e,d⟩;dsimp only at*
   (try (have j:ls=[]:=Ya.1 b;subst j))
   subst_vars
   rfl
 · intro h;obtain ⟨-,h1,h2,i,a,b,e,d⟩:=p_.mk.inj h;obtain ⟨a,g,f⟩:=M3.mk.inj a;exact ⟨h1,h2,i,a,g,f,by first | rfl | (rw [b];rfl),e,d⟩
theorem a2l {x:p_} (c:x.kd=3):Dk x.ep x.fn x.ft x.km.nm x.km.tl x.km.ar x.cd x.tx 0 x.fn ⟨#[]⟩ ⟨#[]⟩ ⟨#[]⟩ ⟨#[]⟩ 0 ⟨#[]⟩ x.ls.length 0↔x=Xb x.fn:=by
 obtain ⟨kd,ep,fn,ft,⟨kn,kt,ka⟩,ls,cd,tx⟩:=x;dsimp only at c;subst c;unfold Dk;constructor
 · rintro ⟨h1,h2,i,a,g,f,b,e,d⟩;dsimp only at*
   (try (have j:ls=[]:=Ya.1 b;subst j))
   subst_vars
   rfl
 · intro h;obtain ⟨-,h1,h2,i,a,b,e,d⟩:=p_.mk.inj h;obtain ⟨a,g,f⟩:=M3.mk.inj a;exact ⟨h1,h2,i,a,g,f,by first | rfl | (rw [b];rfl),e,d⟩
theorem a1A {x:p_} (c:x.kd=4):Dk x.ep x.fn x.ft x.km.nm x.km.tl x.km.ar x.cd x.tx 0 ⟨#[]⟩ ⟨#[]⟩ x.km.nm x.km.tl x.km.ar x.cd x.tx x.ls.length x.ls.length↔x=Ag x.km x.ls x.cd x.tx:=by
 obtain ⟨kd,ep,fn,ft,⟨kn,kt,ka⟩,ls,cd,tx⟩:=x;dsimp only at c;subst c;unfold Dk;constructor
 · rintro ⟨h1,h2,i,a,g,f,b,e,d⟩;dsimp only at*
   (try (have j:ls=[]:=Ya.1 b;subst j))
   subst_vars
   rfl
 · intro h;obtain ⟨-,h1,h2,i,a,b,e,d⟩:=p_.mk.inj h;obtain ⟨a,g,f⟩:=M3.mk.inj a;exact ⟨h1,h2,i,a,g,f,by first | rfl | (rw [b];rfl),e,d⟩
theorem a1X {x:p_} (c:x.kd=5):Dk x.ep x.fn x.ft x.km.nm x.km.tl x.km.ar x.cd x.tx 0 ⟨#[]⟩ ⟨#[]⟩ ⟨#[]⟩ ⟨#[]⟩ ⟨#[]⟩ 0 ⟨#[]⟩ x.ls.length 0↔x=U_:=by
 obtain ⟨kd,ep,fn,ft,⟨kn,kt,ka⟩,ls,cd,tx⟩:=x;dsimp only at c;subst c;unfold Dk;constructor
 · rintro ⟨h1,h2,i,a,g,f,b,e,d⟩;dsimp only at*
   (try (have j:ls=[]:=Ya.1 b;subst j))
   subst_vars
   rfl
 · intro h;obtain ⟨-,h1,h2,i,a,b,e,d⟩:=p_.mk.inj h;obtain ⟨a,g,f⟩:=M3.mk.inj a;exact ⟨h1,h2,i,a,g,f,by first | rfl | (rw [b];rfl),e,d⟩
theorem mY {x:p_} (a:x.kd=1):U8 x↔(x=r_ x.ep/\(1<=x.ep/\x.ep<=200)):=by
 constructor
 · intro h;obtain ⟨n,h1,rfl⟩:=Js h a;exact ⟨rfl,h1⟩
 · rintro ⟨h1,h2⟩;exact .inl ⟨_,h2,h1⟩
theorem JY {x:p_} (c:x.kd=2):U8 x↔(x=Vb x.fn x.ft/\(o6 x.fn.data.toList=true/\x.ft.size<=300)):=by
 constructor
 · intro h;obtain ⟨a,b,h1,rfl⟩:=Yw h c;exact ⟨rfl,h1⟩
 · rintro ⟨h1,h2⟩;exact .inr (.inl ⟨_,_,h2,h1⟩)
theorem nY {x:p_} (b:x.kd=3):U8 x↔(x=Xb x.fn/\o6 x.fn.data.toList=true):=by
 constructor
 · intro h;obtain ⟨a,h1,rfl⟩:=jr h b;exact ⟨rfl,h1⟩
 · rintro ⟨h1,h2⟩;exact .inr (.inr (.inl ⟨_,h2,h1⟩))
theorem VX {x:p_} (a:x.kd=4):U8 x↔(x=Ag x.km x.ls x.cd x.tx/\lg x.km x.ls x.cd x.tx):=by
 constructor
 · intro h;obtain ⟨m,ls,c,t,h1,rfl⟩:=zA h a;exact ⟨rfl,h1⟩
 · rintro ⟨h1,h2⟩;exact .inr (.inr (.inr (.inl ⟨_,_,_,_,h2,h1⟩)))
theorem MZ {x:p_} (a:x.kd=5):U8 x↔x=U_:=by
 constructor
 · intro h;exact ay h a
 · intro h;exact .inr (.inr (.inr (.inr h)))
theorem a0d (n:Int):(⟨#[101,112,111,99,104,32]⟩:BY)++Y2 (dec n)++⟨#[10]⟩=Y2 (F_ (r_ n)):=by
 show Y2 [101,112,111,99,104,32]++Y2 (dec n)++Y2 [10]=_;rw [Zc,Zc];simp [F_,f_,r_,Ld,Le]
theorem nZ (a b:BY):(⟨#[102,105,108,101,32]⟩:BY)++a++⟨#[32]⟩++Y2 (X5 b.data.toList)++⟨#[10]⟩=Y2 (F_ (Vb a b)):=by
 show Y2 [102,105,108,101,32]++Y2 a.data.toList++Y2 [32]++Y2 (X5 b.data.toList)++Y2 [10]=_;rw [Zc,Zc,Zc,Zc];simp [F_,f_,Vb,Ld,Jh]
theorem a0g (a:BY):(⟨#[100,114,111,112,32]⟩:BY)++a++⟨#[10]⟩=Y2 (F_ (Xb a)):=by
 show Y2 [100,114,111,112,32]++Y2 a.data.toList++Y2 [10]=_;rw [Zc,Zc];simp [F_,f_,Xb,Ld,Lh]
theorem a0t (m:M3) (ls:List L4) (c:Int) (t:BY):(⟨#[114,97,110,32]⟩:BY)++m.nm++⟨#[32]⟩++m.tl++⟨#[32]⟩++Y2 (X5 m.ar.data.toList)++⟨#[10]⟩++Y2 (G_ ls)++⟨#[103,97,118,101,32]⟩++Y2 (Ib c t)++⟨#[10]⟩=Y2 (F_ (Ag m ls c t)):=by
 show Y2 [114,97,110,32]++Y2 m.nm.data.toList++Y2 [32]++Y2 m.tl.data.toList++Y2 [32]++Y2 (X5 m.ar.data.toList)++Y2 [10]++Y2 (G_ ls)++Y2 [103,97,118,101,32]++Y2 (Ib c t)++Y2 [10]=_;simp only [Zc];rw [Sv];simp [F_,f_,Ag,Ld,jk,Hf,Ic]
theorem cZ:(⟨#[99,108,101,97,114,10]⟩:BY)=Y2 (F_ U_):=by
 simp [F_,f_,U_,Ld,Ug,Y2]
theorem PW (x:p_) (c:x.kd=1) (a:OA) (d:Nat) (w:World) (q:x.le 1048576) (hat:I9 w a x.ls):
 Calls prog 101 #[.agg #[.int .i64 1,.int .i64 x.ep,.string x.fn,.string x.ft,.string x.km.nm,.string x.km.tl,.string x.km.ar,.slice a x.ls.length d,.int .i64 x.cd,.string x.tx]] w fun e w'=>aB (U8 x) (F_ x) e/\Bw w w':=by
 obtain ⟨f1,f2,⟨m1,m2,m3⟩,⟨hl,hs⟩,f3⟩:=q;have s:∀ o,Bw w (w.alloc o):=fun o=>o7;go_enter func101,ntmps101
 go_wp2_with fail
 refine (BO 1 x.ep x.cd 0 x.ep 0 x.fn x.ft x.km.nm x.km.tl x.km.ar x.tx ⟨#[]⟩ ⟨#[]⟩ ⟨#[]⟩ ⟨#[]⟩ ⟨#[]⟩ ⟨#[]⟩ a none x.ls.length 0 d 0 _ hl O0).mono ?_;rintro e i ⟨⟨r,rfl,hr⟩,k⟩;have l:=U0 (hr.trans (a1h c));have b:Below (w.heap.size+1) (w.alloc (.cells #[vI 1,vI x.ep,vS x.fn,vS x.ft,vS x.km.nm,vS x.km.tl,vS x.km.ar,vL a x.ls.length d,vI x.cd,vS x.tx] 105)) i:=lF k;have f:=(s _).trans (b.mono O0);have t:=(I5 w [vI 1,vI x.ep,vS x.fn,vS x.ft,vS x.km.nm,vS x.km.tl,vS x.km.ar,vL a x.ls.length d,vI x.cd,vS x.tx] 105).below b O0;have hz1:w.heap.size<i.heap.size:=by have h:=b.size;simp at h;omega
 clear hr k b;have k1:=t 1 _ rfl;cases r
 · have g:Hid (aB (U8 x) (F_ x) (.returned vE)):=Jk (fun h=>absurd (l.out.2 ((mY c).1 h).1) Ql);go_wp2;go_ret;exact ⟨g.out,f⟩
 · have m:=U0 (l.out.1 rfl)
   go_wp2_with fail
   refine (c17 x.ep 1 200 _).mono ?_;rintro e w0 ⟨rfl,hw⟩;obtain rfl:=hw.symm;cases h3:decide (1<=x.ep/\x.ep<=200)
   · have g:Hid (aB (U8 x) (F_ x) (.returned vE)):=Jk (fun h=>of_decide_eq_false h3 ((mY c).1 h).2);go_wp2;go_ret;exact ⟨g.out,f⟩
   · have p:=lI h3;have u:=U0 ((mY c).2 ⟨m.out,p⟩);have n:=Xu x.ep O0 O0;have z1:(Y2 (dec x.ep)).size<=4:=by rw [J5];exact n
     have k0:¬ 9223372036854775807<6+(Y2 (dec x.ep)).size:=O0;have k2:¬ 9223372036854775807<6+(Y2 (dec x.ep)).size+1:=O0;have k2':¬ 9223372036854775807<=6+(Y2 (dec x.ep)).size:=O0;have k3:¬ (16000:Int)<6+((Y2 (dec x.ep)).size:Int)+1:=O0;have v:Hid ((⟨#[101,112,111,99,104,32]⟩:BY)++Y2 (dec x.ep)++⟨#[10]⟩=Y2 (F_ x)):=by show _=_;rw [a0d,<- m.out]
     clear h3
     go_wp2_with fail
     refine (c148 (x.ep.toNat+1) x.ep _ O0 O0 (Bv _)).mono ?_;rintro e w4 ⟨rfl,j⟩;have y:=U0 (G7 f j);clear j;go_wp2;go_ret;exact ⟨⟨_,rfl,.inl ⟨u.out,v.out⟩⟩,y.out⟩
theorem lY (x:p_) (c:x.kd=3) (a:OA) (d:Nat) (w:World) (n:x.le 1048576) (hat:I9 w a x.ls):
 Calls prog 101 #[.agg #[.int .i64 3,.int .i64 x.ep,.string x.fn,.string x.ft,.string x.km.nm,.string x.km.tl,.string x.km.ar,.slice a x.ls.length d,.int .i64 x.cd,.string x.tx]] w fun e w'=>aB (U8 x) (F_ x) e/\Bw w w':=by
 obtain ⟨f1,f2,⟨m1,m2,m3⟩,⟨hl,hs⟩,f3⟩:=n;have p:∀ o,Bw w (w.alloc o):=fun o=>o7;go_enter func101,ntmps101
 go_wp2_with fail
 refine (BO 3 x.ep x.cd 0 0 0 x.fn x.ft x.km.nm x.km.tl x.km.ar x.tx x.fn ⟨#[]⟩ ⟨#[]⟩ ⟨#[]⟩ ⟨#[]⟩ ⟨#[]⟩ a none x.ls.length 0 d 0 _ hl O0).mono ?_;rintro e i ⟨⟨r,rfl,hr⟩,j⟩;have k:=U0 (hr.trans (a2l c));have b:Below (w.heap.size+1) (w.alloc (.cells #[vI 3,vI x.ep,vS x.fn,vS x.ft,vS x.km.nm,vS x.km.tl,vS x.km.ar,vL a x.ls.length d,vI x.cd,vS x.tx] 105)) i:=lF j;have f:=(p _).trans (b.mono O0);have q:=(I5 w [vI 3,vI x.ep,vS x.fn,vS x.ft,vS x.km.nm,vS x.km.tl,vS x.km.ar,vL a x.ls.length d,vI x.cd,vS x.tx] 105).below b O0;have hz1:w.heap.size<i.heap.size:=by have h:=b.size;simp at h;omega
 clear hr j b;have k1:=q 2 _ rfl;cases r
 · have g:Hid (aB (U8 x) (F_ x) (.returned vE)):=Jk (fun h=>absurd (k.out.2 ((nY c).1 h).1) Ql);go_wp2;go_ret;exact ⟨g.out,f⟩
 · have l:=U0 (k.out.1 rfl)
   go_wp2_with fail
   refine (c23 x.fn _ O0).mono ?_;rintro e w0 ⟨rfl,hw⟩;obtain rfl:=hw.symm;cases h3:o6 x.fn.data.toList
   · have g:Hid (aB (U8 x) (F_ x) (.returned vE)):=Jk (fun h=>by have h1:=((nY c).1 h).2;rw [h3] at h1;cases h1);go_wp2;go_ret;exact ⟨g.out,f⟩
   · have s:=U0 ((nY c).2 ⟨l.out,h3⟩);have m:=(Ij h3).2;have z1:x.fn.size<=20:=by simpa using m
     have k0:¬ 9223372036854775807<5+x.fn.size:=O0;have k2:¬ 9223372036854775807<5+x.fn.size+1:=O0;have k2':¬ 9223372036854775807<=5+x.fn.size:=O0;have k3:¬ (16000:Int)<5+(x.fn.size:Int)+1:=O0;have t:Hid ((⟨#[100,114,111,112,32]⟩:BY)++x.fn++⟨#[10]⟩=Y2 (F_ x)):=by show _=_;rw [a0g,<- l.out]
     clear h3;go_wp2;go_ret;exact ⟨⟨_,rfl,.inl ⟨s.out,t.out⟩⟩,f⟩
theorem xY (x:p_) (d:x.kd=5) (a:OA) (c:Nat) (w:World) (l:x.le 1048576) (hat:I9 w a x.ls):
 Calls prog 101 #[.agg #[.int .i64 5,.int .i64 x.ep,.string x.fn,.string x.ft,.string x.km.nm,.string x.km.tl,.string x.km.ar,.slice a x.ls.length c,.int .i64 x.cd,.string x.tx]] w fun e w'=>aB (U8 x) (F_ x) e/\Bw w w':=by
 obtain ⟨f1,f2,⟨m1,m2,m3⟩,⟨hl,hs⟩,f3⟩:=l;have m:∀ o,Bw w (w.alloc o):=fun o=>o7;go_enter func101,ntmps101
 go_wp2_with fail
 refine (BO 5 x.ep x.cd 0 0 0 x.fn x.ft x.km.nm x.km.tl x.km.ar x.tx ⟨#[]⟩ ⟨#[]⟩ ⟨#[]⟩ ⟨#[]⟩ ⟨#[]⟩ ⟨#[]⟩ a none x.ls.length 0 c 0 _ hl O0).mono ?_;rintro e f ⟨⟨r,rfl,hr⟩,g⟩;have j:=U0 (hr.trans (a1X d));have b:Below (w.heap.size+1) (w.alloc (.cells #[vI 5,vI x.ep,vS x.fn,vS x.ft,vS x.km.nm,vS x.km.tl,vS x.km.ar,vL a x.ls.length c,vI x.cd,vS x.tx] 105)) f:=lF g;have i:=(m _).trans (b.mono O0);have bA:=(I5 w [vI 5,vI x.ep,vS x.fn,vS x.ft,vS x.km.nm,vS x.km.tl,vS x.km.ar,vL a x.ls.length c,vI x.cd,vS x.tx] 105).below b O0;have hz1:w.heap.size<f.heap.size:=by have h:=b.size;simp at h;omega
 clear hr g b;cases r
 · have p:Hid (aB (U8 x) (F_ x) (.returned vE)):=Jk (fun h=>absurd (j.out.2 ((MZ d).1 h)) Ql);go_wp2;go_ret;exact ⟨p.out,i⟩
 · have k:=U0 (j.out.1 rfl);have n:=U0 ((MZ d).2 k.out);have q:Hid ((⟨#[99,108,101,97,114,10]⟩:BY)=Y2 (F_ x)):=by show _=_;rw [cZ,<- k.out]
   go_wp2;go_ret;exact ⟨⟨_,rfl,.inl ⟨n.out,q.out⟩⟩,i⟩
theorem yS (x:p_) (c:OA) (b:Nat) (w:World) (h1:¬ x.kd=1) (h2:¬ x.kd=2) (h3:¬ x.kd=3) (h4:¬ x.kd=4) (h5:¬ x.kd=5):
 Calls prog 101 #[.agg #[.int .i64 x.kd,.int .i64 x.ep,.string x.fn,.string x.ft,.string x.km.nm,.string x.km.tl,.string x.km.ar,.slice c x.ls.length b,.int .i64 x.cd,.string x.tx]] w fun e w'=>aB (U8 x) (F_ x) e/\Bw w w':=by
 have a:∀ o,Bw w (w.alloc o):=fun o=>o7;have d:Hid (aB (U8 x) (F_ x) (.returned vE)):=Jk (fun h=>by rcases VG h with h | h | h | h | h <;> contradiction);go_enter func101,ntmps101;go_wp2;go_ret;exact ⟨d.out,a _⟩
theorem vY (x:p_) (t:x.kd=4) (b:OA) (i:Nat) (w:World) (hle:x.le 1048576) (A:I9 w b x.ls):
 Calls prog 101 #[.agg #[.int .i64 4,.int .i64 x.ep,.string x.fn,.string x.ft,.string x.km.nm,.string x.km.tl,.string x.km.ar,.slice b x.ls.length i,.int .i64 x.cd,.string x.tx]] w fun e w'=>aB (U8 x) (F_ x) e/\Bw w w':=by
 obtain ⟨f1,f2,⟨m1,m2,m3⟩,⟨hl,z⟩,f3⟩:=hle;have hB0:∀ o,Bw w (w.alloc o):=fun o=>o7;go_enter func101,ntmps101
 go_wp2_with fail
 refine (BO 4 x.ep x.cd 0 0 x.cd x.fn x.ft x.km.nm x.km.tl x.km.ar x.tx ⟨#[]⟩ ⟨#[]⟩ x.km.nm x.km.tl x.km.ar x.tx b b x.ls.length x.ls.length i i _ hl hl).mono ?_;rintro e H ⟨⟨r,rfl,hr⟩,R⟩;have V:=U0 (hr.trans (a1A t));have s:Below (w.heap.size+1) (w.alloc (.cells #[vI 4,vI x.ep,vS x.fn,vS x.ft,vS x.km.nm,vS x.km.tl,vS x.km.ar,vL b x.ls.length i,vI x.cd,vS x.tx] 105)) H:=lF R;have v:=(hB0 _).trans (s.mono O0);have m:=(I5 w [vI 4,vI x.ep,vS x.fn,vS x.ft,vS x.km.nm,vS x.km.tl,vS x.km.ar,vL b x.ls.length i,vI x.cd,vS x.tx] 105).below s O0;have d:w.heap.size<H.heap.size:=by have h:=s.size;simp at h;omega
 clear hr R s;have L:=m 4 _ rfl;have n5:=m 5 _ rfl;have n6:=m 6 _ rfl;have n7:=m 7 _ rfl;have J:=m 8 _ rfl;have I:=m 9 _ rfl;cases r
 · have C:Hid (aB (U8 x) (F_ x) (.returned vE)):=Jk (fun h=>absurd (V.out.2 ((VX t).1 h).1) Ql);go_wp2;go_ret;exact ⟨C.out,v⟩
 · have W:=U0 (V.out.1 rfl)
   go_wp2_with fail
   refine (uZ x.km x.ls x.cd x.tx b i _ ⟨m1,m2,m3⟩ hl z f3 (N7 A v)).mono ?_;rintro e Y ⟨⟨Z,rfl,N⟩,a⟩;have U:=U0 N;have B:=G7 v a;have k4:=(a.cell (p:=(aW w 4)) (by exact d)).trans L;have k5:=(a.cell (p:=(aW w 5)) (by exact d)).trans n5;have k6:=(a.cell (p:=(aW w 6)) (by exact d)).trans n6;have k7:=(a.cell (p:=(aW w 7)) (by exact d)).trans n7;have k8:=(a.cell (p:=(aW w 8)) (by exact d)).trans J;have k9:=(a.cell (p:=(aW w 9)) (by exact d)).trans I;have l:=m_ d a.size;have HAT:=U0 A;have HS:=U0 z;clear N a L n5 n6 n7 J I d m v A z;cases Z
   · have C:Hid (aB (U8 x) (F_ x) (.returned vE)):=Jk (fun h=>absurd (U.out.2 ((VX t).1 h).2) Ql);go_wp2;go_ret;exact ⟨C.out,B⟩
   · have q:=U0 (U.out.1 rfl);have HOK:=U0 ((VX t).2 ⟨W.out,q.out⟩);obtain ⟨F,E,D⟩:=ND q.out.1;have y0:x.km.nm.size<=20:=by simpa using F
     have y1:x.km.tl.size<=20:=by simpa using E
     have y2:x.km.ar.size<=300:=by simpa using D
     have y3:=Ue x.km.ar;have y4:(Y2 (G_ x.ls)).size<=13950:=by rw [J5];exact Wv q.out.2.1
     have y:=U0 (Qg q.out.2.2);have y5:(Y2 (Ib x.cd x.tx)).size<=904:=by rw [J5];exact rF y.out.1 y.out.2 (PD q.out.2.2)
     have HE:Hid ((⟨#[114,97,110,32]⟩:BY)++x.km.nm++⟨#[32]⟩++x.km.tl++⟨#[32]⟩++Y2 (X5 x.km.ar.data.toList)++⟨#[10]⟩++Y2 (G_ x.ls)++⟨#[103,97,118,101,32]⟩++Y2 (Ib x.cd x.tx)++⟨#[10]⟩=Y2 (F_ x)):=by show _=_;rw [a0t,<- W.out]
     have g0:¬ 9223372036854775807<4+x.km.nm.size:=O0;have g1':¬ 9223372036854775807<=4+x.km.nm.size:=O0;have g1:¬ 9223372036854775807<4+x.km.nm.size+1:=O0;have g2:¬ 9223372036854775807<4+x.km.nm.size+1+x.km.tl.size:=O0;have g3':¬ 9223372036854775807<=4+x.km.nm.size+1+x.km.tl.size:=O0;have g3:¬ 9223372036854775807<4+x.km.nm.size+1+x.km.tl.size+1:=O0;have g4:¬ 9223372036854775807<4+x.km.nm.size+1+x.km.tl.size+1+(Y2 (X5 x.km.ar.data.toList)).size:=O0;have g5':¬ 9223372036854775807<=4+x.km.nm.size+1+x.km.tl.size+1+(Y2 (X5 x.km.ar.data.toList)).size:=O0;have g5:¬ 9223372036854775807<4+x.km.nm.size+1+x.km.tl.size+1+(Y2 (X5 x.km.ar.data.toList)).size+1:=O0;have g6:¬ 9223372036854775807<4+x.km.nm.size+1+x.km.tl.size+1+(Y2 (X5 x.km.ar.data.toList)).size+1+(Y2 (G_ x.ls)).size:=O0;have g7:¬ 9223372036854775807<4+x.km.nm.size+1+x.km.tl.size+1+(Y2 (X5 x.km.ar.data.toList)).size+1+(Y2 (G_ x.ls)).size+5:=O0;have g8:¬ 9223372036854775807<4+x.km.nm.size+1+x.km.tl.size+1+(Y2 (X5 x.km.ar.data.toList)).size+1+(Y2 (G_ x.ls)).size+5+(Y2 (Ib x.cd x.tx)).size:=O0;have g9':¬ 9223372036854775807<=4+x.km.nm.size+1+x.km.tl.size+1+(Y2 (X5 x.km.ar.data.toList)).size+1+(Y2 (G_ x.ls)).size+5+(Y2 (Ib x.cd x.tx)).size:=O0;have g9:¬ 9223372036854775807<4+x.km.nm.size+1+x.km.tl.size+1+(Y2 (X5 x.km.ar.data.toList)).size+1+(Y2 (G_ x.ls)).size+5+(Y2 (Ib x.cd x.tx)).size+1:=O0;have h9:¬ (16000:Int)<4+(x.km.nm.size:Int)+1+(x.km.tl.size:Int)+1+((Y2 (X5 x.km.ar.data.toList)).size:Int)+1+((Y2 (G_ x.ls)).size:Int)+5+((Y2 (Ib x.cd x.tx)).size:Int)+1:=O0;clear F E D
     go_wp2_with fail
     refine wp_region_held_drew (S:=(fun u=>u.cell? (aW w 4)=some (vS x.km.nm)/\u.cell? (aW w 5)=some (vS x.km.tl)/\u.cell? (aW w 6)=some (vS x.km.ar)/\u.cell? (aW w 7)=some (vL b x.ls.length i)/\u.cell? (aW w 8)=some (vI x.cd)/\u.cell? (aW w 9)=some (vS x.tx))) J3 ?_ fun hHeld=>?_
     · ((try dsimp only);go_keep)
     refine Y0 0 ?_;refine Y0 1 ?_;refine Y0 2 ?_;refine Y0 3 ?_;refine Y0 4 ?_;refine Y0 5 ?_;refine Y0 6 ?_;refine Y0 7 ?_;refine Y0 8 ?_;refine Y0 9 ?_;refine Y0 10 ?_;refine Y0 11 ?_;refine Y0 12 ?_;refine Y0 16 ?_;refine Y0 17 ?_;refine Y0 21 ?_;refine Y0 22 ?_;refine rq 13 fun K g=>?_;go_simp;refine (XG x.km.ar _ O0).mono ?_;rintro e X ⟨rfl,Q⟩;have c:Hid (Bw Y X):=((Z4 _ _).drew).trans Q;have p4:=(c.out.cell (p:=(aW w 4)) (by exact l)).trans k4;have p5:=(c.out.cell (p:=(aW w 5)) (by exact l)).trans k5;have p6:=(c.out.cell (p:=(aW w 6)) (by exact l)).trans k6;have p7:=(c.out.cell (p:=(aW w 7)) (by exact l)).trans k7;have p8:=(c.out.cell (p:=(aW w 8)) (by exact l)).trans k8;have p9:=(c.out.cell (p:=(aW w 9)) (by exact l)).trans k9;have f:=m_ l c.out.size;clear Q
     go_wp2_with fail
     clear hHeld;refine wF g fun hHeld=>?_;clear g K;refine Y0 14 ?_;refine Y0 15 ?_;refine rq 18 fun K g=>?_;go_simp;refine (c154 b i x.ls _ q.out.2.1 HS.out (N7 HAT.out (G7 B c.out))).mono ?_;rintro e w3 ⟨rfl,P⟩;have j:=U0 P;have q4:=(j.out.cell (p:=(aW w 4)) (by exact f)).trans p4;have q5:=(j.out.cell (p:=(aW w 5)) (by exact f)).trans p5;have q6:=(j.out.cell (p:=(aW w 6)) (by exact f)).trans p6;have q7:=(j.out.cell (p:=(aW w 7)) (by exact f)).trans p7;have q8:=(j.out.cell (p:=(aW w 8)) (by exact f)).trans p8;have q9:=(j.out.cell (p:=(aW w 9)) (by exact f)).trans p9;have k:=m_ f j.out.size;clear P
     go_wp2_with fail
     clear hHeld;refine wF g fun hHeld=>?_;clear g K;refine Y0 19 ?_;refine Y0 20 ?_;refine rq 23 fun K g=>?_;go_simp;refine (NW x.cd x.tx _ y.out.1 (by have:=y.out.2;omega) O0).mono ?_;rintro e w4 ⟨rfl,O⟩;have n:=U0 O;have r4:=(n.out.cell (p:=(aW w 4)) (by exact k)).trans q4;have r5:=(n.out.cell (p:=(aW w 5)) (by exact k)).trans q5;have r6:=(n.out.cell (p:=(aW w 6)) (by exact k)).trans q6;have r7:=(n.out.cell (p:=(aW w 7)) (by exact k)).trans q7;have r8:=(n.out.cell (p:=(aW w 8)) (by exact k)).trans q8;have r9:=(n.out.cell (p:=(aW w 9)) (by exact k)).trans q9;clear O
     go_wp2_with fail
     clear hHeld;refine wF g fun hHeld=>?_;clear g K;refine Y0 24 ?_;refine Y0 25 ?_;refine Y0 26 ?_;refine wdn ?_;have hB2:=((G7 B c.out).trans (j.out.mono (kF f))).trans (n.out.mono (kF k));clear hHeld;go_wp2;go_ret;exact ⟨⟨_,rfl,.inl ⟨HOK.out,HE.out⟩⟩,hB2⟩

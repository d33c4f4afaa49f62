import Derived.Test.YtchjpjmcnhjbcaaGreatDooreR9
set_option linter.unusedVariables false
set_option maxHeartbeats 8000000
set_option maxRecDepth 100000
namespace Go.Proofs.YtchjpjmcnhjbcaaGreatDoor
open Proofs.Tryz Go.RowKit
def Uj (ep:Int) (fn ft kn kt ka:BY) (cd:Int) (tx:BY) (ep2:Int) (fn2 ft2 kn2 kt2 ka2:BY) (cd2:Int) (tx2:BY) (la lb:Nat):Prop:=ep=ep2/\fn=fn2/\ft=ft2/\kn=kn2/\kt=kt2/\ka=ka2/\la=lb/\cd=cd2/\tx=tx2
theorem MO (kd ep cd y n f:Int) (fn ft kn b c tx m l k j i d:BY) (C B:OA) (la lb A z:Nat) (w:World) (hla:la<=1048576) (hlb:lb<=1048576):
 Calls prog 185 #[.agg #[.int .i64 kd,.int .i64 ep,.string fn,.string ft,.string kn,.string b,.string c,.slice C la A,.int .i64 cd,.string tx],.agg #[.int .i64 y,.int .i64 n,.string m,.string l,.string k,.string j,.string i,.slice B lb z,.int .i64 f,.string d]] w fun e w'=>Nl (Uj ep fn ft kn b c cd tx n m l k j i f d la lb) e/\Bw w w':=by
 have g:∀ o p,Bw w ((w.alloc o).alloc p):=fun o p=>P6.alloc X4 _;rcases (Am (ep=n)).symm with e0 | e0
 · have a:Hid (Nl (Uj ep fn ft kn b c cd tx n m l k j i f d la lb) (.returned (.bool false))):=J_ (fun h=>e0 h.1);go_enter func185,ntmps185;go_wp2
   all_goals go_ret
   all_goals exact ⟨a.out,g _ _⟩
 obtain rfl:=e0;rcases (Am (fn.toList=m.toList)).symm with e1 | e1
 · have a:Hid (Nl (Uj ep fn ft kn b c cd tx ep m l k j i f d la lb) (.returned (.bool false))):=J_ (fun h=>e1 (by rw [h.2.1]));go_enter func185,ntmps185;go_wp2
   all_goals go_ret
   all_goals exact ⟨a.out,g _ _⟩
 obtain rfl:=(Un _ _).1 e1;clear e1;rcases (Am (ft.toList=l.toList)).symm with u | u
 · have a:Hid (Nl (Uj ep fn ft kn b c cd tx ep fn l k j i f d la lb) (.returned (.bool false))):=J_ (fun h=>u (by rw [h.2.2.1]));go_enter func185,ntmps185;go_wp2
   all_goals go_ret
   all_goals exact ⟨a.out,g _ _⟩
 obtain rfl:=(Un _ _).1 u;clear u;rcases (Am (kn.toList=k.toList)).symm with t | t
 · have a:Hid (Nl (Uj ep fn ft kn b c cd tx ep fn ft k j i f d la lb) (.returned (.bool false))):=J_ (fun h=>t (by rw [h.2.2.2.1]));go_enter func185,ntmps185;go_wp2
   all_goals go_ret
   all_goals exact ⟨a.out,g _ _⟩
 obtain rfl:=(Un _ _).1 t;clear t;rcases (Am (b.toList=j.toList)).symm with s | s
 · have a:Hid (Nl (Uj ep fn ft kn b c cd tx ep fn ft kn j i f d la lb) (.returned (.bool false))):=J_ (fun h=>s (by rw [h.2.2.2.2.1]));go_enter func185,ntmps185;go_wp2
   all_goals go_ret
   all_goals exact ⟨a.out,g _ _⟩
 obtain rfl:=(Un _ _).1 s;clear s;rcases (Am (c.toList=i.toList)).symm with r | r
 · have a:Hid (Nl (Uj ep fn ft kn b c cd tx ep fn ft kn b i f d la lb) (.returned (.bool false))):=J_ (fun h=>r (by rw [h.2.2.2.2.2.1]));go_enter func185,ntmps185;go_wp2
   all_goals go_ret
   all_goals exact ⟨a.out,g _ _⟩
 obtain rfl:=(Un _ _).1 r;clear r;rcases (Am (la=lb)).symm with v | v
 · have a:Hid (Nl (Uj ep fn ft kn b c cd tx ep fn ft kn b c f d la lb) (.returned (.bool false))):=J_ (fun h=>v h.2.2.2.2.2.2.1);have hlen2:¬ (la:Int)=(lb:Int):=O0;go_enter func185,ntmps185;go_wp2
   all_goals go_ret
   all_goals exact ⟨a.out,g _ _⟩
 obtain rfl:=v;rcases (Am (cd=f)).symm with x | x
 · have a:Hid (Nl (Uj ep fn ft kn b c cd tx ep fn ft kn b c f d la la) (.returned (.bool false))):=J_ (fun h=>x h.2.2.2.2.2.2.2.1);go_enter func185,ntmps185;go_wp2
   all_goals go_ret
   all_goals exact ⟨a.out,g _ _⟩
 obtain rfl:=x;rcases (Am (tx.toList=d.toList)).symm with q | q
 · have a:Hid (Nl (Uj ep fn ft kn b c cd tx ep fn ft kn b c cd d la la) (.returned (.bool false))):=J_ (fun h=>q (by rw [h.2.2.2.2.2.2.2.2]));go_enter func185,ntmps185;go_wp2
   all_goals go_ret
   all_goals exact ⟨a.out,g _ _⟩
 obtain rfl:=(Un _ _).1 q;clear q;have a:Hid (Nl (Uj ep fn ft kn b c cd tx ep fn ft kn b c cd tx la la) (.returned (.bool true))):=Nj ⟨rfl,rfl,rfl,rfl,rfl,rfl,rfl,rfl,rfl⟩;go_enter func185,ntmps185;go_wp2
 all_goals go_ret
 all_goals exact ⟨a.out,g _ _⟩
theorem a2J {x:g_} (c:x.kd=1):Uj x.ep x.fn x.ft x.km.nm x.km.tl x.km.ar x.cd x.tx x.ep ⟨#[]⟩ ⟨#[]⟩ ⟨#[]⟩ ⟨#[]⟩ ⟨#[]⟩ 0 ⟨#[]⟩ x.ls.length 0↔x=h_ x.ep:=by
 obtain ⟨kd,ep,fn,ft,⟨kn,kt,ka⟩,ls,cd,tx⟩:=x;dsimp only at c;subst c;unfold Uj;constructor
 · rintro ⟨h1,h2,i,a,g,f,b,e,d⟩;dsimp only at*
   (try (have j:ls=[]:=Va.1 b;subst j))
   subst_vars
   rfl
 · intro h;obtain ⟨-,h1,h2,i,a,b,e,d⟩:=g_.mk.inj h;obtain ⟨a,g,f⟩:=M3.mk.inj a;exact ⟨h1,h2,i,a,g,f,by first | rfl | (rw [b];rfl),e,d⟩
theorem a3b {x:g_} (c:x.kd=2):Uj x.ep x.fn x.ft x.km.nm x.km.tl x.km.ar x.cd x.tx 0 x.fn x.ft ⟨#[]⟩ ⟨#[]⟩ ⟨#[]⟩ 0 ⟨#[]⟩ x.ls.length 0↔x=Ib x.fn x.ft:=by
 obtain ⟨kd,ep,fn,ft,⟨kn,kt,ka⟩,ls,cd,tx⟩:=x;dsimp only at c;subst c;unfold Uj;constructor
 · rintro ⟨h1,h2,i,a,g,f,b,e,d⟩;dsimp only at*
   (try (have j:ls=[]:=Va.1 b;subst j))
   subst_vars
   rfl
 · intro h;obtain ⟨-,h1,h2,i,a,b,e,d⟩:=g_.mk.inj h;obtain ⟨a,g,f⟩:=M3.mk.inj a;exact ⟨h1,h2,i,a,g,f,by first | rfl | (rw [b];rfl),e,d⟩
theorem a2p {x:g_} (c:x.kd=3):Uj x.ep x.fn x.ft x.km.nm x.km.tl x.km.ar x.cd x.tx 0 x.fn ⟨#[]⟩ ⟨#[]⟩ ⟨#[]⟩ ⟨#[]⟩ 0 ⟨#[]⟩ x.ls.length 0↔x=Nb x.fn:=by
 obtain ⟨kd,ep,fn,ft,⟨kn,kt,ka⟩,ls,cd,tx⟩:=x;dsimp only at c;subst c;unfold Uj;constructor
 · rintro ⟨h1,h2,i,a,g,f,b,e,d⟩;dsimp only at*
   (try (have j:ls=[]:=Va.1 b;subst j))
   subst_vars
   rfl
 · intro h;obtain ⟨-,h1,h2,i,a,b,e,d⟩:=g_.mk.inj h;obtain ⟨a,g,f⟩:=M3.mk.inj a;exact ⟨h1,h2,i,a,g,f,by first | rfl | (rw [b];rfl),e,d⟩
theorem a3Q {x:g_} (c:x.kd=4):Uj x.ep x.fn x.ft x.km.nm x.km.tl x.km.ar x.cd x.tx 0 ⟨#[]⟩ ⟨#[]⟩ x.km.nm x.km.tl x.km.ar x.cd x.tx x.ls.length x.ls.length↔x=og x.km x.ls x.cd x.tx:=by
 obtain ⟨kd,ep,fn,ft,⟨kn,kt,ka⟩,ls,cd,tx⟩:=x;dsimp only at c;subst c;unfold Uj;constructor
 · rintro ⟨h1,h2,i,a,g,f,b,e,d⟩;dsimp only at*
   (try (have j:ls=[]:=Va.1 b;subst j))
   subst_vars
   rfl
 · intro h;obtain ⟨-,h1,h2,i,a,b,e,d⟩:=g_.mk.inj h;obtain ⟨a,g,f⟩:=M3.mk.inj a;exact ⟨h1,h2,i,a,g,f,by first | rfl | (rw [b];rfl),e,d⟩
theorem a1M {x:g_} (c:x.kd=5):Uj x.ep x.fn x.ft x.km.nm x.km.tl x.km.ar x.cd x.tx 0 ⟨#[]⟩ ⟨#[]⟩ ⟨#[]⟩ ⟨#[]⟩ ⟨#[]⟩ 0 ⟨#[]⟩ x.ls.length 0↔x=P_:=by
 obtain ⟨kd,ep,fn,ft,⟨kn,kt,ka⟩,ls,cd,tx⟩:=x;dsimp only at c;subst c;unfold Uj;constructor
 · rintro ⟨h1,h2,i,a,g,f,b,e,d⟩;dsimp only at*
   (try (have j:ls=[]:=Va.1 b;subst j))
   subst_vars
   rfl
 · intro h;obtain ⟨-,h1,h2,i,a,b,e,d⟩:=g_.mk.inj h;obtain ⟨a,g,f⟩:=M3.mk.inj a;exact ⟨h1,h2,i,a,g,f,by first | rfl | (rw [b];rfl),e,d⟩
theorem lZ {x:g_} (a:x.kd=1):V8 x↔(x=h_ x.ep/\(1<=x.ep/\x.ep<=200)):=by
 constructor
 · intro h;obtain ⟨n,h1,rfl⟩:=Js h a;exact ⟨rfl,h1⟩
 · rintro ⟨h1,h2⟩;exact .inl ⟨_,h2,h1⟩
theorem xZ {x:g_} (c:x.kd=2):V8 x↔(x=Ib x.fn x.ft/\(Y5 x.fn.data.toList=true/\x.ft.size<=300)):=by
 constructor
 · intro h;obtain ⟨a,b,h1,rfl⟩:=Xw h c;exact ⟨rfl,h1⟩
 · rintro ⟨h1,h2⟩;exact .inr (.inl ⟨_,_,h2,h1⟩)
theorem nZ {x:g_} (b:x.kd=3):V8 x↔(x=Nb x.fn/\Y5 x.fn.data.toList=true):=by
 constructor
 · intro h;obtain ⟨a,h1,rfl⟩:=mr h b;exact ⟨rfl,h1⟩
 · rintro ⟨h1,h2⟩;exact .inr (.inr (.inl ⟨_,h2,h1⟩))
theorem cZ {x:g_} (a:x.kd=4):V8 x↔(x=og x.km x.ls x.cd x.tx/\Zf x.km x.ls x.cd x.tx):=by
 constructor
 · intro h;obtain ⟨m,ls,c,t,h1,rfl⟩:=Yz h a;exact ⟨rfl,h1⟩
 · rintro ⟨h1,h2⟩;exact .inr (.inr (.inr (.inl ⟨_,_,_,_,h2,h1⟩)))
theorem a1j {x:g_} (a:x.kd=5):V8 x↔x=P_:=by
 constructor
 · intro h;exact qA h a
 · intro h;exact .inr (.inr (.inr (.inr h)))
theorem a0A (n:Int):(⟨#[101,112,111,99,104,32]⟩:BY)++J3 (dec n)++⟨#[10]⟩=J3 (z_ (h_ n)):=by
 show J3 [101,112,111,99,104,32]++J3 (dec n)++J3 [10]=_;rw [Vb,Vb];simp [z_,X9,h_,Mc,Bd]
theorem a1G (a b:BY):(⟨#[102,105,108,101,32]⟩:BY)++a++⟨#[32]⟩++J3 (P5 b.data.toList)++⟨#[10]⟩=J3 (z_ (Ib a b)):=by
 show J3 [102,105,108,101,32]++J3 a.data.toList++J3 [32]++J3 (P5 b.data.toList)++J3 [10]=_;rw [Vb,Vb,Vb,Vb];simp [z_,X9,Ib,Mc,Jh]
theorem a0O (a:BY):(⟨#[100,114,111,112,32]⟩:BY)++a++⟨#[10]⟩=J3 (z_ (Nb a)):=by
 show J3 [100,114,111,112,32]++J3 a.data.toList++J3 [10]=_;rw [Vb,Vb];simp [z_,X9,Nb,Mc,Zg]
theorem a0C (m:M3) (ls:List L4) (c:Int) (t:BY):(⟨#[114,97,110,32]⟩:BY)++m.nm++⟨#[32]⟩++m.tl++⟨#[32]⟩++J3 (P5 m.ar.data.toList)++⟨#[10]⟩++J3 (y_ ls)++⟨#[103,97,118,101,32]⟩++J3 (Za c t)++⟨#[10]⟩=J3 (z_ (og m ls c t)):=by
 show J3 [114,97,110,32]++J3 m.nm.data.toList++J3 [32]++J3 m.tl.data.toList++J3 [32]++J3 (P5 m.ar.data.toList)++J3 [10]++J3 (y_ ls)++J3 [103,97,118,101,32]++J3 (Za c t)++J3 [10]=_;simp only [Vb];rw [Yv];simp [z_,X9,og,Mc,Wj,Cf,Ac]
theorem a0Q:(⟨#[99,108,101,97,114,10]⟩:BY)=J3 (z_ P_):=by
 simp [z_,X9,P_,Mc,Jg,J3]
theorem FY (x:g_) (c:x.kd=1) (a:OA) (d:Nat) (w:World) (q:x.le 1048576) (hat:o9 w a x.ls):
 Calls prog 142 #[.agg #[.int .i64 1,.int .i64 x.ep,.string x.fn,.string x.ft,.string x.km.nm,.string x.km.tl,.string x.km.ar,.slice a x.ls.length d,.int .i64 x.cd,.string x.tx]] w fun e w'=>qB (V8 x) (z_ x) e/\Bw w w':=by
 obtain ⟨f1,f2,⟨m1,m2,m3⟩,⟨hl,hs⟩,f3⟩:=q;have s:∀ o,Bw w (w.alloc o):=fun o=>P6;go_enter func142,ntmps142
 go_wp2_with fail
 refine (MO 1 x.ep x.cd 0 x.ep 0 x.fn x.ft x.km.nm x.km.tl x.km.ar x.tx ⟨#[]⟩ ⟨#[]⟩ ⟨#[]⟩ ⟨#[]⟩ ⟨#[]⟩ ⟨#[]⟩ a none x.ls.length 0 d 0 _ hl O0).mono ?_;rintro e i ⟨⟨r,rfl,hr⟩,k⟩;have l:=U0 (hr.trans (a2J c));have b:Below (w.heap.size+1) (w.alloc (.cells #[vI 1,vI x.ep,vS x.fn,vS x.ft,vS x.km.nm,vS x.km.tl,vS x.km.ar,vL a x.ls.length d,vI x.cd,vS x.tx] 137)) i:=KD k;have f:=(s _).trans (b.mono O0);have t:=(Z7 w [vI 1,vI x.ep,vS x.fn,vS x.ft,vS x.km.nm,vS x.km.tl,vS x.km.ar,vL a x.ls.length d,vI x.cd,vS x.tx] 137).below b O0;have hz1:w.heap.size<i.heap.size:=by have h:=b.size;simp at h;omega
 clear hr k b;have k1:=t 1 _ rfl;cases r
 · have g:Hid (qB (V8 x) (z_ x) (.returned vE)):=Xj (fun h=>absurd (l.out.2 ((lZ c).1 h).1) Xk);go_wp2;go_ret;exact ⟨g.out,f⟩
 · have m:=U0 (l.out.1 rfl)
   go_wp2_with fail
   refine (xG x.ep 1 200 _).mono ?_;rintro e w0 ⟨rfl,hw⟩;obtain rfl:=hw.symm;cases h3:decide (1<=x.ep/\x.ep<=200)
   · have g:Hid (qB (V8 x) (z_ x) (.returned vE)):=Xj (fun h=>of_decide_eq_false h3 ((lZ c).1 h).2);go_wp2;go_ret;exact ⟨g.out,f⟩
   · have p:=TI h3;have u:=U0 ((lZ c).2 ⟨m.out,p⟩);have n:=Rt x.ep O0 O0;have z1:(J3 (dec x.ep)).size<=4:=by rw [I5];exact n
     have k0:¬ 9223372036854775807<6+(J3 (dec x.ep)).size:=O0;have k2:¬ 9223372036854775807<6+(J3 (dec x.ep)).size+1:=O0;have k2':¬ 9223372036854775807<=6+(J3 (dec x.ep)).size:=O0;have k3:¬ (16000:Int)<6+((J3 (dec x.ep)).size:Int)+1:=O0;have v:Hid ((⟨#[101,112,111,99,104,32]⟩:BY)++J3 (dec x.ep)++⟨#[10]⟩=J3 (z_ x)):=by show _=_;rw [a0A,<- m.out]
     clear h3
     go_wp2_with fail
     refine (c183 (x.ep.toNat+1) x.ep _ O0 O0 (yu _)).mono ?_;rintro e w4 ⟨rfl,j⟩;have y:=U0 (X5 f j);clear j;go_wp2;go_ret;exact ⟨⟨_,rfl,.inl ⟨u.out,v.out⟩⟩,y.out⟩
theorem jY (x:g_) (c:x.kd=3) (a:OA) (d:Nat) (w:World) (n:x.le 1048576) (hat:o9 w a x.ls):
 Calls prog 142 #[.agg #[.int .i64 3,.int .i64 x.ep,.string x.fn,.string x.ft,.string x.km.nm,.string x.km.tl,.string x.km.ar,.slice a x.ls.length d,.int .i64 x.cd,.string x.tx]] w fun e w'=>qB (V8 x) (z_ x) e/\Bw w w':=by
 obtain ⟨f1,f2,⟨m1,m2,m3⟩,⟨hl,hs⟩,f3⟩:=n;have p:∀ o,Bw w (w.alloc o):=fun o=>P6;go_enter func142,ntmps142
 go_wp2_with fail
 refine (MO 3 x.ep x.cd 0 0 0 x.fn x.ft x.km.nm x.km.tl x.km.ar x.tx x.fn ⟨#[]⟩ ⟨#[]⟩ ⟨#[]⟩ ⟨#[]⟩ ⟨#[]⟩ a none x.ls.length 0 d 0 _ hl O0).mono ?_;rintro e i ⟨⟨r,rfl,hr⟩,j⟩;have k:=U0 (hr.trans (a2p c));have b:Below (w.heap.size+1) (w.alloc (.cells #[vI 3,vI x.ep,vS x.fn,vS x.ft,vS x.km.nm,vS x.km.tl,vS x.km.ar,vL a x.ls.length d,vI x.cd,vS x.tx] 137)) i:=KD j;have f:=(p _).trans (b.mono O0);have q:=(Z7 w [vI 3,vI x.ep,vS x.fn,vS x.ft,vS x.km.nm,vS x.km.tl,vS x.km.ar,vL a x.ls.length d,vI x.cd,vS x.tx] 137).below b O0;have hz1:w.heap.size<i.heap.size:=by have h:=b.size;simp at h;omega
 clear hr j b;have k1:=q 2 _ rfl;cases r
 · have g:Hid (qB (V8 x) (z_ x) (.returned vE)):=Xj (fun h=>absurd (k.out.2 ((nZ c).1 h).1) Xk);go_wp2;go_ret;exact ⟨g.out,f⟩
 · have l:=U0 (k.out.1 rfl)
   go_wp2_with fail
   refine (NJ x.fn _ O0).mono ?_;rintro e w0 ⟨rfl,hw⟩;obtain rfl:=hw.symm;cases h3:Y5 x.fn.data.toList
   · have g:Hid (qB (V8 x) (z_ x) (.returned vE)):=Xj (fun h=>by have h1:=((nZ c).1 h).2;rw [h3] at h1;cases h1);go_wp2;go_ret;exact ⟨g.out,f⟩
   · have s:=U0 ((nZ c).2 ⟨l.out,h3⟩);have m:=(uj h3).2;have z1:x.fn.size<=20:=by simpa using m
     have k0:¬ 9223372036854775807<5+x.fn.size:=O0;have k2:¬ 9223372036854775807<5+x.fn.size+1:=O0;have k2':¬ 9223372036854775807<=5+x.fn.size:=O0;have k3:¬ (16000:Int)<5+(x.fn.size:Int)+1:=O0;have t:Hid ((⟨#[100,114,111,112,32]⟩:BY)++x.fn++⟨#[10]⟩=J3 (z_ x)):=by show _=_;rw [a0O,<- l.out]
     clear h3;go_wp2;go_ret;exact ⟨⟨_,rfl,.inl ⟨s.out,t.out⟩⟩,f⟩
theorem QY (x:g_) (d:x.kd=5) (a:OA) (c:Nat) (w:World) (l:x.le 1048576) (hat:o9 w a x.ls):
 Calls prog 142 #[.agg #[.int .i64 5,.int .i64 x.ep,.string x.fn,.string x.ft,.string x.km.nm,.string x.km.tl,.string x.km.ar,.slice a x.ls.length c,.int .i64 x.cd,.string x.tx]] w fun e w'=>qB (V8 x) (z_ x) e/\Bw w w':=by
 obtain ⟨f1,f2,⟨m1,m2,m3⟩,⟨hl,hs⟩,f3⟩:=l;have m:∀ o,Bw w (w.alloc o):=fun o=>P6;go_enter func142,ntmps142
 go_wp2_with fail
 refine (MO 5 x.ep x.cd 0 0 0 x.fn x.ft x.km.nm x.km.tl x.km.ar x.tx ⟨#[]⟩ ⟨#[]⟩ ⟨#[]⟩ ⟨#[]⟩ ⟨#[]⟩ ⟨#[]⟩ a none x.ls.length 0 c 0 _ hl O0).mono ?_;rintro e f ⟨⟨r,rfl,hr⟩,g⟩;have j:=U0 (hr.trans (a1M d));have b:Below (w.heap.size+1) (w.alloc (.cells #[vI 5,vI x.ep,vS x.fn,vS x.ft,vS x.km.nm,vS x.km.tl,vS x.km.ar,vL a x.ls.length c,vI x.cd,vS x.tx] 137)) f:=KD g;have i:=(m _).trans (b.mono O0);have bA:=(Z7 w [vI 5,vI x.ep,vS x.fn,vS x.ft,vS x.km.nm,vS x.km.tl,vS x.km.ar,vL a x.ls.length c,vI x.cd,vS x.tx] 137).below b O0;have hz1:w.heap.size<f.heap.size:=by have h:=b.size;simp at h;omega
 clear hr g b;cases r
 · have p:Hid (qB (V8 x) (z_ x) (.returned vE)):=Xj (fun h=>absurd (j.out.2 ((a1j d).1 h)) Xk);go_wp2;go_ret;exact ⟨p.out,i⟩
 · have k:=U0 (j.out.1 rfl);have n:=U0 ((a1j d).2 k.out);have q:Hid ((⟨#[99,108,101,97,114,10]⟩:BY)=J3 (z_ x)):=by show _=_;rw [a0Q,<- k.out]
   go_wp2;go_ret;exact ⟨⟨_,rfl,.inl ⟨n.out,q.out⟩⟩,i⟩
theorem dU (x:g_) (c:OA) (b:Nat) (w:World) (h1:¬ x.kd=1) (h2:¬ x.kd=2) (h3:¬ x.kd=3) (h4:¬ x.kd=4) (h5:¬ x.kd=5):
 Calls prog 142 #[.agg #[.int .i64 x.kd,.int .i64 x.ep,.string x.fn,.string x.ft,.string x.km.nm,.string x.km.tl,.string x.km.ar,.slice c x.ls.length b,.int .i64 x.cd,.string x.tx]] w fun e w'=>qB (V8 x) (z_ x) e/\Bw w w':=by
 have a:∀ o,Bw w (w.alloc o):=fun o=>P6;have d:Hid (qB (V8 x) (z_ x) (.returned vE)):=Xj (fun h=>by rcases oH h with h | h | h | h | h <;> contradiction);go_enter func142,ntmps142;go_wp2;go_ret;exact ⟨d.out,a _⟩
theorem xY (x:g_) (t:x.kd=4) (b:OA) (i:Nat) (w:World) (hle:x.le 1048576) (A:o9 w b x.ls):
 Calls prog 142 #[.agg #[.int .i64 4,.int .i64 x.ep,.string x.fn,.string x.ft,.string x.km.nm,.string x.km.tl,.string x.km.ar,.slice b x.ls.length i,.int .i64 x.cd,.string x.tx]] w fun e w'=>qB (V8 x) (z_ x) e/\Bw w w':=by
 obtain ⟨f1,f2,⟨m1,m2,m3⟩,⟨hl,z⟩,f3⟩:=hle;have hB0:∀ o,Bw w (w.alloc o):=fun o=>P6;go_enter func142,ntmps142
 go_wp2_with fail
 refine (MO 4 x.ep x.cd 0 0 x.cd x.fn x.ft x.km.nm x.km.tl x.km.ar x.tx ⟨#[]⟩ ⟨#[]⟩ x.km.nm x.km.tl x.km.ar x.tx b b x.ls.length x.ls.length i i _ hl hl).mono ?_;rintro e H ⟨⟨r,rfl,hr⟩,R⟩;have V:=U0 (hr.trans (a3Q t));have s:Below (w.heap.size+1) (w.alloc (.cells #[vI 4,vI x.ep,vS x.fn,vS x.ft,vS x.km.nm,vS x.km.tl,vS x.km.ar,vL b x.ls.length i,vI x.cd,vS x.tx] 137)) H:=KD R;have v:=(hB0 _).trans (s.mono O0);have m:=(Z7 w [vI 4,vI x.ep,vS x.fn,vS x.ft,vS x.km.nm,vS x.km.tl,vS x.km.ar,vL b x.ls.length i,vI x.cd,vS x.tx] 137).below s O0;have d:w.heap.size<H.heap.size:=by have h:=s.size;simp at h;omega
 clear hr R s;have L:=m 4 _ rfl;have n5:=m 5 _ rfl;have n6:=m 6 _ rfl;have n7:=m 7 _ rfl;have J:=m 8 _ rfl;have I:=m 9 _ rfl;cases r
 · have C:Hid (qB (V8 x) (z_ x) (.returned vE)):=Xj (fun h=>absurd (V.out.2 ((cZ t).1 h).1) Xk);go_wp2;go_ret;exact ⟨C.out,v⟩
 · have W:=U0 (V.out.1 rfl)
   go_wp2_with fail
   refine (a0R x.km x.ls x.cd x.tx b i _ ⟨m1,m2,m3⟩ hl z f3 (l7 A v)).mono ?_;rintro e Y ⟨⟨Z,rfl,N⟩,a⟩;have U:=U0 N;have B:=X5 v a;have k4:=(a.cell (p:=(aW w 4)) (by exact d)).trans L;have k5:=(a.cell (p:=(aW w 5)) (by exact d)).trans n5;have k6:=(a.cell (p:=(aW w 6)) (by exact d)).trans n6;have k7:=(a.cell (p:=(aW w 7)) (by exact d)).trans n7;have k8:=(a.cell (p:=(aW w 8)) (by exact d)).trans J;have k9:=(a.cell (p:=(aW w 9)) (by exact d)).trans I;have l:=O9 d a.size;have HAT:=U0 A;have HS:=U0 z;clear N a L n5 n6 n7 J I d m v A z;cases Z
   · have C:Hid (qB (V8 x) (z_ x) (.returned vE)):=Xj (fun h=>absurd (U.out.2 ((cZ t).1 h).2) Xk);go_wp2;go_ret;exact ⟨C.out,B⟩
   · have q:=U0 (U.out.1 rfl);have HOK:=U0 ((cZ t).2 ⟨W.out,q.out⟩);obtain ⟨F,E,D⟩:=UE q.out.1;have y0:x.km.nm.size<=20:=by simpa using F
     have y1:x.km.tl.size<=20:=by simpa using E
     have y2:x.km.ar.size<=300:=by simpa using D
     have y3:=ve x.km.ar;have y4:(J3 (y_ x.ls)).size<=13950:=by rw [I5];exact uw q.out.2.1
     have y:=U0 (Ug q.out.2.2);have y5:(J3 (Za x.cd x.tx)).size<=904:=by rw [I5];exact eF y.out.1 y.out.2 (UD q.out.2.2)
     have HE:Hid ((⟨#[114,97,110,32]⟩:BY)++x.km.nm++⟨#[32]⟩++x.km.tl++⟨#[32]⟩++J3 (P5 x.km.ar.data.toList)++⟨#[10]⟩++J3 (y_ x.ls)++⟨#[103,97,118,101,32]⟩++J3 (Za x.cd x.tx)++⟨#[10]⟩=J3 (z_ x)):=by show _=_;rw [a0C,<- W.out]
     have g0:¬ 9223372036854775807<4+x.km.nm.size:=O0;have g1':¬ 9223372036854775807<=4+x.km.nm.size:=O0;have g1:¬ 9223372036854775807<4+x.km.nm.size+1:=O0;have g2:¬ 9223372036854775807<4+x.km.nm.size+1+x.km.tl.size:=O0;have g3':¬ 9223372036854775807<=4+x.km.nm.size+1+x.km.tl.size:=O0;have g3:¬ 9223372036854775807<4+x.km.nm.size+1+x.km.tl.size+1:=O0;have g4:¬ 9223372036854775807<4+x.km.nm.size+1+x.km.tl.size+1+(J3 (P5 x.km.ar.data.toList)).size:=O0;have g5':¬ 9223372036854775807<=4+x.km.nm.size+1+x.km.tl.size+1+(J3 (P5 x.km.ar.data.toList)).size:=O0;have g5:¬ 9223372036854775807<4+x.km.nm.size+1+x.km.tl.size+1+(J3 (P5 x.km.ar.data.toList)).size+1:=O0;have g6:¬ 9223372036854775807<4+x.km.nm.size+1+x.km.tl.size+1+(J3 (P5 x.km.ar.data.toList)).size+1+(J3 (y_ x.ls)).size:=O0;have g7:¬ 9223372036854775807<4+x.km.nm.size+1+x.km.tl.size+1+(J3 (P5 x.km.ar.data.toList)).size+1+(J3 (y_ x.ls)).size+5:=O0;have g8:¬ 9223372036854775807<4+x.km.nm.size+1+x.km.tl.size+1+(J3 (P5 x.km.ar.data.toList)).size+1+(J3 (y_ x.ls)).size+5+(J3 (Za x.cd x.tx)).size:=O0;have g9':¬ 9223372036854775807<=4+x.km.nm.size+1+x.km.tl.size+1+(J3 (P5 x.km.ar.data.toList)).size+1+(J3 (y_ x.ls)).size+5+(J3 (Za x.cd x.tx)).size:=O0;have g9:¬ 9223372036854775807<4+x.km.nm.size+1+x.km.tl.size+1+(J3 (P5 x.km.ar.data.toList)).size+1+(J3 (y_ x.ls)).size+5+(J3 (Za x.cd x.tx)).size+1:=O0;have h9:¬ (16000:Int)<4+(x.km.nm.size:Int)+1+(x.km.tl.size:Int)+1+((J3 (P5 x.km.ar.data.toList)).size:Int)+1+((J3 (y_ x.ls)).size:Int)+5+((J3 (Za x.cd x.tx)).size:Int)+1:=O0;clear F E D
     go_wp2_with fail
     refine wp_region_held_drew (S:=(fun u=>u.cell? (aW w 4)=some (vS x.km.nm)/\u.cell? (aW w 5)=some (vS x.km.tl)/\u.cell? (aW w 6)=some (vS x.km.ar)/\u.cell? (aW w 7)=some (vL b x.ls.length i)/\u.cell? (aW w 8)=some (vI x.cd)/\u.cell? (aW w 9)=some (vS x.tx))) Y2 ?_ fun hHeld=>?_
     · ((try dsimp only);go_keep)
     refine Y0 0 ?_;refine Y0 1 ?_;refine Y0 2 ?_;refine Y0 3 ?_;refine Y0 4 ?_;refine Y0 5 ?_;refine Y0 6 ?_;refine Y0 7 ?_;refine Y0 8 ?_;refine Y0 9 ?_;refine Y0 10 ?_;refine Y0 11 ?_;refine Y0 12 ?_;refine Y0 16 ?_;refine Y0 17 ?_;refine Y0 21 ?_;refine Y0 22 ?_;refine rq 13 fun K g=>?_;go_simp;refine (JG x.km.ar _ O0).mono ?_;rintro e X ⟨rfl,Q⟩;have c:Hid (Bw Y X):=((Z4 _ _).drew).trans Q;have p4:=(c.out.cell (p:=(aW w 4)) (by exact l)).trans k4;have p5:=(c.out.cell (p:=(aW w 5)) (by exact l)).trans k5;have p6:=(c.out.cell (p:=(aW w 6)) (by exact l)).trans k6;have p7:=(c.out.cell (p:=(aW w 7)) (by exact l)).trans k7;have p8:=(c.out.cell (p:=(aW w 8)) (by exact l)).trans k8;have p9:=(c.out.cell (p:=(aW w 9)) (by exact l)).trans k9;have f:=O9 l c.out.size;clear Q
     go_wp2_with fail
     clear hHeld;refine zH g fun hHeld=>?_;clear g K;refine Y0 14 ?_;refine Y0 15 ?_;refine rq 18 fun K g=>?_;go_simp;refine (a2m b i x.ls _ q.out.2.1 HS.out (l7 HAT.out (X5 B c.out))).mono ?_;rintro e w3 ⟨rfl,P⟩;have j:=U0 P;have q4:=(j.out.cell (p:=(aW w 4)) (by exact f)).trans p4;have q5:=(j.out.cell (p:=(aW w 5)) (by exact f)).trans p5;have q6:=(j.out.cell (p:=(aW w 6)) (by exact f)).trans p6;have q7:=(j.out.cell (p:=(aW w 7)) (by exact f)).trans p7;have q8:=(j.out.cell (p:=(aW w 8)) (by exact f)).trans p8;have q9:=(j.out.cell (p:=(aW w 9)) (by exact f)).trans p9;have k:=O9 f j.out.size;clear P
     go_wp2_with fail
     clear hHeld;refine zH g fun hHeld=>?_;clear g K;refine Y0 19 ?_;refine Y0 20 ?_;refine rq 23 fun K g=>?_;go_simp;refine (uY x.cd x.tx _ y.out.1 (by have:=y.out.2;omega) O0).mono ?_;rintro e w4 ⟨rfl,O⟩;have n:=U0 O;have r4:=(n.out.cell (p:=(aW w 4)) (by exact k)).trans q4;have r5:=(n.out.cell (p:=(aW w 5)) (by exact k)).trans q5;have r6:=(n.out.cell (p:=(aW w 6)) (by exact k)).trans q6;have r7:=(n.out.cell (p:=(aW w 7)) (by exact k)).trans q7;have r8:=(n.out.cell (p:=(aW w 8)) (by exact k)).trans q8;have r9:=(n.out.cell (p:=(aW w 9)) (by exact k)).trans q9;clear O
     go_wp2_with fail
     clear hHeld;refine zH g fun hHeld=>?_;clear g K;refine Y0 24 ?_;refine Y0 25 ?_;refine Y0 26 ?_;refine wdn ?_;have hB2:=((X5 B c.out).trans (j.out.mono (Qo f))).trans (n.out.mono (Qo k));clear hHeld;go_wp2;go_ret;exact ⟨⟨_,rfl,.inl ⟨HOK.out,HE.out⟩⟩,hB2⟩

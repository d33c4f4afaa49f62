import Derived.Test.YtlckdgjfniglfaaGreatDooreEC
import Derived.Test.YtlckdgjfniglfaaGreatDoortW3
set_option maxRecDepth 100000
set_option linter.unusedVariables false
set_option maxHeartbeats 8000000
namespace Go.Proofs.YtlckdgjfniglfaaGreatDoor
open Proofs.Tryz
open Go.RowKit
theorem sm_1 {x:N10} (hk:x.kd=1):Sm26 x.ep x.fn x.ft x.km.nm x.km.tl x.km.ar x.cd x.tx x.ep ⟨#[]⟩ ⟨#[]⟩ ⟨#[]⟩ ⟨#[]⟩ ⟨#[]⟩ 0 ⟨#[]⟩ x.ls.length 0↔x=eEpoch x.ep:=by
 obtain ⟨kd,ep,fn,ft,⟨kn,kt,ka⟩,ls,cd,tx⟩:=x;dsimp only at hk;subst hk;unfold Sm26;constructor
 · rintro ⟨h1,h2,h3,h4,h5,h6,h7,h8,h9⟩
   dsimp only at*
   (try (have h7':ls=[]:=List.length_eq_zero_iff.1 h7;subst h7'))
   subst_vars
   rfl
 · intro h
   obtain ⟨-,h1,h2,h3,h4,h7,h8,h9⟩:=N10.mk.inj h;obtain ⟨h4,h5,h6⟩:=M3.mk.inj h4;exact ⟨h1,h2,h3,h4,h5,h6,by first | rfl | (rw [h7];rfl),h8,h9⟩
theorem sm_2 {x:N10} (hk:x.kd=2):Sm26 x.ep x.fn x.ft x.km.nm x.km.tl x.km.ar x.cd x.tx 0 x.fn x.ft ⟨#[]⟩ ⟨#[]⟩ ⟨#[]⟩ 0 ⟨#[]⟩ x.ls.length 0↔x=eFile x.fn x.ft:=by
 obtain ⟨kd,ep,fn,ft,⟨kn,kt,ka⟩,ls,cd,tx⟩:=x;dsimp only at hk;subst hk;unfold Sm26;constructor
 · rintro ⟨h1,h2,h3,h4,h5,h6,h7,h8,h9⟩
   dsimp only at*
   (try (have h7':ls=[]:=List.length_eq_zero_iff.1 h7;subst h7'))
   subst_vars
   rfl
 · intro h
   obtain ⟨-,h1,h2,h3,h4,h7,h8,h9⟩:=N10.mk.inj h;obtain ⟨h4,h5,h6⟩:=M3.mk.inj h4;exact ⟨h1,h2,h3,h4,h5,h6,by first | rfl | (rw [h7];rfl),h8,h9⟩
theorem sm_3 {x:N10} (hk:x.kd=3):Sm26 x.ep x.fn x.ft x.km.nm x.km.tl x.km.ar x.cd x.tx 0 x.fn ⟨#[]⟩ ⟨#[]⟩ ⟨#[]⟩ ⟨#[]⟩ 0 ⟨#[]⟩ x.ls.length 0↔x=eDrop x.fn:=by
 obtain ⟨kd,ep,fn,ft,⟨kn,kt,ka⟩,ls,cd,tx⟩:=x;dsimp only at hk;subst hk;unfold Sm26;constructor
 · rintro ⟨h1,h2,h3,h4,h5,h6,h7,h8,h9⟩
   dsimp only at*
   (try (have h7':ls=[]:=List.length_eq_zero_iff.1 h7;subst h7'))
   subst_vars
   rfl
 · intro h
   obtain ⟨-,h1,h2,h3,h4,h7,h8,h9⟩:=N10.mk.inj h;obtain ⟨h4,h5,h6⟩:=M3.mk.inj h4;exact ⟨h1,h2,h3,h4,h5,h6,by first | rfl | (rw [h7];rfl),h8,h9⟩
theorem sm_4 {x:N10} (hk:x.kd=4):Sm26 x.ep x.fn x.ft x.km.nm x.km.tl x.km.ar x.cd x.tx 0 ⟨#[]⟩ ⟨#[]⟩ x.km.nm x.km.tl x.km.ar x.cd x.tx x.ls.length x.ls.length↔x=eRan x.km x.ls x.cd x.tx:=by
 obtain ⟨kd,ep,fn,ft,⟨kn,kt,ka⟩,ls,cd,tx⟩:=x;dsimp only at hk;subst hk;unfold Sm26;constructor
 · rintro ⟨h1,h2,h3,h4,h5,h6,h7,h8,h9⟩
   dsimp only at*
   (try (have h7':ls=[]:=List.length_eq_zero_iff.1 h7;subst h7'))
   subst_vars
   rfl
 · intro h
   obtain ⟨-,h1,h2,h3,h4,h7,h8,h9⟩:=N10.mk.inj h;obtain ⟨h4,h5,h6⟩:=M3.mk.inj h4;exact ⟨h1,h2,h3,h4,h5,h6,by first | rfl | (rw [h7];rfl),h8,h9⟩
theorem sm_5 {x:N10} (hk:x.kd=5):Sm26 x.ep x.fn x.ft x.km.nm x.km.tl x.km.ar x.cd x.tx 0 ⟨#[]⟩ ⟨#[]⟩ ⟨#[]⟩ ⟨#[]⟩ ⟨#[]⟩ 0 ⟨#[]⟩ x.ls.length 0↔x=eClear:=by
 obtain ⟨kd,ep,fn,ft,⟨kn,kt,ka⟩,ls,cd,tx⟩:=x;dsimp only at hk;subst hk;unfold Sm26;constructor
 · rintro ⟨h1,h2,h3,h4,h5,h6,h7,h8,h9⟩
   dsimp only at*
   (try (have h7':ls=[]:=List.length_eq_zero_iff.1 h7;subst h7'))
   subst_vars
   rfl
 · intro h
   obtain ⟨-,h1,h2,h3,h4,h7,h8,h9⟩:=N10.mk.inj h;obtain ⟨h4,h5,h6⟩:=M3.mk.inj h4;exact ⟨h1,h2,h3,h4,h5,h6,by first | rfl | (rw [h7];rfl),h8,h9⟩
theorem ok_1 {x:N10} (hk:x.kd=1):EntOk x↔(x=eEpoch x.ep/\(1<=x.ep/\x.ep<=200)):=by
 constructor
 · intro h
   obtain ⟨n,h1,rfl⟩:=is_epoch h hk;exact ⟨rfl,h1⟩
 · rintro ⟨h1,h2⟩
   exact .inl ⟨_,h2,h1⟩
theorem ok_2 {x:N10} (hk:x.kd=2):EntOk x↔(x=eFile x.fn x.ft/\(nameOk x.fn.data.toList=true/\x.ft.size<=300)):=by
 constructor
 · intro h
   obtain ⟨a,b,h1,rfl⟩:=is_file h hk;exact ⟨rfl,h1⟩
 · rintro ⟨h1,h2⟩
   exact .inr (.inl ⟨_,_,h2,h1⟩)
theorem ok_3 {x:N10} (hk:x.kd=3):EntOk x↔(x=eDrop x.fn/\nameOk x.fn.data.toList=true):=by
 constructor
 · intro h
   obtain ⟨a,h1,rfl⟩:=is_drop h hk;exact ⟨rfl,h1⟩
 · rintro ⟨h1,h2⟩
   exact .inr (.inr (.inl ⟨_,h2,h1⟩))
theorem ok_4 {x:N10} (hk:x.kd=4):EntOk x↔(x=eRan x.km x.ls x.cd x.tx/\RanOk x.km x.ls x.cd x.tx):=by
 constructor
 · intro h
   obtain ⟨m,ls,c,t,h1,rfl⟩:=is_ran h hk;exact ⟨rfl,h1⟩
 · rintro ⟨h1,h2⟩
   exact .inr (.inr (.inr (.inl ⟨_,_,_,_,h2,h1⟩)))
theorem ok_5 {x:N10} (hk:x.kd=5):EntOk x↔x=eClear:=by
 constructor
 · intro h
   exact is_clear h hk
 · intro h
   exact .inr (.inr (.inr (.inr h)))
theorem ent_1 (n:Int):(⟨#[101,112,111,99,104,32]⟩:ByteArray)++ofL (dec n)++⟨#[10]⟩=ofL (entL (eEpoch n)):=by
 show ofL [101,112,111,99,104,32]++ofL (dec n)++ofL [10]=_;rw [cat_ofL,cat_ofL];simp [entL,linesE,eEpoch,joinN,wEpoch]
theorem ent_2 (a b:ByteArray):(⟨#[102,105,108,101,32]⟩:ByteArray)++a++⟨#[32]⟩++ofL (quoteL b.data.toList)++⟨#[10]⟩=ofL (entL (eFile a b)):=by
 show ofL [102,105,108,101,32]++ofL a.data.toList++ofL [32]++ofL (quoteL b.data.toList)++ofL [10]=_;rw [cat_ofL,cat_ofL,cat_ofL,cat_ofL];simp [entL,linesE,eFile,joinN,wFile]
theorem ent_3 (a:ByteArray):(⟨#[100,114,111,112,32]⟩:ByteArray)++a++⟨#[10]⟩=ofL (entL (eDrop a)):=by
 show ofL [100,114,111,112,32]++ofL a.data.toList++ofL [10]=_;rw [cat_ofL,cat_ofL];simp [entL,linesE,eDrop,joinN,wDrop]
theorem ent_4 (m:M3) (ls:List L4) (c:Int) (t:ByteArray):(⟨#[114,97,110,32]⟩:ByteArray)++m.nm++⟨#[32]⟩++m.tl++⟨#[32]⟩++ofL (quoteL m.ar.data.toList)++⟨#[10]⟩++ofL (looksL ls)++⟨#[103,97,118,101,32]⟩++ofL (resL c t)++⟨#[10]⟩=ofL (entL (eRan m ls c t)):=by
 show ofL [114,97,110,32]++ofL m.nm.data.toList++ofL [32]++ofL m.tl.data.toList++ofL [32]++ofL (quoteL m.ar.data.toList)++ofL [10]++ofL (looksL ls)++ofL [103,97,118,101,32]++ofL (resL c t)++ofL [10]=_;simp only [cat_ofL];rw [looksL_join];simp [entL,linesE,eRan,joinN,wRan,wGave,body_form]
theorem ent_5:(⟨#[99,108,101,97,114,10]⟩:ByteArray)=ofL (entL eClear):=by
 simp [entL,linesE,eClear,joinN,wClear,ofL]
theorem c35_1 (x:N10) (hk:x.kd=1) (ai:Option Addr) (ci:Nat) (w:World) (hle:x.le 1048576) (hat:LksAt w ai x.ls):
 Calls prog 35 #[.agg #[.int .i64 1,.int .i64 x.ep,.string x.fn,.string x.ft,.string x.km.nm,.string x.km.tl,.string x.km.ar,.slice ai x.ls.length ci,.int .i64 x.cd,.string x.tx]] w fun e w'=>IsT (EntOk x) (entL x) e/\Below w.heap.size w w':=by
 obtain ⟨f1,f2,⟨m1,m2,m3⟩,⟨hl,hs⟩,f3⟩:=hle;have hB0:∀ o,Below w.heap.size w (w.alloc o):=fun o=>bA_;go_enter func35,ntmps35
 go_wp2_with fail
 refine (c59 1 x.ep x.cd 0 x.ep 0 x.fn x.ft x.km.nm x.km.tl x.km.ar x.tx ⟨#[]⟩ ⟨#[]⟩ ⟨#[]⟩ ⟨#[]⟩ ⟨#[]⟩ ⟨#[]⟩ ai none x.ls.length 0 ci 0 _ hl om_).mono ?_;rintro e w1 ⟨⟨r,rfl,hr⟩,hb1⟩;have HR:Hid (r=true↔x=eEpoch x.ep):=hr.trans (sm_1 hk);have hx1:Below (w.heap.size+1) (w.alloc (.cells #[.int .i64 1,.int .i64 x.ep,.string x.fn,.string x.ft,.string x.km.nm,.string x.km.tl,.string x.km.ar,.slice ai x.ls.length ci,.int .i64 x.cd,.string x.tx] 47)) w1:=by have h:=hb1;simp at h;exact h
 have hB1:Below w.heap.size w w1:=(hB0 _).trans (hx1.mono om_);have bA:=(blk_new w [.int .i64 1,.int .i64 x.ep,.string x.fn,.string x.ft,.string x.km.nm,.string x.km.tl,.string x.km.ar,.slice ai x.ls.length ci,.int .i64 x.cd,.string x.tx] 47).below hx1 om_;have hz1:w.heap.size<w1.heap.size:=by have h:=hx1.size;simp at h;omega
 clear hr hb1 hx1;have k1:=bA 1 _ rfl;cases r
 · have HN:Hid (IsT (EntOk x) (entL x) (.returned (.string ⟨#[]⟩))):=isT_no (fun h=>absurd (HR.out.2 ((ok_1 hk).1 h).1) Bool.false_ne_true)
   go_wp2;go_ret;exact ⟨HN.out,hB1⟩
 · have HQ:Hid (x=eEpoch x.ep):=HR.out.1 rfl
   go_wp2_with fail
   refine (c28 x.ep 1 200 _).mono ?_;rintro e w0 ⟨rfl,hw⟩;obtain rfl:=hw.symm;cases h3:decide (1<=x.ep/\x.ep<=200)
   · have HN:Hid (IsT (EntOk x) (entL x) (.returned (.string ⟨#[]⟩))):=isT_no (fun h=>of_decide_eq_false h3 ((ok_1 hk).1 h).2)
     go_wp2;go_ret;exact ⟨HN.out,hB1⟩
   · have q3:=of_decide_eq_true h3
     have HOK:Hid (EntOk x):=(ok_1 hk).2 ⟨HQ.out,q3⟩;have z0:=dec_small x.ep om_ om_;have z1:(ofL (dec x.ep)).size<=4:=by rw [ofL_size];exact z0
     have k0:¬ 9223372036854775807<6+(ofL (dec x.ep)).size:=om_;have k2:¬ 9223372036854775807<6+(ofL (dec x.ep)).size+1:=om_;have k2':¬ 9223372036854775807<=6+(ofL (dec x.ep)).size:=om_;have k3:¬ (16000:Int)<6+((ofL (dec x.ep)).size:Int)+1:=om_;have HE:Hid ((⟨#[101,112,111,99,104,32]⟩:ByteArray)++ofL (dec x.ep)++⟨#[10]⟩=ofL (entL x)):=by show _=_;rw [ent_1,<- HQ.out]
     clear h3
     go_wp2_with fail
     refine (c57 (x.ep.toNat+1) x.ep _ om_ om_ (Nat.lt_succ_self _)).mono ?_;rintro e w4 ⟨rfl,hb4⟩;have HB4:Hid (Below w.heap.size w w4):=bT_ hB1 hb4;clear hb4;go_wp2;go_ret;exact ⟨⟨_,rfl,.inl ⟨HOK.out,HE.out⟩⟩,HB4.out⟩
theorem c35_3 (x:N10) (hk:x.kd=3) (ai:Option Addr) (ci:Nat) (w:World) (hle:x.le 1048576) (hat:LksAt w ai x.ls):
 Calls prog 35 #[.agg #[.int .i64 3,.int .i64 x.ep,.string x.fn,.string x.ft,.string x.km.nm,.string x.km.tl,.string x.km.ar,.slice ai x.ls.length ci,.int .i64 x.cd,.string x.tx]] w fun e w'=>IsT (EntOk x) (entL x) e/\Below w.heap.size w w':=by
 obtain ⟨f1,f2,⟨m1,m2,m3⟩,⟨hl,hs⟩,f3⟩:=hle;have hB0:∀ o,Below w.heap.size w (w.alloc o):=fun o=>bA_;go_enter func35,ntmps35
 go_wp2_with fail
 refine (c59 3 x.ep x.cd 0 0 0 x.fn x.ft x.km.nm x.km.tl x.km.ar x.tx x.fn ⟨#[]⟩ ⟨#[]⟩ ⟨#[]⟩ ⟨#[]⟩ ⟨#[]⟩ ai none x.ls.length 0 ci 0 _ hl om_).mono ?_;rintro e w1 ⟨⟨r,rfl,hr⟩,hb1⟩;have HR:Hid (r=true↔x=eDrop x.fn):=hr.trans (sm_3 hk);have hx1:Below (w.heap.size+1) (w.alloc (.cells #[.int .i64 3,.int .i64 x.ep,.string x.fn,.string x.ft,.string x.km.nm,.string x.km.tl,.string x.km.ar,.slice ai x.ls.length ci,.int .i64 x.cd,.string x.tx] 47)) w1:=by have h:=hb1;simp at h;exact h
 have hB1:Below w.heap.size w w1:=(hB0 _).trans (hx1.mono om_);have bA:=(blk_new w [.int .i64 3,.int .i64 x.ep,.string x.fn,.string x.ft,.string x.km.nm,.string x.km.tl,.string x.km.ar,.slice ai x.ls.length ci,.int .i64 x.cd,.string x.tx] 47).below hx1 om_;have hz1:w.heap.size<w1.heap.size:=by have h:=hx1.size;simp at h;omega
 clear hr hb1 hx1;have k1:=bA 2 _ rfl;cases r
 · have HN:Hid (IsT (EntOk x) (entL x) (.returned (.string ⟨#[]⟩))):=isT_no (fun h=>absurd (HR.out.2 ((ok_3 hk).1 h).1) Bool.false_ne_true)
   go_wp2;go_ret;exact ⟨HN.out,hB1⟩
 · have HQ:Hid (x=eDrop x.fn):=HR.out.1 rfl
   go_wp2_with fail
   refine (c62 x.fn _ om_).mono ?_;rintro e w0 ⟨rfl,hw⟩;obtain rfl:=hw.symm;cases h3:nameOk x.fn.data.toList
   · have HN:Hid (IsT (EntOk x) (entL x) (.returned (.string ⟨#[]⟩))):=isT_no (fun h=>by have h1:=((ok_3 hk).1 h).2;rw [h3] at h1;cases h1)
     go_wp2;go_ret;exact ⟨HN.out,hB1⟩
   · have HOK:Hid (EntOk x):=(ok_3 hk).2 ⟨HQ.out,h3⟩
     have z0:=(name_len h3).2;have z1:x.fn.size<=20:=by simpa using z0
     have k0:¬ 9223372036854775807<5+x.fn.size:=om_;have k2:¬ 9223372036854775807<5+x.fn.size+1:=om_;have k2':¬ 9223372036854775807<=5+x.fn.size:=om_;have k3:¬ (16000:Int)<5+(x.fn.size:Int)+1:=om_;have HE:Hid ((⟨#[100,114,111,112,32]⟩:ByteArray)++x.fn++⟨#[10]⟩=ofL (entL x)):=by show _=_;rw [ent_3,<- HQ.out]
     clear h3;go_wp2;go_ret;exact ⟨⟨_,rfl,.inl ⟨HOK.out,HE.out⟩⟩,hB1⟩
theorem c35_5 (x:N10) (hk:x.kd=5) (ai:Option Addr) (ci:Nat) (w:World) (hle:x.le 1048576) (hat:LksAt w ai x.ls):
 Calls prog 35 #[.agg #[.int .i64 5,.int .i64 x.ep,.string x.fn,.string x.ft,.string x.km.nm,.string x.km.tl,.string x.km.ar,.slice ai x.ls.length ci,.int .i64 x.cd,.string x.tx]] w fun e w'=>IsT (EntOk x) (entL x) e/\Below w.heap.size w w':=by
 obtain ⟨f1,f2,⟨m1,m2,m3⟩,⟨hl,hs⟩,f3⟩:=hle;have hB0:∀ o,Below w.heap.size w (w.alloc o):=fun o=>bA_;go_enter func35,ntmps35
 go_wp2_with fail
 refine (c59 5 x.ep x.cd 0 0 0 x.fn x.ft x.km.nm x.km.tl x.km.ar x.tx ⟨#[]⟩ ⟨#[]⟩ ⟨#[]⟩ ⟨#[]⟩ ⟨#[]⟩ ⟨#[]⟩ ai none x.ls.length 0 ci 0 _ hl om_).mono ?_;rintro e w1 ⟨⟨r,rfl,hr⟩,hb1⟩;have HR:Hid (r=true↔x=eClear):=hr.trans (sm_5 hk);have hx1:Below (w.heap.size+1) (w.alloc (.cells #[.int .i64 5,.int .i64 x.ep,.string x.fn,.string x.ft,.string x.km.nm,.string x.km.tl,.string x.km.ar,.slice ai x.ls.length ci,.int .i64 x.cd,.string x.tx] 47)) w1:=by have h:=hb1;simp at h;exact h
 have hB1:Below w.heap.size w w1:=(hB0 _).trans (hx1.mono om_);have bA:=(blk_new w [.int .i64 5,.int .i64 x.ep,.string x.fn,.string x.ft,.string x.km.nm,.string x.km.tl,.string x.km.ar,.slice ai x.ls.length ci,.int .i64 x.cd,.string x.tx] 47).below hx1 om_;have hz1:w.heap.size<w1.heap.size:=by have h:=hx1.size;simp at h;omega
 clear hr hb1 hx1;cases r
 · have HN:Hid (IsT (EntOk x) (entL x) (.returned (.string ⟨#[]⟩))):=isT_no (fun h=>absurd (HR.out.2 ((ok_5 hk).1 h)) Bool.false_ne_true)
   go_wp2;go_ret;exact ⟨HN.out,hB1⟩
 · have HQ:Hid (x=eClear):=HR.out.1 rfl
   have HOK:Hid (EntOk x):=(ok_5 hk).2 HQ.out;have HE:Hid ((⟨#[99,108,101,97,114,10]⟩:ByteArray)=ofL (entL x)):=by show _=_;rw [ent_5,<- HQ.out]
   go_wp2;go_ret;exact ⟨⟨_,rfl,.inl ⟨HOK.out,HE.out⟩⟩,hB1⟩
theorem c35_no (x:N10) (ai:Option Addr) (ci:Nat) (w:World) (h1:¬ x.kd=1) (h2:¬ x.kd=2) (h3:¬ x.kd=3) (h4:¬ x.kd=4) (h5:¬ x.kd=5):
 Calls prog 35 #[.agg #[.int .i64 x.kd,.int .i64 x.ep,.string x.fn,.string x.ft,.string x.km.nm,.string x.km.tl,.string x.km.ar,.slice ai x.ls.length ci,.int .i64 x.cd,.string x.tx]] w fun e w'=>IsT (EntOk x) (entL x) e/\Below w.heap.size w w':=by
 have hB0:∀ o,Below w.heap.size w (w.alloc o):=fun o=>bA_;have HN:Hid (IsT (EntOk x) (entL x) (.returned (.string ⟨#[]⟩))):=isT_no (fun h=>by rcases kd_cases h with h | h | h | h | h <;> contradiction);go_enter func35,ntmps35;go_wp2;go_ret;exact ⟨HN.out,hB0 _⟩
end Go.Proofs.YtlckdgjfniglfaaGreatDoor

import Derived.Test.YtdjaajjndfbpmaaGreatDoorZ27
import Derived.Test.YtdjaajjndfbpmaaGreatDoorZ26
import Derived.Test.YtdjaajjndfbpmaaGreatDoorZ21
set_option linter.unusedVariables false
set_option maxHeartbeats 8000000
namespace Go.Proofs.YtdjaajjndfbpmaaGreatDoor
open Go.RowKit
variable {b:UInt8} {a l r:List UInt8}
theorem Co (h:b∉l) (P:List (List UInt8)) (q:List UInt8):l.foldl (cst b) (P,q)=(P,q++l):=by
 induction l generalizing q with
 | nil=>simp
 | cons c l ih=>
  have d:c≠b:=fun e=>h (by simp [e]);rw [Qu];have:cst b (P,q) c=(P,q++[c]):=by unfold cst;rw [if_neg d]
  rw [this,ih (fun a=>h (Fg _ a)),y_];rfl
theorem Vv (b:UInt8) (l:List UInt8) (P Q:List (List UInt8)) (q:List UInt8):l.foldl (cst b) (P++Q,q)=(P++(l.foldl (cst b) (Q,q)).1,(l.foldl (cst b) (Q,q)).2):=by
 induction l generalizing Q q with
 | nil=>rfl
 | cons c l ih=>
  rw [Qu,Qu];by_cases a:c=b
  · have e:cst b (P++Q,q) c=(P++(Q++[q]),[]):=by unfold cst;rw [if_pos a,List.append_assoc]
    have d:cst b (Q,q) c=(Q++[q],[]):=by unfold cst;rw [if_pos a]
    rw [e,d,ih]
  have e:cst b (P++Q,q) c=(P++Q,q++[c]):=by unfold cst;rw [if_neg a]
  have d:cst b (Q,q) c=(Q,q++[c]):=by unfold cst;rw [if_neg a]
  rw [e,d,ih]
theorem VK (h:b∉l):E8 b l=[l]:=by
 unfold E8 M5;rw [Co h];rfl
theorem xJ (h:b∉a):E8 b (a++b::r)=a::E8 b r:=by
 unfold E8 M5;rw [Ev,Co h,Qu];have e:cst b ([],[]++a) b=([a]++[],[]):=by unfold cst;rw [if_pos rfl];simp
 rw [e,Vv];simp
theorem JL (l:List UInt8):(Lib.index l [10]=-1/\(10:UInt8)∉l)\/(∃ i:Nat,Lib.index l [10]=i/\i<l.length/\l=l.take i++10::l.drop (i+1)/\(10:UInt8)∉l.take i):=by
 rw [Lib.index_one];have hge:=Lib.indexByte_ge l 10;by_cases h:Lib.indexByte l 10=-1
 · refine .inl ⟨h,fun a=>?_⟩
   obtain ⟨k,c,e⟩:=Lb a;exact Lib.indexByte_none h k (by rw [F8 c,e])
 obtain ⟨o,ho⟩:∃ o:Nat,Lib.indexByte l 10=o:=⟨(Lib.indexByte l 10).toNat,O0⟩;obtain ⟨h1,h2⟩:=Lib.indexByte_some ho;have b:o<l.length:=by
  rcases U5 o l.length with h | h
  · exact h
  rw [Xe h] at h1;cases h1
 refine .inr ⟨o,ho,b,?_,fun a=>?_⟩
 · have hx:l[o]=10:=by rw [F8 b] at h1;exact j6 h1
   conv=>lhs;rw [<- Io o l,Vs b,hx]
 obtain ⟨k,c,e⟩:=Lb a;rw [Jk] at c;rw [QA] at e;exact h2 k O0 (by rw [F8 O0,e])
theorem QE (f:Nat):∀ l:List UInt8,l.length<f->Lib.splitK [10] 0 (Lib.countFrom [10] f l) l=E8 10 l/\(E8 10 l).length=Lib.countFrom [10] f l+1:=by
 induction f with
 | zero=>intro l h;omega
 | succ f ih=>
  intro l h;rcases JL l with ⟨a,b⟩ | ⟨i,a,hl,g,b⟩
  · have c:Lib.countFrom [10] (f+1) l=0:=by rw [Lib.countFrom,a];rfl
    rw [c,VK b];exact ⟨rfl,rfl⟩
  have d:¬ ((i:Int)==-1)=true:=fun e=>by have:=Vf.1 e;omega
  obtain ⟨h1,h2⟩:=ih (l.drop (i+1)) (by rw [Yn];omega);have c:Lib.countFrom [10] (f+1) l=Lib.countFrom [10] f (l.drop (i+1))+1:=by
   rw [Lib.countFrom,a,R3 d,Nat.add_comm];rfl
  have hcut:E8 10 l=l.take i::E8 10 (l.drop (i+1)):=by
   conv=>lhs;rw [g]
   exact xJ b
  rw [c,hcut];refine ⟨?_,by rw [u_,h2]⟩;rw [Lib.splitK,a,R3 d,<- h1];rfl
theorem c196 (s:ByteArray) (w:World) (hs:s.size<=1048700) (a:Z9 w):
 Calls Tryz.prog 196 #[.string s,.string ⟨#[10]⟩] w fun e w'=>(e=.returned (.slice (some ⟨w.heap.size,0,none⟩) (E8 10 s.data.toList).length (E8 10 s.data.toList).length)/\K7 w' w.heap.size (E8 10 s.data.toList))/\Below w.heap.size w w':=by
 obtain ⟨_,m,a⟩:=a;obtain ⟨h1,h2⟩:=QE (s.data.toList.length+1) s.data.toList O0;have c:=Zu ((qz ⟨#[10]⟩ 0 (Lib.countB s ⟨#[10]⟩) s).trans h1);have d:Lib.countB s ⟨#[10]⟩+1=(E8 10 s.data.toList).length:=h2.symm;refine (Tryz.strings_Split s ⟨#[10]⟩ m w O0 a K3).mono ?_;rintro e w' ⟨rfl,rfl⟩;rw [c,d];refine ⟨⟨rfl,X0,fun i b=>?_⟩,bA⟩;simp [b]
end Go.Proofs.YtdjaajjndfbpmaaGreatDoor
namespace Go.Proofs.YtdjaajjndfbpmaaGreatDoor.G
open Go.RowKit
open T (F2 P6 X3 Asc)
variable {fs:List F2} {ms:List M3}
def Rf:ByteArray:=⟨#[112,108,97,110]⟩
def Oa (fs:List F2) (nm:ByteArray):Prop:=∀ j,j<fs.length->(fs.getD j P6).nm≠nm
def Tc (fs:List F2) (ms:List M3):Prop:=∀ i,i<ms.length->Oa fs (ms.getD i N7).nm
def H6 (fs:List F2) (ms:List M3):Prop:=
 (¬ X3 fs/\ms=[])\/(X3 fs/\Oa fs Rf/\ms=[])\/
 (X3 fs/\∃ i,i<fs.length/\(fs.getD i P6).nm=Rf/\∃ ks ok,U9 (fs.getD i P6).tx.data.toList ks ok/\((ok=true/\Tc fs ks/\ms=ks)\/(¬ (ok=true/\Tc fs ks)/\ms=[])))
theorem Ht (h:X3 fs) {i j:Nat} (c:i<fs.length) (b:j<fs.length) (e:(fs.getD i P6).nm=(fs.getD j P6).nm):i=j:=by
 have a:=T.di h;rcases yo i j with h1 | h1 | h1
 · have:=a i j h1 b
   rw [e,T.N_] at this;cases this
 · exact h1
 have:=a j i h1 c;rw [e,T.N_] at this;cases this
theorem o_ {e:List M3} (h:H6 fs ms) (k:H6 fs e):ms=e:=by
 rcases h with ⟨h1,rfl⟩ | ⟨h1,h2,rfl⟩ | ⟨h1,i,l,g,ks,ok,p,n⟩
 · rcases k with ⟨_,rfl⟩ | ⟨a,_⟩ | ⟨a,_⟩
   · rfl
   · exact absurd a h1
   exact absurd a h1
 · rcases k with ⟨a,_⟩ | ⟨_,_,rfl⟩ | ⟨_,j,c,b,_⟩
   · exact absurd h1 a
   · rfl
   exact absurd b (h2 j c)
 rcases k with ⟨a,_⟩ | ⟨_,m,_⟩ | ⟨_,j,c,b,ks',ok',o,f⟩
 · exact absurd h1 a
 · exact absurd g (m i l)
 obtain rfl:=Ht h1 l c (g.trans b.symm);obtain ⟨rfl,rfl⟩:=NA p o;rcases n with ⟨d,a2,rfl⟩ | ⟨d,rfl⟩
 · rcases f with ⟨_,_,rfl⟩ | ⟨b1,_⟩
   · rfl
   exact absurd ⟨d,a2⟩ b1
 rcases f with ⟨b1,b2,_⟩ | ⟨_,rfl⟩
 · exact absurd ⟨b1,b2⟩ d
 rfl
theorem Ak {l:List UInt8} {ok:Bool} (h:U9 l ms ok):ms.length<=300/\∀ i,(ms.getD i N7).le 300:=by
 cases ok
 · rw [(h.2 rfl).1]
   exact ⟨I5 _,fun i=>⟨I5 _,I5 _,I5 _⟩⟩
 obtain ⟨h1,h2,h3⟩:=h.1 rfl;have:=Ri ms;rw [h2] at this;exact ⟨O0,zo fun i a=>kG (sw (Be h1) a)⟩
theorem WE (h:H6 fs ms):ms.length<=300:=by
 rcases h with ⟨_,rfl⟩ | ⟨_,_,rfl⟩ | ⟨_,i,hi,hn,ks,ok,b,a⟩
 · exact I5 _
 · exact I5 _
 rcases a with ⟨_,_,rfl⟩ | ⟨_,rfl⟩
 · exact (Ak b).1
 exact I5 _
end Go.Proofs.YtdjaajjndfbpmaaGreatDoor.G
namespace Go.Proofs.YtdjaajjndfbpmaaGreatDoor
open Proofs.Tryz
open Go.RowKit
variable {b base pl:Nat} {arg:ByteArray} {rv:Value} {w:World}
def RC.tn (r:RC):TN:=⟨r.over,r.code,r.text,r.has,r.name,r.steps⟩
def ST.up (s:ST):ST:=⟨s.hand,s.out,s.pc+1,s.looks,s.steps+1⟩
def Si (p v:Value) (arg:ByteArray) (rv:Value) (pl:Nat) (s:ST):RC:=⟨p,v,s.hand,arg,rv,s.looks,pl,s.pc,false,false,0,⟨#[]⟩,false,⟨#[]⟩,s.steps⟩
def Live (base b:Nat) (arg:ByteArray) (rv:Value) (pl:Nat) (w:World) (s:ST):Prop:=∃ p v,St base b w (Si p v arg rv pl s) s.out
def Dead (b:Nat) (w:World) (t:TN):Prop:=∃ r:RC,E5 w b r/\r.halted=true/\r.tn=t
def After (base b:Nat) (arg:ByteArray) (rv:Value) (pl:Nat) (w:World):ST ⊕ TN->Prop
 | .inl s=>Live base b arg rv pl w s
 | .inr t=>Dead b w t
theorem Rb {x:ST ⊕ TN} {s:ST} (e:x=.inl s) (h:Live base b arg rv pl w s):After base b arg rv pl w x:=by rw [e];exact h
theorem Ob {x:ST ⊕ TN} {t:TN} (e:x=.inr t) (h:Dead b w t):After base b arg rv pl w x:=by rw [e];exact h
def Er (base b:Nat) (w:World) (a:Option Addr) (rs:List R2):Prop:=rs=[]\/∃ rb off,a=some ⟨rb,off,none⟩/\rb<base/\rb≠b/\∀ i,i<rs.length->w.cell? ⟨rb,off+i*2,none⟩=some (.int .i64 (rs.getD i Jc).code)/\w.cell? ⟨rb,off+i*2+1,none⟩=some (.string (rs.getD i Jc).tx)
structure Met (base b:Nat) (arg:ByteArray) (nR:List R2) (a2:Option Addr) (cap2:Nat) (s:ST) (tx:ByteArray) (to:Int) (w:World):Prop where
 fit:Fit nR s
 ok:Tp nR=true
 len:nR.length<=14
 rep:Er base b w a2 nR
 max:1<base/\b≠1/\Z9 w
 uY:arg.size<=300
 htx:tx.size<=300
 RU:0<=to
 TU:to<=40
 pc:s.pc<=40
 steps:s.steps<200
 live:Live base b arg (.slice a2 nR.length cap2) s.pc w s.up
def eF (f:Nat) (op:Int):Prop:=∀ (base b:Nat) (arg:ByteArray) (nR:List R2) (a2:Option Addr) (cap2:Nat) (s:ST) (tx:ByteArray) (to:Int) (w:World),Met base b arg nR a2 cap2 s tx to w->
 Calls prog f #[.pointer (some ⟨b,0,none⟩),.agg #[.int .i64 op,.string tx,.int .i64 to]] w fun e w'=>e=.returned (.tuple #[])/\After base b arg (.slice a2 nR.length cap2) s.pc w' (act arg nR ⟨op,tx,to⟩ s)/\Kp base b w w'
theorem tQ:eF 174 1:=by
 intro base b arg nR a2 cap2 s tx to w a;obtain ⟨p,v,c⟩:=a.live;have e:Hid (St base b w (Si p v arg (.slice a2 nR.length cap2) s.pc s.up) s.out):=c;have c2:w.cell? ⟨b,2,none⟩=some (.string s.hand):=U3 c.run 2;have f2:=V6 c.run 2;have hlt:=C_ c.run;have d:=c.le;obtain ⟨n,rfl⟩:=A8 a.RU;have hto:=a.TU;have htx:=a.htx;have hpc:=a.pc;obtain ⟨g1,g2,g3,g4,g5,g6⟩:=a.fit;clear c a;go_enter func174,ntmps174;go_wp2
 go_end0
 refine ⟨rfl,Rb aK ⟨p,v,?_⟩,(((Kp.refl base b w).set 2 _).alloc (by simpa using d) _)⟩;refine St.below ?_ (bA);exact e.out.set 2 _ rfl rfl rfl
theorem WQ:eF 175 2:=by
 intro base b arg nR a2 cap2 s tx to w a;obtain ⟨p,v,c⟩:=a.live;have e:Hid (St base b w (Si p v arg (.slice a2 nR.length cap2) s.pc s.up) s.out):=c;have c2:w.cell? ⟨b,2,none⟩=some (.string s.hand):=U3 c.run 2;have cx3:w.cell? ⟨b,3,none⟩=some (.string arg):=U3 c.run 3;have f2:=V6 c.run 2;have hlt:=C_ c.run;have d:=c.le;obtain ⟨n,rfl⟩:=A8 a.RU;have hto:=a.TU;have htx:=a.htx;have hpc:=a.pc;obtain ⟨g1,g2,g3,g4,g5,g6⟩:=a.fit;clear c a;go_enter func175,ntmps175;go_wp2
 go_end0
 refine ⟨rfl,Rb cK ⟨p,v,?_⟩,(((Kp.refl base b w).set 2 _).alloc (by simpa using d) _)⟩;refine St.below ?_ (bA);exact e.out.set 2 _ rfl rfl rfl
theorem oQ:eF 176 3:=by
 intro base b arg nR a2 cap2 s tx to w g;obtain ⟨p,v,l⟩:=g.live;have u:Hid (St base b w (Si p v arg (.slice a2 nR.length cap2) s.pc s.up) s.out):=l;have c2:w.cell? ⟨b,2,none⟩=some (.string s.hand):=U3 l.run 2;have f2:=V6 l.run 2;have hlt:=C_ l.run;have j:=l.le;obtain ⟨n,rfl⟩:=A8 g.RU;have hto:=g.TU;have htx:=g.htx;have hpc:=g.pc;obtain ⟨g1,g2,g3,g4,g5,g6⟩:=g.fit;have S:=Q0 g.rep;have W:=g.len;clear l g;by_cases z:J2 s.hand.data.toList=false
 · have f:=Q0 z
   clear z;have d:E5 (w.alloc (.cells #[.int .i64 3,.string tx,.int .i64 n] 165)) b (Si p v arg (.slice a2 nR.length cap2) s.pc s.up):=K6 u.out.run _;go_enter func176,ntmps176
   go_wp2_with fail
   refine (kK b _ false _ d g1 f.out).mono ?_;rintro e w1 ⟨rfl,h1,a⟩;have x:Hid (E5 w1 b _):=h1;have c:=Q0 (((Kp.refl base b w).alloc j _).trans (a.mono J4));have h:=Z4 j c.out.size;clear h1 a d;go_wp2;refine K4 (ig rfl _ _ _) rfl ?_;exact ⟨rfl,Ob (Us.trans (Zf f.out)) ⟨_,K6 x.out _,rfl,rfl⟩,c.out.alloc h _⟩
 have f:Hid (J2 s.hand.data.toList=true):=by simpa [Hid] using z
 clear z;by_cases F:14<=s.looks
 · have i:=Q0 F
   have d:E5 (w.alloc (.cells #[.int .i64 3,.string tx,.int .i64 n] 165)) b (Si p v arg (.slice a2 nR.length cap2) s.pc s.up):=K6 u.out.run _;go_enter func176,ntmps176
   go_wp2_with fail
   refine (JJ b _ false _ d g1 f.out (by show ((s.looks:Nat):Int)=14;omega)).mono ?_;rintro e w1 ⟨rfl,h1,a⟩;have x:Hid (E5 w1 b _):=h1;have c:=Q0 (((Kp.refl base b w).alloc j _).trans (a.mono J4));have h:=Z4 j c.out.size;clear h1 a d;go_wp2;refine K4 (ig rfl _ _ _) rfl ?_;exact ⟨rfl,Ob (Us.trans (lh f.out i.out)) ⟨_,K6 x.out _,rfl,rfl⟩,c.out.alloc h _⟩
 have C:=Q0 F;by_cases E:nR.length<=s.looks
 · have i:=Q0 E
   have X:s.looks=nR.length:=O0;have d:E5 (w.alloc (.cells #[.int .i64 3,.string tx,.int .i64 n] 165)) b (Si p v arg (.slice a2 nR.length cap2) s.pc s.up):=K6 u.out.run _;go_enter func176,ntmps176
   go_wp2_with fail
   refine (fK b _ false _ d g1 f.out a2 nR.length cap2 (by show ((s.looks:Nat):Int)=_;rw [X]) O0 rfl).mono ?_;rintro e w1 ⟨rfl,h1,a⟩;have x:Hid (E5 w1 b _):=h1;have c:=Q0 (((Kp.refl base b w).alloc j _).trans (a.mono J4));have h:=Z4 j c.out.size;clear h1 a d;go_wp2;refine K4 (ig rfl _ _ _) rfl ?_;exact ⟨rfl,Ob (Us.trans (Cj f.out C.out i.out)) ⟨_,K6 x.out _,rfl,rfl⟩,c.out.alloc h _⟩
 have H:=Q0 E;have A:s.looks<nR.length:=O0;rcases S.out with V | ⟨k,o,Z,hrb,a2i,Q⟩
 · rw [V] at A;exact absurd A (F5 _)
 subst Z;obtain ⟨O,N⟩:=Q s.looks A;have P:k<w.heap.size:=O0;have L:=past (p:=⟨k,o+s.looks*2,none⟩) P O;have K:=past (p:=⟨k,o+s.looks*2+1,none⟩) P N;generalize hy:nR.getD s.looks Jc=y at*;have m:=Q0 hy;clear hy Q S F E;have d:E5 (w.alloc (.cells #[.int .i64 3,.string tx,.int .i64 n] 165)) b (Si p v arg (.slice (some ⟨k,o,none⟩) nR.length cap2) s.pc s.up):=K6 u.out.run _;go_enter func176,ntmps176
 go_wp2_with fail
 refine (FJ b _ false _ d g1 f.out k o nR.length cap2 s.looks y rfl O0 A rfl W J4 (L _) (K _)).mono ?_;rintro e w1 ⟨rfl,h1,a⟩;have t:Hid (St base b w1 (Si p v arg (.slice (some ⟨k,o,none⟩) nR.length cap2) s.pc ⟨s.hand,s.out,s.pc+1,s.looks+1,s.steps+1⟩) s.out):=(u.out.below ((F4 _ _).alloc P9 (.cells #[.int .i64 3,.string tx,.int .i64 n] 165))).kp a h1 rfl rfl;have c:=Q0 (((Kp.refl base b w).alloc j _).trans (a.mono J4));have d2:w1.cell? ⟨b,2,none⟩=some (.string s.hand):=U3 t.out.run 2;have e2:=V6 t.out.run 2;have hz1:w.heap.size+1<=w1.heap.size:=by have:=a.size;simpa using this
 have h:base<=w1.heap.size:=O0;have hlt1:b<w1.heap.size:=O0;clear h1 a d O N L K c2 f2;by_cases r:y.code=4
 · have i:=Q0 r
   have R:(y.code==0)=false:=by rw [r];rfl
   have Y:(y.code==4)=true:=by rw [r];rfl
   go_wp2_with fail
   refine (Wx base b _ 4 s.hand _ (K6 t.out.run _)).mono ?_;rintro e D ⟨rfl,h2,q⟩;have J:Hid (E5 D b _):=h2;have I:=Q0 ((c.out.alloc h _).trans q);clear h2 q;go_wp2
   go_end0
   exact ⟨rfl,Ob (Us.trans (IB f.out C.out H.out (by rw [m.out];exact i.out))) ⟨_,J.out,rfl,rfl⟩,I.out⟩
 have U:=Q0 r;by_cases B:y.code=0
 · have i:=Q0 B
   have R:(y.code==0)=true:=by rw [B];rfl
   go_wp2
   go_end0
   refine ⟨rfl,Rb (Us.trans (iB f.out C.out H.out (by rw [m.out];exact U.out) (by rw [m.out];exact i.out))) ⟨p,v,?_⟩,(c.out.set 2 _).alloc (by simpa using h) _⟩;rw [m.out];refine St.below ?_ bA;exact t.out.set 2 _ rfl rfl rfl
 have i:=Q0 B;have R:(y.code==0)=false:=by simpa using B
 have Y:(y.code==4)=false:=by simpa using r
 go_wp2_with fail
 refine (Wx base b _ 5 s.hand _ (K6 t.out.run _)).mono ?_;rintro e D ⟨rfl,h2,q⟩;have J:Hid (E5 D b _):=h2;have I:=Q0 ((c.out.alloc h _).trans q);clear h2 q;go_wp2
 go_end0
 exact ⟨rfl,Ob (Us.trans (vC f.out C.out H.out (by rw [m.out];exact U.out) (by rw [m.out];exact i.out))) ⟨_,J.out,rfl,rfl⟩,I.out⟩
theorem mQ:eF 177 4:=by
 intro base b arg nR a2 cap2 s tx to w g;obtain ⟨p,v,m⟩:=g.live;have o:Hid (St base b w (Si p v arg (.slice a2 nR.length cap2) s.pc s.up) s.out):=m;have c2:w.cell? ⟨b,2,none⟩=some (.string s.hand):=U3 m.run 2;have S:=V6 m.run 2;have hlt:=C_ m.run;have j:=m.le;obtain ⟨n,rfl⟩:=A8 g.RU;have hto:=g.TU;have htx:=g.htx;have hpc:=g.pc;obtain ⟨g1,g2,g3,g4,g5,g6⟩:=g.fit;have K:=Q0 g.rep;have O:=g.len;clear m g;by_cases r:J2 s.hand.data.toList=false
 · have f:=Q0 r
   clear r;have c:E5 (w.alloc (.cells #[.int .i64 4,.string tx,.int .i64 n] 165)) b (Si p v arg (.slice a2 nR.length cap2) s.pc s.up):=K6 o.out.run _;go_enter func177,ntmps177
   go_wp2_with fail
   refine (kK b _ true _ c g1 f.out).mono ?_;rintro e w1 ⟨rfl,h1,a⟩;have q:Hid (E5 w1 b _):=h1;have d:=Q0 (((Kp.refl base b w).alloc j _).trans (a.mono J4));have h:=Z4 j d.out.size;clear h1 a c;go_wp2;refine K4 (ig rfl _ _ _) rfl ?_;exact ⟨rfl,Ob (qy.trans (Zf f.out)) ⟨_,K6 q.out _,rfl,rfl⟩,d.out.alloc h _⟩
 have f:Hid (J2 s.hand.data.toList=true):=by simpa [Hid] using r
 clear r;by_cases A:14<=s.looks
 · have k:=Q0 A
   have c:E5 (w.alloc (.cells #[.int .i64 4,.string tx,.int .i64 n] 165)) b (Si p v arg (.slice a2 nR.length cap2) s.pc s.up):=K6 o.out.run _;go_enter func177,ntmps177
   go_wp2_with fail
   refine (JJ b _ true _ c g1 f.out (by show ((s.looks:Nat):Int)=14;omega)).mono ?_;rintro e w1 ⟨rfl,h1,a⟩;have q:Hid (E5 w1 b _):=h1;have d:=Q0 (((Kp.refl base b w).alloc j _).trans (a.mono J4));have h:=Z4 j d.out.size;clear h1 a c;go_wp2;refine K4 (ig rfl _ _ _) rfl ?_;exact ⟨rfl,Ob (qy.trans (lh f.out k.out)) ⟨_,K6 q.out _,rfl,rfl⟩,d.out.alloc h _⟩
 have B:=Q0 A;by_cases z:nR.length<=s.looks
 · have k:=Q0 z
   have P:s.looks=nR.length:=O0;have c:E5 (w.alloc (.cells #[.int .i64 4,.string tx,.int .i64 n] 165)) b (Si p v arg (.slice a2 nR.length cap2) s.pc s.up):=K6 o.out.run _;go_enter func177,ntmps177
   go_wp2_with fail
   refine (fK b _ true _ c g1 f.out a2 nR.length cap2 (by show ((s.looks:Nat):Int)=_;rw [P]) O0 rfl).mono ?_;rintro e w1 ⟨rfl,h1,a⟩;have q:Hid (E5 w1 b _):=h1;have d:=Q0 (((Kp.refl base b w).alloc j _).trans (a.mono J4));have h:=Z4 j d.out.size;clear h1 a c;go_wp2;refine K4 (ig rfl _ _ _) rfl ?_;exact ⟨rfl,Ob (qy.trans (Cj f.out B.out k.out)) ⟨_,K6 q.out _,rfl,rfl⟩,d.out.alloc h _⟩
 have L:=Q0 z;have t:s.looks<nR.length:=O0;rcases K.out with N | ⟨i,l,R,hrb,a2i,I⟩
 · rw [N] at t;exact absurd t (F5 _)
 subst R;obtain ⟨F,E⟩:=I s.looks t;have H:i<w.heap.size:=O0;have D:=past (p:=⟨i,l+s.looks*2,none⟩) H F;have C:=past (p:=⟨i,l+s.looks*2+1,none⟩) H E;generalize hy:nR.getD s.looks Jc=y at*;have J:=Q0 hy;clear hy I K A z;have c:E5 (w.alloc (.cells #[.int .i64 4,.string tx,.int .i64 n] 165)) b (Si p v arg (.slice (some ⟨i,l,none⟩) nR.length cap2) s.pc s.up):=K6 o.out.run _;go_enter func177,ntmps177
 go_wp2_with fail
 refine (FJ b _ true _ c g1 f.out i l nR.length cap2 s.looks y rfl O0 t rfl O J4 (D _) (C _)).mono ?_;rintro e w1 ⟨rfl,h1,a⟩;have x:Hid (St base b w1 (Si p v arg (.slice (some ⟨i,l,none⟩) nR.length cap2) s.pc ⟨s.hand,s.out,s.pc+1,s.looks+1,s.steps+1⟩) s.out):=(o.out.below ((F4 _ _).alloc P9 (.cells #[.int .i64 4,.string tx,.int .i64 n] 165))).kp a h1 rfl rfl;have d:=Q0 (((Kp.refl base b w).alloc j _).trans (a.mono J4));have d2:w1.cell? ⟨b,2,none⟩=some (.string s.hand):=U3 x.out.run 2;have e2:=V6 x.out.run 2;have hz1:w.heap.size+1<=w1.heap.size:=by have:=a.size;simpa using this
 have h:base<=w1.heap.size:=O0;have hlt1:b<w1.heap.size:=O0;clear h1 a c F E D C c2 S;by_cases u:y.code=4
 · have k:=Q0 u
   have Q:(y.code==4)=true:=by rw [u];rfl
   go_wp2
   go_end0
   refine ⟨rfl,Rb (qy.trans (uC f.out B.out L.out (by rw [J.out];exact k.out))) ⟨p,v,?_⟩,((d.out.set 2 _).set 2 _).alloc (by simpa using h) _⟩;refine St.below ?_ bA;have h1:St base b (w1.setCell ⟨b,2,none⟩ (.string ⟨#[49]⟩)) (Si p v arg (.slice (some ⟨i,l,none⟩) nR.length cap2) s.pc ⟨⟨#[49]⟩,s.out,s.pc+1,s.looks+1,s.steps+1⟩) s.out:=x.out.set 2 _ rfl rfl rfl;exact h1.set 2 _ rfl rfl rfl
 have k:=Q0 u;have Q:(y.code==4)=false:=by simpa using u
 go_wp2
 go_end0
 refine ⟨rfl,Rb (qy.trans (vB f.out B.out L.out (by rw [J.out];exact k.out))) ⟨p,v,?_⟩,(d.out.set 2 _).alloc (by simpa using h) _⟩;refine St.below ?_ bA;exact x.out.set 2 _ rfl rfl rfl
theorem BQ:eF 178 5:=by
 intro base b arg nR a2 cap2 s tx to w a;obtain ⟨p,v,d⟩:=a.live;have o:Hid (St base b w (Si p v arg (.slice a2 nR.length cap2) s.pc s.up) s.out):=d;have c2:w.cell? ⟨b,2,none⟩=some (.string s.hand):=U3 d.run 2;have hlt:=C_ d.run;have k:=d.le;obtain ⟨n,rfl⟩:=A8 a.RU;have hto:=a.TU;have htx:=a.htx;have hpc:=a.pc;obtain ⟨g1,g2,g3,g4,g5,g6⟩:=a.fit;clear d a;have m:=o.out.below ((F4 _ w).alloc P9 (.cells #[.int .i64 5,.string tx,.int .i64 n] 165)).drew;have i:Hid (St base b _ _ s.out):=m;clear m;have hwr:IntKind.i64.wrap ((s.out.length:Int)+(s.hand.size:Int))=(s.out.length:Int)+(s.hand.size:Int):=by simp [IntKind.wrap,IntKind.signed,IntKind.bits];omega
 by_cases l:300<s.out.length+s.hand.size
 · have g:=Q0 l
   go_enter func178,ntmps178
   go_wp2_with fail
   go_region_with (go_at_call 194;refine (KJ base b _ s.out _ i.out).mono ?_;rintro e w1 ⟨rfl,hw⟩;obtain rfl:=hw.symm)
   all_goals
    go_wp2_with fail
    have q:E5 (w.alloc (.cells #[.int .i64 5,.string tx,.int .i64 n] 165)).drew b (Si p v arg (.slice a2 nR.length cap2) s.pc s.up):=K6 o.out.run _;refine (uK base b _ s.pc _ q rfl O0).mono ?_;rintro e f ⟨rfl,h2,c⟩;have j:Hid (E5 f b _):=h2;have h:=Q0 ((((Kp.refl base b w).alloc k _).drew).trans c);clear h2 c q;go_wp2;refine K4 (ig rfl _ _ _) rfl ?_;exact ⟨rfl,Ob (wE g.out) ⟨_,j.out,rfl,rfl⟩,h.out⟩
 have g:=Q0 l;have hcmp:(s.out.length:Int)+(s.hand.size:Int)<=300:=O0;go_enter func178,ntmps178
 go_wp2_with fail
 go_region_with (go_at_call 194;refine (KJ base b _ s.out _ i.out).mono ?_;rintro e w1 ⟨rfl,hw⟩;obtain rfl:=hw.symm)
 all_goals
  have r:Hid (St base b (w.alloc (.cells #[.int .i64 5,.string tx,.int .i64 n] 165)).drew.drew _ s.out):=i.out.below (F4 _ _).drew
  go_wp2_with fail
  go_region_with (go_at_call 195;refine (SN base b _ s.out s.hand _ r.out O0).mono ?_;rintro e f ⟨rfl,⟨v2,h2⟩,c⟩;have j:Hid (St base b f _ _):=h2;have h:Hid (Kp base b w f):=((Kp.refl base b w).alloc k _).drew.drew.trans c;clear h2 c)
  all_goals
   go_wp2
   go_end0
   exact ⟨rfl,Rb (YF g.out) ⟨_,v2,j.out⟩,h.out⟩
theorem JQ:eF 179 6:=by
 intro base b arg nR a2 cap2 s tx to w a;obtain ⟨p,v,c⟩:=a.live;have i:Hid (St base b w (Si p v arg (.slice a2 nR.length cap2) s.pc s.up) s.out):=c;have c2:w.cell? ⟨b,2,none⟩=some (.string s.hand):=U3 c.run 2;have f2:=V6 c.run 2;have hlt:=C_ c.run;have f:=c.le;obtain ⟨n,rfl⟩:=A8 a.RU;have hto:=a.TU;have htx:=a.htx;have hpc:=a.pc;obtain ⟨g1,g2,g3,g4,g5,g6⟩:=a.fit;clear c a;by_cases h:300<s.hand.size+tx.size
 · have d:=Q0 h
   go_enter func179,ntmps179
   go_wp2_with fail
   go_region
   go_wp2_with fail
   have j:E5 (w.alloc (.cells #[.int .i64 6,.string tx,.int .i64 n] 165)).drew b (Si p v arg (.slice a2 nR.length cap2) s.pc s.up):=K6 i.out.run _;refine (uK base b _ s.pc _ j rfl O0).mono ?_;rintro e k ⟨rfl,h2,g⟩;have m:Hid (E5 k b _):=h2;have l:=Q0 ((((Kp.refl base b w).alloc f _).drew).trans g);clear h2 g j;go_wp2;refine K4 (ig rfl _ _ _) rfl ?_;exact ⟨rfl,Ob (FE d.out) ⟨_,m.out,rfl,rfl⟩,l.out⟩
 have d:=Q0 h;go_enter func179,ntmps179
 go_wp2_with fail
 go_region
 go_wp2_with fail
 go_region
 go_wp2
 go_end0
 refine ⟨rfl,Rb (KF d.out) ⟨p,v,?_⟩,(((Kp.refl base b w).set 2 _).alloc (by simpa using f) _).drew.drew⟩;refine St.below ?_ (bA.drew.drew);exact i.out.set 2 _ rfl rfl rfl
theorem CQ:eF 180 7:=by
 intro base b arg nR a2 cap2 s tx to w a;obtain ⟨p,v,c⟩:=a.live;have x:Hid (St base b w (Si p v arg (.slice a2 nR.length cap2) s.pc s.up) s.out):=c;have c2:w.cell? ⟨b,2,none⟩=some (.string s.hand):=U3 c.run 2;have u:=V6 c.run 2;have hlt:=C_ c.run;have r:=c.le;obtain ⟨n,rfl⟩:=A8 a.RU;have hto:=a.TU;have htx:=a.htx;have hpc:=a.pc;obtain ⟨g1,g2,g3,g4,g5,g6⟩:=a.fit;have y:=Q0 a.max.2.2;clear c a;obtain ⟨hc1,t⟩:=Np 10 s.hand.data.toList;have q:s.hand.data.toList.length=s.hand.size:=X0;have hc3:(E8 10 s.hand.data.toList).length<=400:=O0;have k:Hid (n<(E8 10 s.hand.data.toList).length->Vb s.hand (n:Int)=Q3 ((E8 10 s.hand.data.toList).getD n [])):=fun h=>by unfold Vb;rw [if_pos O0];rfl
 have l:Hid (¬ n<(E8 10 s.hand.data.toList).length->Vb s.hand (n:Int)=⟨#[]⟩):=fun h=>by unfold Vb;rw [if_neg O0]
 clear t q;go_enter func180,ntmps180
 go_wp2_with fail
 refine (c196 s.hand _ O0 (f_ y.out bA)).mono ?_;rintro e w1 ⟨⟨rfl,g⟩,d⟩;have j:=bA.trans (d.mono X0);have z:Hid (K7 w1 _ (E8 10 s.hand.data.toList)):=g;have f:=Q0 (x.out.below j);have d2:w1.cell? ⟨b,2,none⟩=some (.string s.hand):=U3 f.out.run 2;have e2:=V6 f.out.run 2;have i2:w1.cell? ⟨w.heap.size,2,none⟩=some (.int .i64 n):=by rw [d.cell X0];simp
 have hz1:w.heap.size+1<=w1.heap.size:=by have:=d.size;simpa using this
 have o:Hid (Kp base b w w1):=Kp.of_below j r;have hlg:=g.1;have hne:b≠w.heap.size+1:=O0;clear g d j c2 u;generalize hLL:E8 10 s.hand.data.toList=L at*;clear hLL;by_cases i:n<L.length
 · have l0:w1.cell? ⟨w.heap.size+1,n,none⟩=some (.string (Q3 (L.getD n []))):=by have:=z.out.2 n i;simpa using this
   have m:=Q0 (k.out i);clear k l;generalize L.getD n []=ln at*;go_wp2
   go_end0
   refine ⟨rfl,Rb XE ⟨p,v,?_⟩,(o.out.set 2 _).set 2 _⟩;rw [m.out];have h1:St base b (w1.setCell ⟨b,2,none⟩ (.string ⟨#[]⟩)) (Si p v arg (.slice a2 nR.length cap2) s.pc ⟨⟨#[]⟩,s.out,s.pc+1,s.looks,s.steps+1⟩) s.out:=f.out.set 2 _ rfl rfl rfl;exact h1.set 2 _ rfl rfl rfl
 have m:=Q0 (l.out i);clear k l;go_wp2
 go_end0
 refine ⟨rfl,Rb XE ⟨p,v,?_⟩,o.out.set 2 _⟩;rw [m.out];exact f.out.set 2 _ rfl rfl rfl
theorem aR:eF 181 8:=by
 intro base b arg nR a2 cap2 s tx to w a;obtain ⟨p,v,c⟩:=a.live;have g:Hid (St base b w (Si p v arg (.slice a2 nR.length cap2) s.pc s.up) s.out):=c;have c2:w.cell? ⟨b,2,none⟩=some (.string s.hand):=U3 c.run 2;have TZ:w.cell? ⟨b,7,none⟩=some (.int .i64 (s.pc+1:Nat)):=U3 c.run 7;have f7:=V6 c.run 7;have hlt:=C_ c.run;have f:=c.le;obtain ⟨n,rfl⟩:=A8 a.RU;have hto:=a.TU;have htx:=a.htx;have hpc:=a.pc;obtain ⟨g1,g2,g3,g4,g5,g6⟩:=a.fit;clear c a;by_cases d:s.hand.data.toList=tx.data.toList
 · have e:=Q0 d
   have h:(s.hand.toList==tx.toList)=true:=by rw [I7,I7];simpa using d
   clear d;go_enter func181,ntmps181
   go_wp2_with fail
   go_region
   go_wp2
   go_end0
   refine ⟨rfl,Rb (yG e.out) ⟨p,v,?_⟩,(((Kp.refl base b w).set 7 _).alloc (by simpa using f) _).drew⟩;refine St.below ?_ (bA.drew);exact g.out.set 7 _ rfl rfl rfl
 have e:=Q0 d;have h:(s.hand.toList==tx.toList)=false:=by rw [I7,I7];simpa using d
 clear d;go_enter func181,ntmps181
 go_wp2_with fail
 go_region
 go_wp2
 go_end0
 refine ⟨rfl,Rb (rE e.out) ⟨p,v,?_⟩,((Kp.refl base b w).alloc f _).drew⟩;exact g.out.below bA.drew
theorem OQ:eF 182 9:=by
 intro base b arg nR a2 cap2 s tx to w a;obtain ⟨p,v,c⟩:=a.live;have e:Hid (St base b w (Si p v arg (.slice a2 nR.length cap2) s.pc s.up) s.out):=c;have TZ:w.cell? ⟨b,7,none⟩=some (.int .i64 (s.pc+1:Nat)):=U3 c.run 7;have f7:=V6 c.run 7;have hlt:=C_ c.run;have d:=c.le;obtain ⟨n,rfl⟩:=A8 a.RU;have hto:=a.TU;have htx:=a.htx;have hpc:=a.pc;obtain ⟨g1,g2,g3,g4,g5,g6⟩:=a.fit;clear c a;go_enter func182,ntmps182;go_wp2
 go_end0
 refine ⟨rfl,Rb nK ⟨p,v,?_⟩,(((Kp.refl base b w).set 7 _).alloc (by simpa using d) _)⟩;refine St.below ?_ (bA);exact e.out.set 7 _ rfl rfl rfl
theorem xQ:eF 183 10:=by
 intro base b arg nR a2 cap2 s tx to w a;obtain ⟨p,v,c⟩:=a.live;have i:Hid (St base b w (Si p v arg (.slice a2 nR.length cap2) s.pc s.up) s.out):=c;have hlt:=C_ c.run;have h:=c.le;obtain ⟨n,rfl⟩:=A8 a.RU;have hto:=a.TU;have htx:=a.htx;have hpc:=a.pc;obtain ⟨g1,g2,g3,g4,g5,g6⟩:=a.fit;clear c a;go_enter func183,ntmps183
 go_wp2_with fail
 refine (aN base b _ s.out _ (i.out.below bA)).mono ?_;rintro e w1 ⟨rfl,h1,d⟩;have m:Hid (E5 w1 b _):=h1;have j:=Q0 (((Kp.refl base b w).alloc h _).trans d);clear h1 d
 go_wp2_with fail
 refine (Wx base b _ 0 (Q3 s.out) _ m.out).mono ?_;rintro e g ⟨rfl,h2,f⟩;have l:Hid (E5 g b _):=h2;have k:=Q0 (j.out.trans f);clear h2 f;go_wp2
 go_end0
 exact ⟨rfl,Ob MF ⟨_,l.out,rfl,rfl⟩,k.out⟩
theorem WO:eF 184 11:=by
 intro base b arg nR a2 cap2 s tx to w a;obtain ⟨p,v,c⟩:=a.live;have i:Hid (St base b w (Si p v arg (.slice a2 nR.length cap2) s.pc s.up) s.out):=c;have c2:w.cell? ⟨b,2,none⟩=some (.string s.hand):=U3 c.run 2;have hlt:=C_ c.run;have h:=c.le;obtain ⟨n,rfl⟩:=A8 a.RU;have hto:=a.TU;have htx:=a.htx;have hpc:=a.pc;obtain ⟨g1,g2,g3,g4,g5,g6⟩:=a.fit;clear c a;go_enter func184,ntmps184
 go_wp2_with fail
 have f:=K6 i.out.run (.cells #[.int .i64 11,.string tx,.int .i64 n] 165);refine (Wx base b _ 1 s.hand _ f).mono ?_;rintro e g ⟨rfl,h2,d⟩;have k:Hid (E5 g b _):=h2;have j:=Q0 (((Kp.refl base b w).alloc h _).trans d);clear h2 d f;go_wp2
 go_end0
 exact ⟨rfl,Ob IE ⟨_,k.out,rfl,rfl⟩,j.out⟩
end Go.Proofs.YtdjaajjndfbpmaaGreatDoor

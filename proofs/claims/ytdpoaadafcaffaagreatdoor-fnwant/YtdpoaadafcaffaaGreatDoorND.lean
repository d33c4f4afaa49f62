import Derived.Test.YtdpoaadafcaffaaGreatDoorZ27
import Derived.Test.YtdpoaadafcaffaaGreatDoorZ26
import Derived.Test.YtdpoaadafcaffaaGreatDoorZ22
set_option linter.unusedVariables false
set_option maxHeartbeats 8000000
namespace Go.Proofs.YtdpoaadafcaffaaGreatDoor
open Go.RowKit
variable {b:UInt8} {a l r:List UInt8}
theorem ik (h:b∉l) (P:List (List UInt8)) (q:List UInt8):l.foldl (cst b) (P,q)=(P,q++l):=by
 induction l generalizing q with
 | nil=>simp
 | cons c l ih=>
  have hc:c≠b:=fun e=>h (by simp [e]);rw [List.foldl_cons];have:cst b (P,q) c=(P,q++[c]):=by unfold cst;rw [if_neg hc]
  rw [this,ih (fun hm=>h (List.mem_cons_of_mem _ hm)),List.append_assoc];rfl
theorem Lp (b:UInt8) (l:List UInt8) (P Q:List (List UInt8)) (q:List UInt8):l.foldl (cst b) (P++Q,q)=(P++(l.foldl (cst b) (Q,q)).1,(l.foldl (cst b) (Q,q)).2):=by
 induction l generalizing Q q with
 | nil=>rfl
 | cons c l ih=>
  rw [List.foldl_cons,List.foldl_cons];by_cases hc:c=b
  · have e1:cst b (P++Q,q) c=(P++(Q++[q]),[]):=by unfold cst;rw [if_pos hc,List.append_assoc]
    have e2:cst b (Q,q) c=(Q++[q],[]):=by unfold cst;rw [if_pos hc]
    rw [e1,e2,ih]
  have e1:cst b (P++Q,q) c=(P++Q,q++[c]):=by unfold cst;rw [if_neg hc]
  have e2:cst b (Q,q) c=(Q,q++[c]):=by unfold cst;rw [if_neg hc]
  rw [e1,e2,ih]
theorem CG (h:b∉l):Z6 b l=[l]:=by
 unfold Z6 E5;rw [ik h];rfl
theorem nE (h:b∉a):Z6 b (a++b::r)=a::Z6 b r:=by
 unfold Z6 E5;rw [List.foldl_append,ik h,List.foldl_cons];have e:cst b ([],[]++a) b=([a]++[],[]):=by unfold cst;rw [if_pos rfl];simp
 rw [e,Lp];simp
theorem NG (l:List UInt8):(Lib.index l [10]=-1/\(10:UInt8)∉l)\/(∃ i:Nat,Lib.index l [10]=i/\i<l.length/\l=l.take i++10::l.drop (i+1)/\(10:UInt8)∉l.take i):=by
 rw [Lib.index_one];have hge:=Lib.indexByte_ge l 10;by_cases h:Lib.indexByte l 10=-1
 · refine .inl ⟨h,fun hm=>?_⟩
   obtain ⟨k,hk,e⟩:=List.getElem_of_mem hm;exact Lib.indexByte_none h k (by rw [List.getElem?_eq_getElem hk,e])
 obtain ⟨o,ho⟩:∃ o:Nat,Lib.indexByte l 10=o:=⟨(Lib.indexByte l 10).toNat,O0⟩;obtain ⟨h1,h2⟩:=Lib.indexByte_some ho;have hl:o<l.length:=by
  rcases Nat.lt_or_ge o l.length with h | h
  · exact h
  rw [List.getElem?_eq_none h] at h1;cases h1
 refine .inr ⟨o,ho,hl,?_,fun hm=>?_⟩
 · have hx:l[o]=10:=by rw [List.getElem?_eq_getElem hl] at h1;exact Option.some.inj h1
   conv=>lhs;rw [<- List.take_append_drop o l,List.drop_eq_getElem_cons hl,hx]
 obtain ⟨k,hk,e⟩:=List.getElem_of_mem hm;rw [List.length_take] at hk;rw [List.getElem_take] at e;exact h2 k O0 (by rw [List.getElem?_eq_getElem O0,e])
theorem VA (f:Nat):∀ l:List UInt8,l.length<f->Lib.splitK [10] 0 (Lib.countFrom [10] f l) l=Z6 10 l/\(Z6 10 l).length=Lib.countFrom [10] f l+1:=by
 induction f with
 | zero=>intro l h;omega
 | succ f ih=>
  intro l h;rcases NG l with ⟨hi,hn⟩ | ⟨i,hi,hl,he,hn⟩
  · have hc:Lib.countFrom [10] (f+1) l=0:=by rw [Lib.countFrom,hi];rfl
    rw [hc,CG hn];exact ⟨rfl,rfl⟩
  have hne:¬ ((i:Int)==-1)=true:=fun e=>by have:=beq_iff_eq.1 e;omega
  obtain ⟨h1,h2⟩:=ih (l.drop (i+1)) (by rw [List.length_drop];omega);have hc:Lib.countFrom [10] (f+1) l=Lib.countFrom [10] f (l.drop (i+1))+1:=by
   rw [Lib.countFrom,hi,if_neg hne,Nat.add_comm];rfl
  have hcut:Z6 10 l=l.take i::Z6 10 (l.drop (i+1)):=by
   conv=>lhs;rw [he]
   exact nE hn
  rw [hc,hcut];refine ⟨?_,by rw [List.length_cons,h2]⟩;rw [Lib.splitK,hi,if_neg hne,<- h1];rfl
theorem GI (s:ByteArray) (w:World) (hs:s.size<=1048700) (hm:N8 w):
 Calls Tryz.prog 185 #[.string s,.string ⟨#[10]⟩] w fun e w'=>(e=.returned (.slice (some ⟨w.heap.size,0,none⟩) (Z6 10 s.data.toList).length (Z6 10 s.data.toList).length)/\P6 w' w.heap.size (Z6 10 s.data.toList))/\Below w.heap.size w w':=by
 obtain ⟨_,m,hm⟩:=hm;obtain ⟨h1,h2⟩:=VA (s.data.toList.length+1) s.data.toList O0;have hd:=Eo ((Lib.splitB_data ⟨#[10]⟩ 0 (Lib.countB s ⟨#[10]⟩) s).trans h1);have hc:Lib.countB s ⟨#[10]⟩+1=(Z6 10 s.data.toList).length:=h2.symm;refine (Tryz.strings_Split s ⟨#[10]⟩ m w O0 hm J3).mono ?_;rintro e w' ⟨rfl,rfl⟩;rw [hd,hc];refine ⟨⟨rfl,U0,fun i hi=>?_⟩,bA⟩;simp [hi]
end Go.Proofs.YtdpoaadafcaffaaGreatDoor
namespace Go.Proofs.YtdpoaadafcaffaaGreatDoor.G
open Go.RowKit
open T (F2 L6 Y3 Asc)
variable {fs:List F2} {ms:List M3}
def Bi:ByteArray:=⟨#[112,108,97,110]⟩
def Ae (fs:List F2) (nm:ByteArray):Prop:=∀ j,j<fs.length->(fs.getD j L6).nm≠nm
def Ub (fs:List F2) (ms:List M3):Prop:=∀ i,i<ms.length->Ae fs (ms.getD i X6).nm
def Q6 (fs:List F2) (ms:List M3):Prop:=
 (¬ Y3 fs/\ms=[])\/(Y3 fs/\Ae fs Bi/\ms=[])\/
 (Y3 fs/\∃ i,i<fs.length/\(fs.getD i L6).nm=Bi/\∃ ks ok,l9 (fs.getD i L6).tx.data.toList ks ok/\((ok=true/\Ub fs ks/\ms=ks)\/(¬ (ok=true/\Ub fs ks)/\ms=[])))
theorem bn (h:Y3 fs) {i j:Nat} (hi:i<fs.length) (hj:j<fs.length) (e:(fs.getD i L6).nm=(fs.getD j L6).nm):i=j:=by
 have hm:=T.Gm h;rcases Nat.lt_trichotomy i j with h1 | h1 | h1
 · have:=hm i j h1 hj
   rw [e,T.h_] at this;cases this
 · exact h1
 have:=hm j i h1 hi;rw [e,T.h_] at this;cases this
theorem Bc {ns:List M3} (h:Q6 fs ms) (k:Q6 fs ns):ms=ns:=by
 rcases h with ⟨h1,rfl⟩ | ⟨h1,h2,rfl⟩ | ⟨h1,i,hi,hn,ks,ok,hp,hr⟩
 · rcases k with ⟨_,rfl⟩ | ⟨k1,_⟩ | ⟨k1,_⟩
   · rfl
   · exact absurd k1 h1
   exact absurd k1 h1
 · rcases k with ⟨k1,_⟩ | ⟨_,_,rfl⟩ | ⟨_,j,hj,hk,_⟩
   · exact absurd h1 k1
   · rfl
   exact absurd hk (h2 j hj)
 rcases k with ⟨k1,_⟩ | ⟨_,k2,_⟩ | ⟨_,j,hj,hk,ks',ok',hp',hr'⟩
 · exact absurd h1 k1
 · exact absurd hn (k2 i hi)
 obtain rfl:=bn h1 hi hj (hn.trans hk.symm);obtain ⟨rfl,rfl⟩:=yu hp hp';rcases hr with ⟨a1,a2,rfl⟩ | ⟨a1,rfl⟩
 · rcases hr' with ⟨_,_,rfl⟩ | ⟨b1,_⟩
   · rfl
   exact absurd ⟨a1,a2⟩ b1
 rcases hr' with ⟨b1,b2,_⟩ | ⟨_,rfl⟩
 · exact absurd ⟨b1,b2⟩ a1
 rfl
theorem uh {l:List UInt8} {ok:Bool} (h:l9 l ms ok):ms.length<=300/\∀ i,(ms.getD i X6).le 300:=by
 cases ok
 · rw [(h.2 rfl).1]
   exact ⟨Nat.zero_le _,fun i=>⟨Nat.zero_le _,Nat.zero_le _,Nat.zero_le _⟩⟩
 obtain ⟨h1,h2,h3⟩:=h.1 rfl;have:=ug ms;rw [h2] at this;exact ⟨O0,Vj fun i hi=>Hz (Xo (jc h1) hi)⟩
theorem fB (h:Q6 fs ms):ms.length<=300:=by
 rcases h with ⟨_,rfl⟩ | ⟨_,_,rfl⟩ | ⟨_,i,hi,hn,ks,ok,hp,hr⟩
 · exact Nat.zero_le _
 · exact Nat.zero_le _
 rcases hr with ⟨_,_,rfl⟩ | ⟨_,rfl⟩
 · exact (uh hp).1
 exact Nat.zero_le _
end Go.Proofs.YtdpoaadafcaffaaGreatDoor.G
namespace Go.Proofs.YtdpoaadafcaffaaGreatDoor
open Proofs.Tryz
open Go.RowKit
variable {b base pl:Nat} {arg:ByteArray} {rv:Value} {w:World}
def RC.tn (r:RC):TN:=⟨r.over,r.code,r.text,r.has,r.name,r.steps⟩
def ST.up (s:ST):ST:=⟨s.hand,s.out,s.pc+1,s.looks,s.steps+1⟩
def og (p v:Value) (arg:ByteArray) (rv:Value) (pl:Nat) (s:ST):RC:=⟨p,v,s.hand,arg,rv,s.looks,pl,s.pc,false,false,0,⟨#[]⟩,false,⟨#[]⟩,s.steps⟩
def Live (base b:Nat) (arg:ByteArray) (rv:Value) (pl:Nat) (w:World) (s:ST):Prop:=∃ p v,St base b w (og p v arg rv pl s) s.out
def Dead (b:Nat) (w:World) (t:TN):Prop:=∃ r:RC,Y4 w b r/\r.halted=true/\r.tn=t
def After (base b:Nat) (arg:ByteArray) (rv:Value) (pl:Nat) (w:World):ST ⊕ TN->Prop
 | .inl s=>Live base b arg rv pl w s
 | .inr t=>Dead b w t
theorem qa {x:ST ⊕ TN} {s:ST} (e:x=.inl s) (h:Live base b arg rv pl w s):After base b arg rv pl w x:=by rw [e];exact h
theorem za {x:ST ⊕ TN} {t:TN} (e:x=.inr t) (h:Dead b w t):After base b arg rv pl w x:=by rw [e];exact h
def zl (base b:Nat) (w:World) (a:Option Addr) (rs:List R2):Prop:=rs=[]\/∃ rb off,a=some ⟨rb,off,none⟩/\rb<base/\rb≠b/\∀ i,i<rs.length->w.cell? ⟨rb,off+i*2,none⟩=some (.int .i64 (rs.getD i Oa).code)/\w.cell? ⟨rb,off+i*2+1,none⟩=some (.string (rs.getD i Oa).tx)
structure Met (base b:Nat) (arg:ByteArray) (EL:List R2) (a2:Option Addr) (cap2:Nat) (s:ST) (tx:ByteArray) (to:Int) (w:World):Prop where
 fit:Fit EL s
 ok:Xk EL=true
 len:EL.length<=14
 rep:zl base b w a2 EL
 max:1<base/\b≠0/\N8 w
 XW:arg.size<=300
 htx:tx.size<=300
 bS:0<=to
 dS:to<=40
 pc:s.pc<=40
 steps:s.steps<200
 live:Live base b arg (.slice a2 EL.length cap2) s.pc w s.up
def kz (f:Nat) (op:Int):Prop:=∀ (base b:Nat) (arg:ByteArray) (EL:List R2) (a2:Option Addr) (cap2:Nat) (s:ST) (tx:ByteArray) (to:Int) (w:World),Met base b arg EL a2 cap2 s tx to w->
 Calls prog f #[.pointer (some ⟨b,0,none⟩),.agg #[.int .i64 op,.string tx,.int .i64 to]] w fun e w'=>e=.returned (.tuple #[])/\After base b arg (.slice a2 EL.length cap2) s.pc w' (act arg EL ⟨op,tx,to⟩ s)/\Kp base b w w'
theorem yK:kz 157 1:=by
 intro base b arg EL a2 cap2 s tx to w hm;obtain ⟨p,v,hS⟩:=hm.live;have HS:Hid (St base b w (og p v arg (.slice a2 EL.length cap2) s.pc s.up) s.out):=hS;have c2:w.cell? ⟨b,2,none⟩=some (.string s.hand):=V3 hS.run 2;have f2:=F6 hS.run 2;have hlt:=S9 hS.run;have hle:=hS.le;obtain ⟨n,rfl⟩:=Int.eq_ofNat_of_zero_le hm.bS;have hto:=hm.dS;have htx:=hm.htx;have hpc:=hm.pc;obtain ⟨g1,g2,g3,g4,g5,g6⟩:=hm.fit;clear hS hm;go_enter func157,ntmps157;go_wp2
 go_end0
 refine ⟨rfl,qa gF ⟨p,v,?_⟩,(((Kp.refl base b w).set 2 _).alloc (by simpa using hle) _)⟩;refine St.below ?_ (bA);exact HS.out.set 2 _ rfl rfl rfl
theorem qL:kz 158 2:=by
 intro base b arg EL a2 cap2 s tx to w hm;obtain ⟨p,v,hS⟩:=hm.live;have HS:Hid (St base b w (og p v arg (.slice a2 EL.length cap2) s.pc s.up) s.out):=hS;have c2:w.cell? ⟨b,2,none⟩=some (.string s.hand):=V3 hS.run 2;have TW:w.cell? ⟨b,3,none⟩=some (.string arg):=V3 hS.run 3;have f2:=F6 hS.run 2;have hlt:=S9 hS.run;have hle:=hS.le;obtain ⟨n,rfl⟩:=Int.eq_ofNat_of_zero_le hm.bS;have hto:=hm.dS;have htx:=hm.htx;have hpc:=hm.pc;obtain ⟨g1,g2,g3,g4,g5,g6⟩:=hm.fit;clear hS hm;go_enter func158,ntmps158;go_wp2
 go_end0
 refine ⟨rfl,qa YE ⟨p,v,?_⟩,(((Kp.refl base b w).set 2 _).alloc (by simpa using hle) _)⟩;refine St.below ?_ (bA);exact HS.out.set 2 _ rfl rfl rfl
theorem UK:kz 159 3:=by
 intro base b arg EL a2 cap2 s tx to w hm;obtain ⟨p,v,hS⟩:=hm.live;have HS:Hid (St base b w (og p v arg (.slice a2 EL.length cap2) s.pc s.up) s.out):=hS;have c2:w.cell? ⟨b,2,none⟩=some (.string s.hand):=V3 hS.run 2;have f2:=F6 hS.run 2;have hlt:=S9 hS.run;have hle:=hS.le;obtain ⟨n,rfl⟩:=Int.eq_ofNat_of_zero_le hm.bS;have hto:=hm.dS;have htx:=hm.htx;have hpc:=hm.pc;obtain ⟨g1,g2,g3,g4,g5,g6⟩:=hm.fit;have UO:=Q0 hm.rep;have hlen:=hm.len;clear hS hm;by_cases hn0:Y1 s.hand.data.toList=false
 · have HN:=Q0 hn0
   clear hn0;have HRW:Y4 (w.alloc (.cells #[.int .i64 3,.string tx,.int .i64 n] 121)) b (og p v arg (.slice a2 EL.length cap2) s.pc s.up):=Y5 HS.out.run _;go_enter func159,ntmps159
   go_wp2_with fail
   refine (ZE b _ false _ HRW g1 HN.out).mono ?_;rintro e w1 ⟨rfl,h1,hk1⟩;have H1:Hid (Y4 w1 b _):=h1;have KM:=Q0 (((Kp.refl base b w).alloc hle _).trans (hk1.mono X3));have hle1:=Nat.le_trans hle KM.out.size;clear h1 hk1 HRW;go_wp2;refine bodyPost_ret (results_none rfl _ _ _) rfl ?_;exact ⟨rfl,za (Zn.trans (Pd HN.out)) ⟨_,Y5 H1.out _,rfl,rfl⟩,KM.out.alloc hle1 _⟩
 have HN:Hid (Y1 s.hand.data.toList=true):=by simpa [Hid] using hn0
 clear hn0;by_cases pM:14<=s.looks
 · have HQ:=Q0 pM
   have HRW:Y4 (w.alloc (.cells #[.int .i64 3,.string tx,.int .i64 n] 121)) b (og p v arg (.slice a2 EL.length cap2) s.pc s.up):=Y5 HS.out.run _;go_enter func159,ntmps159
   go_wp2_with fail
   refine (EE b _ false _ HRW g1 HN.out (by show ((s.looks:Nat):Int)=14;omega)).mono ?_;rintro e w1 ⟨rfl,h1,hk1⟩;have H1:Hid (Y4 w1 b _):=h1;have KM:=Q0 (((Kp.refl base b w).alloc hle _).trans (hk1.mono X3));have hle1:=Nat.le_trans hle KM.out.size;clear h1 hk1 HRW;go_wp2;refine bodyPost_ret (results_none rfl _ _ _) rfl ?_;exact ⟨rfl,za (Zn.trans (Af HN.out HQ.out)) ⟨_,Y5 H1.out _,rfl,rfl⟩,KM.out.alloc hle1 _⟩
 have jV:=Q0 pM;by_cases hlr:EL.length<=s.looks
 · have HQ:=Q0 hlr
   have heq:s.looks=EL.length:=O0;have HRW:Y4 (w.alloc (.cells #[.int .i64 3,.string tx,.int .i64 n] 121)) b (og p v arg (.slice a2 EL.length cap2) s.pc s.up):=Y5 HS.out.run _;go_enter func159,ntmps159
   go_wp2_with fail
   refine (oF b _ false _ HRW g1 HN.out a2 EL.length cap2 (by show ((s.looks:Nat):Int)=_;rw [heq]) O0 rfl).mono ?_;rintro e w1 ⟨rfl,h1,hk1⟩;have H1:Hid (Y4 w1 b _):=h1;have KM:=Q0 (((Kp.refl base b w).alloc hle _).trans (hk1.mono X3));have hle1:=Nat.le_trans hle KM.out.size;clear h1 hk1 HRW;go_wp2;refine bodyPost_ret (results_none rfl _ _ _) rfl ?_;exact ⟨rfl,za (Zn.trans (Gg HN.out jV.out HQ.out)) ⟨_,Y5 H1.out _,rfl,rfl⟩,KM.out.alloc hle1 _⟩
 have XY:=Q0 hlr;have hlk:s.looks<EL.length:=O0;rcases UO.out with hss | ⟨rb,roff,ha2,hrb,a1X,hcell⟩
 · rw [hss] at hlk;exact absurd hlk (Nat.not_lt_zero _)
 subst ha2;obtain ⟨x0,x1⟩:=hcell s.looks hlk;have jS:rb<w.heap.size:=O0;have y0:=past (p:=⟨rb,roff+s.looks*2,none⟩) jS x0;have y1:=past (p:=⟨rb,roff+s.looks*2+1,none⟩) jS x1;generalize hy:EL.getD s.looks Oa=y at*;have HY:=Q0 hy;clear hy hcell UO pM hlr;have HRW:Y4 (w.alloc (.cells #[.int .i64 3,.string tx,.int .i64 n] 121)) b (og p v arg (.slice (some ⟨rb,roff,none⟩) EL.length cap2) s.pc s.up):=Y5 HS.out.run _;go_enter func159,ntmps159
 go_wp2_with fail
 refine (vE b _ false _ HRW g1 HN.out rb roff EL.length cap2 s.looks y rfl O0 hlk rfl hlen X3 (y0 _) (y1 _)).mono ?_;rintro e w1 ⟨rfl,h1,hk1⟩;have NL:Hid (St base b w1 (og p v arg (.slice (some ⟨rb,roff,none⟩) EL.length cap2) s.pc ⟨s.hand,s.out,s.pc+1,s.looks+1,s.steps+1⟩) s.out):=(HS.out.below ((Below.refl _ _).alloc Q8 (.cells #[.int .i64 3,.string tx,.int .i64 n] 121))).kp hk1 h1 rfl rfl;have KM:=Q0 (((Kp.refl base b w).alloc hle _).trans (hk1.mono X3));have d2:w1.cell? ⟨b,2,none⟩=some (.string s.hand):=V3 NL.out.run 2;have e2:=F6 NL.out.run 2;have hz1:w.heap.size+1<=w1.heap.size:=by have:=hk1.size;simpa using this
 have hle1:base<=w1.heap.size:=O0;have hlt1:b<w1.heap.size:=O0;clear h1 hk1 HRW x0 x1 y0 y1 c2 f2;by_cases h4:y.code=4
 · have HQ:=Q0 h4
   have hcc:(y.code==0)=false:=by rw [h4];rfl
   have hc4:(y.code==4)=true:=by rw [h4];rfl
   go_wp2_with fail
   refine (c131 base b _ 4 s.hand _ (Y5 NL.out.run _)).mono ?_;rintro e w2 ⟨rfl,h2,hk⟩;have H2:Hid (Y4 w2 b _):=h2;have HK:=Q0 ((KM.out.alloc hle1 _).trans hk);clear h2 hk;go_wp2
   go_end0
   exact ⟨rfl,za (Zn.trans (Ov HN.out jV.out XY.out (by rw [HY.out];exact HQ.out))) ⟨_,H2.out,rfl,rfl⟩,HK.out⟩
 have H4:=Q0 h4;by_cases h5:y.code=0
 · have HQ:=Q0 h5
   have hcc:(y.code==0)=true:=by rw [h5];rfl
   go_wp2
   go_end0
   refine ⟨rfl,qa (Zn.trans (Rv HN.out jV.out XY.out (by rw [HY.out];exact H4.out) (by rw [HY.out];exact HQ.out))) ⟨p,v,?_⟩,(KM.out.set 2 _).alloc (by simpa using hle1) _⟩;rw [HY.out];refine St.below ?_ bA;exact NL.out.set 2 _ rfl rfl rfl
 have HQ:=Q0 h5;have hcc:(y.code==0)=false:=by simpa using h5
 have hc4:(y.code==4)=false:=by simpa using h4
 go_wp2_with fail
 refine (c131 base b _ 5 s.hand _ (Y5 NL.out.run _)).mono ?_;rintro e w2 ⟨rfl,h2,hk⟩;have H2:Hid (Y4 w2 b _):=h2;have HK:=Q0 ((KM.out.alloc hle1 _).trans hk);clear h2 hk;go_wp2
 go_end0
 exact ⟨rfl,za (Zn.trans (Fw HN.out jV.out XY.out (by rw [HY.out];exact H4.out) (by rw [HY.out];exact HQ.out))) ⟨_,H2.out,rfl,rfl⟩,HK.out⟩
theorem vL:kz 160 4:=by
 intro base b arg EL a2 cap2 s tx to w hm;obtain ⟨p,v,hS⟩:=hm.live;have HS:Hid (St base b w (og p v arg (.slice a2 EL.length cap2) s.pc s.up) s.out):=hS;have c2:w.cell? ⟨b,2,none⟩=some (.string s.hand):=V3 hS.run 2;have f2:=F6 hS.run 2;have hlt:=S9 hS.run;have hle:=hS.le;obtain ⟨n,rfl⟩:=Int.eq_ofNat_of_zero_le hm.bS;have hto:=hm.dS;have htx:=hm.htx;have hpc:=hm.pc;obtain ⟨g1,g2,g3,g4,g5,g6⟩:=hm.fit;have UO:=Q0 hm.rep;have hlen:=hm.len;clear hS hm;by_cases hn0:Y1 s.hand.data.toList=false
 · have HN:=Q0 hn0
   clear hn0;have HRW:Y4 (w.alloc (.cells #[.int .i64 4,.string tx,.int .i64 n] 121)) b (og p v arg (.slice a2 EL.length cap2) s.pc s.up):=Y5 HS.out.run _;go_enter func160,ntmps160
   go_wp2_with fail
   refine (ZE b _ true _ HRW g1 HN.out).mono ?_;rintro e w1 ⟨rfl,h1,hk1⟩;have H1:Hid (Y4 w1 b _):=h1;have KM:=Q0 (((Kp.refl base b w).alloc hle _).trans (hk1.mono X3));have hle1:=Nat.le_trans hle KM.out.size;clear h1 hk1 HRW;go_wp2;refine bodyPost_ret (results_none rfl _ _ _) rfl ?_;exact ⟨rfl,za (Gs.trans (Pd HN.out)) ⟨_,Y5 H1.out _,rfl,rfl⟩,KM.out.alloc hle1 _⟩
 have HN:Hid (Y1 s.hand.data.toList=true):=by simpa [Hid] using hn0
 clear hn0;by_cases pM:14<=s.looks
 · have HQ:=Q0 pM
   have HRW:Y4 (w.alloc (.cells #[.int .i64 4,.string tx,.int .i64 n] 121)) b (og p v arg (.slice a2 EL.length cap2) s.pc s.up):=Y5 HS.out.run _;go_enter func160,ntmps160
   go_wp2_with fail
   refine (EE b _ true _ HRW g1 HN.out (by show ((s.looks:Nat):Int)=14;omega)).mono ?_;rintro e w1 ⟨rfl,h1,hk1⟩;have H1:Hid (Y4 w1 b _):=h1;have KM:=Q0 (((Kp.refl base b w).alloc hle _).trans (hk1.mono X3));have hle1:=Nat.le_trans hle KM.out.size;clear h1 hk1 HRW;go_wp2;refine bodyPost_ret (results_none rfl _ _ _) rfl ?_;exact ⟨rfl,za (Gs.trans (Af HN.out HQ.out)) ⟨_,Y5 H1.out _,rfl,rfl⟩,KM.out.alloc hle1 _⟩
 have jV:=Q0 pM;by_cases hlr:EL.length<=s.looks
 · have HQ:=Q0 hlr
   have heq:s.looks=EL.length:=O0;have HRW:Y4 (w.alloc (.cells #[.int .i64 4,.string tx,.int .i64 n] 121)) b (og p v arg (.slice a2 EL.length cap2) s.pc s.up):=Y5 HS.out.run _;go_enter func160,ntmps160
   go_wp2_with fail
   refine (oF b _ true _ HRW g1 HN.out a2 EL.length cap2 (by show ((s.looks:Nat):Int)=_;rw [heq]) O0 rfl).mono ?_;rintro e w1 ⟨rfl,h1,hk1⟩;have H1:Hid (Y4 w1 b _):=h1;have KM:=Q0 (((Kp.refl base b w).alloc hle _).trans (hk1.mono X3));have hle1:=Nat.le_trans hle KM.out.size;clear h1 hk1 HRW;go_wp2;refine bodyPost_ret (results_none rfl _ _ _) rfl ?_;exact ⟨rfl,za (Gs.trans (Gg HN.out jV.out HQ.out)) ⟨_,Y5 H1.out _,rfl,rfl⟩,KM.out.alloc hle1 _⟩
 have XY:=Q0 hlr;have hlk:s.looks<EL.length:=O0;rcases UO.out with hss | ⟨rb,roff,ha2,hrb,a1X,hcell⟩
 · rw [hss] at hlk;exact absurd hlk (Nat.not_lt_zero _)
 subst ha2;obtain ⟨x0,x1⟩:=hcell s.looks hlk;have jS:rb<w.heap.size:=O0;have y0:=past (p:=⟨rb,roff+s.looks*2,none⟩) jS x0;have y1:=past (p:=⟨rb,roff+s.looks*2+1,none⟩) jS x1;generalize hy:EL.getD s.looks Oa=y at*;have HY:=Q0 hy;clear hy hcell UO pM hlr;have HRW:Y4 (w.alloc (.cells #[.int .i64 4,.string tx,.int .i64 n] 121)) b (og p v arg (.slice (some ⟨rb,roff,none⟩) EL.length cap2) s.pc s.up):=Y5 HS.out.run _;go_enter func160,ntmps160
 go_wp2_with fail
 refine (vE b _ true _ HRW g1 HN.out rb roff EL.length cap2 s.looks y rfl O0 hlk rfl hlen X3 (y0 _) (y1 _)).mono ?_;rintro e w1 ⟨rfl,h1,hk1⟩;have NL:Hid (St base b w1 (og p v arg (.slice (some ⟨rb,roff,none⟩) EL.length cap2) s.pc ⟨s.hand,s.out,s.pc+1,s.looks+1,s.steps+1⟩) s.out):=(HS.out.below ((Below.refl _ _).alloc Q8 (.cells #[.int .i64 4,.string tx,.int .i64 n] 121))).kp hk1 h1 rfl rfl;have KM:=Q0 (((Kp.refl base b w).alloc hle _).trans (hk1.mono X3));have d2:w1.cell? ⟨b,2,none⟩=some (.string s.hand):=V3 NL.out.run 2;have e2:=F6 NL.out.run 2;have hz1:w.heap.size+1<=w1.heap.size:=by have:=hk1.size;simpa using this
 have hle1:base<=w1.heap.size:=O0;have hlt1:b<w1.heap.size:=O0;clear h1 hk1 HRW x0 x1 y0 y1 c2 f2;by_cases h4:y.code=4
 · have HQ:=Q0 h4
   have hc4:(y.code==4)=true:=by rw [h4];rfl
   go_wp2
   go_end0
   refine ⟨rfl,qa (Gs.trans (Wv HN.out jV.out XY.out (by rw [HY.out];exact HQ.out))) ⟨p,v,?_⟩,((KM.out.set 2 _).set 2 _).alloc (by simpa using hle1) _⟩;refine St.below ?_ bA;have h1:St base b (w1.setCell ⟨b,2,none⟩ (.string ⟨#[49]⟩)) (og p v arg (.slice (some ⟨rb,roff,none⟩) EL.length cap2) s.pc ⟨⟨#[49]⟩,s.out,s.pc+1,s.looks+1,s.steps+1⟩) s.out:=NL.out.set 2 _ rfl rfl rfl;exact h1.set 2 _ rfl rfl rfl
 have HQ:=Q0 h4;have hc4:(y.code==4)=false:=by simpa using h4
 go_wp2
 go_end0
 refine ⟨rfl,qa (Gs.trans (Dw HN.out jV.out XY.out (by rw [HY.out];exact HQ.out))) ⟨p,v,?_⟩,(KM.out.set 2 _).alloc (by simpa using hle1) _⟩;refine St.below ?_ bA;exact NL.out.set 2 _ rfl rfl rfl
theorem xK:kz 161 5:=by
 intro base b arg EL a2 cap2 s tx to w hm;obtain ⟨p,v,hS⟩:=hm.live;have HS:Hid (St base b w (og p v arg (.slice a2 EL.length cap2) s.pc s.up) s.out):=hS;have c2:w.cell? ⟨b,2,none⟩=some (.string s.hand):=V3 hS.run 2;have hlt:=S9 hS.run;have hle:=hS.le;obtain ⟨n,rfl⟩:=Int.eq_ofNat_of_zero_le hm.bS;have hto:=hm.dS;have htx:=hm.htx;have hpc:=hm.pc;obtain ⟨g1,g2,g3,g4,g5,g6⟩:=hm.fit;clear hS hm;have kV:=HS.out.below ((Below.refl _ w).alloc Q8 (.cells #[.int .i64 5,.string tx,.int .i64 n] 121)).drew;have HA:Hid (St base b _ _ s.out):=kV;clear kV;have hwr:IntKind.i64.wrap ((s.out.length:Int)+(s.hand.size:Int))=(s.out.length:Int)+(s.hand.size:Int):=by simp [IntKind.wrap,IntKind.signed,IntKind.bits];omega
 by_cases KL:300<s.out.length+s.hand.size
 · have HQ:=Q0 KL
   go_enter func161,ntmps161
   go_wp2_with fail
   go_region_with (go_at_call 183;refine (PE base b _ s.out _ HA.out).mono ?_;rintro e w1 ⟨rfl,hw⟩;obtain rfl:=hw.symm)
   all_goals
    go_wp2_with fail
    have HRW:Y4 (w.alloc (.cells #[.int .i64 5,.string tx,.int .i64 n] 121)).drew b (og p v arg (.slice a2 EL.length cap2) s.pc s.up):=Y5 HS.out.run _;refine (c130 base b _ s.pc _ HRW rfl O0).mono ?_;rintro e w2 ⟨rfl,h2,hk⟩;have H2:Hid (Y4 w2 b _):=h2;have HK:=Q0 ((((Kp.refl base b w).alloc hle _).drew).trans hk);clear h2 hk HRW;go_wp2;refine bodyPost_ret (results_none rfl _ _ _) rfl ?_;exact ⟨rfl,za (Qy HQ.out) ⟨_,H2.out,rfl,rfl⟩,HK.out⟩
 have HQ:=Q0 KL;have hcmp:(s.out.length:Int)+(s.hand.size:Int)<=300:=O0;go_enter func161,ntmps161
 go_wp2_with fail
 go_region_with (go_at_call 183;refine (PE base b _ s.out _ HA.out).mono ?_;rintro e w1 ⟨rfl,hw⟩;obtain rfl:=hw.symm)
 all_goals
  have HA2:Hid (St base b (w.alloc (.cells #[.int .i64 5,.string tx,.int .i64 n] 121)).drew.drew _ s.out):=HA.out.below (Below.refl _ _).drew
  go_wp2_with fail
  go_region_with (go_at_call 184;refine (zH base b _ s.out s.hand _ HA2.out O0).mono ?_;rintro e w2 ⟨rfl,⟨v2,h2⟩,hk⟩;have H2:Hid (St base b w2 _ _):=h2;have HK:Hid (Kp base b w w2):=((Kp.refl base b w).alloc hle _).drew.drew.trans hk;clear h2 hk)
  all_goals
   go_wp2
   go_end0
   exact ⟨rfl,qa (jA HQ.out) ⟨_,v2,H2.out⟩,HK.out⟩
theorem vK:kz 162 6:=by
 intro base b arg EL a2 cap2 s tx to w hm;obtain ⟨p,v,hS⟩:=hm.live;have HS:Hid (St base b w (og p v arg (.slice a2 EL.length cap2) s.pc s.up) s.out):=hS;have c2:w.cell? ⟨b,2,none⟩=some (.string s.hand):=V3 hS.run 2;have f2:=F6 hS.run 2;have hlt:=S9 hS.run;have hle:=hS.le;obtain ⟨n,rfl⟩:=Int.eq_ofNat_of_zero_le hm.bS;have hto:=hm.dS;have htx:=hm.htx;have hpc:=hm.pc;obtain ⟨g1,g2,g3,g4,g5,g6⟩:=hm.fit;clear hS hm;by_cases KL:300<s.hand.size+tx.size
 · have HQ:=Q0 KL
   go_enter func162,ntmps162
   go_wp2_with fail
   go_region
   go_wp2_with fail
   have HRW:Y4 (w.alloc (.cells #[.int .i64 6,.string tx,.int .i64 n] 121)).drew b (og p v arg (.slice a2 EL.length cap2) s.pc s.up):=Y5 HS.out.run _;refine (c130 base b _ s.pc _ HRW rfl O0).mono ?_;rintro e w2 ⟨rfl,h2,hk⟩;have H2:Hid (Y4 w2 b _):=h2;have HK:=Q0 ((((Kp.refl base b w).alloc hle _).drew).trans hk);clear h2 hk HRW;go_wp2;refine bodyPost_ret (results_none rfl _ _ _) rfl ?_;exact ⟨rfl,za (Az HQ.out) ⟨_,H2.out,rfl,rfl⟩,HK.out⟩
 have HQ:=Q0 KL;go_enter func162,ntmps162
 go_wp2_with fail
 go_region
 go_wp2_with fail
 go_region
 go_wp2
 go_end0
 refine ⟨rfl,qa (iA HQ.out) ⟨p,v,?_⟩,(((Kp.refl base b w).set 2 _).alloc (by simpa using hle) _).drew.drew⟩;refine St.below ?_ (bA.drew.drew);exact HS.out.set 2 _ rfl rfl rfl
theorem YK:kz 163 7:=by
 intro base b arg EL a2 cap2 s tx to w hm;obtain ⟨p,v,hS⟩:=hm.live;have HS:Hid (St base b w (og p v arg (.slice a2 EL.length cap2) s.pc s.up) s.out):=hS;have c2:w.cell? ⟨b,2,none⟩=some (.string s.hand):=V3 hS.run 2;have f2:=F6 hS.run 2;have hlt:=S9 hS.run;have hle:=hS.le;obtain ⟨n,rfl⟩:=Int.eq_ofNat_of_zero_le hm.bS;have hto:=hm.dS;have htx:=hm.htx;have hpc:=hm.pc;obtain ⟨g1,g2,g3,g4,g5,g6⟩:=hm.fit;have sP:=Q0 hm.max.2.2;clear hS hm;obtain ⟨hc1,hc2⟩:=Pk 10 s.hand.data.toList;have hln:s.hand.data.toList.length=s.hand.size:=U0;have hc3:(Z6 10 s.hand.data.toList).length<=400:=O0;have HTY:Hid (n<(Z6 10 s.hand.data.toList).length->Ea s.hand (n:Int)=K3 ((Z6 10 s.hand.data.toList).getD n [])):=fun h=>by unfold Ea;rw [if_pos O0];rfl
 have SQ:Hid (¬ n<(Z6 10 s.hand.data.toList).length->Ea s.hand (n:Int)=⟨#[]⟩):=fun h=>by unfold Ea;rw [if_neg O0]
 clear hc2 hln;go_enter func163,ntmps163
 go_wp2_with fail
 refine (GI s.hand _ O0 (P8 sP.out bA)).mono ?_;rintro e w1 ⟨⟨rfl,hl⟩,hb1⟩;have hBx:=bA.trans (hb1.mono U0);have HL:Hid (P6 w1 _ (Z6 10 s.hand.data.toList)):=hl;have NL:=Q0 (HS.out.below hBx);have d2:w1.cell? ⟨b,2,none⟩=some (.string s.hand):=V3 NL.out.run 2;have e2:=F6 NL.out.run 2;have i2:w1.cell? ⟨w.heap.size,2,none⟩=some (.int .i64 n):=by rw [hb1.cell U0];simp
 have hz1:w.heap.size+1<=w1.heap.size:=by have:=hb1.size;simpa using this
 have KM:Hid (Kp base b w w1):=Kp.of_below hBx hle;have hlg:=hl.1;have hne:b≠w.heap.size+1:=O0;clear hl hb1 hBx c2 f2;generalize hLL:Z6 10 s.hand.data.toList=L at*;clear hLL;by_cases hin:n<L.length
 · have l0:w1.cell? ⟨w.heap.size+1,n,none⟩=some (.string (K3 (L.getD n []))):=by have:=HL.out.2 n hin;simpa using this
   have uU:=Q0 (HTY.out hin);clear HTY SQ;generalize L.getD n []=ln at*;go_wp2
   go_end0
   refine ⟨rfl,qa Pz ⟨p,v,?_⟩,(KM.out.set 2 _).set 2 _⟩;rw [uU.out];have h1:St base b (w1.setCell ⟨b,2,none⟩ (.string ⟨#[]⟩)) (og p v arg (.slice a2 EL.length cap2) s.pc ⟨⟨#[]⟩,s.out,s.pc+1,s.looks,s.steps+1⟩) s.out:=NL.out.set 2 _ rfl rfl rfl;exact h1.set 2 _ rfl rfl rfl
 have uU:=Q0 (SQ.out hin);clear HTY SQ;go_wp2
 go_end0
 refine ⟨rfl,qa Pz ⟨p,v,?_⟩,KM.out.set 2 _⟩;rw [uU.out];exact NL.out.set 2 _ rfl rfl rfl
theorem JK:kz 164 8:=by
 intro base b arg EL a2 cap2 s tx to w hm;obtain ⟨p,v,hS⟩:=hm.live;have HS:Hid (St base b w (og p v arg (.slice a2 EL.length cap2) s.pc s.up) s.out):=hS;have c2:w.cell? ⟨b,2,none⟩=some (.string s.hand):=V3 hS.run 2;have YY:w.cell? ⟨b,7,none⟩=some (.int .i64 (s.pc+1:Nat)):=V3 hS.run 7;have f7:=F6 hS.run 7;have hlt:=S9 hS.run;have hle:=hS.le;obtain ⟨n,rfl⟩:=Int.eq_ofNat_of_zero_le hm.bS;have hto:=hm.dS;have htx:=hm.htx;have hpc:=hm.pc;obtain ⟨g1,g2,g3,g4,g5,g6⟩:=hm.fit;clear hS hm;by_cases heq:s.hand.data.toList=tx.data.toList
 · have HQ:=Q0 heq
   have heq':(s.hand.toList==tx.toList)=true:=by rw [ByteArray.toList_eq,ByteArray.toList_eq];simpa using heq
   clear heq;go_enter func164,ntmps164
   go_wp2_with fail
   go_region
   go_wp2
   go_end0
   refine ⟨rfl,qa (pz HQ.out) ⟨p,v,?_⟩,(((Kp.refl base b w).set 7 _).alloc (by simpa using hle) _).drew⟩;refine St.below ?_ (bA.drew);exact HS.out.set 7 _ rfl rfl rfl
 have HQ:=Q0 heq;have heq':(s.hand.toList==tx.toList)=false:=by rw [ByteArray.toList_eq,ByteArray.toList_eq];simpa using heq
 clear heq;go_enter func164,ntmps164
 go_wp2_with fail
 go_region
 go_wp2
 go_end0
 refine ⟨rfl,qa (Yy HQ.out) ⟨p,v,?_⟩,((Kp.refl base b w).alloc hle _).drew⟩;exact HS.out.below bA.drew
theorem qK:kz 165 9:=by
 intro base b arg EL a2 cap2 s tx to w hm;obtain ⟨p,v,hS⟩:=hm.live;have HS:Hid (St base b w (og p v arg (.slice a2 EL.length cap2) s.pc s.up) s.out):=hS;have YY:w.cell? ⟨b,7,none⟩=some (.int .i64 (s.pc+1:Nat)):=V3 hS.run 7;have f7:=F6 hS.run 7;have hlt:=S9 hS.run;have hle:=hS.le;obtain ⟨n,rfl⟩:=Int.eq_ofNat_of_zero_le hm.bS;have hto:=hm.dS;have htx:=hm.htx;have hpc:=hm.pc;obtain ⟨g1,g2,g3,g4,g5,g6⟩:=hm.fit;clear hS hm;go_enter func165,ntmps165;go_wp2
 go_end0
 refine ⟨rfl,qa dF ⟨p,v,?_⟩,(((Kp.refl base b w).set 7 _).alloc (by simpa using hle) _)⟩;refine St.below ?_ (bA);exact HS.out.set 7 _ rfl rfl rfl
theorem oK:kz 166 10:=by
 intro base b arg EL a2 cap2 s tx to w hm;obtain ⟨p,v,hS⟩:=hm.live;have HS:Hid (St base b w (og p v arg (.slice a2 EL.length cap2) s.pc s.up) s.out):=hS;have hlt:=S9 hS.run;have hle:=hS.le;obtain ⟨n,rfl⟩:=Int.eq_ofNat_of_zero_le hm.bS;have hto:=hm.dS;have htx:=hm.htx;have hpc:=hm.pc;obtain ⟨g1,g2,g3,g4,g5,g6⟩:=hm.fit;clear hS hm;go_enter func166,ntmps166
 go_wp2_with fail
 refine (LH base b _ s.out _ (HS.out.below bA)).mono ?_;rintro e w1 ⟨rfl,h1,hk1⟩;have H1:Hid (Y4 w1 b _):=h1;have KM:=Q0 (((Kp.refl base b w).alloc hle _).trans hk1);clear h1 hk1
 go_wp2_with fail
 refine (c131 base b _ 0 (K3 s.out) _ H1.out).mono ?_;rintro e w2 ⟨rfl,h2,hk⟩;have H2:Hid (Y4 w2 b _):=h2;have HK:=Q0 (KM.out.trans hk);clear h2 hk;go_wp2
 go_end0
 exact ⟨rfl,za Oy ⟨_,H2.out,rfl,rfl⟩,HK.out⟩
theorem zJ:kz 167 11:=by
 intro base b arg EL a2 cap2 s tx to w hm;obtain ⟨p,v,hS⟩:=hm.live;have HS:Hid (St base b w (og p v arg (.slice a2 EL.length cap2) s.pc s.up) s.out):=hS;have c2:w.cell? ⟨b,2,none⟩=some (.string s.hand):=V3 hS.run 2;have hlt:=S9 hS.run;have hle:=hS.le;obtain ⟨n,rfl⟩:=Int.eq_ofNat_of_zero_le hm.bS;have hto:=hm.dS;have htx:=hm.htx;have hpc:=hm.pc;obtain ⟨g1,g2,g3,g4,g5,g6⟩:=hm.fit;clear hS hm;go_enter func167,ntmps167
 go_wp2_with fail
 have HRW:=Y5 HS.out.run (.cells #[.int .i64 11,.string tx,.int .i64 n] 121);refine (c131 base b _ 1 s.hand _ HRW).mono ?_;rintro e w2 ⟨rfl,h2,hk⟩;have H2:Hid (Y4 w2 b _):=h2;have HK:=Q0 (((Kp.refl base b w).alloc hle _).trans hk);clear h2 hk HRW;go_wp2
 go_end0
 exact ⟨rfl,za XA ⟨_,H2.out,rfl,rfl⟩,HK.out⟩
end Go.Proofs.YtdpoaadafcaffaaGreatDoor

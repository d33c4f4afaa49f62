import Derived.Test.YtdpoaadafcaffaaGreatDoorNF
import Derived.Test.YtdpoaadafcaffaaGreatDoorN9
import Derived.Maps.AppendAt
set_option linter.unusedVariables false
set_option maxHeartbeats 8000000
set_option maxRecDepth 100000
namespace Go.Proofs.YtdpoaadafcaffaaGreatDoor
open Proofs.Tryz
open Go.RowKit
variable {B N b0 b1 b2 b3 base g size:Nat} {a b u w w':World} {T:List I3} {EL rs:List R2} {h o:Bool} {c k:Int} {ar n nm t tl:ByteArray} {v v1 v2:Value} {e:TypeId} {xs:List Value} {s:RS}
theorem YC {b:Nat} {a:Option Addr} (h:t_ w a T) (hb:Below w.heap.size w w') (hz:w.heap.size<=base) (hbb:w.heap.size<=b):jC base b w' a T:=by
 rcases h with h | ⟨ib,off,h1,h2,h3⟩
 · exact .inl h
 exact .inr ⟨ib,off,h1,O0,O0,fun i hi=>by rw [hb.cell (by exact h2),hb.cell (by exact h2),hb.cell (by exact h2)];exact h3 i hi⟩
theorem QD {b:Nat} {a:Option Addr} (h:pg w a rs) (hb:Below w.heap.size w w') (hz:w.heap.size<=base) (hbb:w.heap.size<=b):zl base b w' a rs:=by
 rcases h with h | ⟨ib,off,h1,h2,h3⟩
 · exact .inl h
 exact .inr ⟨ib,off,h1,O0,O0,fun i hi=>by rw [hb.cell (by exact h2),hb.cell (by exact h2)];exact h3 i hi⟩
theorem tJ (a:Option Addr) (cap:Nat) (T:List I3) (arg:ByteArray) (a2:Option Addr) (cap2:Nat) (EL:List R2) (w:World) (hs:∀ i,(T.getD i K9).tx.size<=1048700) (hl:T.length<=1048576) (hat:t_ w a T) (hok:Yb T=true) (hr:EL.length<=14) (ha:arg.size<=300) (nM:pg w a2 EL) (hs2:∀ i,(EL.getD i Oa).tx.size<=1048700) (hsh:Z5 w) (hmax:N8 w):
 Calls prog 52 #[.agg #[.slice a T.length cap],.string arg,.slice a2 EL.length cap2] w fun e w'=>e=.returned (Z7 T arg EL).v/\Below w.heap.size w w':=by
 have RQ:=Q0 hat;have JN:=Q0 hsh;have LQ:=Q0 nM;have sP:=Q0 hmax;have hone:=hmax.1;obtain ⟨rb,roff,hc⟩:=Fq nM;have HC:=Q0 hc;clear hat hsh nM hmax hc;go_enter func52,ntmps52
 go_wp2_with fail
 refine (NH a cap T (W0 a T.length cap w) hs hl (O_ RQ.out (Z4 _ _ _ _)) (F7 JN.out (Z4 _ _ _ _))).mono ?_;rintro e w1 ⟨rfl,hb1⟩;rw [hok];have hb:Below (w.heap.size+2) (W0 a T.length cap w) w1:=by rw [y_] at hb1;exact hb1
 obtain ⟨⟨t0,q0,q1,q2,q3,q4,q5⟩,hfz⟩:=Q5 hb
 go_wp2_with fail
 clear t0 q0 q1 q2 q3 q4 q5 hfz hb1;go_loopw [26] (fun i wr=>∃ k:Nat,k<=EL.length/\i=.int .i64 k/\Hid (Xk (EL.take k)=true)/\Below (w.heap.size+2) (W0 a T.length cap w) wr) (fun i _=>EL.length - (intOf i).toNat)
 case atStart=>exact ⟨0,Nat.zero_le _,rfl,rfl,hb⟩
 clear hb;obtain ⟨k,hk,rfl,hko,hb⟩:=hrel;have hBw:=(Z4 a T.length cap w).trans (hb.mono O0);have hzz:w.heap.size+2<=wr.heap.size:=by have:=hb.size;rw [y_] at this;exact this
 by_cases hlt:k<EL.length
 · rcases HC.out with hss | ⟨ha2,hrw,hcell⟩
   · rw [hss] at hlt;exact absurd hlt (Nat.not_lt_zero _)
   subst ha2;have x0:=(hBw.cell (p:=⟨rb,roff+k*2,none⟩) hrw).trans (hcell k hlt).1;have x1:=(hBw.cell (p:=⟨rb,roff+k*2+1,none⟩) hrw).trans (hcell k hlt).2;have hxs:=hs2 k;have a0f:rb<wr.heap.size:=O0;generalize hx:EL.getD k Oa=x at*;have HX:=Q0 hx;clear hx hcell
   go_wp2_with fail
   refine (QJ x.code x.tx _ hxs).mono ?_;rintro e w2 ⟨rfl,hb2⟩;have hb':=(hb.alloc hzz _).trans (hb2.mono X3);by_cases hv:vr x.code x.tx.data.toList=true
   · have VW:=Q0 (Xn hlt hko.out (by rw [HX.out];exact hv))
     rw [hv];clear hv hb2;go_wp2;go_roundw
     case rel=>exact ⟨k+1,O0,by go_num,VW,hb'⟩
     case measure=>simp [intOf];omega
   have hv':vr x.code x.tx.data.toList=false:=by simpa using hv
   have HZ:Hid (Z7 T arg EL=R5):=ll (.inr (.inr (.inr (Iq hlt (by rw [HX.out];exact hv')))));rw [hv'];clear hv hv' hb2;obtain ⟨⟨t0,q0,q1,q2,q3,q4,q5⟩,hfz⟩:=Q5 hb';go_wp2;obtain ⟨s0,s1,s2,s3,s4,s5⟩:=K_ (O7 hb') (.bool false) (.int .i64 0) (.string ⟨#[]⟩) (.bool false) (.string ⟨#[]⟩) (.int .i64 0);refine bodyPost_ret (v:=R5.v) (by simp [results,Tryz.results52,go_sem,s0,s1,s2,s3,s4,s5,R5,TN.v]) rfl ⟨by rw [HZ.out],?_⟩;exact ((Z4 a T.length cap w).trans (hb'.mono O0)).trans (M4 O0 _ _ _ _ _ _)
 have hall:Hid (Xk EL=true):=by have:=hko.out;rw [List.take_of_length_le O0] at this;exact this
 have TT:=Q0 (Nr hok ha hr hall.out);obtain ⟨⟨t0,q0,q1,q2,q3,q4,q5⟩,hfz⟩:=Q5 hb;clear q0 q1 q2 q3 q4 q5 hfz hko;have hBx:∀ o,Below w.heap.size w (wr.alloc o):=fun o=>hBw.alloc O0 o;have ZP:=Q0 hBx;have PR:Hid (Y4 (wr.alloc (.cells (og (.pointer none) (.slice none 0 0) arg (.slice a2 EL.length cap2) 0 s0).cells 159)) wr.heap.size (og (.pointer none) (.slice none 0 0) arg (.slice a2 EL.length cap2) 0 s0)):=M5 rfl _;have a0x:w.heap.size<wr.heap.size:=O0;clear hBx
 go_wp2_with fail
 refine (uK wr.heap.size a cap T arg a2 cap2 EL (wr.alloc (.cells (og (.pointer none) (.slice none 0 0) arg (.slice a2 EL.length cap2) 0 s0).cells 159)) PR.out (YC RQ.out (ZP.out _) X3 O0) (QD LQ.out (ZP.out _) X3 O0) (P8 sP.out (ZP.out _)) O0 hok ha hr hall.out).mono ?_;rintro e w2 ⟨rfl,⟨r,hrn,hrh,hrt⟩,hk2⟩;have hb2:=(hb.alloc hzz _).trans (hk2.below hzz X3);obtain ⟨⟨t2,q0,q1,q2,q3,q4,q5⟩,hfz⟩:=Q5 hb2;have d9:w2.cell? ⟨wr.heap.size,9,none⟩=some (.bool r.over):=V3 hrn 9;have d10:w2.cell? ⟨wr.heap.size,10,none⟩=some (.int .i64 r.code):=V3 hrn 10;have d11:w2.cell? ⟨wr.heap.size,11,none⟩=some (.string r.text):=V3 hrn 11;have d12:w2.cell? ⟨wr.heap.size,12,none⟩=some (.bool r.has):=V3 hrn 12;have d13:w2.cell? ⟨wr.heap.size,13,none⟩=some (.string r.name):=V3 hrn 13;have d14:w2.cell? ⟨wr.heap.size,14,none⟩=some (.int .i64 r.steps):=V3 hrn 14;have HT:=Q0 (TT.out.trans hrt.symm);clear hrn hrt hk2 t0;go_wp2;obtain ⟨s0,s1,s2,s3,s4,s5⟩:=K_ (O7 hb2) (.bool r.over) (.int .i64 r.code) (.string r.text) (.bool r.has) (.string r.name) (.int .i64 r.steps);refine bodyPost_ret (v:=r.tn.v) (by simp [results,Tryz.results52,go_sem,s0,s1,s2,s3,s4,s5,RC.tn,TN.v]) rfl ⟨by rw [HT.out],?_⟩;exact ((Z4 a T.length cap w).trans (hb2.mono O0)).trans (M4 O0 _ _ _ _ _ _)
structure Three (T:List I3) (arg:ByteArray) (EL:List R2):Prop where
 tl:T.length<=1048576
 ts:∀ i,(T.getD i K9).tx.size<=1048576
 al:arg.size<=1048576
 rl:EL.length<=1048576
 rs:∀ i,(EL.getD i Oa).tx.size<=1048576
theorem c124 (a:Option Addr) (cap:Nat) (T:List I3) (arg:ByteArray) (a2:Option Addr) (cap2:Nat) (EL:List R2) (w:World) (h3:Three T arg EL) (hat:t_ w a T) (nM:pg w a2 EL):
 Calls prog 124 #[.agg #[.slice a T.length cap],.string arg,.slice a2 EL.length cap2] w fun e w'=>e=.returned (Z7 T arg EL).v/\Below w.heap.size w w':=by
 have hs:∀ i,(T.getD i K9).tx.size<=1048700:=fun i=>Nat.le_trans (h3.ts i) O0;by_cases h:Yb T=true/\arg.size<=300/\EL.length<=14
 · exact dH a cap T arg a2 cap2 EL w hs h3.tl hat h.1 h.2.2 h.2.1 nM (fun i=>Nat.le_trans (h3.rs i) O0)
 refine aH a cap T arg a2 cap2 EL w hs h3.tl hat ?_ h3.al h3.rl;by_cases h1:Yb T=true
 · by_cases h2:arg.size<=300
   · exact .inr (.inr (by have h4:¬ EL.length<=14:=fun h4=>h ⟨h1,h2,h4⟩;omega))
   exact .inr (.inl O0)
 exact .inl (by simpa using h1)
theorem DK (a:Option Addr) (cap:Nat) (T:List I3) (arg:ByteArray) (a2:Option Addr) (cap2:Nat) (EL:List R2) (w:World) (h3:Three T arg EL) (hat:t_ w a T) (nM:pg w a2 EL) (hsh:Z5 w) (hmx:N8 w):
 Calls prog 52 #[.agg #[.slice a T.length cap],.string arg,.slice a2 EL.length cap2] w fun e w'=>e=.returned (Z7 T arg EL).v/\Below w.heap.size w w':=by
 have hs:∀ i,(T.getD i K9).tx.size<=1048700:=fun i=>Nat.le_trans (h3.ts i) O0;by_cases h:Yb T=true/\arg.size<=300/\EL.length<=14
 · exact tJ a cap T arg a2 cap2 EL w hs h3.tl hat h.1 h.2.2 h.2.1 nM (fun i=>Nat.le_trans (h3.rs i) O0) hsh hmx
 refine UI a cap T arg a2 cap2 EL w hs h3.tl hat ?_ hsh h3.al h3.rl;by_cases h1:Yb T=true
 · by_cases h2:arg.size<=300
   · exact .inr (.inr (by have h4:¬ EL.length<=14:=fun h4=>h ⟨h1,h2,h4⟩;omega))
   exact .inr (.inl O0)
 exact .inl (by simpa using h1)
theorem TH (a:Option Addr) (cap:Nat) (T:List I3) (arg:ByteArray) (a2:Option Addr) (cap2:Nat) (EL:List R2) (w:World) (h3:Three T arg EL) (hat:t_ w a T) (nM:pg w a2 EL) (e:Z7 T arg EL=⟨o,c,t,h,n,k⟩):
 Calls prog 124 #[.agg #[.slice a T.length cap],.string arg,.slice a2 EL.length cap2] w fun e w'=>e=.returned (.agg #[.bool o,.int .i64 c,.string t,.bool h,.string n,.int .i64 k])/\Below w.heap.size w w':=by
 have:=c124 a cap T arg a2 cap2 EL w h3 hat nM;rw [e] at this;exact this
theorem EJ (a:Option Addr) (cap:Nat) (T:List I3) (arg:ByteArray) (a2:Option Addr) (cap2:Nat) (EL:List R2) (w:World) (h3:Three T arg EL) (hat:t_ w a T) (nM:pg w a2 EL) (hsh:Z5 w) (hmx:N8 w) (e:Z7 T arg EL=⟨o,c,t,h,n,k⟩):
 Calls prog 52 #[.agg #[.slice a T.length cap],.string arg,.slice a2 EL.length cap2] w fun e w'=>e=.returned (.agg #[.bool o,.int .i64 c,.string t,.bool h,.string n,.int .i64 k])/\Below w.heap.size w w':=by
 have:=DK a cap T arg a2 cap2 EL w h3 hat nM hsh hmx;rw [e] at this;exact this
structure Ex (S:Nat->Prop) (w w':World):Prop where
 os:w'.os=w.os
 tape:w'.tape=w.tape
 output:w'.output=w.output
 size:w.heap.size<=w'.heap.size
 block:∀ k,k<w.heap.size->¬ S k->w'.heap[k]?=w.heap[k]?
theorem Ex.refl (S:Nat->Prop) (w:World):Ex S w w:=⟨rfl,rfl,rfl,Nat.le_refl _,fun _ _ _=>rfl⟩
theorem Ex.trans {S:Nat->Prop} {c:World} (h:Ex S a b) (k:Ex S b c):Ex S a c:=
 ⟨k.os.trans h.os,k.tape.trans h.tape,k.output.trans h.output,Nat.le_trans h.size k.size,fun i hi hn=>(k.block i (Nat.lt_of_lt_of_le hi h.size) hn).trans (h.block i hi hn)⟩
theorem Ex.mono {S S':Nat->Prop} (h:Ex S a b) (hS:∀ k,k<a.heap.size->S k->S' k):Ex S' a b:=
 ⟨h.os,h.tape,h.output,h.size,fun k hk hn=>h.block k hk (fun e=>hn (hS k hk e))⟩
theorem Ex.Mh {S:Nat->Prop} {c:World} (h:Ex S a b) (k:Below a.heap.size b c):Ex S a c:=
 ⟨k.os.trans h.os,k.tape.trans h.tape,k.output.trans h.output,Nat.le_trans h.size k.size,fun i hi hn=>(k.block i hi).trans (h.block i hi hn)⟩
theorem Ex.SG {S:Nat->Prop} (k:Below a.heap.size a b):Ex S a b:=(Ex.refl S a).Mh k
theorem Ex.setCell {S:Nat->Prop} (h:Ex S a w) {p:Addr} (hp:p.block<a.heap.size->S p.block) (u:Value):Ex S a (w.setCell p u):=
 ⟨h.os,h.tape,h.output,by simpa using h.size,fun k hk hn=>(Below.heap_setCell _ _ _ _ (fun e=>hn (by subst e;exact hp hk))).trans (h.block k hk hn)⟩
theorem Ex.alloc {S:Nat->Prop} (h:Ex S a w) (o:Obj):Ex S a (w.alloc o):=h.Mh ((Below.refl _ _).alloc h.size o)
theorem Ex.grown {S:Nat->Prop} {row:Option Nat} (h:Ex S a w) (hg:w.grownBy w' row) (hr:∀ k,row=some k->k<a.heap.size->S k):Ex S a w':=
 ⟨hg.os.trans h.os,hg.tape.trans h.tape,hg.output.trans h.output,Nat.le_trans h.size hg.size,fun k hk hn=>(hg.block k (Nat.lt_of_lt_of_le hk h.size) (fun e=>hn (hr k e.symm hk))).trans (h.block k hk hn)⟩
theorem Ex.below {S:Nat->Prop} (h:Ex S a b) (hS:∀ k,S k->N<=k) (hN:N<=a.heap.size):Below N a b:=
 ⟨h.os,h.tape,h.output,h.size,fun k hk=>h.block k O0 (fun e=>by have:=hS k e;omega)⟩
def FP (b0 b1 b2:Nat) (v1:Value) (k:Nat):Prop:=k=b0\/k=b1\/k=b2\/v1.ownBlock=some k
def Nw (w:World) (v v':Value):Prop:=∀ k,v'.ownBlock=some k->v.ownBlock=some k\/w.heap.size<=k
theorem tH {w0:World} {v':Value} (h:v'.ownBlock=v.ownBlock\/v'.ownBlock=some w0.heap.size) (hs:w.heap.size<=w0.heap.size):Nw w v v':=fun k e=>by
 rcases h with h | h
 · exact .inl (h.symm.trans e)
 rw [h] at e;cases e;exact .inr hs
theorem jf (w:World) (v:Value):Nw w v v:=fun _ h=>.inl h
theorem J2 {n:Nat} (h:w.ownsRow base e size v n xs) {k:Nat} (hk:v.ownBlock=some k):base<=k/\∃ cur,w.heap[k]?=some (.cells cur e (0,0)):=by
 rcases h.2 with ⟨hv,_⟩ | ⟨g,cap,cur,hv,hg,hh,_⟩
 · subst hv;cases hk
 subst hv;obtain rfl:g=k:=by injection hk
 exact ⟨hg,cur,hh⟩
theorem Y0 {n:Nat} (h:w.ownsRow base e size v n xs) (hk:∀ k,v.ownBlock=some k->w'.heap[k]?=w.heap[k]?):w'.ownsRow base e size v n xs:=by
 refine ⟨h.1,?_⟩;rcases h.2 with h2 | ⟨g,cap,cur,hv,hg,hh,r⟩
 · exact .inl h2
 exact .inr ⟨g,cap,cur,hv,hg,(hk g (by rw [hv];rfl)).trans hh,r⟩
theorem WE (hg:g=w.heap.size) (x y:Value) (t:TypeId):∀ j u,[x,y][j]?=some u->(w.alloc (.cells #[x,y] t)).cell? ((⟨g,0,none⟩:Addr).add j)=some u:=by
 subst hg;intro j u h
 match j,h with
 | 0,h=>simp at h;subst h;simp [Addr.add]
 | 1,h=>simp at h;subst h;simp [Addr.add]
theorem dn {n:Nat} (h:w.ownsRow B e 2 v n xs):∃ ao c,v=.slice ao n c:=by
 rcases h.2 with ⟨hv,h0⟩ | ⟨g,cap,cur,hv,_⟩
 · exact ⟨none,0,by rw [hv,h0]⟩
 exact ⟨_,_,hv⟩
theorem S_.app {w3:World} (h:S_ base b0 b1 b2 b3 u nm tl ar ⟨true,T,EL⟩ v1 v2) (hg:u.grownBy w3 v1.ownBlock) (r:R2) (v':Value) (ho:w3.ownsRow base 31 2 v' (EL.length+1) (X8 EL++[.int .i64 r.code,.string r.tx])):
 S_ base b0 b1 b2 b3 (w3.setCell ⟨b1,0,none⟩ v') nm tl ar ⟨true,T,EL++[r]⟩ v' v2:=by
 have ne:∀ (k:Nat) (x:Array Value) (t:TypeId),u.heap[k]?=some (.cells x t (0,0))->t≠31->some k≠v1.ownBlock:=fun k x t hk ht e=>by
  obtain ⟨_,cur,hc⟩:=J2 h.o1 e.symm;exact j6 hk hc ht rfl
 have g3:∀ (k:Nat) (x:Array Value) (t:TypeId),u.heap[k]?=some (.cells x t (0,0))->t≠31->w3.heap[k]?=some (.cells x t (0,0)):=fun k x t hk ht=>(hg.block k (F4 hk) (ne k x t hk ht)).trans hk;have s3:∀ (k:Nat) (x:Array Value) (t:TypeId),u.heap[k]?=some (.cells x t (0,0))->t≠31->t≠110->(w3.setCell ⟨b1,0,none⟩ v').heap[k]?=some (.cells x t (0,0)):=fun k x t hk ht hu=>(heap_setCell_other _ _ _ _ (j6 hk h.h1 hu)).trans (g3 k x t hk ht);have hn:v'.ownBlock≠some b1:=fun e=>by
  obtain ⟨_,cur,hc⟩:=J2 ho e;exact j6 (g3 _ _ _ h.h1 J3) hc J3 rfl
 refine ⟨h.PQ,h.VN,h.QQ,h.aS,s3 _ _ _ h.h0 J3 J3,heap_setCell_same w3 b1 0 _ _ _ (g3 _ _ _ h.h1 J3),s3 _ _ _ h.h2 J3 J3,s3 _ _ _ h.h3 J3 J3,?_,?_⟩
 · rw [Ug,List.length_append]
   exact Y0 ho fun k hk=>heap_setCell_other _ _ _ _ (fun e=>hn (by rw [hk,e]))
 refine Y0 h.o2 fun k hk=>?_;obtain ⟨_,cur,hc⟩:=J2 h.o2 hk;rw [s3 _ _ _ hc J3 J3,hc]
theorem S_.set (h:S_ base b0 b1 b2 b3 u nm tl ar s v1 v2) {j:Nat} {x:Array Value} (hB:u.heap[B]?=some (.cells x 42 (0,0))) (v:Value):S_ base b0 b1 b2 b3 (u.setCell ⟨B,j,none⟩ v) nm tl ar s v1 v2:=by
 have s3:∀ (k:Nat) (x:Array Value) (t:TypeId),u.heap[k]?=some (.cells x t (0,0))->t≠42->(u.setCell ⟨B,j,none⟩ v).heap[k]?=some (.cells x t (0,0)):=fun k x t hk ht=>(heap_setCell_other _ _ _ _ (j6 hk hB ht)).trans hk;refine ⟨h.PQ,h.VN,h.QQ,h.aS,s3 _ _ _ h.h0 J3,s3 _ _ _ h.h1 J3,s3 _ _ _ h.h2 J3,s3 _ _ _ h.h3 J3,?_,?_⟩
 · refine Y0 h.o1 fun k hk=>?_
   obtain ⟨_,cur,hc⟩:=J2 h.o1 hk;rw [s3 _ _ _ hc J3,hc]
 refine Y0 h.o2 fun k hk=>?_;obtain ⟨_,cur,hc⟩:=J2 h.o2 hk;rw [s3 _ _ _ hc J3,hc]
theorem S_.K_ (h:S_ base b0 b1 b2 b3 u nm tl ar s v1 v2) (hB:u.heap[B]?=some (.cells z6 42 (0,0))) (x0 x1 x2 x3 x4 x5:Value):S_ base b0 b1 b2 b3 ((((((u.setCell ⟨B,0,none⟩ x0).setCell ⟨B,1,none⟩ x1).setCell ⟨B,2,none⟩ x2).setCell ⟨B,3,none⟩ x3).setCell ⟨B,4,none⟩ x4).setCell ⟨B,5,none⟩ x5) nm tl ar s v1 v2:=by
 have h0:=heap_setCell_same u B 0 _ 42 x0 hB;have h1:=heap_setCell_same _ B 1 _ 42 x1 h0;have h2:=heap_setCell_same _ B 2 _ 42 x2 h1;have h3:=heap_setCell_same _ B 3 _ 42 x3 h2;have h4:=heap_setCell_same _ B 4 _ 42 x4 h3;exact (((((h.set hB x0).set h0 x1).set h1 x2).set h2 x3).set h3 x4).set h4 x5
theorem je (h:N8 w) (hb:Below base w w') (h2:10<=base):N8 w':=by
 obtain ⟨h1,m,hm⟩:=h;exact ⟨Nat.lt_of_lt_of_le h1 hb.size,m,by rw [hb.cell (by show 0<base;omega)];exact hm⟩
theorem Ja (h:Z5 w) (hb:Below base w w') (h2:10<=base):Z5 w':=by
 intro op h1 h2;have hp:2<base:=O0;obtain ⟨a,b,c⟩:=h op h1 h2;exact ⟨(hb.cell (p:=⟨2,op*3,none⟩) hp).trans a,(hb.cell (p:=⟨2,op*3+1,none⟩) hp).trans b,(hb.cell (p:=⟨2,op*3+2,none⟩) hp).trans c⟩
theorem bH (a:Option Addr) (cap n:Nat) (T:List I3) (arg:ByteArray) (a2:Option Addr) (cap2 n2:Nat) (EL:List R2) (w:World) (hn:n=T.length) (hn2:n2=EL.length) (h3:Three T arg EL) (hat:t_ w a T) (nM:pg w a2 EL) (hsh:Z5 w) (hmx:N8 w) (e:Z7 T arg EL=⟨o,c,t,h,nm,k⟩):
 Calls prog 52 #[.agg #[.slice a n cap],.string arg,.slice a2 n2 cap2] w fun e w'=>e=.returned (.agg #[.bool o,.int .i64 c,.string t,.bool h,.string nm,.int .i64 k])/\Below w.heap.size w w':=by
 subst hn hn2;exact EJ a cap T arg a2 cap2 EL w h3 hat nM hsh hmx e
end Go.Proofs.YtdpoaadafcaffaaGreatDoor

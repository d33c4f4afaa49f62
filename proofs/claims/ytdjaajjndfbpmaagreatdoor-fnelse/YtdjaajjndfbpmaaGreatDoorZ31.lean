import Derived.Test.YtdjaajjndfbpmaaGreatDoorNF
import Derived.Test.YtdjaajjndfbpmaaGreatDoorN9
import Derived.Maps.AppendAt
set_option linter.unusedVariables false
set_option maxHeartbeats 8000000
set_option maxRecDepth 100000
namespace Go.Proofs.YtdjaajjndfbpmaaGreatDoor
open Proofs.Tryz
open Go.RowKit
variable {B N b0 b1 b2 b3 base g size:Nat} {a b u w w':World} {T:List I3} {nR rs:List R2} {h o:Bool} {c k:Int} {ar n nm t tl:ByteArray} {v v1 v2:Value} {e:TypeId} {xs:List Value} {s:RS}
theorem MH {b:Nat} {a:Option Addr} (h:Da w a T) (c:Below w.heap.size w w') (hz:w.heap.size<=base) (hbb:w.heap.size<=b):UH base b w' a T:=by
 rcases h with h | ⟨e,d,h1,h2,h3⟩
 · exact .inl h
 exact .inr ⟨e,d,h1,O0,O0,fun i f=>by rw [c.cell (by exact h2),c.cell (by exact h2),c.cell (by exact h2)];exact h3 i f⟩
theorem jJ {b:Nat} {a:Option Addr} (h:ui w a rs) (c:Below w.heap.size w w') (hz:w.heap.size<=base) (hbb:w.heap.size<=b):Er base b w' a rs:=by
 rcases h with h | ⟨e,d,h1,h2,h3⟩
 · exact .inl h
 exact .inr ⟨e,d,h1,O0,O0,fun i f=>by rw [c.cell (by exact h2),c.cell (by exact h2)];exact h3 i f⟩
theorem zM (a:Option Addr) (cap:Nat) (T:List I3) (arg:ByteArray) (a2:Option Addr) (cap2:Nat) (nR:List R2) (w:World) (hs:∀ i,(T.getD i A_).tx.size<=1048700) (hl:T.length<=1048576) (X:Da w a T) (F:Zd T=true) (U:nR.length<=14) (Z:arg.size<=300) (L:ui w a2 nR) (hs2:∀ i,(nR.getD i Jc).tx.size<=1048700) (Q:A7 w) (H:Z9 w):
 Calls prog 118 #[.agg #[.slice a T.length cap],.string arg,.slice a2 nR.length cap2] w fun e w'=>e=.returned (l9 T arg nR).v/\Below w.heap.size w w':=by
 have HIA:=Q0 X;have DV:=Q0 Q;have HRA:=Q0 L;have FV:=Q0 H;have hone:=H.1;obtain ⟨C,P,W⟩:=Ny L;have HC:=Q0 W;clear X Q L H W;go_enter func118,ntmps118
 go_wp2_with fail
 refine (c143 a cap T (W0 a T.length cap w) hs hl (Va HIA.out (K5 _ _ _ _)) (o9 DV.out (K5 _ _ _ _))).mono ?_;rintro e w1 ⟨rfl,K⟩;rw [F];have b:Below (w.heap.size+2) (W0 a T.length cap w) w1:=by rw [Aa] at K;exact K
 obtain ⟨⟨t,q,n,m,l,j,h⟩,s⟩:=F6 b
 go_wp2_with fail
 clear t q n m l j h s K;go_loopw [26] (fun i wr=>∃ k:Nat,k<=nR.length/\i=.int .i64 k/\Hid (Tp (nR.take k)=true)/\Below (w.heap.size+2) (W0 a T.length cap w) wr) (fun i _=>nR.length - (intOf i).toNat)
 case atStart=>exact ⟨0,I5 _,rfl,rfl,b⟩
 clear b;obtain ⟨k,hk,rfl,I,b⟩:=hrel;have N:=(K5 a T.length cap w).trans (b.mono O0);have D:w.heap.size+2<=wr.heap.size:=by have:=b.size;rw [Aa] at this;exact this
 by_cases g:k<nR.length
 · rcases HC.out with hss | ⟨ha2,R,J⟩
   · rw [hss] at g;exact absurd g (F5 _)
   subst ha2;have x0:=(N.cell (p:=⟨C,P+k*2,none⟩) R).trans (J k g).1;have x1:=(N.cell (p:=⟨C,P+k*2+1,none⟩) R).trans (J k g).2;have hxs:=hs2 k;have a0s:C<wr.heap.size:=O0;generalize hx:nR.getD k Jc=x at*;have HX:=Q0 hx;clear hx J
   go_wp2_with fail
   refine (VO x.code x.tx _ hxs).mono ?_;rintro e c ⟨rfl,f⟩;have u:=(b.alloc D _).trans (f.mono J4);by_cases hv:vr x.code x.tx.data.toList=true
   · have rY:=Q0 (Nt g I.out (by rw [HX.out];exact hv))
     rw [hv];clear hv f;go_wp2;go_roundw
     case rel=>exact ⟨k+1,O0,by go_num,rY,u⟩
     case measure=>simp [intOf];omega
   have E:vr x.code x.tx.data.toList=false:=by simpa using hv
   have HZ:Hid (l9 T arg nR=L6):=Qp (.inr (.inr (.inr (Gw g (by rw [HX.out];exact E)))));rw [E];clear hv E f;obtain ⟨⟨t,q,n,m,l,j,h⟩,s⟩:=F6 u;go_wp2;obtain ⟨s0,B,A,z,s4,y⟩:=Ua (K8 u) (.bool false) (.int .i64 0) (.string ⟨#[]⟩) (.bool false) (.string ⟨#[]⟩) (.int .i64 0);refine K4 (v:=L6.v) (by simp [results,results118,go_sem,s0,B,A,z,s4,y,L6,TN.v]) rfl ⟨by rw [HZ.out],?_⟩;exact ((K5 a T.length cap w).trans (u.mono O0)).trans (U4 O0 _ _ _ _ _ _)
 have Y:Hid (Tp nR=true):=by have:=I.out;rw [E_ O0] at this;exact this
 have CV:=Q0 (Ww F Z U Y.out);obtain ⟨⟨t,q,n,m,l,j,h⟩,s⟩:=F6 b;clear q n m l j h s I;have hBx:∀ o,Below w.heap.size w (wr.alloc o):=fun o=>N.alloc O0 o;have O:=Q0 hBx;have KW:Hid (E5 (wr.alloc (.cells (Si (.pointer none) (.slice none 0 0) arg (.slice a2 nR.length cap2) 0 s0).cells 225)) wr.heap.size (Si (.pointer none) (.slice none 0 0) arg (.slice a2 nR.length cap2) 0 s0)):=X6 rfl _;have a0M:w.heap.size<wr.heap.size:=O0;clear hBx
 go_wp2_with fail
 refine (c145 wr.heap.size a cap T arg a2 cap2 nR (wr.alloc (.cells (Si (.pointer none) (.slice none 0 0) arg (.slice a2 nR.length cap2) 0 s0).cells 225)) KW.out (MH HIA.out (O.out _) J4 O0) (jJ HRA.out (O.out _) J4 O0) (f_ FV.out (O.out _)) O0 F Z U Y.out).mono ?_;rintro e c ⟨rfl,⟨r,d,hrh,S⟩,V⟩;have f:=(b.alloc D _).trans (V.below D J4);obtain ⟨⟨t2,q,n,m,l,j,h⟩,s⟩:=F6 f;have d9:c.cell? ⟨wr.heap.size,9,none⟩=some (.bool r.over):=U3 d 9;have d10:c.cell? ⟨wr.heap.size,10,none⟩=some (.int .i64 r.code):=U3 d 10;have d11:c.cell? ⟨wr.heap.size,11,none⟩=some (.string r.text):=U3 d 11;have d12:c.cell? ⟨wr.heap.size,12,none⟩=some (.bool r.has):=U3 d 12;have d13:c.cell? ⟨wr.heap.size,13,none⟩=some (.string r.name):=U3 d 13;have d14:c.cell? ⟨wr.heap.size,14,none⟩=some (.int .i64 r.steps):=U3 d 14;have HT:=Q0 (CV.out.trans S.symm);clear d S V t;go_wp2;obtain ⟨s0,B,A,z,s4,y⟩:=Ua (K8 f) (.bool r.over) (.int .i64 r.code) (.string r.text) (.bool r.has) (.string r.name) (.int .i64 r.steps);refine K4 (v:=r.tn.v) (by simp [results,results118,go_sem,s0,B,A,z,s4,y,RC.tn,TN.v]) rfl ⟨by rw [HT.out],?_⟩;exact ((K5 a T.length cap w).trans (f.mono O0)).trans (U4 O0 _ _ _ _ _ _)
structure Three (T:List I3) (arg:ByteArray) (nR:List R2):Prop where
 tl:T.length<=1048576
 ts:∀ i,(T.getD i A_).tx.size<=1048576
 al:arg.size<=1048576
 rl:nR.length<=1048576
 rs:∀ i,(nR.getD i Jc).tx.size<=1048576
theorem c124 (a:Option Addr) (cap:Nat) (T:List I3) (arg:ByteArray) (a2:Option Addr) (cap2:Nat) (nR:List R2) (w:World) (h3:Three T arg nR) (c:Da w a T) (f:ui w a2 nR):
 Calls prog 124 #[.agg #[.slice a T.length cap],.string arg,.slice a2 nR.length cap2] w fun e w'=>e=.returned (l9 T arg nR).v/\Below w.heap.size w w':=by
 have b:∀ i,(T.getD i A_).tx.size<=1048700:=fun i=>Z4 (h3.ts i) O0;by_cases h:Zd T=true/\arg.size<=300/\nR.length<=14
 · exact GN a cap T arg a2 cap2 nR w b h3.tl c h.1 h.2.2 h.2.1 f (fun i=>Z4 (h3.rs i) O0)
 refine QN a cap T arg a2 cap2 nR w b h3.tl c ?_ h3.al h3.rl;by_cases h1:Zd T=true
 · by_cases h2:arg.size<=300
   · exact .inr (.inr (by have d:¬ nR.length<=14:=fun d=>h ⟨h1,h2,d⟩;omega))
   exact .inr (.inl O0)
 exact .inl (by simpa using h1)
theorem xP (a:Option Addr) (cap:Nat) (T:List I3) (arg:ByteArray) (a2:Option Addr) (cap2:Nat) (nR:List R2) (w:World) (h3:Three T arg nR) (d:Da w a T) (j:ui w a2 nR) (b:A7 w) (g:Z9 w):
 Calls prog 118 #[.agg #[.slice a T.length cap],.string arg,.slice a2 nR.length cap2] w fun e w'=>e=.returned (l9 T arg nR).v/\Below w.heap.size w w':=by
 have c:∀ i,(T.getD i A_).tx.size<=1048700:=fun i=>Z4 (h3.ts i) O0;by_cases h:Zd T=true/\arg.size<=300/\nR.length<=14
 · exact zM a cap T arg a2 cap2 nR w c h3.tl d h.1 h.2.2 h.2.1 j (fun i=>Z4 (h3.rs i) O0) b g
 refine MM a cap T arg a2 cap2 nR w c h3.tl d ?_ b h3.al h3.rl;by_cases h1:Zd T=true
 · by_cases h2:arg.size<=300
   · exact .inr (.inr (by have f:¬ nR.length<=14:=fun f=>h ⟨h1,h2,f⟩;omega))
   exact .inr (.inl O0)
 exact .inl (by simpa using h1)
theorem VM (a:Option Addr) (cap:Nat) (T:List I3) (arg:ByteArray) (a2:Option Addr) (cap2:Nat) (nR:List R2) (w:World) (h3:Three T arg nR) (d:Da w a T) (b:ui w a2 nR) (e:l9 T arg nR=⟨o,c,t,h,n,k⟩):
 Calls prog 124 #[.agg #[.slice a T.length cap],.string arg,.slice a2 nR.length cap2] w fun e w'=>e=.returned (.agg #[.bool o,.int .i64 c,.string t,.bool h,.string n,.int .i64 k])/\Below w.heap.size w w':=by
 have:=c124 a cap T arg a2 cap2 nR w h3 d b;rw [e] at this;exact this
theorem OM (a:Option Addr) (cap:Nat) (T:List I3) (arg:ByteArray) (a2:Option Addr) (cap2:Nat) (nR:List R2) (w:World) (h3:Three T arg nR) (g:Da w a T) (f:ui w a2 nR) (b:A7 w) (d:Z9 w) (e:l9 T arg nR=⟨o,c,t,h,n,k⟩):
 Calls prog 118 #[.agg #[.slice a T.length cap],.string arg,.slice a2 nR.length cap2] w fun e w'=>e=.returned (.agg #[.bool o,.int .i64 c,.string t,.bool h,.string n,.int .i64 k])/\Below w.heap.size w w':=by
 have:=xP a cap T arg a2 cap2 nR w h3 g f b d;rw [e] at this;exact this
structure Ex (S:Nat->Prop) (w w':World):Prop where
 os:w'.os=w.os
 tape:w'.tape=w.tape
 output:w'.output=w.output
 size:w.heap.size<=w'.heap.size
 block:∀ k,k<w.heap.size->¬ S k->w'.heap[k]?=w.heap[k]?
theorem Ex.refl (S:Nat->Prop) (w:World):Ex S w w:=⟨rfl,rfl,rfl,Q6 _,fun _ _ _=>rfl⟩
theorem Ex.trans {S:Nat->Prop} {c:World} (h:Ex S a b) (k:Ex S b c):Ex S a c:=
 ⟨k.os.trans h.os,k.tape.trans h.tape,k.output.trans h.output,Z4 h.size k.size,fun i e d=>(k.block i (D7 e h.size) d).trans (h.block i e d)⟩
theorem Ex.mono {S d:Nat->Prop} (h:Ex S a b) (g:∀ k,k<a.heap.size->S k->d k):Ex d a b:=
 ⟨h.os,h.tape,h.output,h.size,fun k c f=>h.block k c (fun e=>f (g k c e))⟩
theorem Ex.wm {S:Nat->Prop} {c:World} (h:Ex S a b) (k:Below a.heap.size b c):Ex S a c:=
 ⟨k.os.trans h.os,k.tape.trans h.tape,k.output.trans h.output,Z4 h.size k.size,fun i d e=>(k.block i d).trans (h.block i d e)⟩
theorem Ex.rM {S:Nat->Prop} (k:Below a.heap.size a b):Ex S a b:=(Ex.refl S a).wm k
theorem Ex.setCell {S:Nat->Prop} (h:Ex S a w) {p:Addr} (d:p.block<a.heap.size->S p.block) (u:Value):Ex S a (w.setCell p u):=
 ⟨h.os,h.tape,h.output,by simpa using h.size,fun k c b=>(Xq _ _ _ _ (fun e=>b (by subst e;exact d c))).trans (h.block k c b)⟩
theorem Ex.alloc {S:Nat->Prop} (h:Ex S a w) (o:Obj):Ex S a (w.alloc o):=h.wm ((F4 _ _).alloc h.size o)
theorem Ex.grown {S:Nat->Prop} {row:Option Nat} (h:Ex S a w) (b:w.grownBy w' row) (f:∀ k,row=some k->k<a.heap.size->S k):Ex S a w':=
 ⟨b.os.trans h.os,b.tape.trans h.tape,b.output.trans h.output,Z4 h.size b.size,fun k c d=>(b.block k (D7 c h.size) (fun e=>d (f k e.symm c))).trans (h.block k c d)⟩
theorem Ex.below {S:Nat->Prop} (h:Ex S a b) (c:∀ k,S k->N<=k) (hN:N<=a.heap.size):Below N a b:=
 ⟨h.os,h.tape,h.output,h.size,fun k hk=>h.block k O0 (fun e=>by have:=c k e;omega)⟩
def FP (b0 b1 b2:Nat) (v1:Value) (k:Nat):Prop:=k=b0\/k=b1\/k=b2\/v1.ownBlock=some k
def Nw (w:World) (v v':Value):Prop:=∀ k,v'.ownBlock=some k->v.ownBlock=some k\/w.heap.size<=k
theorem MN {w0:World} {v':Value} (h:v'.ownBlock=v.ownBlock\/v'.ownBlock=some w0.heap.size) (a:w.heap.size<=w0.heap.size):Nw w v v':=fun k e=>by
 rcases h with h | h
 · exact .inl (h.symm.trans e)
 rw [h] at e;cases e;exact .inr a
theorem jh (w:World) (v:Value):Nw w v v:=fun _ h=>.inl h
theorem Y2 {n:Nat} (h:w.ownsRow base e size v n xs) {k:Nat} (a:v.ownBlock=some k):base<=k/\∃ cur,w.heap[k]?=some (.cells cur e (0,0)):=by
 rcases h.2 with ⟨hv,_⟩ | ⟨g,cap,cur,hv,c,b,_⟩
 · subst hv;cases a
 subst hv;obtain rfl:g=k:=by injection a
 exact ⟨c,cur,b⟩
theorem Z0 {n:Nat} (h:w.ownsRow base e size v n xs) (a:∀ k,v.ownBlock=some k->w'.heap[k]?=w.heap[k]?):w'.ownsRow base e size v n xs:=by
 refine ⟨h.1,?_⟩;rcases h.2 with h2 | ⟨g,cap,cur,hv,c,b,r⟩
 · exact .inl h2
 exact .inr ⟨g,cap,cur,hv,c,(a g (by rw [hv];rfl)).trans b,r⟩
theorem bK (a:g=w.heap.size) (x y:Value) (t:TypeId):∀ j u,[x,y][j]?=some u->(w.alloc (.cells #[x,y] t)).cell? ((⟨g,0,none⟩:Addr).add j)=some u:=by
 subst a;intro j u h
 match j,h with
 | 0,h=>simp at h;subst h;simp [Addr.add]
 | 1,h=>simp at h;subst h;simp [Addr.add]
theorem Jt {n:Nat} (h:w.ownsRow B e 2 v n xs):∃ a c,v=.slice a n c:=by
 rcases h.2 with ⟨hv,h0⟩ | ⟨g,cap,cur,hv,_⟩
 · exact ⟨none,0,by rw [hv,h0]⟩
 exact ⟨_,_,hv⟩
theorem Fb.app {b:World} (h:Fb base b0 b1 b2 b3 u nm tl ar ⟨true,T,nR⟩ v1 v2) (j:u.grownBy b v1.ownBlock) (r:R2) (v':Value) (ho:b.ownsRow base 34 2 v' (nR.length+1) (x9 nR++[.int .i64 r.code,.string r.tx])):
 Fb base b0 b1 b2 b3 (b.setCell ⟨b1,0,none⟩ v') nm tl ar ⟨true,T,nR++[r]⟩ v' v2:=by
 have ne:∀ (k:Nat) (x:Array Value) (t:TypeId),u.heap[k]?=some (.cells x t (0,0))->t≠34->some k≠v1.ownBlock:=fun k x t a d e=>by
  obtain ⟨_,cur,c⟩:=Y2 h.o1 e.symm;exact J6 a c d rfl
 have g3:∀ (k:Nat) (x:Array Value) (t:TypeId),u.heap[k]?=some (.cells x t (0,0))->t≠34->b.heap[k]?=some (.cells x t (0,0)):=fun k x t a d=>(j.block k (Q4 a) (ne k x t a d)).trans a;have f:∀ (k:Nat) (x:Array Value) (t:TypeId),u.heap[k]?=some (.cells x t (0,0))->t≠34->t≠185->(b.setCell ⟨b1,0,none⟩ v').heap[k]?=some (.cells x t (0,0)):=fun k x t a d g=>(Z8 _ _ _ _ (J6 a h.h1 g)).trans (g3 k x t a d);have i:v'.ownBlock≠some b1:=fun e=>by
  obtain ⟨_,cur,c⟩:=Y2 ho e;exact J6 (g3 _ _ _ h.h1 K3) c K3 rfl
 refine ⟨h.AU,h.yS,h.DU,h.QU,f _ _ _ h.h0 K3 K3,o8 b b1 0 _ _ _ (g3 _ _ _ h.h1 K3),f _ _ _ h.h2 K3 K3,f _ _ _ h.h3 K3 K3,?_,?_⟩
 · rw [Sj,Q7]
   exact Z0 ho fun k a=>Z8 _ _ _ _ (fun e=>i (by rw [a,e]))
 refine Z0 h.o2 fun k a=>?_;obtain ⟨_,cur,c⟩:=Y2 h.o2 a;rw [f _ _ _ c K3 K3,c]
theorem Fb.set (h:Fb base b0 b1 b2 b3 u nm tl ar s v1 v2) {j:Nat} {x:Array Value} (hB:u.heap[B]?=some (.cells x 147 (0,0))) (v:Value):Fb base b0 b1 b2 b3 (u.setCell ⟨B,j,none⟩ v) nm tl ar s v1 v2:=by
 have a:∀ (k:Nat) (x:Array Value) (t:TypeId),u.heap[k]?=some (.cells x t (0,0))->t≠147->(u.setCell ⟨B,j,none⟩ v).heap[k]?=some (.cells x t (0,0)):=fun k x t b d=>(Z8 _ _ _ _ (J6 b hB d)).trans b;refine ⟨h.AU,h.yS,h.DU,h.QU,a _ _ _ h.h0 K3,a _ _ _ h.h1 K3,a _ _ _ h.h2 K3,a _ _ _ h.h3 K3,?_,?_⟩
 · refine Z0 h.o1 fun k b=>?_
   obtain ⟨_,cur,c⟩:=Y2 h.o1 b;rw [a _ _ _ c K3,c]
 refine Z0 h.o2 fun k b=>?_;obtain ⟨_,cur,c⟩:=Y2 h.o2 b;rw [a _ _ _ c K3,c]
theorem Fb.Ua (h:Fb base b0 b1 b2 b3 u nm tl ar s v1 v2) (hB:u.heap[B]?=some (.cells z6 147 (0,0))) (e d c b a f:Value):Fb base b0 b1 b2 b3 ((((((u.setCell ⟨B,0,none⟩ e).setCell ⟨B,1,none⟩ d).setCell ⟨B,2,none⟩ c).setCell ⟨B,3,none⟩ b).setCell ⟨B,4,none⟩ a).setCell ⟨B,5,none⟩ f) nm tl ar s v1 v2:=by
 have h0:=o8 u B 0 _ 147 e hB;have h1:=o8 _ B 1 _ 147 d h0;have h2:=o8 _ B 2 _ 147 c h1;have h3:=o8 _ B 3 _ 147 b h2;have g:=o8 _ B 4 _ 147 a h3;exact (((((h.set hB e).set h0 d).set h1 c).set h2 b).set h3 a).set g f
theorem Lg (h:Z9 w) (a:Below base w w') (h2:10<=base):Z9 w':=by
 obtain ⟨h1,m,b⟩:=h;exact ⟨D7 h1 a.size,m,by rw [a.cell (by show 1<base;omega)];exact b⟩
theorem Dc (h:A7 w) (e:Below base w w') (h2:10<=base):A7 w':=by
 intro op h1 h2;have d:9<base:=O0;obtain ⟨a,b,c⟩:=h op h1 h2;exact ⟨(e.cell (p:=⟨9,op*3,none⟩) d).trans a,(e.cell (p:=⟨9,op*3+1,none⟩) d).trans b,(e.cell (p:=⟨9,op*3+2,none⟩) d).trans c⟩
theorem oK (a:Option Addr) (cap n:Nat) (T:List I3) (arg:ByteArray) (a2:Option Addr) (cap2 b:Nat) (nR:List R2) (w:World) (g:n=T.length) (f:b=nR.length) (h3:Three T arg nR) (l:Da w a T) (j:ui w a2 nR) (d:A7 w) (i:Z9 w) (e:l9 T arg nR=⟨o,c,t,h,nm,k⟩):
 Calls prog 118 #[.agg #[.slice a n cap],.string arg,.slice a2 b cap2] w fun e w'=>e=.returned (.agg #[.bool o,.int .i64 c,.string t,.bool h,.string nm,.int .i64 k])/\Below w.heap.size w w':=by
 subst g f;exact OM a cap T arg a2 cap2 nR w h3 l j d i e
end Go.Proofs.YtdjaajjndfbpmaaGreatDoor

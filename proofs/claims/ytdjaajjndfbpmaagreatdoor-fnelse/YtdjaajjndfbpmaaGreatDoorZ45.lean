import Derived.Test.YtdjaajjndfbpmaaGreatDoorZ31
import Derived.Test.YtdjaajjndfbpmaaGreatDoorRows
import Derived.Lib.LaidU8
import Derived.MakeChecks
import Derived.OpenShut
import Derived.Deep.Strs
import Derived.Test.YtdjaajjndfbpmaaGreatDoorZ43
set_option maxHeartbeats 8000000
set_option maxRecDepth 100000
set_option linter.unusedVariables false
namespace Go.Proofs.YtdjaajjndfbpmaaGreatDoor
open Proofs.Tryz
open Go.RowKit
theorem dN (base b0 b1 b2 b3:Nat) (nm tl ar:ByteArray) (T:List I3) (nR:List R2) (v1 v2:Value) (r:R2) (w:World) (h:Fb base b0 b1 b2 b3 w nm tl ar ⟨true,T,nR⟩ v1 v2) (hrn:nR.length<=300) (h3:Three T ar (nR++[r])) (F:A7 w) (J:Z9 w) (N:10<=base):
 Calls prog 117 #[.agg #[.int .i64 r.code,.string r.tx],.pointer (some ⟨b0,0,none⟩),.pointer (some ⟨b1,0,none⟩),.pointer (some ⟨b2,0,none⟩),.pointer (some ⟨b3,0,none⟩)] w fun e w'=>e=.returned (l9 T ar (nR++[r])).v/\(∃ A z,Fb base b0 b1 b2 b3 w' nm tl ar ⟨true,T,nR++[r]⟩ A z/\Nw w v1 A/\Nw w v2 z)/\Ex (FP b0 b1 b2 v1) w w':=by
 have H:=Q0 h;have HS:=Q0 F;have HM:=Q0 J;have H3:=Q0 h3;have l0:=Q4 h.h0;have B:=Q4 h.h1;have l2:=Q4 h.h2;have l3:=Q4 h.h3;have yS:=h.yS;have c0:w.cell? ⟨b0,0,none⟩=some (.bool true):=by rw [Z5 h.h0];rfl
 have c1:w.cell? ⟨b1,0,none⟩=some v1:=by rw [Z5 h.h1];rfl
 have f1:w.frozen? ⟨b1,0,none⟩=false:=B_ h.h1 0;obtain ⟨i0,hi,hz0,hz1,hz2⟩:=Ze IG;have hown:w.ownsRow base 34 2 v1 nR.length (x9 nR):=h.o1;clear h F J h3;have k0:=past (show b0<w.heap.size from l0) c0;have k1:=past (show b1<w.heap.size from B) c1;have g1:=Mc (show b1<w.heap.size from B) f1;obtain ⟨w0,l⟩:∃ w0,w0=((w.alloc (.cells #[.int .i64 r.code,.string r.tx] 34)).alloc (.cells #[.bool false,.int .i64 0,.string ⟨#[]⟩,.bool false,.string ⟨#[]⟩,.int .i64 0] 147)).alloc (.cells #[.int .i64 r.code,.string r.tx] 34):=⟨_,rfl⟩;have HW0:=Q0 l;have L:Below w.heap.size w w0:=by rw [l];exact (bA.alloc X0 _).alloc J4 _
 have i:=Q0 L;have hz0':w0.heap.size=w.heap.size+3:=by rw [l];simp
 have I:w0.heap[w.heap.size+1]?=some (.cells #[.bool false,.int .i64 0,.string ⟨#[]⟩,.bool false,.string ⟨#[]⟩,.int .i64 0] 147 (0,0)):=by
  rw [l,Jf _ _ _ X0];exact X6 X0 _
 have R:=Q0 I;clear l L I;go_enter func117,ntmps117
 go_wp2_with (at_builtin;refine wpList_append_own_at _ rfl _ _ 185 rfl base 34 i0 (.agg #[.int .i64 0,.string ⟨#[]⟩]) 2 24 underlying185 hi hz0 hz1 hz2 rfl K3 _ _ _ rfl (((hown.alloc _).alloc _).alloc _) ⟨w.heap.size+1+1,0,none⟩ 1 1 [_,_] rfl rfl (bK X0 _ _ _) (by intro u E;simp at E;rcases E with rfl | rfl <;> rfl) (by unfold maxLen;omega) O0 J4 ?_;rw [<- HW0.out];intro v' w3 hown3 (g:w0.grownBy w3 v1.ownBlock) _ (O:v'.ownBlock=v1.ownBlock\/v'.ownBlock=some w0.heap.size);have QZ:Hid (Nw w v1 v'):=MN O O0;have HEX:Hid (Ex (FP b0 b1 b2 v1) w w3):=(Ex.rM i.out).grown g (fun k e _=>.inr (.inr (.inr e)));clear O;have X:Hid (Fb base b0 b1 b2 b3 (w3.setCell ⟨b1,0,none⟩ v') nm tl ar ⟨true,T,nR++[r]⟩ v' v2):=(H.out.below i.out).app g r v' hown3;have m:∀ k,v1.ownBlock=some k->base<=k/\∃ cur,w0.heap[k]?=some (.cells cur 34 (0,0)):=(fun k s=>Y2 (H.out.below i.out).o1 s);have HR3:Hid (w3.heap[w.heap.size+1]?=some (.cells z6 147 (0,0))):=(g.block _ O0 (fun e=>by obtain ⟨_,cur,x⟩:=m _ e.symm;exact J6 R.out x K3 rfl)).trans R.out;have V:Hid (w3.heap[b1]?=some (.cells #[v1] 185 (0,0))):=(g.block _ O0 (fun e=>by obtain ⟨_,cur,x⟩:=m _ e.symm;exact J6 (H.out.below i.out).h1 x K3 rfl)).trans (H.out.below i.out).h1;have RV:Hid (Below base w w3):=((i.out.mono O0).grown g O0 (fun k s=>(m k s).1));have hz3:w0.heap.size<=w3.heap.size:=g.size;obtain ⟨a,d,rfl⟩:=Jt hown3;have d1:w3.cell? ⟨b1,0,none⟩=some v1:=(by rw [Lib.cell_of_heap V.out];rfl);have e1:w3.frozen? ⟨b1,0,none⟩=false:=Lib.frozen_of_heap V.out 0;obtain ⟨a2,P,D,U⟩:=J7 X.out.o2;have m2:(w3.setCell ⟨b1,0,none⟩ (.slice a (nR.length+1) d)).cell? ⟨b2,0,none⟩=some (.slice a2 T.length P):=(by rw [Lib.cell_of_heap X.out.h2,<- D];rfl);have m3:(w3.setCell ⟨b1,0,none⟩ (.slice a (nR.length+1) d)).cell? ⟨b3,2,none⟩=some (.string ar):=(by rw [Lib.cell_of_heap X.out.h3];rfl);have m1:(w3.setCell ⟨b1,0,none⟩ (.slice a (nR.length+1) d)).cell? ⟨b1,0,none⟩=some (.slice a (nR.length+1) d):=(by rw [Lib.cell_of_heap X.out.h1];rfl);have iU:Hid (Da (w3.setCell ⟨b1,0,none⟩ (.slice a (nR.length+1) d)) a2 T):=U;clear g hown3 m U D)
 obtain ⟨a3,cp3,C,Q⟩:=Kn X.out.o1;have ha3:a=a3:=by injection C
 subst ha3;have q:Below base w (w3.setCell ⟨b1,0,none⟩ (.slice a (nR.length+1) d)):=RV.out.setCell (by exact yS) _;have y:(w3.setCell ⟨b1,0,none⟩ (.slice a (nR.length+1) d)).heap[w.heap.size+1]?=some (.cells z6 147 (0,0)):=(Z8 _ _ _ _ (by show w.heap.size+1≠b1;omega)).trans HR3.out;rcases hN:l9 T ar (nR++[r]) with ⟨o,c,t,K,n,k⟩;refine (oK a2 P _ T ar a d _ (nR++[r]) _ rfl X0 H3.out iU.out Q (Dc HS.out q N) (Lg HM.out q N) hN).mono ?_;rintro e f ⟨rfl,p⟩;have b:=(p.block _ (Q4 y)).trans y;have HX5:=Q0 (X.out.below p);have MS:=Q0 ((HEX.out.setCell (fun _=>.inr (.inl rfl)) _).wm (p.mono q.size));have q0:=Z5 b 0;have q1:=Z5 b 1;have q2:=Z5 b 2;have q3:=Z5 b 3;have q4:=Z5 b 4;have q5:=Z5 b 5;have hfz:∀ j,f.frozen? ⟨w.heap.size+1,j,none⟩=false:=fun j=>B_ b j;have S:=Q0 b;clear b p y q C Q;change f.cell? _=some (.bool false) at q0;change f.cell? _=some (.int .i64 0) at q1;change f.cell? _=some (.string ⟨#[]⟩) at q2;change f.cell? _=some (.bool false) at q3;change f.cell? _=some (.string ⟨#[]⟩) at q4;change f.cell? _=some (.int .i64 0) at q5;go_wp2;obtain ⟨s0,s1,Z,Y,s4,W⟩:=Ua S.out (.bool o) (.int .i64 c) (.string t) (.bool K) (.string n) (.int .i64 k);refine K4 (v:=.agg #[.bool o,.int .i64 c,.string t,.bool K,.string n,.int .i64 k]) (by simp [results,results117,go_sem,s0,s1,Z,Y,s4,W]) rfl ⟨by rw [hN];rfl,⟨_,_,HX5.out.Ua S.out _ _ _ _ _ _,QZ.out,jh _ _⟩,?_⟩;exact MS.out.wm (U4 O0 _ _ _ _ _ _)
theorem LM (base b0 b1 b2 b3:Nat) (nm tl ar:ByteArray) (T:List I3) (nR:List R2) (v1 v2:Value)  (tx:ByteArray) (w:World) (h:Fb base b0 b1 b2 b3 w nm tl ar ⟨false,T,nR⟩ v1 v2):
 Calls prog 117 #[.agg #[.int .i64 4,.string tx],.pointer (some ⟨b0,0,none⟩),.pointer (some ⟨b1,0,none⟩),.pointer (some ⟨b2,0,none⟩),.pointer (some ⟨b3,0,none⟩)] w fun e w'=>e=.returned (l6 4 tl 0).v/\Fb base b0 b1 b2 b3 w' nm tl ar ⟨false,T,nR⟩ v1 v2/\Below w.heap.size w w':=by
 have H:=Q0 h;have z:=Q4 h.h0;have l1:=Q4 h.h1;have l2:=Q4 h.h2;have y:=Q4 h.h3;have yS:=h.yS;have B:w.cell? ⟨b0,0,none⟩=some (.bool false):=by rw [Z5 h.h0];rfl
 have A:w.cell? ⟨b3,1,none⟩=some (.string tl):=by rw [Z5 h.h3];rfl
 clear h;have k0:=past (show b0<w.heap.size from z) B;have k3:=past (show b3<w.heap.size from y) A;obtain ⟨w0,c⟩:∃ w0,w0=(w.alloc (.cells #[.int .i64 4,.string tx] 34)).alloc (.cells #[.bool false,.int .i64 0,.string ⟨#[]⟩,.bool false,.string ⟨#[]⟩,.int .i64 0] 147):=⟨_,rfl⟩;have D:=Q0 c;have g:Below w.heap.size w w0:=by rw [c];exact bA.alloc X0 _
 have l:=Q0 g;have hz0':w0.heap.size=w.heap.size+2:=by rw [c];simp
 have f:w0.heap[w.heap.size+1]?=some (.cells z6 147 (0,0)):=by
  rw [c];exact X6 X0 _
 have i:=Q0 f;clear c g f;go_enter func117,ntmps117
 go_wp2_with fail
 rw [<- D.out];refine (nL 4 tl w0).mono ?_;rintro e b ⟨rfl,d⟩;have a:=(d.block _ (Q4 i.out)).trans i.out;have C:=Q0 ((H.out.below l.out).below d);have E:=Q0 (l.out.trans (d.mono O0));have x:=Z5 a 0;have u:=Z5 a 1;have t:=Z5 a 2;have s:=Z5 a 3;have r:=Z5 a 4;have q:=Z5 a 5;have hfz:∀ j,b.frozen? ⟨w.heap.size+1,j,none⟩=false:=fun j=>B_ a j;have k:=Q0 a;clear a d;change b.cell? _=some (.bool false) at x;change b.cell? _=some (.int .i64 0) at u;change b.cell? _=some (.string ⟨#[]⟩) at t;change b.cell? _=some (.bool false) at s;change b.cell? _=some (.string ⟨#[]⟩) at r;change b.cell? _=some (.int .i64 0) at q;go_wp2;obtain ⟨s0,p,o,n,s4,m⟩:=Ua k.out (.bool true) (.int .i64 4) (.string tl) (.bool false) (.string ⟨#[]⟩) (.int .i64 0);refine K4 (v:=.agg #[.bool true,.int .i64 4,.string tl,.bool false,.string ⟨#[]⟩,.int .i64 0]) (by simp [results,results117,go_sem,s0,p,o,n,s4,m]) rfl ⟨rfl,C.out.Ua k.out _ _ _ _ _ _,?_⟩;exact E.out.trans (U4 O0 _ _ _ _ _ _)
theorem IM (base b0 b1 b2 b3:Nat) (nm tl ar:ByteArray) (T:List I3) (nR:List R2) (v1 v2:Value) (cd:Int) (hc0:cd≠0) (hc4:cd≠4) (tx:ByteArray) (w:World) (h:Fb base b0 b1 b2 b3 w nm tl ar ⟨false,T,nR⟩ v1 v2):
 Calls prog 117 #[.agg #[.int .i64 cd,.string tx],.pointer (some ⟨b0,0,none⟩),.pointer (some ⟨b1,0,none⟩),.pointer (some ⟨b2,0,none⟩),.pointer (some ⟨b3,0,none⟩)] w fun e w'=>e=.returned (l6 5 tl 0).v/\Fb base b0 b1 b2 b3 w' nm tl ar ⟨false,T,nR⟩ v1 v2/\Below w.heap.size w w':=by
 have H:=Q0 h;have z:=Q4 h.h0;have l1:=Q4 h.h1;have l2:=Q4 h.h2;have y:=Q4 h.h3;have yS:=h.yS;have B:w.cell? ⟨b0,0,none⟩=some (.bool false):=by rw [Z5 h.h0];rfl
 have A:w.cell? ⟨b3,1,none⟩=some (.string tl):=by rw [Z5 h.h3];rfl
 clear h;have k0:=past (show b0<w.heap.size from z) B;have k3:=past (show b3<w.heap.size from y) A;obtain ⟨w0,c⟩:∃ w0,w0=(w.alloc (.cells #[.int .i64 cd,.string tx] 34)).alloc (.cells #[.bool false,.int .i64 0,.string ⟨#[]⟩,.bool false,.string ⟨#[]⟩,.int .i64 0] 147):=⟨_,rfl⟩;have D:=Q0 c;have g:Below w.heap.size w w0:=by rw [c];exact bA.alloc X0 _
 have l:=Q0 g;have hz0':w0.heap.size=w.heap.size+2:=by rw [c];simp
 have f:w0.heap[w.heap.size+1]?=some (.cells z6 147 (0,0)):=by
  rw [c];exact X6 X0 _
 have i:=Q0 f;clear c g f;go_enter func117,ntmps117
 go_wp2_with fail
 rw [<- D.out];refine (nL 5 tl w0).mono ?_;rintro e b ⟨rfl,d⟩;have a:=(d.block _ (Q4 i.out)).trans i.out;have C:=Q0 ((H.out.below l.out).below d);have E:=Q0 (l.out.trans (d.mono O0));have x:=Z5 a 0;have u:=Z5 a 1;have t:=Z5 a 2;have s:=Z5 a 3;have r:=Z5 a 4;have q:=Z5 a 5;have hfz:∀ j,b.frozen? ⟨w.heap.size+1,j,none⟩=false:=fun j=>B_ a j;have k:=Q0 a;clear a d;change b.cell? _=some (.bool false) at x;change b.cell? _=some (.int .i64 0) at u;change b.cell? _=some (.string ⟨#[]⟩) at t;change b.cell? _=some (.bool false) at s;change b.cell? _=some (.string ⟨#[]⟩) at r;change b.cell? _=some (.int .i64 0) at q;go_wp2;obtain ⟨s0,p,o,n,s4,m⟩:=Ua k.out (.bool true) (.int .i64 5) (.string tl) (.bool false) (.string ⟨#[]⟩) (.int .i64 0);refine K4 (v:=.agg #[.bool true,.int .i64 5,.string tl,.bool false,.string ⟨#[]⟩,.int .i64 0]) (by simp [results,results117,go_sem,s0,p,o,n,s4,m]) rfl ⟨rfl,C.out.Ua k.out _ _ _ _ _ _,?_⟩;exact E.out.trans (U4 O0 _ _ _ _ _ _)
theorem Fb.take {base b0 b1 b2 b3:Nat} {u:World} {nm tl ar:ByteArray} {T is:List I3} {nR:List R2} {v1 v2:Value} (h:Fb base b0 b1 b2 b3 u nm tl ar ⟨false,T,nR⟩ v1 v2) (ok:Bool) (v:Value) (ho:u.ownsRow base 165 3 v is.length (J5 is)):
 Fb base b0 b1 b2 b3 ((u.setCell ⟨b2,0,none⟩ v).setCell ⟨b0,0,none⟩ (.bool ok)) nm tl ar ⟨ok,is,nR⟩ v1 v:=by
 have c:∀ (k:Nat) (x:Array Value) (t:TypeId),u.heap[k]?=some (.cells x t (0,0))->t≠126->(u.setCell ⟨b2,0,none⟩ v).heap[k]?=some (.cells x t (0,0)):=fun k x t a e=>(Z8 _ _ _ _ (J6 a h.h2 e)).trans a;have n0:=c _ _ _ h.h0 K3;have b:∀ (k:Nat) (x:Array Value) (t:TypeId),(u.setCell ⟨b2,0,none⟩ v).heap[k]?=some (.cells x t (0,0))->t≠4->((u.setCell ⟨b2,0,none⟩ v).setCell ⟨b0,0,none⟩ (.bool ok)).heap[k]?=some (.cells x t (0,0)):=fun k x t a e=>(Z8 _ _ _ _ (J6 a n0 e)).trans a;refine ⟨h.AU,h.yS,h.DU,h.QU,o8 _ b0 0 _ _ _ n0,b _ _ _ (c _ _ _ h.h1 K3) K3,b _ _ _ (o8 _ b2 0 _ _ _ h.h2) K3,b _ _ _ (c _ _ _ h.h3 K3) K3,?_,?_⟩
 · refine Z0 h.o1 fun k a=>?_
   obtain ⟨_,cur,d⟩:=Y2 h.o1 a;rw [b _ _ _ (c _ _ _ d K3) K3,d]
 refine Z0 ho fun k a=>?_;obtain ⟨_,cur,d⟩:=Y2 ho a;rw [b _ _ _ (c _ _ _ d K3) K3,d]
theorem UN (base b0 b1 b2 b3:Nat) (nm tl ar:ByteArray) (T:List I3) (nR:List R2) (v1 v2:Value) (tx:ByteArray) (w:World) (h:Fb base b0 b1 b2 b3 w nm tl ar ⟨false,T,nR⟩ v1 v2) (hts:tx.size<=1048576) (har:ar.size<=1048576) (U:A7 w) (X:Z9 w) (x:10<=base):
 Calls prog 117 #[.agg #[.int .i64 0,.string tx],.pointer (some ⟨b0,0,none⟩),.pointer (some ⟨b1,0,none⟩),.pointer (some ⟨b2,0,none⟩),.pointer (some ⟨b3,0,none⟩)] w fun e w'=>e=.returned (Oc tl ar tx.data.toList).v/\(∃ S,Fb base b0 b1 b2 b3 w' nm tl ar ⟨(Ca tx.data.toList).2,(Ca tx.data.toList).1,nR⟩ v1 S/\Nw w v2 S)/\Ex (FP b0 b1 b2 v1) w w':=by
 have HS:=Q0 U;have HM:=Q0 X;clear U X;have H:=Q0 h;have l0:=Q4 h.h0;have l1:=Q4 h.h1;have l2:=Q4 h.h2;have l3:=Q4 h.h3;have yS:=h.yS;have c0:w.cell? ⟨b0,0,none⟩=some (.bool false):=by rw [Z5 h.h0];rfl
 have cx3:w.cell? ⟨b3,1,none⟩=some (.string tl):=by rw [Z5 h.h3];rfl
 clear h;have k0:=past (show b0<w.heap.size from l0) c0;have k3:=past (show b3<w.heap.size from l3) cx3;obtain ⟨w0,q⟩:∃ w0,w0=(w.alloc (.cells #[.int .i64 0,.string tx] 34)).alloc (.cells #[.bool false,.int .i64 0,.string ⟨#[]⟩,.bool false,.string ⟨#[]⟩,.int .i64 0] 147):=⟨_,rfl⟩;have HW0:=Q0 q;have Z:Below w.heap.size w w0:=by rw [q];exact bA.alloc X0 _
 have R:=Q0 Z;have hz0':w0.heap.size=w.heap.size+2:=by rw [q];simp
 have V:w0.heap[w.heap.size+1]?=some (.cells z6 147 (0,0)):=by
  rw [q];exact X6 X0 _
 have a0l:=Q0 V;clear q Z V;go_enter func117,ntmps117
 go_wp2_with fail
 rw [<- HW0.out];have y:Below base w w0:=R.out.mono O0;refine (c119 tx w0 hts (Dc HS.out y x) (Lg HM.out y x)).mono ?_;rintro e w1 ⟨⟨is,ok,v,rfl,O,s⟩,p⟩;have z:=Q0 (Wy s);have hB1:=y.trans (p.mono O0);have W:w1.ownsRow base 165 3 v is.length (J5 is):=D5 O O0;have QZ:Hid (Nw w v2 v):=fun k e=>.inr (by have:=(O.lt k e).1;omega);have hE1:Ex (FP b0 b1 b2 v1) w w1:=(Ex.rM R.out).wm (p.mono O0);have g:=(H.out.below R.out).below p;have m:=Q0 (g.take ok v W);obtain ⟨a,f,hv,HI⟩:=J7 m.out.o2;have hv':=hv;subst hv';have hss:∀ i,(is.getD i A_).tx.size<=1048576:=fun i=>Z4 ((dh s).2 i) O0;have hil:=(dh s).1;have iU:=Q0 HI;have n2:w1.cell? ⟨b2,0,none⟩=some v2:=by rw [Z5 g.h2];rfl
 have n2f:=B_ g.h2 0;have n0f:∀ u,(w1.setCell ⟨b2,0,none⟩ u).frozen? ⟨b0,0,none⟩=false:=fun u=>by simpa using B_ g.h0 0
 have hne:=J6 g.h0 g.h2 K3;have n0:∀ u,(w1.setCell ⟨b2,0,none⟩ u).cell? ⟨b0,0,none⟩=some (.bool false):=fun u=>by
  rw [O_ _ _ _ _ (fun e=>hne (by injection e with e _;exact e.symm)),Z5 g.h0];rfl
 have m0:((w1.setCell ⟨b2,0,none⟩ (.slice a is.length f)).setCell ⟨b0,0,none⟩ (.bool ok)).cell? ⟨b0,0,none⟩=some (.bool ok):=by rw [Z5 m.out.h0];rfl
 have m2:((w1.setCell ⟨b2,0,none⟩ (.slice a is.length f)).setCell ⟨b0,0,none⟩ (.bool ok)).cell? ⟨b2,0,none⟩=some (.slice a is.length f):=by rw [Z5 m.out.h2];rfl
 have m31:((w1.setCell ⟨b2,0,none⟩ (.slice a is.length f)).setCell ⟨b0,0,none⟩ (.bool ok)).cell? ⟨b3,1,none⟩=some (.string tl):=by rw [Z5 m.out.h3];rfl
 have m32:((w1.setCell ⟨b2,0,none⟩ (.slice a is.length f)).setCell ⟨b0,0,none⟩ (.bool ok)).cell? ⟨b3,2,none⟩=some (.string ar):=by rw [Z5 m.out.h3];rfl
 have HR1:=(p.block _ (Q4 a0l.out)).trans a0l.out;have HR2:((w1.setCell ⟨b2,0,none⟩ (.slice a is.length f)).setCell ⟨b0,0,none⟩ (.bool ok)).heap[w.heap.size+1]?=some (.cells z6 147 (0,0)):=by
  rw [Z8 _ _ _ _ (by show w.heap.size+1≠b0;omega),Z8 _ _ _ _ (by show w.heap.size+1≠b2;omega)];exact HR1
 have A:=Q0 HR2;have hle0:=g.AU;have hle2:=g.DU;have hB2:Below base w ((w1.setCell ⟨b2,0,none⟩ (.slice a is.length f)).setCell ⟨b0,0,none⟩ (.bool ok)):=(hB1.setCell (by exact hle2) _).setCell (by exact hle0) _;have HE2:Hid (Ex (FP b0 b1 b2 v1) w ((w1.setCell ⟨b2,0,none⟩ (.slice a is.length f)).setCell ⟨b0,0,none⟩ (.bool ok))):=(hE1.setCell (fun _=>.inr (.inr (.inl rfl))) _).setCell (fun _=>.inl rfl) _;have HB2:=Q0 hB2;have hz1':=p.size;clear hE1 g O W s hv HI HR1 HR2 hB1 p y hB2;cases ok
 · go_wp2_with fail
   refine (nL 7 tl _).mono ?_;rintro e d ⟨rfl,l⟩;have b:=(l.block _ (Q4 A.out)).trans A.out;have P:=Q0 (m.out.below l);have Q:=Q0 (HE2.out.wm (l.mono J4));have N:=Z5 b 0;have L:=Z5 b 1;have K:=Z5 b 2;have J:=Z5 b 3;have I:=Z5 b 4;have F:=Z5 b 5;have hfz:∀ j,d.frozen? ⟨w.heap.size+1,j,none⟩=false:=fun j=>B_ b j;have r:=Q0 b;clear b l;change d.cell? _=some (.bool false) at N;change d.cell? _=some (.int .i64 0) at L;change d.cell? _=some (.string ⟨#[]⟩) at K;change d.cell? _=some (.bool false) at J;change d.cell? _=some (.string ⟨#[]⟩) at I;change d.cell? _=some (.int .i64 0) at F;go_wp2;obtain ⟨s0,E,D,C,s4,B⟩:=Ua r.out (.bool true) (.int .i64 7) (.string tl) (.bool false) (.string ⟨#[]⟩) (.int .i64 0);refine bodyPost_ret (v:=.agg #[.bool true,.int .i64 7,.string tl,.bool false,.string ⟨#[]⟩,.int .i64 0]) (by simp [results,results117,go_sem,s0,E,D,C,s4,B]) rfl ⟨by unfold Oc;rw [z.out];rfl,⟨.slice a is.length f,?_,QZ.out⟩,?_⟩
   · rw [z.out];exact P.out.Ua r.out _ _ _ _ _ _
   exact Q.out.wm (U4 O0 _ _ _ _ _ _)
 rcases hN:l9 is ar [] with ⟨o,c,t,Y,n,k⟩;have HN:=Q0 hN;clear hN
 go_wp2_with fail
 refine (oK a f _ is ar none 0 0 [] _ rfl rfl ⟨O0,hss,har,I5 _,fun i=>by simp [Jc,ByteArray.size]⟩ iU.out (.inl rfl) (Dc HS.out HB2.out x) (Lg HM.out HB2.out x) HN.out).mono ?_;rintro e d ⟨rfl,l⟩;have b:=(l.block _ (Q4 A.out)).trans A.out;have P:=Q0 (m.out.below l);have Q:=Q0 (HE2.out.wm (l.mono J4));have N:=Z5 b 0;have L:=Z5 b 1;have K:=Z5 b 2;have J:=Z5 b 3;have I:=Z5 b 4;have F:=Z5 b 5;have hfz:∀ j,d.frozen? ⟨w.heap.size+1,j,none⟩=false:=fun j=>B_ b j;have r:=Q0 b;clear b l;change d.cell? _=some (.bool false) at N;change d.cell? _=some (.int .i64 0) at L;change d.cell? _=some (.string ⟨#[]⟩) at K;change d.cell? _=some (.bool false) at J;change d.cell? _=some (.string ⟨#[]⟩) at I;change d.cell? _=some (.int .i64 0) at F;go_wp2;obtain ⟨s0,E,D,C,s4,B⟩:=Ua r.out (.bool o) (.int .i64 c) (.string t) (.bool Y) (.string n) (.int .i64 k);refine bodyPost_ret (v:=.agg #[.bool o,.int .i64 c,.string t,.bool Y,.string n,.int .i64 k]) (by simp [results,results117,go_sem,s0,E,D,C,s4,B]) rfl ⟨by unfold Oc;rw [z.out];show _=Ending.returned (l9 is ar []).v;rw [HN.out];rfl,⟨.slice a is.length f,?_,QZ.out⟩,?_⟩
 · rw [z.out];exact P.out.Ua r.out _ _ _ _ _ _
 exact Q.out.wm (U4 O0 _ _ _ _ _ _)
variable {ar tl:ByteArray} {t:TN} {s:RS} {x:M.L4} {ls xs:List M.L4} {m:M3} {u w:World}
theorem c117 (base b0 b1 b2 b3:Nat) (nm tl ar:ByteArray) (s:RS) (v1 v2:Value) (r:R2) (w:World) (h:Fb base b0 b1 b2 b3 w nm tl ar s v1 v2) (b:Cu s) (l:s.nR.length<=300) (j:r.tx.size<=1048576) (o:ar.size<=1048576) (k:A7 w) (m:Z9 w) (n:10<=base):
 Calls Tryz.prog 117 #[.agg #[.int .i64 r.code,.string r.tx],.pointer (some ⟨b0,0,none⟩),.pointer (some ⟨b1,0,none⟩),.pointer (some ⟨b2,0,none⟩),.pointer (some ⟨b3,0,none⟩)] w fun e w'=>e=.returned (P7 tl ar s r).1.v/\(∃ g f,Fb base b0 b1 b2 b3 w' nm tl ar (P7 tl ar s r).2 g f/\Nw w v1 g/\Nw w v2 f)/\Ex (FP b0 b1 b2 v1) w w':=by
 obtain ⟨p,T,nR⟩:=s;cases p;rotate_left
 · have e:P7 tl ar ⟨true,T,nR⟩ r=(l9 T ar (nR++[r]),⟨true,T,nR++[r]⟩):=by simp [P7]
   rw [e];exact dN base b0 b1 b2 b3 nm tl ar T nR v1 v2 r w h l ⟨by have:=b.tl;show T.length<=_;exact Z4 this O0,fun i=>Z4 (b.ts i) O0,o,by simp;have:nR.length<=300:=l;omega,Yg b.rs j⟩ k m n
 obtain ⟨c,tx⟩:=r;by_cases h0:c=0
 · subst h0
   have e:P7 tl ar ⟨false,T,nR⟩ ⟨0,tx⟩=(Oc tl ar tx.data.toList,⟨(Ca tx.data.toList).2,(Ca tx.data.toList).1,nR⟩):=by simp [P7]
   rw [e];refine (UN base b0 b1 b2 b3 nm tl ar T nR v1 v2 tx w h j o k m n).mono ?_;rintro e w' ⟨rfl,⟨v,hx,q⟩,a⟩;exact ⟨rfl,⟨v1,v,hx,jh _ _,q⟩,a⟩
 by_cases d:c=4
 · subst d
   have e:P7 tl ar ⟨false,T,nR⟩ ⟨4,tx⟩=(l6 4 tl 0,⟨false,T,nR⟩):=by simp [P7]
   rw [e];refine (LM base b0 b1 b2 b3 nm tl ar T nR v1 v2 tx w h).mono ?_;rintro e w' ⟨rfl,hx,a⟩;exact ⟨rfl,⟨v1,v2,hx,jh _ _,jh _ _⟩,.rM a⟩
 have e:P7 tl ar ⟨false,T,nR⟩ ⟨c,tx⟩=(l6 5 tl 0,⟨false,T,nR⟩):=by simp [P7,h0,d]
 rw [e];refine (IM base b0 b1 b2 b3 nm tl ar T nR v1 v2 c h0 d tx w h).mono ?_;rintro e w' ⟨rfl,hx,a⟩;exact ⟨rfl,⟨v1,v2,hx,jh _ _,jh _ _⟩,.rM a⟩
def Halt (t:TN) (x:M.L4):Prop:=t.over=true\/x.has≠t.has\/x.nm≠t.name\/¬ M.Lj x
open Classical in
noncomputable def Oy (tl ar:ByteArray):TN->RS->List M.L4->TN
 | t,_,[]=>t
 | t,s,x::xs=>if Halt t x then L6 else Oy tl ar (P7 tl ar s ⟨x.cd,x.tx⟩).1 (P7 tl ar s ⟨x.cd,x.tx⟩).2 xs
open Classical in
theorem om (h:Halt t x):Oy tl ar t s (x::xs)=L6:=by
 show (if _ then _ else _)=_;exact Y3 h
open Classical in
theorem nz (h:¬ Halt t x):Oy tl ar t s (x::xs)=Oy tl ar (P7 tl ar s ⟨x.cd,x.tx⟩).1 (P7 tl ar s ⟨x.cd,x.tx⟩).2 xs:=by
 show (if _ then _ else _)=_;exact R3 h
def si (tl:ByteArray):TN:=⟨false,0,⟨#[]⟩,false,tl,0⟩
open Classical in
noncomputable def goT (m:M3) (ls:List M.L4):TN:=if W_ m=true/\ls.length<=15 then Oy m.tl m.ar (si m.tl) Mj ls else L6
theorem fF (h:W_ m=false\/15<ls.length):goT m ls=L6:=by
 unfold goT;refine R3 fun a=>?_;rcases h with h | h
 · rw [a.1] at h;cases h
 omega
theorem yB (h:W_ m=true) (h2:ls.length<=15):goT m ls=Oy m.tl m.ar (si m.tl) Mj ls:=Y3 ⟨h,h2⟩
theorem sG {k:Nat} (h:k<ls.length):ls.drop k=ls.getD k M.Ga::ls.drop (k+1):=by
 rw [Vs h]
 congr 1
 simp [List.getD,h]
def WG (m:M3) (w:World):World:=(w.alloc (.cells #[.string m.nm,.string m.tl,.string m.ar] 47)).alloc (.cells #[.bool false,.int .i64 0,.string ⟨#[]⟩,.bool false,.string ⟨#[]⟩,.int .i64 0] 147)
theorem bq (m:M3) (w:World):(WG m w).heap.size=w.heap.size+2:=by simp [WG]
theorem iH (m:M3) (w:World):Below w.heap.size w (WG m w):=bA.alloc X0 _
theorem wP (h:Below (w.heap.size+2) (WG m w) u):u.heap[w.heap.size+1]?=some (.cells z6 147 (0,0)):=by
 rw [h.block _ O0];exact X6 X0 _
theorem kM (h:Below (w.heap.size+2) (WG m w) u):u.cell? ⟨w.heap.size,0,none⟩=some (.string m.nm)/\u.cell? ⟨w.heap.size,1,none⟩=some (.string m.tl)/\u.cell? ⟨w.heap.size,2,none⟩=some (.string m.ar):=by
 have e:u.heap[w.heap.size]?=some (.cells #[.string m.nm,.string m.tl,.string m.ar] 47 (0,0)):=by
  rw [h.block _ O0,WG,Jf _ _ _ X0];exact X6 rfl _
 exact ⟨Z5 e 0,Z5 e 1,Z5 e 2⟩
end Go.Proofs.YtdjaajjndfbpmaaGreatDoor
namespace Go.Proofs.YtdjaajjndfbpmaaGreatDoor
open Go.RowKit
variable {u:World} {B k:Nat} {t:TN}
def g_ (u:World) (B:Nat) (t:TN):Prop:=u.heap[B]?=some (.cells #[.bool t.over,.int .i64 t.code,.string t.text,.bool t.has,.string t.name,.int .i64 t.steps] 147 (0,0))
theorem g_.set (h:g_ u B t) (a:TN):g_ ((((((u.setCell ⟨B,0,none⟩ (.bool a.over)).setCell ⟨B,1,none⟩ (.int .i64 a.code)).setCell ⟨B,2,none⟩ (.string a.text)).setCell ⟨B,3,none⟩ (.bool a.has)).setCell ⟨B,4,none⟩ (.string a.name)).setCell ⟨B,5,none⟩ (.int .i64 a.steps)) B a:=by
 have h0:=o8 u B 0 _ 147 (.bool a.over) h;have h1:=o8 _ B 1 _ 147 (.int .i64 a.code) h0;have h2:=o8 _ B 2 _ 147 (.string a.text) h1;have h3:=o8 _ B 3 _ 147 (.bool a.has) h2;have b:=o8 _ B 4 _ 147 (.string a.name) h3;exact o8 _ B 5 _ 147 (.int .i64 a.steps) b
theorem g_.cells (h:g_ u B t):u.cell? ⟨B,0,none⟩=some (.bool t.over)/\u.cell? ⟨B,1,none⟩=some (.int .i64 t.code)/\u.cell? ⟨B,2,none⟩=some (.string t.text)/\u.cell? ⟨B,3,none⟩=some (.bool t.has)/\u.cell? ⟨B,4,none⟩=some (.string t.name)/\u.cell? ⟨B,5,none⟩=some (.int .i64 t.steps)/\∀ j,u.frozen? ⟨B,j,none⟩=false:=
 ⟨Z5 h 0,Z5 h 1,Z5 h 2,Z5 h 3,Z5 h 4,Z5 h 5,fun j=>B_ h j⟩
theorem g_.blk (h:g_ u B t):M.Lc u B [.bool t.over,.int .i64 t.code,.string t.text,.bool t.has,.string t.name,.int .i64 t.steps]:=fun j v e=>by
 rw [Z5 h j];simpa using e
theorem g_.below {u':World} {N:Nat} (h:g_ u B t) (a:Below N u u') (b:B<N):g_ u' B t:=(a.block B b).trans h
theorem Sb {ops:Array Oper} {rest:List Oper} {o:Oper} {a:Act} {Q:Exit->Act->World->Prop} (n:o.guard=none) (x y:Operand) (ho:o.op=.store 147 x y) (B:Nat) (hx:a.eval x=.pointer (some ⟨B,0,none⟩)) (t d:TN) (e:a.eval y=t.v) (c:g_ u B d) (p:o.dst=none)
 (h:∀ u',g_ u' B t->(∀ m,m<=B->Below m u u')->(∀ k,k≠B->u'.heap[k]?=u.heap[k]?)->wpList Tryz.prog ops Q rest a u'):wpList Tryz.prog ops Q (o::rest) a u:=by
 refine M.Zm (P:=Tryz.prog) n 147 x y ho B 0 hx [.bool t.over,.int .i64 t.code,.string t.text,.bool t.has,.string t.name,.int .i64 t.steps] e (fun i l=>?_) (fun j=>B_ c j) (by intro v hv;simp at hv;rcases hv with rfl | rfl | rfl | rfl | rfl | rfl <;> rfl) U2 p ?_
 · rw [R7,Z5 c i]
   have g:i<6:=l;simp [g]
 refine h _ (c.set t) (fun m f=>U4 f _ _ _ _ _ _) fun k b=>?_;show ((((((u.setCell ⟨B,0,none⟩ _).setCell ⟨B,1,none⟩ _).setCell ⟨B,2,none⟩ _).setCell ⟨B,3,none⟩ _).setCell ⟨B,4,none⟩ _).setCell ⟨B,5,none⟩ _).heap[k]?=_;simp only [Z8 _ _ _ _ (show k≠(⟨B,0,none⟩:Addr).block from b),Z8 _ _ _ _ (show k≠(⟨B,1,none⟩:Addr).block from b),Z8 _ _ _ _ (show k≠(⟨B,2,none⟩:Addr).block from b),Z8 _ _ _ _ (show k≠(⟨B,3,none⟩:Addr).block from b),Z8 _ _ _ _ (show k≠(⟨B,4,none⟩:Addr).block from b),Z8 _ _ _ _ (show k≠(⟨B,5,none⟩:Addr).block from b)]
theorem Ec {w:World} {a:Option Addr} {ls:List M.L4} (h:M.Ac w a ls) (d:Below w.heap.size w u) (e:k<ls.length):∃ b c,a=some ⟨b,c,none⟩/\b<w.heap.size/\u.cell? ⟨b,c+k*4,none⟩=some (.bool (ls.getD k M.Ga).has)/\u.cell? ⟨b,c+k*4+1,none⟩=some (.string (ls.getD k M.Ga).nm)/\u.cell? ⟨b,c+k*4+2,none⟩=some (.int .i64 (ls.getD k M.Ga).cd)/\u.cell? ⟨b,c+k*4+3,none⟩=some (.string (ls.getD k M.Ga).tx):=by
 rcases h with h | ⟨b,c,h1,h2,h3⟩
 · rw [h] at e;exact absurd e (F5 _)
 obtain ⟨j,i,g,f⟩:=h3 k e;exact ⟨b,c,h1,h2,(d.cell (p:=⟨b,c+k*4,none⟩) h2).trans j,(d.cell (p:=⟨b,c+k*4+1,none⟩) h2).trans i,(d.cell (p:=⟨b,c+k*4+2,none⟩) h2).trans g,(d.cell (p:=⟨b,c+k*4+3,none⟩) h2).trans f⟩
end Go.Proofs.YtdjaajjndfbpmaaGreatDoor
namespace Go.Proofs.YtdjaajjndfbpmaaGreatDoor.LT
open Proofs.Tryz
open Go.RowKit
variable {H α:Type} {W w:World} {base fuel i:Nat}
theorem iJ:prog.globalNamed "loop.example/kiln/impl.shapes"=some 9:=U2
theorem bF:(prog.globals[9]?).map (·.type)=some 262:=U2
theorem Uy:prog.cellsOf 261=3:=U2
theorem bG:prog.cellsOf 9=1:=U2
theorem CK:prog.cellsOf 4=1:=U2
theorem KM {l:List α} (h:l.length=3):∃ a b c,l=[a,b,c]:=by
 rcases l with _ | ⟨a,_ | ⟨b,_ | ⟨c,_ | ⟨d,l⟩⟩⟩⟩
 · cases h
 · cases h
 · cases h
 · exact ⟨a,b,c,rfl⟩
 simp at h
theorem Fw {enc:TypeId×Value->H} {g:Nat->Bool} {held:Bool} {cs:List Value} {l:List UInt8} {a b:Bool} {p:List MemPlace}
 (h:DataW.trod enc prog w base g held fuel 261 cs=some (.agg [.lit (.string l),.lit (.bool a),.lit (.bool b)],p)):cs=[.string ⟨l.toArray⟩,.bool a,.bool b]:=by
 obtain ⟨y0,y1,y2,n,hx,c,h0,h1,h2⟩:=Go.Deep.trod_struct3 underlying261 h;rw [Uy] at c;obtain ⟨c0,c1,c2,rfl⟩:=KM c;simp only [bG,CK] at h0 h1 h2;obtain ⟨s,f,r0,_⟩:=DataW.trod_string underlying9 h0;obtain ⟨a',e,r1⟩:=DataW.trod_bool underlying4 h1;obtain ⟨b',d,i⟩:=DataW.trod_bool underlying4 h2;subst r0 r1 i;simp at f e d hx;obtain ⟨⟨m,k,j⟩,_⟩:=hx;have:s=⟨l.toArray⟩:=by apply Hd;rw [m]
 rw [f,e,d,this,k,j]
theorem Qw {xs:List (DataW H×List MemPlace)} {ds:List (DataW H)} (h:xs.map (·.1)=ds) {d:DataW H} (a:ds[i]?=some d):∃ p,xs[i]?=some (d,p):=by
 rw [<- h,Kb] at a
 cases hx:xs[i]? with
 | none=>rw [hx] at a;simp at a
 | some y=>rw [hx] at a;simp at a;exact ⟨y.2,by rw [<- a]⟩
theorem take3 {l:List α} {a b c:α} (h:(l.drop i).take 3=[a,b,c]):l[i]?=some a/\l[i+1]?=some b/\l[i+2]?=some c:=by
 have g:∀ j,j<3->((l.drop i).take 3)[j]?=l[i+j]?:=fun j d=>by rw [Rt d,zq]
 rw [h] at g;exact ⟨(g 0 O0).symm,(g 1 O0).symm,(g 2 O0).symm⟩
def wK {H:Type} (op:Nat):DataW H:=.agg [.lit (.string (word op)),.lit (.bool (Z7 op)),.lit (.bool (M8 op))]
theorem GI (op:Nat) (h1:1<=op) (h2:op<=11):∃ ds:List (DataW Unit),Rows.laid_loop_example_kiln_impl_shapes=DataW.agg ds/\ds[op]?=some (wK op):=by
 refine ⟨_,rfl,?_⟩;obtain rfl | rfl | rfl | rfl | rfl | rfl | rfl | rfl | rfl | rfl | rfl:op=1\/op=2\/op=3\/op=4\/op=5\/op=6\/op=7\/op=8\/op=9\/op=10\/op=11:=O0
 all_goals rfl
theorem qp (h:Go.Lib.VarReads prog W "loop.example/kiln/impl.shapes" Rows.laid_loop_example_kiln_impl_shapes):A7 W:=by
 obtain ⟨g,t,cs,fuel,p,a,e,d,n⟩:=h;obtain rfl:=j6 (iJ.symm.trans a);obtain rfl:=j6 (bF.symm.trans e);obtain ⟨xs,m,_,hx,hcl,hxl,k⟩:=DataW.trod_array underlying262 n;intro op h1 h2;obtain ⟨ds,l,j⟩:=GI op h1 h2;rw [l] at hx;have i:xs.map (·.1)=ds:=by
  have:=V3 Prod.fst hx;injection this with this;exact this.symm
 obtain ⟨q,f⟩:=Qw i j;have b:=k op O0;rw [f,Uy] at b;have o:=Fw b;obtain ⟨r0,r1,c⟩:=take3 o;have hv:=World.var?_cell a d;refine ⟨?_,?_,?_⟩
 · rw [hv,<- uz];exact r0
 · rw [hv,<- uz];exact r1
 rw [hv,<- uz];exact c
end Go.Proofs.YtdjaajjndfbpmaaGreatDoor.LT
namespace Go.Proofs.YtdjaajjndfbpmaaGreatDoor
open Proofs.Tryz
open Go.RowKit
theorem ax {tl ar:ByteArray}:∀ (ls:List M.L4) (t:TN) (s:RS),(∀ a x b,ls=a++x::b->¬ Halt (a.foldl (fun p x=>P7 tl ar p.2 ⟨x.cd,x.tx⟩) (t,s)).1 x)->Oy tl ar t s ls=(ls.foldl (fun p x=>P7 tl ar p.2 ⟨x.cd,x.tx⟩) (t,s)).1
 | [],_,_,_=>rfl
 | x::xs,t,s,h=>by
  rw [nz (show ¬ Halt t x from h [] x xs rfl)];refine (ax xs _ _ fun a y b e=>?_).trans rfl;have:=h (x::a) y b (by rw [e];rfl);exact this
theorem NE {E:Env} (hE:Y7 E) {m:M3} {L:List M.L4} (d:W_ m=true) (h:I9 E m L):goT m L=tn m L:=by
 rw [yB d (ze hE d h).1];refine ax L _ _ fun a x b e=>?_;subst e;obtain ⟨h1,r,h2,h3⟩:=Gg h;have f:=(ze hE d h).2 x X0;intro c;rcases c with c | c | c | c
 · exact absurd (c.symm.trans h1) K3
 · exact c (by rw [h2];rfl)
 · exact c (by rw [h2];rfl)
 exact c f
end Go.Proofs.YtdjaajjndfbpmaaGreatDoor

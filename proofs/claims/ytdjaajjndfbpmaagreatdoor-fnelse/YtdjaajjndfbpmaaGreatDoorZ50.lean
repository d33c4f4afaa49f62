import Derived.Test.YtdjaajjndfbpmaaGreatDoorDB
set_option linter.unusedVariables false
set_option maxHeartbeats 8000000
set_option maxRecDepth 100000
namespace Go.Proofs.YtdjaajjndfbpmaaGreatDoor
open Proofs.Tryz
open Go.RowKit
variable {u u' w:World} {base kb:Nat} {x:Ru} {t:TN} {s:RS} {PR v:Value}
theorem Ex.IL {S g:Nat->Prop} {a b c:World} (h:Ex S a b) (k:Ex g b c) (i:∀ q,q<a.heap.size->g q->S q):Ex S a c:=⟨k.os.trans h.os,k.tape.trans h.tape,k.output.trans h.output,Z4 h.size k.size,fun q d f=>(k.block q (D7 d h.size) (fun e=>f (i q d e))).trans (h.block q d f)⟩
theorem ic.look {u1 u2 u3:World} {ls':List M.L4} (h:ic base kb x t s u) (g:Below u.heap.size u u1) (m:u1.grownBy u2 x.lv.ownBlock) (d:u2.ownsRow base 52 4 PR ls'.length (R4 ls')) (ho:kr x.k.B u2 u3) (q:Cl u3 x.k.B 103 ({ x with lv:=PR,ls:=ls' }:Ru).cells):ic base kb { x with lv:=PR,ls:=ls' } t s u3:=by
 have j:Cl u2 x.k.B 103 x.cells:=((h.hB.below g h.hB.lt).gb m (fun e=>by
  obtain ⟨_,cur,c⟩:=Y2 h.lk e.symm;exact J6 h.hB c K3 rfl))
 have a:∀ {b:Nat} {t:TypeId} {xs:Array Value},u.heap[b]?=some (.cells xs t (0,0))->t≠103->t≠52->u3.heap[b]?=some (.cells xs t (0,0)):=fun {b t xs} hb' ht ht2=>by
  have l:=Q4 hb';have h1:=(g.block b l).trans hb';have h2:=(m.block b (D7 l g.size) (fun e=>by
   obtain ⟨_,cur,c⟩:=Y2 h.lk e.symm;exact J6 hb' c ht2 rfl)).trans h1
  exact (ho.block b (J6 h2 j ht)).trans h2
 have i:∀ {e:TypeId} {size n:Nat} {v:Value} {xs:List Value},u.ownsRow base e size v n xs->e≠103->e≠52->u3.ownsRow base e size v n xs:=fun d p o=>Z0 d fun k f=>by
  obtain ⟨_,cur,c⟩:=Y2 d f;rw [a c p o,c]
 exact ⟨q,a h.h7 K3 K3,a h.h8 K3 K3,a h.h9 K3 K3,a h.h2 K3 K3,a h.h10 K3 K3,⟨h.rw.AU,h.rw.yS,h.rw.DU,h.rw.QU,a h.rw.h0 K3 K3,a h.rw.h1 K3 K3,a h.rw.h2 K3 K3,a h.rw.h3 K3 K3,i h.rw.o1 K3 K3,i h.rw.o2 K3 K3⟩,Z0 d fun k f=>ho.block k (by
  obtain ⟨_,cur,c⟩:=Y2 d f;exact J6 c j K3)⟩
theorem ic.next {g:RS} {f d:Value} (h:ic base kb x t s u) (i:Fb base x.k.b0 x.k.b1 x.k.b2 x.k.b3 u' x.k.m.nm x.k.m.tl x.k.m.ar g f d) (hx:Ex (FP x.k.b0 x.k.b1 x.k.b2 x.v1) u u'):ic base kb { x with v1:=f,v2:=d } t g u':=by
 have a:∀ {b:Nat} {t:TypeId} {xs:Array Value},u.heap[b]?=some (.cells xs t (0,0))->t≠4->t≠185->t≠126->t≠34->u'.heap[b]?=some (.cells xs t (0,0)):=fun {b t xs} hb a1 a2 a3 a4=>(hx.block b (Q4 hb) (fun e=>by
  rcases e with rfl | rfl | rfl | e
  · exact J6 hb h.rw.h0 a1 rfl
  · exact J6 hb h.rw.h1 a2 rfl
  · exact J6 hb h.rw.h2 a3 rfl
  obtain ⟨_,cur,c⟩:=Y2 h.rw.o1 e;exact J6 hb c a4 rfl)).trans hb
 exact ⟨a h.hB K3 K3 K3 K3,a h.h7 K3 K3 K3 K3,a h.h8 K3 K3 K3 K3,a h.h9 K3 K3 K3 K3,a h.h2 K3 K3 K3 K3,a h.h10 K3 K3 K3 K3,i,Z0 h.lk fun k j=>by
  obtain ⟨_,cur,c⟩:=Y2 h.lk j;rw [a c K3 K3 K3 K3,c]⟩
theorem ic.turn {f:TN} (h:ic base kb x t s u) (j:g_ u' x.k.pR f) (d:∀ k,k≠x.k.pR->u'.heap[k]?=u.heap[k]?):ic base kb x f s u':=by
 have a:∀ {b:Nat} {t:TypeId} {xs:Array Value},u.heap[b]?=some (.cells xs t (0,0))->t≠147->u'.heap[b]?=some (.cells xs t (0,0)):=fun {b t xs} hb a1=>(d b (J6 hb h.h8 a1)).trans hb;have c:∀ {e:TypeId} {size n:Nat} {v:Value} {xs:List Value},u.ownsRow base e size v n xs->e≠147->u'.ownsRow base e size v n xs:=fun g l=>Z0 g fun k d=>by
  obtain ⟨_,cur,i⟩:=Y2 g d;rw [a i l,i]
 exact ⟨a h.hB K3,a h.h7 K3,j,a h.h9 K3,a h.h2 K3,a h.h10 K3,⟨h.rw.AU,h.rw.yS,h.rw.DU,h.rw.QU,a h.rw.h0 K3,a h.rw.h1 K3,a h.rw.h2 K3,a h.rw.h3 K3,c h.rw.o1 K3,c h.rw.o2 K3⟩,c h.lk K3⟩
theorem iL (f:Fx) (E:Env) (hf:BD f E) (n:Nat) (H50:mP f E n):ZN f E (n+1):=by
 intro g i x r w hs hl P Z L;obtain ⟨rc,rt⟩:=r;have vS:Y7 E:=by rw [hf.hE];exact zb hf.tr hf.pt
 have hxa:=(hl.act i x P).2 rfl;have hov:=(hl.non i x P (by rw [hxa];simp)).1;have hmk:=vS.ms _ (hl.mem i x P);have AV:=Q0 (ze vS hmk (hl.his i x P));have HRI:=Q0 (S_ vS (hl.his i x P) hmk);have HVR:=Q0 (YG vS (fun n r=>ZE vS) (HRI.out.name hov).1 L);have HLS:Hid (x.ls.length<=14):=Q0 (HRI.out.name hov).2;have HHX:=Q0 (Jw (hl.his i x P) hov L);obtain ⟨t,HT⟩:∃ t,Hid (tn x.k.m x.ls=t):=⟨_,rfl⟩;have I:=Q0 hs;have nT:=Q0 hl;have H:=Q0 P;have HF:=Q0 hf;have a3e:=Q0 H50;have PU:=Q0 Z;have xS:=Q0 vS;obtain ⟨w1,hw1⟩:∃ u:World,u=w.alloc (.cells #[.int .i64 rc,.string rt] 34):=⟨_,rfl⟩;have HW1:=Q0 hw1;have hb1:Below w.heap.size w w1:=by rw [hw1];exact bA
 have C61:Hid (Cl w1 w.heap.size 34 [.int .i64 rc,.string rt]):=by show Cl _ _ _ _;rw [hw1];exact U1 w _ 34
 have D:Hid (ic f.base f.kb x t (Sg x.k.m x.ls) w1):=by
  have:=(hs.ru i x P).keep (w':=w1) fun k l=>hb1.block k ((hs.ru i x P).lt l);rw [HT.out] at this;exact this
 have HN6:Hid (w.heap.size≠x.k.B):=by have:=(hs.ru i x P).hB.lt;show _≠_;omega
 have Y:=Q0 hb1;clear hs hl P hf H50 Z vS hov hmk hw1 hb1 L;have d1:w1.cell? ⟨x.k.c5,0,none⟩=some (.pointer (some ⟨x.k.B,0,none⟩)):=D.out.h7.cell 0;have d8:w1.cell? ⟨x.k.B,8,none⟩=some (.string x.wt):=D.out.hB.cell 8;have e8:=D.out.hB.opn 8;go_enter func84,ntmps84;rw [show pt x.k.c5=.pointer (some ⟨x.k.c5,0,none⟩) from rfl,show pt x.k.pR=.pointer (some ⟨x.k.pR,0,none⟩) from rfl,show pt x.k.wR=.pointer (some ⟨x.k.wR,0,none⟩) from rfl,show pt x.k.c2=.pointer (some ⟨x.k.c2,0,none⟩) from rfl,show pt x.k.uR=.pointer (some ⟨x.k.uR,0,none⟩) from rfl]
 go_upto_region 1 with fail
 rw [<- HW1.out]
 go_upto_region 2 with fail
 have iV:=I6 w1 x.k.B 8 (.string ⟨#[]⟩);have hc1:=D.out.hB.set 8 (.string ⟨#[]⟩);generalize (w1.setCell ⟨x.k.B,8,none⟩ (.string ⟨#[]⟩))=W at*;obtain ⟨a,lZ⟩:∃ a:Ru,Hid (a={ x with wt:=⟨#[]⟩ }):=⟨_,rfl⟩;have HR2:Hid (ic f.base f.kb a t (Sg x.k.m x.ls) W):=by rw [lZ.out];exact D.out.tK iV hc1 rfl rfl rfl rfl rfl
 have C6:=Q0 (C61.out.on iV HN6.out);have hBw2:=(Y.out.mono I.out.sz).trans (iV.below (by exact I.out.FR _ _ (I.out.ER i x H.out _ (.inl X0))));have HSZ:Hid (f.base<=W.heap.size):=by have:=hBw2.size;have:=I.out.sz;show _<=_;omega
 have tZ:Hid (Ex (fun k=>g.ow k=some (.run i)) w W):=Q0 ((Ex.rM Y.out).trans (iV.ex (S:=fun k=>g.ow k=some (.run i)) (I.out.ER i x H.out _ (.inl X0))));clear d1 d8 e8 C61 D iV hc1 Y HW1;have hxk:x.k=a.k:=by rw [lZ.out]
 have uZ:=Q0 hxk;have ET:Hid (x.ls=a.ls/\x.lv=a.lv/\x.v1=a.v1/\x.v2=a.v2/\x.wv=a.wv/\x.st=a.st/\x.r=a.r/\x.qR=a.qR/\x.wl=a.wl):=by rw [lZ.out];exact ⟨rfl,rfl,rfl,rfl,rfl,rfl,rfl,rfl,rfl⟩
 have HN6:Hid (w.heap.size≠a.k.B):=by rw [<- hxk];exact HN6.out
 have HLS:Hid (a.ls.length<=14):=by rw [<- ET.out.1];exact HLS.out
 rw [hxk];clear hxk;refine R8 (S:=fun u=>Cl u a.k.c5 100 [pt a.k.B]/\Cl u a.k.B 103 a.cells/\g_ u a.k.pR t/\Cl u w.heap.size 34 [.int .i64 rc,.string rt]) 17 U2 ?_ fun C=>?_
 · exact ⟨HR2.out.h7,HR2.out.hB,HR2.out.h8,C6.out⟩
 obtain ⟨O,hy0⟩:∃ x:World,x=W.drew:=⟨_,rfl⟩;rw [<- hy0] at C ⊢;have hby:Below W.heap.size W O:=by rw [hy0];exact (F4 _ W).drew
 have HRY:=Q0 (HR2.out.keep (w':=O) fun k l=>hby.block k (HR2.out.lt l));have pU:=Q0 (C6.out.below hby C6.out.lt);have zS:=Q0 hby
 clear hy0 hby
 refine lq 0 C ?_ (v:=?_) (hv:=?e)
 case e=>intro wq hSw;(try dsimp only at hSw);have d1:wq.cell? ⟨a.k.c5,0,none⟩=some (.pointer (some ⟨a.k.B,0,none⟩)):=hSw.1.cell 0;have d2:wq.cell? ⟨a.k.B,5,none⟩=some a.lv:=hSw.2.1.cell 5;have d3:wq.cell? ⟨a.k.pR,3,none⟩=some (.bool t.has):=(g_.cells hSw.2.2.1).2.2.2.1;have d4:wq.cell? ⟨a.k.pR,4,none⟩=some (.string t.name):=(g_.cells hSw.2.2.1).2.2.2.2.1;have d5:wq.cell? ⟨w.heap.size,0,none⟩=some (.int .i64 rc):=hSw.2.2.2.cell 0;have d6:wq.cell? ⟨w.heap.size,1,none⟩=some (.string rt):=hSw.2.2.2.cell 1;go_simp;try with_reducible rfl
 try simp only [qq]
 refine lq 1 C ?_ (v:=?_) (hv:=?e)
 case e=>intro wq hSw;(try dsimp only at hSw);have d1:wq.cell? ⟨a.k.c5,0,none⟩=some (.pointer (some ⟨a.k.B,0,none⟩)):=hSw.1.cell 0;have d2:wq.cell? ⟨a.k.B,5,none⟩=some a.lv:=hSw.2.1.cell 5;have d3:wq.cell? ⟨a.k.pR,3,none⟩=some (.bool t.has):=(g_.cells hSw.2.2.1).2.2.2.1;have d4:wq.cell? ⟨a.k.pR,4,none⟩=some (.string t.name):=(g_.cells hSw.2.2.1).2.2.2.2.1;have d5:wq.cell? ⟨w.heap.size,0,none⟩=some (.int .i64 rc):=hSw.2.2.2.cell 0;have d6:wq.cell? ⟨w.heap.size,1,none⟩=some (.string rt):=hSw.2.2.2.cell 1;go_simp;try with_reducible rfl
 try simp only [qq]
 refine lq 2 C ?_
 try simp only [qq]
 refine lq 3 C ?_
 try simp only [qq]
 refine lq 4 C ?_
 try simp only [qq]
 refine lq 5 C ?_ (v:=?_) (hv:=?e)
 case e=>intro wq hSw;(try dsimp only at hSw);have d1:wq.cell? ⟨a.k.c5,0,none⟩=some (.pointer (some ⟨a.k.B,0,none⟩)):=hSw.1.cell 0;have d2:wq.cell? ⟨a.k.B,5,none⟩=some a.lv:=hSw.2.1.cell 5;have d3:wq.cell? ⟨a.k.pR,3,none⟩=some (.bool t.has):=(g_.cells hSw.2.2.1).2.2.2.1;have d4:wq.cell? ⟨a.k.pR,4,none⟩=some (.string t.name):=(g_.cells hSw.2.2.1).2.2.2.2.1;have d5:wq.cell? ⟨w.heap.size,0,none⟩=some (.int .i64 rc):=hSw.2.2.2.cell 0;have d6:wq.cell? ⟨w.heap.size,1,none⟩=some (.string rt):=hSw.2.2.2.cell 1;go_simp;try with_reducible rfl
 try simp only [qq]
 refine lq 6 C ?_
 try simp only [qq]
 refine lq 7 C ?_ (v:=?_) (hv:=?e)
 case e=>intro wq hSw;(try dsimp only at hSw);have d1:wq.cell? ⟨a.k.c5,0,none⟩=some (.pointer (some ⟨a.k.B,0,none⟩)):=hSw.1.cell 0;have d2:wq.cell? ⟨a.k.B,5,none⟩=some a.lv:=hSw.2.1.cell 5;have d3:wq.cell? ⟨a.k.pR,3,none⟩=some (.bool t.has):=(g_.cells hSw.2.2.1).2.2.2.1;have d4:wq.cell? ⟨a.k.pR,4,none⟩=some (.string t.name):=(g_.cells hSw.2.2.1).2.2.2.2.1;have d5:wq.cell? ⟨w.heap.size,0,none⟩=some (.int .i64 rc):=hSw.2.2.2.cell 0;have d6:wq.cell? ⟨w.heap.size,1,none⟩=some (.string rt):=hSw.2.2.2.cell 1;go_simp;try with_reducible rfl
 try simp only [qq]
 refine lq 8 C ?_
 try simp only [qq]
 refine lq 9 C ?_ (v:=?_) (hv:=?e)
 case e=>intro wq hSw;(try dsimp only at hSw);have d1:wq.cell? ⟨a.k.c5,0,none⟩=some (.pointer (some ⟨a.k.B,0,none⟩)):=hSw.1.cell 0;have d2:wq.cell? ⟨a.k.B,5,none⟩=some a.lv:=hSw.2.1.cell 5;have d3:wq.cell? ⟨a.k.pR,3,none⟩=some (.bool t.has):=(g_.cells hSw.2.2.1).2.2.2.1;have d4:wq.cell? ⟨a.k.pR,4,none⟩=some (.string t.name):=(g_.cells hSw.2.2.1).2.2.2.2.1;have d5:wq.cell? ⟨w.heap.size,0,none⟩=some (.int .i64 rc):=hSw.2.2.2.cell 0;have d6:wq.cell? ⟨w.heap.size,1,none⟩=some (.string rt):=hSw.2.2.2.cell 1;go_simp;try with_reducible rfl
 try simp only [qq]
 refine lq 10 C ?_ (v:=?_) (hv:=?e)
 case e=>intro wq hSw;(try dsimp only at hSw);have d1:wq.cell? ⟨a.k.c5,0,none⟩=some (.pointer (some ⟨a.k.B,0,none⟩)):=hSw.1.cell 0;have d2:wq.cell? ⟨a.k.B,5,none⟩=some a.lv:=hSw.2.1.cell 5;have d3:wq.cell? ⟨a.k.pR,3,none⟩=some (.bool t.has):=(g_.cells hSw.2.2.1).2.2.2.1;have d4:wq.cell? ⟨a.k.pR,4,none⟩=some (.string t.name):=(g_.cells hSw.2.2.1).2.2.2.2.1;have d5:wq.cell? ⟨w.heap.size,0,none⟩=some (.int .i64 rc):=hSw.2.2.2.cell 0;have d6:wq.cell? ⟨w.heap.size,1,none⟩=some (.string rt):=hSw.2.2.2.cell 1;go_simp;try with_reducible rfl
 try simp only [qq]
 refine lq 11 C ?_
 try simp only [qq]
 refine lr (i:=12) (o:=⟨some 22,.buildSlice 48 1 #[(0,.tmp 21)],48,_,_,none⟩) rfl K3 U2 fun K J=>?_;go_simp;obtain ⟨y1,hy1⟩:∃ x:World,x=O.alloc (.cells #[.bool t.has,.string t.name,.int .i64 rc,.string rt] 52):=⟨_,rfl⟩;rw [<- hy1];have KS:Below O.heap.size O y1:=by rw [hy1];exact bA
 have CL:Hid (Cl y1 O.heap.size 52 [.bool t.has,.string t.name,.int .i64 rc,.string rt]):=by show Cl _ _ _ _;rw [hy1];exact U1 O _ 52
 have D:=Q0 (HRY.out.keep (w':=y1) fun k l=>KS.block k (HRY.out.lt l));have C61:=Q0 (pU.out.below KS pU.out.lt);have Y:=Q0 KS;clear hy1 C;refine Z6 J ?_ fun C=>?_
 · exact ⟨D.out.h7,D.out.hB,D.out.h8,C61.out⟩
 clear J K KS;refine lr (i:=13) (o:=⟨some 23,.call ⟨.builtin .append,#[.tmp 15,.tmp 22],#[48,48]⟩,48,_,_,none⟩) rfl K3 U2 fun K J=>?_;refine z_ rfl _ _ 48 rfl f.base 52 4 underlying48 Ol K3 a.lv a.ls.length (R4 a.ls) rfl D.out.lk (.slice (some ⟨O.heap.size,0,none⟩) 1 1) 1 [.bool t.has,.string t.name,.int .i64 rc,.string rt] rfl (.inr ⟨⟨O.heap.size,0,none⟩,1,rfl,rfl,za CL.out⟩) (by intro u hu;simp at hu;rcases hu with rfl | rfl | rfl | rfl <;> rfl) (by have:=HLS.out;omega) (by have:=Y.out.size;have:=zS.out.size;have:=HSZ.out;omega) ?_;intro PR R O2 g2 at2;have NS:Hid (R.ownsRow f.base 52 4 PR (a.ls++[(⟨t.has,t.name,rc,rt⟩:M.L4)]).length (R4 (a.ls++[(⟨t.has,t.name,rc,rt⟩:M.L4)]))):=by show World.ownsRow _ _ _ _ _ _ _;rw [Af,Q7];exact O2
 have HG2:=Q0 g2;have HA2:=Q0 at2;have hnb:∀ {b:Nat} {s:TypeId} {xs:Array Value},y1.heap[b]?=some (.cells xs s (0,0))->s≠52->some b≠a.lv.ownBlock:=fun hb ht e=>by
  obtain ⟨_,cur,yV⟩:=Y2 D.out.lk e.symm;exact J6 hb yV ht rfl
 have tT:Hid (Cl R a.k.B 103 a.cells):=Q0 (D.out.hB.gb g2 (hnb D.out.hB K3));have oU:Hid (Cl R a.k.c5 100 [pt a.k.B]):=Q0 (D.out.h7.gb g2 (hnb D.out.h7 K3));have qW:Hid (g_ R a.k.pR t):=Q0 ((g2.block _ D.out.h8.lt (hnb D.out.h8 K3)).trans D.out.h8);have wT:Hid (Cl R w.heap.size 34 [.int .i64 rc,.string rt]):=Q0 (C61.out.gb g2 (hnb C61.out K3));clear O2 g2 at2 C hnb;refine Z6 J ?_ fun C=>?_
 · exact ⟨oU.out,tT.out,qW.out,wT.out⟩
 clear J K;refine lr (i:=14) (o:=⟨some 24,.nilCheck (.tmp 10),0,_,_,none⟩) rfl K3 U2 fun K J=>?_;go_simp;clear C;refine Z6 J ?_ fun C=>?_
 · exact ⟨oU.out,tT.out,qW.out,wT.out⟩
 clear J K;refine lr (i:=15) (o:=⟨some 25,.fieldAddr 103 (.tmp 24) 0,0,_,_,none⟩) rfl K3 U2 fun K J=>?_;go_simp;clear C;refine Z6 J ?_ fun C=>?_
 · exact ⟨oU.out,tT.out,qW.out,wT.out⟩
 clear J K;refine lq 16 C ?_
 try simp only [qq]
 refine lz (o:=⟨none,.store 48 (.tmp 26) (.tmp 23),0,_,_,none⟩) rfl U2 fun K J=>?_;have z5:R.cell? ⟨a.k.B,5,none⟩=some a.lv:=tT.out.cell 5;have zf:=tT.out.opn 5;obtain ⟨la,lc,hlv,_⟩:=yf NS.out;have a3f:PR=.slice la (a.ls.length+1) lc:=by rw [hlv];simp
 clear hlv;subst a3f;go_simp;clear C;refine J.out _ _ ?_;clear J K
 try simp only [qq]
 refine l_ U2 ?_ _;have hon:=I6 R a.k.B 5 (.slice la (a.ls.length+1) lc);have hcB:=tT.out.set 5 (.slice la (a.ls.length+1) lc);generalize (R.setCell ⟨a.k.B,5,none⟩ (.slice la (a.ls.length+1) lc))=V at*;have HR3:Hid (ic f.base f.kb { a with lv:=.slice la (a.ls.length+1) lc,ls:=a.ls++[(⟨t.has,t.name,rc,rt⟩:M.L4)] } t (Sg x.k.m x.ls) V):=Q0 (HRY.out.look Y.out HG2.out NS.out hon hcB);have vZ:=Q0 (wT.out.on hon HN6.out);have qU:=Q0 hon;clear hon hcB tT oU qW wT D HRY;obtain ⟨p,eX⟩:∃ p:Ru,Hid (p={ a with lv:=.slice la (a.ls.length+1) lc,ls:=a.ls++[(⟨t.has,t.name,rc,rt⟩:M.L4)] }):=⟨_,rfl⟩;have HR3:Hid (ic f.base f.kb p t (Sg x.k.m x.ls) V):=by rw [eX.out];exact HR3.out
 have hk3:a.k=p.k:=by rw [eX.out]
 have UU:=Q0 hk3;rw [hk3];clear hk3;have d9:V.cell? ⟨p.k.wR,0,none⟩=some (.func (.func 117) #[] #[.pointer (some ⟨p.k.b0,0,none⟩),.pointer (some ⟨p.k.b1,0,none⟩),.pointer (some ⟨p.k.b2,0,none⟩),.pointer (some ⟨p.k.b3,0,none⟩)]):=HR3.out.h9.cell 0;have r0:V.cell? ⟨w.heap.size,0,none⟩=some (.int .i64 rc):=vZ.out.cell 0;have r1:V.cell? ⟨w.heap.size,1,none⟩=some (.string rt):=vZ.out.cell 1
 go_wp2_with fail
 have iX:∀ k,a.lv.ownBlock=some k->g.ow k=some (.run i):=fun k e=>I.out.ER i x H.out k (.inr (.inl (by rw [ET.out.2.1];exact e)));have a4A:f.base<=p.k.B:=by rw [<- UU.out,<- uZ.out];exact I.out.FR _ _ (I.out.ER i x H.out _ (.inl X0))
 have hBo:g.ow p.k.B=some (.run i):=by rw [<- UU.out,<- uZ.out];exact I.out.ER i x H.out _ (.inl X0)
 have hsz2:w.heap.size<=W.heap.size:=tZ.out.size;have a4B:W.heap.size<=O.heap.size:=zS.out.size;have a3z:O.heap.size<=y1.heap.size:=Y.out.size;have a1a:y1.heap.size<=R.heap.size:=HG2.out.size;have rW:Hid (Ex (fun k=>g.ow k=some (.run i)) w V):=by
  refine (((tZ.out.wm (zS.out.mono hsz2)).wm (Y.out.mono O0)).trans ?_);refine ⟨qU.out.os.trans HG2.out.os,qU.out.tape.trans HG2.out.tape,qU.out.output.trans HG2.out.output,by rw [qU.out.size];exact a1a,fun k l Z=>?_⟩;exact (qU.out.block k (fun e=>Z (by rw [e,UU.out];exact hBo))).trans (HG2.out.block k l (fun e=>Z (iX k e.symm)))
 have HB3:Hid (Below f.base w V):=Q0 (rW.out.below (fun k e=>I.out.FR _ _ e) I.out.sz);have wZ:=I.out.bl.trans HB3.out;have HRO:=Q0 (vK x.k.m x.ls (fun y X=>(xB (AV.out.2 y X)).2));have hmp:=Lm (xS.out.ms _ (nT.out.mem i x H.out));have hts:rt.size<=1048576:=by have:=Ai HVR.out;rw [Ez] at this;exact Z4 this K3
 have hkm:x.k.m=p.k.m:=by rw [uZ.out,UU.out]
 refine (c117 f.base p.k.b0 p.k.b1 p.k.b2 p.k.b3 p.k.m.nm p.k.m.tl p.k.m.ar (Sg x.k.m x.ls) p.v1 p.v2 ⟨rc,rt⟩ V HR3.out.rw HRO.out.1 (by have:=HRO.out.2;have:=AV.out.1;omega) hts (by rw [<- hkm];have:=hmp.2.2;omega) (Dc HF.out.vT wZ HF.out.ten) (Lg HF.out.mx wZ HF.out.ten) HF.out.ten).mono ?_;rintro e w4 ⟨rfl,⟨v1',v2',hrw,hn1,hn2⟩,xZ⟩;have HKM:=Q0 hkm;clear hkm;obtain ⟨t4,HT4⟩:∃ t4,Hid ((P7 p.k.m.tl p.k.m.ar (Sg x.k.m x.ls) ⟨rc,rt⟩).1=t4):=⟨_,rfl⟩;have HTN:Hid (tn x.k.m (x.ls++[(⟨t.has,t.name,rc,rt⟩:M.L4)])=t4):=by show _=_;rw [Hl,HKM.out];exact HKM.out▸HT4.out
 have DW:Hid (Sg x.k.m (x.ls++[(⟨t.has,t.name,rc,rt⟩:M.L4)])=(P7 p.k.m.tl p.k.m.ar (Sg x.k.m x.ls) ⟨rc,rt⟩).2):=by show _=_;rw [Wl,HKM.out]
 rw [HT4.out];obtain ⟨o,c,s,th,tnm,ts⟩:=t4;rw [show (TN.v ⟨o,c,s,th,tnm,ts⟩)=.agg #[.bool o,.int .i64 c,.string s,.bool th,.string tnm,.int .i64 ts] from rfl];have HR4:=Q0 (HR3.out.next hrw xZ);have rU:Hid (Ex (fun k=>g.ow k=some (.run i)) w w4):=by
  refine rW.out.IL xZ fun k l e=>?_;have Q:Aw x k:=by
   rcases e with e | e | e | e
   · exact .inl (by rw [e,<- UU.out,<- uZ.out];simp)
   · exact .inl (by rw [e,<- UU.out,<- uZ.out];simp)
   · exact .inl (by rw [e,<- UU.out,<- uZ.out];simp)
   exact .inr (.inr (.inl (by rw [ET.out.2.2.1];rw [eX.out] at e;exact e)))
  exact I.out.ER i x H.out k Q
 have a1b:=Q0 hn1;have a1c:=Q0 hn2;have a4C:w.heap.size<=V.heap.size:=rW.out.size;clear d9 r0 r1 hrw hn1 hn2 xZ wZ
 go_upto_region 4 with (refine Sb rfl _ _ rfl p.k.pR rfl ⟨o,c,s,th,tnm,ts⟩ t rfl HR4.out.h8 rfl ?_;intro U ht5 a1d hk5;have HT5:=Q0 ht5;have HK5:=Q0 hk5;have eU:=Q0 a1d;clear ht5 a1d hk5)
 obtain ⟨d,yZ⟩:∃ d:Ru,Hid (d={ p with v1:=v1',v2:=v2' }):=⟨_,rfl⟩;have A:Hid (d.k=x.k/\d.ls=x.ls++[(⟨t.has,t.name,rc,rt⟩:M.L4)]/\d.wv=x.wv/\d.wl=x.wl/\d.st=x.st/\d.r=x.r/\d.qR=x.qR):=by
  show _/\_;rw [yZ.out,eX.out,lZ.out];exact ⟨rfl,rfl,rfl,rfl,rfl,rfl,rfl⟩
 have HXW:Hid (d.wt=⟨#[]⟩):=by
  show _=_;rw [yZ.out,eX.out,lZ.out]
 have VW:Hid (ic f.base f.kb d ⟨o,c,s,th,tnm,ts⟩ (P7 p.k.m.tl p.k.m.ar (Sg x.k.m x.ls) ⟨rc,rt⟩).2 U):=by
  have:=HR4.out.turn HT5.out HK5.out;rw [yZ.out];exact this
 have sU:Hid (tn d.k.m d.ls=⟨o,c,s,th,tnm,ts⟩/\Sg d.k.m d.ls=(P7 p.k.m.tl p.k.m.ar (Sg x.k.m x.ls) ⟨rc,rt⟩).2):=by
  show _/\_;rw [A.out.1,A.out.2.1];exact ⟨HTN.out,DW.out⟩
 have a1e:g.ow p.k.pR=some (.run i):=by rw [<- UU.out,<- uZ.out];exact I.out.ER i x H.out _ (.inl X0)
 have uU:Hid (Ex (fun k=>g.ow k=some (.run i)) w U):=by
  have hb:=eU.out 0 (I5 _);exact ⟨hb.os.trans rU.out.os,hb.tape.trans rU.out.tape,hb.output.trans rU.out.output,Z4 rU.out.size hb.size,fun k l Z=>(HK5.out k (fun e=>Z (by rw [e];exact a1e))).trans (rU.out.block k l Z)⟩
 have HS5:Hid (Ab f { g with ow:=ext g.ow w.heap.size (.run i),rs:=g.rs.set i d } U):=by
  have h1:=I.out.ext w.heap.size P9 (.run i);refine h1.run (x':=d) H.out (uU.out.mono fun k l e=>?_) ?_ (fun k l=>?_) A.out.1 A.out.2.2.1 A.out.2.2.2.1
  · show ext g.ow w.heap.size _ k=_
    rw [N8 l];exact e
  · rw [sU.out.1,sU.out.2];exact VW.out
  have hown:∀ q,Aw x q->ext g.ow w.heap.size (.run i) q=some (.run i):=fun q hq=>h1.ER i x H.out q hq;rcases l with l | l | l | l
  · exact hown k (.inl (by rw [A.out.1] at l;exact l))
  · have Q:(Value.slice la (a.ls.length+1) lc).ownBlock=some k:=by rw [yZ.out,eX.out] at l;exact l
    rcases HA2.out with h | h
    · rw [h] at Q
      exact hown k (.inr (.inl (by rw [ET.out.2.1];exact Q)))
    rw [h] at Q;have:=j6 Q;exact Ik O0
  · have Q:v1'.ownBlock=some k:=by rw [yZ.out] at l;exact l
    rcases a1b.out k Q with h | h
    · exact hown k (.inr (.inr (.inl (by rw [ET.out.2.2.1];rw [eX.out] at h;exact h))))
    exact Ik O0
  have Q:v2'.ownBlock=some k:=by rw [yZ.out] at l;exact l
  rcases a1c.out k Q with h | h
  · exact hown k (.inr (.inr (.inr (by rw [ET.out.2.2.2.1];rw [eX.out] at h;exact h))))
  exact Ik O0
 have MS:Hid (Below f.base w U):=Q0 (uU.out.below (fun k e=>I.out.FR _ _ e) I.out.sz);have HK4:Hid (p.k=d.k):=by rw [yZ.out];rfl
 have HG4:Hid ((g.rs.set i d)[i]?=some d):=Q0 (xh H.out);have a1f:Hid (I9 E x.k.m d.ls):=by
  have:=HHX.out;rw [HT.out] at this;rw [A.out.2.1];exact this
 have HPW:Hid (Xk d+1=Xk x):=by
  show _=_;unfold Xk;have h14:=HLS.out;rw [<- ET.out.1] at h14;rw [A.out.2.1,A.out.2.2.2.2.1];simp;split <;> omega
 have hj0:=g_.cells HT5.out;rw [HK4.out] at hj0 ⊢;obtain ⟨j0,j1,j2,j3,j4,j5,_⟩:=hj0;have c2c:U.cell? ⟨d.k.c2,0,none⟩=some (.pointer (some ⟨f.kb,0,none⟩)):=VW.out.h2.cell 0;have c5c:U.cell? ⟨d.k.c5,0,none⟩=some (.pointer (some ⟨d.k.B,0,none⟩)):=VW.out.h7.cell 0;have a3g:U.cell? ⟨d.k.uR,0,none⟩=some (.func (.func 84) #[] #[.pointer (some ⟨d.k.c5,0,none⟩),.pointer (some ⟨d.k.pR,0,none⟩),.pointer (some ⟨d.k.wR,0,none⟩),.pointer (some ⟨d.k.c2,0,none⟩),.pointer (some ⟨d.k.uR,0,none⟩)]):=VW.out.h10.cell 0;clear HR4 HR3 rU rW HT5 HK5 eU HB3 a1b a1c NS HG2 HA2 CL vZ pU Y zS qU iX hBo a1e tZ HR2 C6 hBw2;cases o
 · have HL5:Hid (og E { g with ow:=ext g.ow w.heap.size (.run i),rs:=g.rs.set i d } (some i)):=by
    have h1:=nT.out.upd (x':=d) H.out A.out.1 A.out.2.2.2.2.2.2 A.out.2.2.2.1 A.out.2.2.2.2.2.1 a1f.out (by rw [<- A.out.1,sU.out.1]);exact ⟨h1.mem,h1.inj,h1.his,h1.fin,h1.non,h1.act,h1.yR,h1.bS,h1.nS,h1.sS,h1.vR,h1.WR⟩
   have h50:=a3e.out _ i d U HS5.out HL5.out HG4.out (by have:=PU.out;rw [A.out.2.1];simp;omega);rw [sU.out.1] at h50;have HC:=Q0 h50;clear h50
   go_wp2_with fail
   refine HC.out.mono ?_;rintro e w6 ⟨rfl,g',L⟩;have DT:Hid (∃ g',uH f E g g' w w6/\Cg g'<Cg g):=by
    have hp:=qi (x':=d) H.out;have hpw:=HPW.out;have hlt:Cg { g with ow:=ext g.ow w.heap.size (.run i),rs:=g.rs.set i d }<Cg g:=by
     unfold Cg;simp only [Ed];omega
    refine ⟨g',⟨L.vT,L.YV,fun j y X=>?_,by have:=L.Cg;omega,MS.out.trans L.bl,fun k l he=>?_⟩,by have:=L.Cg;omega⟩;rotate_left
    · have XR:=uU.out.block k l (by rw [he];simp)
      obtain ⟨h1,h2⟩:=L.kp k (D7 l uU.out.size) ((N8 l).trans he);exact ⟨h1.trans XR,h2⟩
    obtain ⟨z,hz,hzk⟩:∃ z,(g.rs.set i d)[j]?=some z/\z.k=y.k:=by
     obtain ⟨z,hz,⟨rfl,rfl⟩ | ⟨rfl,_⟩⟩:=Za (x':=d) H.out X
     · rw [H.out] at X
       obtain rfl:=j6 X;exact ⟨_,hz,A.out.1⟩
     exact ⟨z,hz,rfl⟩
    obtain ⟨z',hz',hzk'⟩:=L.ext j z hz;exact ⟨z',hz',hzk'.trans hzk⟩
   clear L HC;go_wp2
   go_end0
   exact ⟨rfl,DT.out⟩
 have hms:E.ms.length<=30:=by rw [HF.out.hE];show (f.ms.map toM).length<=30;rw [qc];exact Fa HF.out.pt
 have hrl:=nT.out.len hms;have zT:g.q.length<=30:=by
  have:=Dl nT.out.bS (n:=g.rs.length) (fun j hj=>by
   obtain ⟨it,hit,rfl⟩:=D9.1 hj;exact I.out.JR it hit)
  simp at this;omega
 have hwl:x.wl.length<=30:=by
  have:=Dl (nT.out.WR i x H.out (by rw [hxa];simp)).1 (n:=g.rs.length) (fun j hj=>I.out.lS i x H.out j hj);omega
 have HC:=Q0 (c85 f { g with ow:=ext g.ow w.heap.size (.run i),rs:=g.rs.set i d } i d ⟨c,s⟩ U HS5.out HG4.out (by show g.q.length+_<=_;rw [A.out.2.2.2.1];omega) (by rw [A.out.1];exact Qb hmp.1));clear hrl zT hwl
 go_wp2_with fail
 refine HC.out.mono ?_;rintro e w6 ⟨rfl,its,rv',ow',hs6,hits,hre,hb6,a1g⟩;have DT:Hid (∃ g',uH f E g g' w w6/\Cg g'<Cg g):=by
  have a3h:=A.out.2.2.2.2.2.2.trans hxa;have hpe:Bb i { d with r:=⟨c,s⟩ }={ d with r:=⟨c,s⟩ }:=by unfold Bb;rw [if_neg (by show ¬ d.qR=_;rw [a3h];simp)]
  have hsa:=jM hs6 (F:=Bb i) (fun y=>by unfold Bb;split;exact ⟨_,rfl⟩;exact ⟨y.qR,rfl⟩);have hgi:(((g.rs.set i d).set i { d with r:=⟨c,s⟩ }).map (Bb i))[i]?=some { d with r:=⟨c,s⟩ }:=by rw [ik (xh HG4.out),hpe]
  have hrb:=hsa.ru i _ hgi;have hsb:=hsa.run (x':={ d with r:=⟨c,s⟩,qR:=.fin }) hgi (Ex.refl _ _) (hrb.gh rfl rfl rfl rfl rfl rfl rfl) (fun k l=>hsa.ER i _ hgi k (Aw.of (x:={ d with r:=⟨c,s⟩ }) rfl rfl rfl rfl l)) rfl rfl rfl;have hle:((((g.rs.set i d).set i { d with r:=⟨c,s⟩ }).map (Bb i)).set i { d with r:=⟨c,s⟩,qR:=.fin })=(g.rs.map (Bb i)).set i { d with r:=⟨c,s⟩,qR:=.fin }:=by
   rw [List.map_set,List.map_set,List.set_set,List.set_set]
  have N:=nT.out.end (x':={ d with r:=⟨c,s⟩,qR:=.fin }) (its:=its) (r:=⟨c,s⟩) H.out A.out.1 rfl A.out.2.2.2.1 rfl HXW.out a1f.out (by show (tn x.k.m d.ls).over=true;rw [<- A.out.1,sU.out.1]) (by show _=Pj (tn x.k.m d.ls);rw [<- A.out.1,sU.out.1];rfl) (by rw [hits,A.out.2.2.2.1]) hre;have hpi:(g.rs.map (Bb i))[i]?=some (Bb i x):=ik H.out;have hp:=qi (x':={ d with r:=⟨c,s⟩,qR:=.fin }) hpi;have hpx:Xk (Bb i x)=Xk x:=by obtain ⟨_,e2,e3,_⟩:=X7 i x;unfold Xk;rw [e2,e3]
  have hpm:((g.rs.map (Bb i)).map Xk)=g.rs.map Xk:=by
   rw [Kq];refine Bo fun y _=>?_;obtain ⟨_,e2,e3,_⟩:=X7 i y;show Xk (Bb i y)=Xk y;unfold Xk;rw [e2,e3]
  have hp4:Xk { d with r:=⟨c,s⟩,qR:=.fin }=Xk d:=rfl;have hpw:=HPW.out;rw [hpm,hpx,hp4] at hp;have hlt:Cg { g with rs:=(g.rs.map (Bb i)).set i { d with r:=⟨c,s⟩,qR:=.fin },q:=g.q++its,rv:=rv',ow:=ow' }<Cg g:=by
   unfold Cg;simp only [Ed,qc];omega
  refine ⟨{ g with rs:=(g.rs.map (Bb i)).set i { d with r:=⟨c,s⟩,qR:=.fin },q:=g.q++its,rv:=rv',ow:=ow' },⟨?_,⟨N.mem,N.inj,N.his,N.fin,N.non,N.act,N.yR,N.bS,N.nS,N.sS,N.vR,N.WR⟩,fun j y X=>?_,Nat.le_of_lt hlt,MS.out.trans hb6,fun k l he=>?_⟩,hlt⟩
  rotate_right
  · have XR:=uU.out.block k l (by rw [he];simp)
    obtain ⟨h1,h2⟩:=a1g k (D7 l uU.out.size) ((N8 l).trans he);exact ⟨h1.trans XR,h2⟩
  · have:=hsb
    rw [<- hle];exact this
  obtain ⟨z,hz,⟨rfl,rfl⟩ | ⟨rfl,_⟩⟩:=Za (x':={ d with r:=⟨c,s⟩,qR:=.fin }) hpi (ik (F:=Bb i) X)
  · rw [H.out] at X
    obtain rfl:=j6 X;exact ⟨_,hz,A.out.1⟩
  exact ⟨_,hz,(X7 i y).1⟩
 clear hs6 hits hre hb6 a1g HC;go_wp2;refine K4 (ig rfl _ _ _) rfl ?_;exact ⟨rfl,DT.out⟩
theorem aO (kb k:Nat) (A:Option Addr) (pc:Nat) (ms:List M3) (nm:ByteArray) (w:World) (u1 u2 u3 u4 u5 u7 u8 u9 u10 u11 u12 u13 u14 u15 u16 u17 u18 u19 u20 u21 u22 u23 u24 u25 u26 u27 u28 u29 u30 u31 u32 u33 u34 u35 u36 u37 u38 u39 u40 u41 u42 u43 u44 u45 u46 u47 u48 u49 u50 u51 u52 u53 u54 u55 u56 u57 u58 u59 u60 u61 u62 u63 u64 u65 u66 u67 u68 u69 u70 u71 u72 u73 u74 u75 u76 u77 u78 u79 u80 u81 u82 u83 u84:Value) {Q:Exit->Act->World->Prop} (hQ:∀ c (a:Act) (d:Option Tmp) (v:Value) w,Q (.panic c) (a.put d v) w->Q (.panic c) a w)
 (q:w.cell? ⟨kb,1,none⟩=some (.slice A ms.length pc)) (n:w.cell? ⟨k,4,none⟩=some (.string nm)) (t:kb<w.heap.size) (z:k<w.heap.size) (U:ms.length<=300) (Y:Hid (∀ u,Below w.heap.size w u->G.Ad u A ms)) (W:G.En ms)
 (X:∀ (t26 t27 t28 t29 t30 t31 t32 t33 t34 t35:Value) (O:Nat) (y:M3) (m:Bool) (w':World),Below w.heap.size w w'->Cl w' O 47 (Tf [.string ⟨#[]⟩,.string ⟨#[]⟩,.string ⟨#[]⟩] 0 [.string y.nm,.string y.tl,.string y.ar])->w.heap.size<=O->((m=true/\∃ i,i<ms.length/\ms.getD i N7=y/\y.nm=nm)\/(m=false/\∀ j,j<ms.length->(ms.getD j N7).nm≠nm))->Q .normal { tmps:=#[.pointer (some ⟨kb,0,none⟩),u1,u2,u3,u4,u5,.pointer (some ⟨k,0,none⟩),u7,.pointer (some ⟨O,0,none⟩),.bool m,u10,u11,u12,u13,u14,u15,u16,u17,u18,u19,u20,u21,u22,u23,u24,u25,t26,t27,t28,t29,t30,t31,t32,t33,t34,t35,u36,u37,u38,u39,u40,u41,u42,u43,u44,u45,u46,u47,u48,u49,u50,u51,u52,u53,u54,u55,u56,u57,u58,u59,u60,u61,u62,u63,u64,u65,u66,u67,u68,u69,u70,u71,u72,u73,u74,u75,u76,u77,u78,u79,u80,u81,u82,u83,u84],defers:=[] } w'):
 (Code.region 3 #[⟨some 27,.move (.tmp 0),57, "l4_want.go:255",#[],none⟩,⟨some 28,.nilCheck (.tmp 27),0, "l4_want.go:255",#[⟨0,.data⟩],none⟩,⟨some 29,.fieldAddr 98 (.tmp 28) 1,0, "l4_want.go:255",#[⟨1,.data⟩],none⟩,⟨some 30,.load 44 (.tmp 29),44, "l4_want.go:255",#[⟨2,.data⟩],none⟩,⟨some 31,.fieldAddr 147 (.tmp 6) 3,0, "l4_want.go:255",#[],none⟩,⟨some 32,.load 9 (.tmp 31),9, "l4_want.go:255",#[⟨4,.data⟩],none⟩,⟨some 33,.call ⟨.value (.func 51),#[.tmp 30,.tmp 32],#[44,9]⟩,74, "l4_want.go:255",#[⟨3,.data⟩,⟨5,.data⟩],none⟩,⟨some 26,.move (.tmp 33),74, "l4_want.go:255",#[⟨6,.data⟩],none⟩,⟨some 34,.extract (.tmp 26) 0,47, "l4_want.go:255",#[⟨7,.data⟩],none⟩,⟨some 35,.extract (.tmp 26) 1,4, "l4_want.go:255",#[⟨7,.data⟩,⟨11,.gcOnly .lateStores⟩],none⟩,⟨some 8,.alloc 47,0, "l4_want.go:255",#[],none⟩,⟨none,.store 47 (.tmp 8) (.tmp 34),0, "l4_want.go:255",#[⟨10,.data⟩,⟨8,.data⟩,⟨6,.chain⟩,⟨0,.phase⟩,⟨1,.phase⟩,⟨2,.phase⟩,⟨3,.phase⟩,⟨4,.phase⟩,⟨5,.phase⟩,⟨6,.phase⟩,⟨7,.phase⟩,⟨8,.phase⟩,⟨9,.textOnly .lateStores⟩,⟨10,.phase⟩],none⟩,⟨some 9,.assign (.tmp 35),4, "l4_want.go:255",#[⟨9,.data⟩,⟨11,.chain⟩,⟨0,.phase⟩,⟨1,.phase⟩,⟨2,.phase⟩,⟨3,.phase⟩,⟨4,.phase⟩,⟨5,.phase⟩,⟨6,.phase⟩,⟨7,.phase⟩,⟨8,.phase⟩,⟨9,.phase⟩,⟨10,.phase⟩,⟨11,.phase⟩],none⟩] true).wp prog Q { tmps:=#[.pointer (some ⟨kb,0,none⟩),u1,u2,u3,u4,u5,.pointer (some ⟨k,0,none⟩),u7,u8,u9,u10,u11,u12,u13,u14,u15,u16,u17,u18,u19,u20,u21,u22,u23,u24,u25,u26,u27,u28,u29,u30,u31,u32,u33,u34,u35,u36,u37,u38,u39,u40,u41,u42,u43,u44,u45,u46,u47,u48,u49,u50,u51,u52,u53,u54,u55,u56,u57,u58,u59,u60,u61,u62,u63,u64,u65,u66,u67,u68,u69,u70,u71,u72,u73,u74,u75,u76,u77,u78,u79,u80,u81,u82,u83,u84],defers:=[] } w:=by
 refine F7 (S:=fun u=>u.cell? ⟨kb,1,none⟩=some (.slice A ms.length pc)/\u.cell? ⟨k,4,none⟩=some (.string nm)) U2 ?_ fun b=>?_
 · exact ⟨q,n⟩
 obtain ⟨h,J⟩:∃ x:World,x=w.drew:=⟨_,rfl⟩;rw [<- J] at b ⊢;have F:Below w.heap.size w h:=by rw [J];exact (F4 _ w).drew
 have hz0:w.heap.size<=h.heap.size:=F.size;clear J;refine tq 0 b ?_;refine tq 1 b ?_;refine tq 2 b ?_;refine tq 3 b ?_ (v:=?_) (hv:=?e)
 case e=>intro wq hSw;(try dsimp only at hSw);obtain ⟨s1,s4⟩:=hSw;go_simp;try with_reducible rfl
 refine tq 4 b ?_;refine tq 5 b ?_ (v:=?_) (hv:=?e)
 case e=>intro wq hSw;(try dsimp only at hSw);obtain ⟨s1,s4⟩:=hSw;go_simp;try with_reducible rfl
 try simp only [qq]
 refine Ma (rs:=[6,10]) U2 X0 (x8 (o:=⟨some 33,.call ⟨.value (.func 51),#[.tmp 30,.tmp 32],#[44,9]⟩,74,_,_,none⟩) rfl (fun K f=>?_) (x8 (o:=⟨some 8,.alloc 47,0,_,_,none⟩) rfl (fun K f=>?_) Ra))
 · go_simp
   refine (G.c51 A pc ms nm h U (Y.out h F) W).mono ?_;rintro e g ⟨⟨y,m,rfl,C⟩,kZ⟩;have P:=Q0 C;clear C;go_simp;have l:=F.trans (kZ.mono O0);have hz1:=l.size;clear b;refine f.out _ _ ?_ fun b=>?_
   · exact ⟨(l.cell (p:=⟨kb,1,none⟩) t).trans q,(l.cell (p:=⟨k,4,none⟩) z).trans n⟩
   clear f K;refine tq 7 b ?_;refine tq 8 b ?_;refine I4 9 b ?_;refine rq 10 fun K f=>?_;go_simp;obtain ⟨I,D⟩:∃ x:World,x=g.alloc (.cells #[.string ⟨#[]⟩,.string ⟨#[]⟩,.string ⟨#[]⟩] 47):=⟨_,rfl⟩;rw [<- D];have a3i:Below g.heap.size g I:=by rw [D];exact bA
   have R:Hid (Cl I g.heap.size 47 [.string ⟨#[]⟩,.string ⟨#[]⟩,.string ⟨#[]⟩]):=by show Cl _ _ _ _;rw [D];exact U1 g _ 47
   clear D;have s:=l.trans (a3i.mono O0);clear b;refine Z6 f ?_ fun b=>?_
   · exact ⟨(s.cell (p:=⟨kb,1,none⟩) t).trans q,(s.cell (p:=⟨k,4,none⟩) z).trans n⟩
   clear f K;refine rq 11 fun K f=>?_;refine qh rfl 47 _ _ rfl (B:=g.heap.size) (j:=0) rfl (vs:=[.string y.nm,.string y.tl,.string y.ar]) rfl R.out X0 (by intro v hv;simp at hv;rcases hv with rfl | rfl | rfl <;> rfl) U2 ?_;intro H N L;have r:=s.trans (L.below O0);clear b;refine f.out _ _ ?_ fun b=>?_
   · exact ⟨(r.cell (p:=⟨kb,1,none⟩) t).trans q,(r.cell (p:=⟨k,4,none⟩) z).trans n⟩
   clear f K;refine I4 12 b ?_;refine a_ ?_;refine X _ _ _ _ _ _ _ _ _ _ g.heap.size y m H r N O0 P.out
 go_simp;obtain ⟨g,E⟩:∃ x:World,x=h.alloc (.cells #[.string ⟨#[]⟩,.string ⟨#[]⟩,.string ⟨#[]⟩] 47):=⟨_,rfl⟩;rw [<- E];have a3j:Below h.heap.size h g:=by rw [E];exact bA
 have Z:Hid (Cl g h.heap.size 47 [.string ⟨#[]⟩,.string ⟨#[]⟩,.string ⟨#[]⟩]):=by show Cl _ _ _ _;rw [E];exact U1 h _ 47
 clear E;have l:=F.trans (a3j.mono O0);have hz1:=l.size;clear b;refine Z6 f ?_ fun b=>?_
 · exact ⟨(l.cell (p:=⟨kb,1,none⟩) t).trans q,(l.cell (p:=⟨k,4,none⟩) z).trans n⟩
 clear f K;refine rq 6 fun K f=>?_;go_simp;refine (G.c51 A pc ms nm g U (Y.out g l) W).mono ?_;rintro e I ⟨⟨y,m,rfl,C⟩,V⟩;have P:=Q0 C;clear C;go_simp;have s:=l.trans (V.mono O0);have R:=Q0 (Z.out.below V Z.out.lt);clear b;refine f.out _ _ ?_ fun b=>?_
 · exact ⟨(s.cell (p:=⟨kb,1,none⟩) t).trans q,(s.cell (p:=⟨k,4,none⟩) z).trans n⟩
 clear f K;refine tq 7 b ?_;refine tq 8 b ?_;refine I4 9 b ?_;refine rq 11 fun K f=>?_;refine qh rfl 47 _ _ rfl (B:=h.heap.size) (j:=0) rfl (vs:=[.string y.nm,.string y.tl,.string y.ar]) rfl R.out X0 (by intro v hv;simp at hv;rcases hv with rfl | rfl | rfl <;> rfl) U2 ?_;intro H N L;have r:=s.trans (L.below O0);clear b;refine f.out _ _ ?_ fun b=>?_
 · exact ⟨(r.cell (p:=⟨kb,1,none⟩) t).trans q,(r.cell (p:=⟨k,4,none⟩) z).trans n⟩
 clear f K;refine I4 12 b ?_;refine a_ ?_;refine X _ _ _ _ _ _ _ _ _ _ h.heap.size y m H r N O0 P.out
open G (H6)
open G.T (F2 P6 X3 F3)
theorem Yp {ms:List M3} (h:w.ownsRow base 47 3 v ms.length (G.R5 ms)):∃ a c,v=.slice a ms.length c/\G.Ad w a ms:=by
 exact G.J7 h
theorem jF (f:Fx) (E:Env) (hf:BD f E) (n:Nat) (H48:ZN f E n):mP f E n:=by
 intro g i x w hs I hi hn;have vS:Y7 E:=by rw [hf.hE];exact zb hf.tr hf.pt
 have hxa:=(I.act i x hi).2 rfl;have hov:=(I.non i x hi (by rw [hxa];simp)).1;have hmk:=vS.ms _ (I.mem i x hi);have hri:=S_ vS (I.his i x hi) hmk;have hnm:=(hri.name hov).1;obtain ⟨pa,pc,hpv,_⟩:=Yp hs.pl;have VX:=Q0 hpv;have WX:Hid (∀ u {g'},Ab f g' u->G.Ad u pa f.ms):=fun u g' h=>by
  obtain ⟨a,c,h1,h2⟩:=Yp h.pl;rw [hpv] at h1;have:pa=a:=by injection h1
  rw [this];exact h2
 obtain ⟨t,HT⟩:∃ t,Hid (tn x.k.m x.ls=t):=⟨_,rfl⟩;rw [HT.out] at hov hnm ⊢;obtain ⟨o,tc,tt,th,p,ts⟩:=t;dsimp only at hov hnm;subst hov;rw [show (TN.v ⟨false,tc,tt,th,p,ts⟩)=.agg #[.bool false,.int .i64 tc,.string tt,.bool th,.string p,.int .i64 ts] from rfl];have cZ:=Q0 hnm;have nU:=Q0 hs;have jW:Hid (og E { g with ow:=U8 g.ow w.heap.size } (some i)):=Q0 ⟨I.mem,I.inj,I.his,I.fin,I.non,I.act,I.yR,I.bS,I.nS,I.sS,I.vR,I.WR⟩;have HI:=Q0 hi;have O:=Q0 hf;have PU:=Q0 hn;have xS:=Q0 vS;have H48:=Q0 H48;obtain ⟨w1,hw1⟩:∃ u:World,u=w.alloc (.cells #[.bool false,.int .i64 tc,.string tt,.bool th,.string p,.int .i64 ts] 147):=⟨_,rfl⟩;have HW1:=Q0 hw1;have P:Below w.heap.size w w1:=by rw [hw1];exact bA
 have C6:Hid (Cl w1 w.heap.size 147 [.bool false,.int .i64 tc,.string tt,.bool th,.string p,.int .i64 ts]):=by show Cl _ _ _ _;rw [hw1];exact U1 w _ 147
 have PS:Hid (Ab f { g with ow:=U8 g.ow w.heap.size } w1):=Q0 ((hs.U8 w.heap.size P9).grow P);have HB1:Hid (Below f.base w w1):=Q0 (P.mono hs.sz);have a1h:=Q0 P;have j3:w1.cell? ⟨w.heap.size,3,none⟩=some (.bool th):=C6.out.cell 3;clear hs I hi hf hn vS hmk hri hnm hw1 P hpv;go_enter func86,ntmps86;rw [show pt f.kb=.pointer (some ⟨f.kb,0,none⟩) from rfl,show pt x.k.B=.pointer (some ⟨x.k.B,0,none⟩) from rfl,show x.k.go=.func (.func 84) #[] #[.pointer (some ⟨x.k.c5,0,none⟩),.pointer (some ⟨x.k.pR,0,none⟩),.pointer (some ⟨x.k.wR,0,none⟩),.pointer (some ⟨x.k.c2,0,none⟩),.pointer (some ⟨x.k.uR,0,none⟩)] from rfl]
 go_upto_region 1 with fail
 rw [<- HW1.out];clear HW1;cases th;rotate_left
 · go_upto_region 2 with fail
   refine R8 (S:=fun u=>Cl u f.kb 98 (M_ f g.rv)/\Cl u w.heap.size 147 [.bool false,.int .i64 tc,.string tt,.bool true,.string p,.int .i64 ts]) 12 U2 ?_ fun s=>?_
   · exact ⟨PS.out.kb,C6.out⟩
   obtain ⟨D,Z⟩:∃ x:World,x=w1.drew:=⟨_,rfl⟩;rw [<- Z] at s ⊢;have L:Below w1.heap.size w1 D:=by rw [Z];exact (F4 _ w1).drew
   have U:=Q0 (PS.out.grow L);have pU:=Q0 (C6.out.below L C6.out.lt);have zS:Hid (Below f.base w D):=Q0 (HB1.out.trans (L.mono (by have:=HB1.out.size;have:=nU.out.sz;omega)));have HWY:Hid (Below w.heap.size w D):=Q0 (bT a1h.out L);clear Z L;refine l2 0 s ?_
   try simp only [qq]
   refine l2 1 s ?_
   try simp only [qq]
   refine l2 2 s ?_
   try simp only [qq]
   refine l2 3 s ?_
   try simp only [qq]
   refine l2 4 s ?_ (v:=?_) (hv:=?e)
   case e=>intro wq hSw;(try dsimp only at hSw);have d0:wq.cell? ⟨f.kb,0,none⟩=some (.slice f.ta f.fs.length f.tc):=hSw.1.cell 0;have d1:wq.cell? ⟨f.kb,1,none⟩=some (.slice pa f.ms.length pc):=(hSw.1.cell 1).trans (congrArg some VX.out);have d4:wq.cell? ⟨w.heap.size,4,none⟩=some (.string p):=hSw.2.cell 4;go_simp;try with_reducible rfl
   try simp only [qq]
   refine l2 5 s ?_
   try simp only [qq]
   refine l2 6 s ?_
   try simp only [qq]
   refine l2 7 s ?_
   try simp only [qq]
   refine l2 8 s ?_ (v:=?_) (hv:=?e)
   case e=>intro wq hSw;(try dsimp only at hSw);have d0:wq.cell? ⟨f.kb,0,none⟩=some (.slice f.ta f.fs.length f.tc):=hSw.1.cell 0;have d1:wq.cell? ⟨f.kb,1,none⟩=some (.slice pa f.ms.length pc):=(hSw.1.cell 1).trans (congrArg some VX.out);have d4:wq.cell? ⟨w.heap.size,4,none⟩=some (.string p):=hSw.2.cell 4;go_simp;try with_reducible rfl
   try simp only [qq]
   refine l2 9 s ?_
   try simp only [qq]
   refine l2 10 s ?_ (v:=?_) (hv:=?e)
   case e=>intro wq hSw;(try dsimp only at hSw);have d0:wq.cell? ⟨f.kb,0,none⟩=some (.slice f.ta f.fs.length f.tc):=hSw.1.cell 0;have d1:wq.cell? ⟨f.kb,1,none⟩=some (.slice pa f.ms.length pc):=(hSw.1.cell 1).trans (congrArg some VX.out);have d4:wq.cell? ⟨w.heap.size,4,none⟩=some (.string p):=hSw.2.cell 4;go_simp;try with_reducible rfl
   try simp only [qq]
   refine lr (i:=11) (o:=⟨some 24,.call ⟨.value (.func 122),#[.tmp 17,.tmp 21,.tmp 23],#[25,44,9]⟩,34,_,_,none⟩) rfl K3 U2 fun K H=>?_;go_simp;refine (xO f.ta pa f.tc pc f.fs f.ms p D O.out.tr.1 (G.T.U0 O.out.fa (U.out.bl.mono P9)) (G.T.di O.out.tr) (Z4 (Fa O.out.pt) K3) (WX.out D U.out) (G.Lf O.out.pt)).mono ?_;rintro e V ⟨rfl,P⟩;have N:=Q0 (U.out.grow P);have zZ:=Q0 (pU.out.below P pU.out.lt);have AZ:Hid (Below w.heap.size w V):=Q0 (bT HWY.out P);have mW:Hid (Below f.base w V):=Q0 (zS.out.trans (P.mono (by have:=zS.out.size;have:=nU.out.sz;omega)));go_simp;clear s;refine Z6 H ?_ fun s=>?_
   · exact ⟨N.out.kb,zZ.out⟩
   clear H K P;refine lz (o:=⟨some 25,.call ⟨.value (.tmp 13),#[.tmp 24],#[34]⟩,0,_,_,none⟩) rfl U2 fun K H=>?_;go_simp;refine (H48.out _ i x ⟨(Jg f.fs f.ms p).1,(Jg f.fs f.ms p).2⟩ V N.out jW.out HI.out PU.out (by rw [HT.out,O.out.hE];exact .inl ⟨rfl,rfl⟩)).mono ?_;rintro e y2 ⟨rfl,g',F,_⟩;have DT:Hid (∃ g',uH f E g g' w y2):=Q0 ⟨g',F.vT,F.YV,F.ext,F.Cg,mW.out.trans F.bl,fun k C J=>by
    obtain ⟨h1,h2⟩:=F.kp k (D7 C AZ.out.size) ((Q5 C).trans J);exact ⟨h1.trans (AZ.out.block k C),h2⟩⟩
   clear F;go_simp;clear s;refine H.out _ _ ?_;clear H K
   try simp only [qq]
   refine l_ U2 ?_ _;go_wp2;refine K4 (ig rfl _ _ _) rfl ?_;exact ⟨rfl,DT.out⟩
 have c1:=(PS.out.kb.cell 1).trans (V3 some VX.out);have jX:w1.cell? ⟨w.heap.size,4,none⟩=some (.string p):=C6.out.cell 4
 go_upto_region 3 with fail
 refine aO f.kb w.heap.size pa pc f.ms p w1 _ _ _ _ _ _ _ _ _ _ _ _ _ _ _ _ _ _ _ _ _ _ _ _ _ _ _ _ _ _ _ _ _ _ _ _ _ _ _ _ _ _ _ _ _ _ _ _ _ _ _ _ _ _ _ _ _ _ _ _ _ _ _ _ _ _ _ _ _ _ _ _ _ _ _ _ _ _ _ _ _ _ _ ?hq1 c1 jX PS.out.kb.lt C6.out.lt (Z4 (Fa O.out.pt) K3) (Q0 (fun u hb=>G.X_ (WX.out w1 PS.out) hb)) (G.Lf O.out.pt) ?kk1
 case hq1=>exact fun _ _ d _ _ h=>by cases d <;> exact h
 intro t26 t27 t28 t29 t30 t31 t32 t33 t34 t35 b8 y mth W hb2 hc8 aV hy;have HS2:=Q0 (PS.out.grow hb2);have wT:=Q0 (C6.out.below hb2 C6.out.lt);have C8:Hid (Cl W b8 47 [.string y.nm,.string y.tl,.string y.ar]):=Q0 hc8;have HB2:Hid (Below f.base w W):=Q0 (HB1.out.trans (hb2.mono (by have:=HB1.out.size;have:=nU.out.sz;omega)));have hz2:w.heap.size<W.heap.size:=wT.out.lt;have BZ:Hid (Below w.heap.size w W):=Q0 (bT a1h.out hb2);clear c1 jX hb2 hc8 j3 C6 PS HB1;cases mth
 · have hy:G.Ia f.ms p:=by
    rcases hy with ⟨h,_⟩ | ⟨_,h⟩
    · cases h
    exact h
   go_upto_region 5 with fail
   refine R8 (S:=fun u=>Cl u f.kb 98 (M_ f g.rv)/\Cl u w.heap.size 147 [.bool false,.int .i64 tc,.string tt,.bool false,.string p,.int .i64 ts]) 8 U2 ?_ fun s=>?_
   · exact ⟨HS2.out.kb,wT.out⟩
   obtain ⟨D,Z⟩:∃ x:World,x=W.drew:=⟨_,rfl⟩;rw [<- Z] at s ⊢;have L:Below W.heap.size W D:=by rw [Z];exact (F4 _ W).drew
   have U:=Q0 (HS2.out.grow L);have pU:=Q0 (wT.out.below L wT.out.lt);have zS:Hid (Below f.base w D):=Q0 (HB2.out.trans (L.mono (by have:=HB2.out.size;have:=nU.out.sz;omega)));have HWY:Hid (Below w.heap.size w D):=Q0 (bT BZ.out L);clear Z L;refine l2 0 s ?_
   try simp only [qq]
   refine l2 1 s ?_
   try simp only [qq]
   refine l2 2 s ?_
   try simp only [qq]
   refine l2 3 s ?_
   try simp only [qq]
   refine l2 4 s ?_ (v:=?_) (hv:=?e)
   case e=>intro wq hSw;(try dsimp only at hSw);have d0:wq.cell? ⟨f.kb,0,none⟩=some (.slice f.ta f.fs.length f.tc):=hSw.1.cell 0;have d1:wq.cell? ⟨f.kb,1,none⟩=some (.slice pa f.ms.length pc):=(hSw.1.cell 1).trans (congrArg some VX.out);have d4:wq.cell? ⟨w.heap.size,4,none⟩=some (.string p):=hSw.2.cell 4;go_simp;try with_reducible rfl
   try simp only [qq]
   refine l2 5 s ?_
   try simp only [qq]
   refine l2 6 s ?_ (v:=?_) (hv:=?e)
   case e=>intro wq hSw;(try dsimp only at hSw);have d0:wq.cell? ⟨f.kb,0,none⟩=some (.slice f.ta f.fs.length f.tc):=hSw.1.cell 0;have d1:wq.cell? ⟨f.kb,1,none⟩=some (.slice pa f.ms.length pc):=(hSw.1.cell 1).trans (congrArg some VX.out);have d4:wq.cell? ⟨w.heap.size,4,none⟩=some (.string p):=hSw.2.cell 4;go_simp;try with_reducible rfl
   try simp only [qq]
   refine lr (i:=7) (o:=⟨some 45,.call ⟨.value (.func 52),#[.tmp 42,.tmp 44],#[25,9]⟩,34,_,_,none⟩) rfl K3 U2 fun K H=>?_;go_simp;refine (G.qO f.ta f.tc f.fs p D O.out.tr.1 (G.T.U0 O.out.fa (U.out.bl.mono P9)) (G.T.di O.out.tr)).mono ?_;rintro e V ⟨h43,P⟩;obtain ⟨r,J,hpl⟩:=Iw O.out.tr h43 hy;obtain ⟨rc,rt⟩:=r;have he':e=.returned (.agg #[.int .i64 rc,.string rt]):=J;subst he';have HPL:=Q0 hpl;have N:=Q0 (U.out.grow P);have zZ:=Q0 (pU.out.below P pU.out.lt);have AZ:Hid (Below w.heap.size w V):=Q0 (bT HWY.out P);have mW:Hid (Below f.base w V):=Q0 (zS.out.trans (P.mono (by have:=zS.out.size;have:=nU.out.sz;omega)));clear h43 J hpl;go_simp;clear s;refine Z6 H ?_ fun s=>?_
   · exact ⟨N.out.kb,zZ.out⟩
   clear H K P;refine lz (o:=⟨some 46,.call ⟨.value (.tmp 38),#[.tmp 45],#[34]⟩,0,_,_,none⟩) rfl U2 fun K H=>?_;go_simp;refine (H48.out _ i x ⟨rc,rt⟩ V N.out jW.out HI.out PU.out (by rw [HT.out];exact .inr ⟨rfl,.inl (by rw [O.out.hE];exact HPL.out)⟩)).mono ?_;rintro e y2 ⟨rfl,g',F,_⟩;have DT:Hid (∃ g',uH f E g g' w y2):=Q0 ⟨g',F.vT,F.YV,F.ext,F.Cg,mW.out.trans F.bl,fun k C J=>by
    obtain ⟨h1,h2⟩:=F.kp k (D7 C AZ.out.size) ((Q5 C).trans J);exact ⟨h1.trans (AZ.out.block k C),h2⟩⟩
   clear F;go_simp;clear s;refine H.out _ _ ?_;clear H K
   try simp only [qq]
   refine l_ U2 ?_ _;go_wp2;refine K4 (ig rfl _ _ _) rfl ?_;exact ⟨rfl,DT.out⟩
 obtain ⟨iy,hiy,hgy,hny⟩:∃ i,i<f.ms.length/\f.ms.getD i N7=y/\y.nm=p:=by
  rcases hy with ⟨_,h⟩ | ⟨h,_⟩
  · exact h
  cases h
 clear hy;have LZ:toM y∈E.ms:=by rw [O.out.hE];exact jd.2 ⟨iy,hiy,by rw [hgy]⟩
 have HPN:Hid (E.pl p=none):=Q0 ((xS.out.made p).2 ⟨toM y,LZ,hny⟩);have UV:=Q0 LZ;have MW:=Q0 hny;have hms:E.ms.length<=30:=by rw [O.out.hE];show (f.ms.map toM).length<=30;rw [qc];exact Fa O.out.pt
 have hrl:g.rs.length<=30:=jW.out.len hms;have zT:g.q.length<=30:=by
  have:=Dl (l:=g.q.map It.i) jW.out.bS (n:=g.rs.length) (fun j hj=>by
   obtain ⟨it,hit,rfl⟩:=D9.1 hj;exact nU.out.JR it hit)
  simp at this;omega
 have HC:=Q0 (c53 f E O.out { g with ow:=U8 g.ow w.heap.size } (toM y) W HS2.out (by show y.nm.size<=20;rw [MW.out];exact Qb cZ.out) (by show g.rs.length<=1000;omega) (by show g.q.length<=1000;omega));have e0:W.cell? ⟨b8,0,none⟩=some (.string y.nm):=C8.out.cell 0;have e1:W.cell? ⟨b8,1,none⟩=some (.string y.tl):=C8.out.cell 1;have e2:W.cell? ⟨b8,2,none⟩=some (.string y.ar):=C8.out.cell 2;clear hiy hgy hny LZ hrl zT
 go_wp2_with fail
 refine HC.out.mono ?_;rintro e w3 ⟨g',j,z,rfl,hs3,MU,hgj,hb3,hkp⟩;rw [show pt z.k.B=.pointer (some ⟨z.k.B,0,none⟩) from rfl];obtain ⟨hL3,hzm,hext,VV⟩:=jW.out.LP xS.out nU.out.JR UV.out MU hgj (fun i' e=>by cases e;exact (Jd.1 HI.out).1) hms;have FU:=Q0 hL3;have KR:=Q0 hs3;have HZM:=Q0 hzm;have a1i:=Q0 hext;have a1j:=Q0 VV;have a1k:Hid (g'.rs.length<=30):=Q0 (hL3.len hms);have Y:=Q0 hgj;have Q:=Q0 (hext i x HI.out);have HB3:=Q0 (HB2.out.trans hb3);have QS:w3.cell? ⟨z.k.B,6,none⟩=some (.int .i64 z.r.code):=(hs3.ru j z hgj).hB.cell 6;have hz7:w3.cell? ⟨z.k.B,7,none⟩=some (.string z.r.tx):=(hs3.ru j z hgj).hB.cell 7;have vZ:Hid (Cl w3 w.heap.size 147 [.bool false,.int .i64 tc,.string tt,.bool false,.string p,.int .i64 ts]):=Q0 ((hkp w.heap.size wT.out.lt (Q9 P9)).1.trans wT.out);have a1l:Hid (∀ k,k<w.heap.size->g.ow k=none->w3.heap[k]?=w.heap[k]?/\g'.ow k=none):=fun k C J=>by
  obtain ⟨h1,h2⟩:=hkp k (D7 C BZ.out.size) ((Q5 C).trans J);exact ⟨h1.trans (BZ.out.block k C),h2⟩
 have hz3:w.heap.size<w3.heap.size:=vZ.out.lt;clear hs3 MU hgj hb3 hkp hL3 hzm hext VV HC e0 e1 e2 hms;by_cases hc6:z.r.code=6;rotate_left
 · have hfin:=Ph fun h=>hc6 (by rw [(FU.out.non j z Y.out h).2])
   have hrr:=FU.out.fin j z Y.out hfin;have kY:Hid (Zy E (tn x.k.m x.ls) z.r):=by
    rw [HT.out];exact .inr ⟨rfl,.inr ⟨HPN.out,z.k.m,z.ls,FU.out.mem j z Y.out,by rw [HZM.out];exact MW.out,FU.out.his j z Y.out,hrr.1.1,hrr.2⟩⟩
   have hne:(z.r.code !=6)=true:=by simpa using hc6
   clear hfin hrr hc6
   go_wp2_with fail
   refine (H48.out g' i x z.r w3 KR.out FU.out Q.out PU.out kY.out).mono ?_;rintro e w4 ⟨rfl,g2,F,_⟩;have DT:Hid (∃ g',uH f E g g' w w4):=Q0 ⟨g2,F.vT,F.YV,fun k u R=>F.ext k u (a1i.out k u R),Z4 F.Cg a1j.out,HB3.out.trans F.bl,fun k C J=>by
    obtain ⟨h1,h2⟩:=a1l.out k C J;obtain ⟨h3,h4⟩:=F.kp k O0 h2;exact ⟨h3.trans h1,h4⟩⟩
   clear F;go_wp2;refine K4 (ig rfl _ _ _) rfl ?_;exact ⟨rfl,DT.out⟩
 have hzf:z.qR≠.fin:=fun h=>by
  obtain ⟨h1,h2⟩:=FU.out.fin j z Y.out h;have h3:=(S_ xS.out (FU.out.his j z Y.out) (xS.out.ms _ (FU.out.mem j z Y.out))).over h1.1;refine gL (r:=Pj (tn z.k.m z.ls)) h3 ?_;rw [<- h2];exact hc6
 have HZF:=Q0 hzf;have AZ:Hid (z.wl.length<=30):=by
  have:=Dl (FU.out.WR j z Y.out hzf).1 (n:=g'.rs.length) (fun k C=>KR.out.lS j z Y.out k C);have:=a1k.out;show _<=_;omega
 have uT:=KR.out.ru i x Q.out;have q8:w3.cell? ⟨x.k.B,8,none⟩=some (.string x.wt):=uT.hB.cell 8;have f8:=uT.hB.opn 8;have q4:w3.cell? ⟨w.heap.size,4,none⟩=some (.string p):=vZ.out.cell 4;rw [hc6] at QS
 go_upto_region 10 with fail
 have hon:=I6 w3 x.k.B 8 (.string p);have hcB:=uT.hB.set 8 (.string p);generalize (w3.setCell ⟨x.k.B,8,none⟩ (.string p))=w4 at*;have NT:g'.ow x.k.B=some (.run i):=KR.out.ER i x Q.out _ (.inl X0);have TV:Hid (Ab f { g' with rs:=g'.rs.set i { x with wt:=p,qR:=.vR j } } w4):=Q0 (KR.out.run (x':={ x with wt:=p,qR:=.vR j }) Q.out (hon.ex (S:=fun k=>g'.ow k=some (.run i)) NT) (uT.tK hon hcB rfl rfl rfl rfl rfl) (fun k C=>KR.out.ER i x Q.out k (Aw.of (x:=x) rfl rfl rfl rfl C)) rfl rfl rfl);have hnB:w.heap.size≠x.k.B:=by have:=(nU.out.ru i x HI.out).hB.lt;omega
 have C64:=Q0 (vZ.out.on hon hnB);have a1m:Hid (∀ k,k<w.heap.size->g.ow k=none->w4.heap[k]?=w.heap[k]?/\g'.ow k=none):=fun k C J=>by
  obtain ⟨h1,h2⟩:=a1l.out k C J;exact ⟨(hon.block k (fun e=>by rw [e,NT] at h2;cases h2)).trans h1,h2⟩
 have NR:Hid (Below f.base w w4):=Q0 (HB3.out.trans (hon.below (by exact KR.out.FR _ _ NT)));obtain ⟨A,ES,hzk,a1n,CZ,a1o,a1p,UR,kX⟩:∃ A,(g'.rs.set i { x with wt:=p,qR:=.vR j })[j]?=some A/\A.k=z.k/\A.wv=z.wv/\A.wl=z.wl/\A.ls=z.ls/\A.st=z.st/\A.r=z.r/\A.qR=if j=i then .vR j else z.qR:=by
  obtain ⟨u,R,⟨rfl,rfl⟩ | ⟨rfl,hne⟩⟩:=Za (x':={ x with wt:=p,qR:=.vR j }) Q.out Y.out
  · have:=Y.out
    rw [Q.out] at this;obtain rfl:=j6 this;exact ⟨_,R,rfl,rfl,rfl,rfl,rfl,rfl,X0⟩
  exact ⟨u,R,rfl,rfl,rfl,rfl,rfl,rfl,by rw [R3 (fun c=>hne c.symm)]⟩
 have sW:=Q0 ES;have HZP:=Q0 (And.intro hzk (And.intro a1n (And.intro CZ (And.intro a1o (And.intro a1p (And.intro UR kX))))));have HWV:Hid ((G_ g'.lw p).getD (.slice none 0 0)=A.wv):=by
  have:=TV.out.kw j A ES;rw [hzk,HZM.out,show (toM y).nm=y.nm from rfl,MW.out] at this;exact this
 have a3k:Hid (A.wl.length<=30):=by rw [CZ];exact AZ.out
 have hnl:p.size<=maxLen:=by have:=Qb cZ.out;unfold maxLen;omega
 clear q8 f8 q4 QS hz7 hon hcB uT hc6 ES hzk a1n CZ a1o a1p UR kX hzf NT;refine R8 (S:=fun u=>Cl u f.kb 98 (M_ f g'.rv)/\Cl u w.heap.size 147 [.bool false,.int .i64 tc,.string tt,.bool false,.string p,.int .i64 ts]/\u.ownsMap prog 9 X9 f.mw g'.lw.length (mapD g'.lw)) 16 U2 ?_ fun s=>?_
 · exact ⟨TV.out.kb,C64.out,TV.out.mw⟩
 obtain ⟨D,Z⟩:∃ x:World,x=w4.drew:=⟨_,rfl⟩;rw [<- Z] at s ⊢;have L:Below w4.heap.size w4 D:=by rw [Z];exact (F4 _ w4).drew
 have U:=Q0 (TV.out.grow L);have a3l:Hid (∀ k,k<w.heap.size->g.ow k=none->D.heap[k]?=w.heap[k]?/\g'.ow k=none):=fun k C J=>⟨(L.block k (jw C C64.out.lt)).trans (a1m.out k C J).1,(a1m.out k C J).2⟩;have pU:=Q0 (C64.out.below L C64.out.lt);have zS:Hid (Below f.base w D):=Q0 (NR.out.trans (L.mono (by have:=NR.out.size;have:=nU.out.sz;omega)));clear Z L;refine lq 0 s ?_
 try simp only [qq]
 refine lq 1 s ?_
 try simp only [qq]
 refine lq 2 s ?_
 try simp only [qq]
 refine lq 3 s ?_ (v:=?_) (hv:=?e)
 case e=>intro wq hSw;(try dsimp only at hSw);have d3:wq.cell? ⟨f.kb,3,none⟩=some (.map (some f.mw)):=hSw.1.cell 3;have d4:wq.cell? ⟨w.heap.size,4,none⟩=some (.string p):=hSw.2.1.cell 4;go_simp;try with_reducible rfl
 try simp only [qq]
 refine lq 4 s ?_
 try simp only [qq]
 refine lq 5 s ?_ (v:=?_) (hv:=?e)
 case e=>intro wq hSw;(try dsimp only at hSw);have d3:wq.cell? ⟨f.kb,3,none⟩=some (.map (some f.mw)):=hSw.1.cell 3;have d4:wq.cell? ⟨w.heap.size,4,none⟩=some (.string p):=hSw.2.1.cell 4;go_simp;try with_reducible rfl
 try simp only [qq]
 refine lq 6 s ?_
 try simp only [qq]
 refine lq 7 s ?_
 try simp only [qq]
 refine lq 8 s ?_
 try simp only [qq]
 refine lq 9 s ?_ (v:=?_) (hv:=?e)
 case e=>intro wq hSw;(try dsimp only at hSw);have d3:wq.cell? ⟨f.kb,3,none⟩=some (.map (some f.mw)):=hSw.1.cell 3;have d4:wq.cell? ⟨w.heap.size,4,none⟩=some (.string p):=hSw.2.1.cell 4;go_simp;try with_reducible rfl
 try simp only [qq]
 refine lq 10 s ?_
 try simp only [qq]
 refine lq 11 s ?_ (v:=?_) (hv:=?e)
 case e=>intro wq hSw;(try dsimp only at hSw);have d3:wq.cell? ⟨f.kb,3,none⟩=some (.map (some f.mw)):=hSw.1.cell 3;have d4:wq.cell? ⟨w.heap.size,4,none⟩=some (.string p):=hSw.2.1.cell 4;go_simp;try with_reducible rfl
 try simp only [qq]
 refine lk (i:=12) (oi:=⟨some 81,.lookup 95 (.tmp 78) (.tmp 80) false,190,_,_,none⟩) (v:=A.wv) rfl U2 rfl ?e s ?_
 case e=>intro wq hSw;exact Yv 95 _ _ false rfl (v:=.map (some f.mw)) (z:=.string p) rfl rfl ((ZG hSw.2.2 hnl).trans (by rw [HWV.out]))
 try simp only [qq]
 refine lq 13 s ?_
 try simp only [qq]
 refine lr (i:=14) (o:=⟨some 83,.buildSlice 190 1 #[(0,.tmp 82)],190,_,_,none⟩) rfl K3 U2 fun K H=>?_;go_simp;obtain ⟨V,hy1⟩:∃ uu:World,uu=D.alloc (.cells #[.func (.func 84) #[] #[.pointer (some ⟨x.k.c5,0,none⟩),.pointer (some ⟨x.k.pR,0,none⟩),.pointer (some ⟨x.k.wR,0,none⟩),.pointer (some ⟨x.k.c2,0,none⟩),.pointer (some ⟨x.k.uR,0,none⟩)]] 151):=⟨_,rfl⟩;rw [<- hy1];have KS:Below D.heap.size D V:=by rw [hy1];exact bA
 have CL:Hid (Cl V D.heap.size 151 [x.k.go]):=by show Cl _ _ _ _;rw [hy1];exact U1 D _ 151
 have N:=Q0 (U.out.grow KS);have zZ:=Q0 (pU.out.below KS pU.out.lt);have BV:=Q0 KS;clear hy1 s;refine Z6 H ?_ fun s=>?_
 · exact ⟨N.out.kb,zZ.out,N.out.mw⟩
 clear H K KS;refine lr (i:=15) (o:=⟨some 84,.call ⟨.builtin .append,#[.tmp 81,.tmp 83],#[190,190]⟩,190,_,_,none⟩) rfl K3 U2 fun K H=>?_;refine z_ rfl _ _ 190 rfl f.base 151 1 underlying190 YL K3 A.wv A.wl.length _ rfl (N.out.wr j A sW.out) (.slice (some ⟨D.heap.size,0,none⟩) 1 1) 1 [x.k.go] rfl (.inr ⟨⟨D.heap.size,0,none⟩,1,rfl,rfl,za CL.out⟩) (by intro u R;simp at R;subst R;rfl) (by have:=a3k.out;omega) N.out.sz ?_;intro wv' y2 O2 g2 at2;have hwo:∀ k,A.wv.ownBlock=some k->g'.ow k=some (.wt j):=fun k e=>N.out.aS j A sW.out k e;have iT:Hid (Cl y2 f.kb 98 (M_ f g'.rv)):=Q0 (N.out.kb.gb g2 (fun e=>by have:=hwo _ e.symm;rw [N.out.BR] at this;cases this));have DZ:Hid (y2.ownsMap prog 9 X9 f.mw g'.lw.length (mapD g'.lw)):=Q0 (Kc N.out.mw (g2.block _ (Y6 N.out.mw) (fun e=>by have:=hwo _ e.symm;rw [N.out.ZR] at this;cases this)));have a3m:Hid (Cl y2 w.heap.size 147 [.bool false,.int .i64 tc,.string tt,.bool false,.string p,.int .i64 ts]):=Q0 (zZ.out.gb g2 (fun e=>by
  obtain ⟨_,cur,yV⟩:=Y2 (N.out.wr j A sW.out) e.symm;exact J6 zZ.out yV K3 rfl))
 have NS:=Q0 O2;have HG2:=Q0 g2;have HA2:=Q0 at2;clear O2 g2 at2 s;refine Z6 H ?_ fun s=>?_
 · exact ⟨iT.out,a3m.out,DZ.out⟩
 clear H K;refine lz (o:=⟨none,.mapUpdate 95 (.tmp 72) (.tmp 74) (.tmp 84),0,_,_,none⟩) rfl U2 fun K H=>?_;refine Yw rfl 95 _ _ _ rfl (b:=f.mw) (n:=g'.lw.length) (l:=g'.lw) (k:=p) (vv:=wv') rfl rfl rfl DZ.out underlying95 (by have:=kC KR.out.aw KR.out.JS;have:=a1k.out;unfold maxLen;omega) hnl rfl ?_;intro w5 hm5 hg5;have HM5:=Q0 (jB hm5);have bX:=Q0 hg5;clear hm5 hg5 s;refine H.out _ _ ?_;clear H K
 try simp only [qq]
 refine l_ U2 ?_ _;have DT:Hid (∃ g2,uH f E g g2 w w5):=by
  have hzn:A.k.m.nm=p:=by rw [HZP.out.1,HZM.out];exact MW.out
  have hks:(g'.rs.set i { x with wt:=p,qR:=.vR j }).map (·.k)=g'.ks:=Xu Q.out rfl;have hgo:g'.ks.getD i Kj=x.k:=by
   show (g'.rs.map (·.k)).getD i Kj=x.k;rw [Ao,Kb,Q.out];rfl
  have hpk:=Uw KR.out.aw p wv';have h1:=U.out.ext D.heap.size P9 (.wt j);have hs1:D.heap.size<=V.heap.size:=BV.out.size;have hs2:V.heap.size<=y2.heap.size:=HG2.out.size;have a0M:∀ k,A.wv.ownBlock=some k->k<D.heap.size:=fun k e=>Qa (U.out.wr j A sW.out) e;have a3A:=Y6 U.out.mw;have hex:Ex (fun k=>ext g'.ow D.heap.size (.wt j) k=some .mw\/ext g'.ow D.heap.size (.wt j) k=some (.wt j)) D w5:=by
   refine ⟨bX.out.os.trans (HG2.out.os.trans BV.out.os),bX.out.tape.trans (HG2.out.tape.trans BV.out.tape),bX.out.output.trans (HG2.out.output.trans BV.out.output),Z4 hs1 (Z4 hs2 bX.out.size),fun k C hn=>?_⟩;have hkm:some k≠some f.mw:=fun e=>hn (.inl (by rw [N8 C,j6 e];exact KR.out.ZR));have hkw:some k≠A.wv.ownBlock:=fun e=>hn (.inr (by rw [N8 C];exact hwo k e.symm));exact (bX.out.block k O0 hkm).trans ((HG2.out.block k O0 hkw).trans (BV.out.block k C))
  have hr0:y2.ownsRow f.base 151 1 wv' (A.wl++[i]).length ((A.wl++[i]).map fun q=>(((g'.rs.set i { x with wt:=p,qR:=.vR j }).map (·.k)).getD q Kj).go):=by
   have:=NS.out;rw [mf,Q7];have e:[i].map (fun q=>(((g'.rs.set i { x with wt:=p,qR:=.vR j }).map (·.k)).getD q Kj).go)=[x.k.go]:=by rw [hks];show [(g'.ks.getD i Kj).go]=_;rw [hgo]
   rw [e];exact this
  have hrow:w5.ownsRow f.base 151 1 wv' (A.wl++[i]).length ((A.wl++[i]).map fun q=>(((g'.rs.set i { x with wt:=p,qR:=.vR j }).map (·.k)).getD q Kj).go):=by
   refine Z0 hr0 fun k C=>bX.out.block k (Qa hr0 C) fun e=>?_;obtain ⟨_,cur,yV⟩:=Y2 hr0 C;obtain ⟨es,ck,hmm⟩:=Eg DZ.out;rw [j6 e,hmm] at yV;cases yV
  have hxl:=(Jd.1 Q.out).1;have hs5:=h1.wait (j:=j) (y:=A) (wv':=wv') (jT:=A.wl++[i]) sW.out hex HM5.out hpk.1 (fun n=>by rw [hpk.2 n,hzn]) hrow (fun k e=>by
   rcases HA2.out with h | h
   · rw [h] at e
     exact (N8 (a0M k e)).trans (hwo k e)
   · rw [h] at e
     have:=j6 e;exact Ik O0) (fun q hq=>by
   show q<(g'.rs.set i _).length;rw [Ed];rcases P8.1 hq with hq | hq
   · have:=U.out.lS j A sW.out q hq
     rw [Ed] at this;exact this
   rw [R9.1 hq];exact hxl)
  have hxt:=HT.out;have hpt:∀ (k:Nat) u,g'.rs[k]?=some u->∃ u',((g'.rs.set i { x with wt:=p,qR:=.vR j }).set j { A with wv:=wv',wl:=A.wl++[i] })[k]?=some u'/\XN i j (tn x.k.m x.ls).name k u u':=fun k u R=>by
   obtain ⟨v,hv,hvp⟩:∃ v,(g'.rs.set i { x with wt:=p,qR:=.vR j })[k]?=some v/\v.k=u.k/\v.ls=u.ls/\v.st=u.st/\(v.r=u.r/\v.wt=if k=i then (tn x.k.m x.ls).name else u.wt)/\v.qR=(if k=i then .vR j else u.qR)/\v.wl=u.wl:=by
    obtain ⟨v,hv,⟨rfl,rfl⟩ | ⟨rfl,hne⟩⟩:=Za (x':={ x with wt:=p,qR:=.vR j }) Q.out R
    · rw [Q.out] at R
      obtain rfl:=j6 R;exact ⟨_,hv,rfl,rfl,rfl,⟨rfl,by rw [Y3 rfl,hxt]⟩,X0,rfl⟩
    exact ⟨v,hv,rfl,rfl,rfl,⟨rfl,by rw [R3 (fun c=>hne c.symm)]⟩,by rw [R3 (fun c=>hne c.symm)],rfl⟩
   obtain ⟨p1,p2,p3,p4,p5,p6⟩:=hvp;obtain ⟨u',hu',⟨rfl,rfl⟩ | ⟨rfl,hne⟩⟩:=Za (x':={ A with wv:=wv',wl:=A.wl++[i] }) sW.out hv
   · have:=sW.out
     rw [hv] at this;obtain rfl:=j6 this;exact ⟨_,hu',p1,p2,p3,p4,p5,by show v.wl++[i]=_;rw [Y3 rfl,p6]⟩
   exact ⟨u',hu',p1,p2,p3,p4,p5,by rw [R3 (fun c=>hne c.symm)];exact p6⟩
  have hlen:((g'.rs.set i { x with wt:=p,qR:=.vR j }).set j { A with wv:=wv',wl:=A.wl++[i] }).length=g'.rs.length:=X0;have X:=FU.out.SQ (rs2:=(g'.rs.set i { x with wt:=p,qR:=.vR j }).set j { A with wv:=wv',wl:=A.wl++[i] }) Q.out Y.out (by rw [hxt]) (by rw [hxt];exact HPN.out) HZF.out (by rw [hxt,HZM.out];exact MW.out) hpt (fun k u' hu'=>by
   have C:k<g'.rs.length:=by rw [<- hlen];exact (Jd.1 hu').1
   obtain ⟨u'',h1,h2⟩:=hpt k _ (F8 C);rw [hu'] at h1;obtain rfl:=j6 h1;exact ⟨_,F8 C,h2⟩)
  have hp1:=qi (x':={ x with wt:=p,qR:=.vR j }) Q.out;have hp2:=qi (x':={ A with wv:=wv',wl:=A.wl++[i] }) sW.out;have e1:Xk { x with wt:=p,qR:=.vR j }=Xk x:=rfl;have e2:Xk { A with wv:=wv',wl:=A.wl++[i] }=Xk A:=rfl;rw [e1] at hp1;rw [e2] at hp2;refine ⟨_,hs5,⟨X.mem,X.inj,X.his,X.fin,X.non,X.act,X.yR,X.bS,X.nS,X.sS,X.vR,X.WR⟩,fun k u R=>?_,?_,?_,fun k C J=>?_⟩
  rotate_right
  · obtain ⟨h3,h4⟩:=a3l.out k C J
    have hky:=jw C pU.out.lt;have hxe:ext g'.ow D.heap.size (.wt j) k=none:=(N8 hky).trans h4;exact ⟨(hex.block k hky (by rw [hxe];simp)).trans h3,hxe⟩
  · obtain ⟨u',h1,h2⟩:=hpt k u (a1i.out k u R)
    exact ⟨u',h1,h2.1⟩
  · refine Z4 ?_ a1j.out
    unfold Cg;simp only [hlen];omega
  exact zS.out.trans (hex.below (fun k e=>by rcases e with e | e <;> exact h1.FR k _ e) U.out.sz)
 go_wp2
 go_end0
 exact ⟨rfl,DT.out⟩
theorem runs (f:Fx) (E:Env) (a:BD f E):∀ n,ZN f E n/\mP f E n
 | 0=>by
  have h:ZN f E 0:=fun g i x r w hs b c hn ha=>by
   have d:Y7 E:=by rw [a.hE];exact zb a.tr a.pt
   have e:=(b.act i x c).2 rfl;have j:=(b.non i x c (by rw [e];simp)).1;have:=((S_ d (b.his i x c) (d.ms _ (b.mem i x c))).name j).2;omega
  exact ⟨h,jF f E a 0 h⟩
 | n+1=>by
  have h:=iL f E a n (runs f E a n).2;exact ⟨h,jF f E a (n+1) h⟩
theorem c87 (f:Fx) (E:Env) (v:BD f E) (g:Gh) (i:Nat) (x:Ru) (w:World) (b:Ab f g w) (h:og E g (some i)) (d:g.rs[i]?=some x):
 Calls prog 87 #[pt x.k.c2,pt x.k.c5,pt x.k.pR,pt x.k.uR] w fun e w'=>e=.returned (.tuple #[])/\∃ g',uH f E g g' w w':=by
 have a:=b.ru i x d;have l:=Q0 ((runs f E v 15).2 g i x w b h d O0);obtain ⟨t,y⟩:∃ t,Hid (tn x.k.m x.ls=t):=⟨_,rfl⟩;have h8:=a.h8;rw [y.out] at h8 l;have d2:w.cell? ⟨x.k.c2,0,none⟩=some (.pointer (some ⟨f.kb,0,none⟩)):=a.h2.cell 0;have d7:w.cell? ⟨x.k.c5,0,none⟩=some (.pointer (some ⟨x.k.B,0,none⟩)):=a.h7.cell 0;have d10:w.cell? ⟨x.k.uR,0,none⟩=some (.func (.func 84) #[] #[.pointer (some ⟨x.k.c5,0,none⟩),.pointer (some ⟨x.k.pR,0,none⟩),.pointer (some ⟨x.k.wR,0,none⟩),.pointer (some ⟨x.k.c2,0,none⟩),.pointer (some ⟨x.k.uR,0,none⟩)]):=a.h10.cell 0;obtain ⟨u,s,r,q,p,n,_⟩:=g_.cells h8;obtain ⟨o,c,tt,th,tnm,ts⟩:=t;clear a b h d h8;go_enter func87,ntmps87;rw [show pt x.k.c5=.pointer (some ⟨x.k.c5,0,none⟩) from rfl,show pt x.k.pR=.pointer (some ⟨x.k.pR,0,none⟩) from rfl,show pt x.k.c2=.pointer (some ⟨x.k.c2,0,none⟩) from rfl,show pt x.k.uR=.pointer (some ⟨x.k.uR,0,none⟩) from rfl];dsimp only at u s r q p n
 go_wp2_with fail
 refine l.out.mono ?_;rintro e w1 ⟨rfl,j⟩;have z:=Q0 j;clear j;go_wp2
 go_end0
 exact ⟨rfl,z.out⟩
theorem gP (f:Fx) (E:Env) (j:BD f E) (g:Gh) (i:Nat) (x:Ru) (r:R2) (b7 b5:Nat) (w:World) (c:Ab f g w) (d:og E g (some i)) (h:g.rs[i]?=some x) (a:Zy E (tn x.k.m x.ls) r) (h7:Cl w b7 151 [x.k.go]) (b:Cl w b5 34 [.int .i64 r.code,.string r.tx]):
 Calls prog 121 #[pt b7,pt b5] w fun e w'=>e=.returned (.tuple #[])/\∃ g',uH f E g g' w w'/\Cg g'<Cg g:=by
 have l:=Q0 ((runs f E j 15).1 g i x r w c d h O0 a);have d7:w.cell? ⟨b7,0,none⟩=some (.func (.func 84) #[] #[.pointer (some ⟨x.k.c5,0,none⟩),.pointer (some ⟨x.k.pR,0,none⟩),.pointer (some ⟨x.k.wR,0,none⟩),.pointer (some ⟨x.k.c2,0,none⟩),.pointer (some ⟨x.k.uR,0,none⟩)]):=h7.cell 0;have d0:w.cell? ⟨b5,0,none⟩=some (.int .i64 r.code):=b.cell 0;have d1:w.cell? ⟨b5,1,none⟩=some (.string r.tx):=b.cell 1;clear c d h a h7 b;go_enter func121,ntmps121;rw [show pt b7=.pointer (some ⟨b7,0,none⟩) from rfl,show pt b5=.pointer (some ⟨b5,0,none⟩) from rfl]
 go_wp2_with fail
 refine l.out.mono ?_;rintro e w1 ⟨rfl,a⟩;have n:=Q0 a;clear a;go_wp2
 go_end0
 exact ⟨rfl,n.out⟩
end Go.Proofs.YtdjaajjndfbpmaaGreatDoor

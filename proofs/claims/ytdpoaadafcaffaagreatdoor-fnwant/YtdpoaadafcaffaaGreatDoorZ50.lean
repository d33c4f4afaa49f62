import Derived.Test.YtdpoaadafcaffaaGreatDoorZ49
set_option linter.unusedVariables false
set_option maxHeartbeats 8000000
set_option maxRecDepth 100000
namespace Go.Proofs.YtdpoaadafcaffaaGreatDoor
open Proofs.Tryz
open Go.RowKit
variable {u u' w:World} {base kb:Nat} {x:Ru} {t:TN} {s:RS} {UM v:Value}
theorem Ex.JF {S S2:Nat->Prop} {a b c:World} (h:Ex S a b) (k:Ex S2 b c) (hs:∀ q,q<a.heap.size->S2 q->S q):Ex S a c:=⟨k.os.trans h.os,k.tape.trans h.tape,k.output.trans h.output,Nat.le_trans h.size k.size,fun q hq hn=>(k.block q (Nat.lt_of_lt_of_le hq h.size) (fun e=>hn (hs q hq e))).trans (h.block q hq hn)⟩
theorem Ia.look {u1 u2 u3:World} {ls':List M.L4} (h:Ia base kb x t s u) (hb:Below u.heap.size u u1) (hg:u1.grownBy u2 x.lv.ownBlock) (hr:u2.ownsRow base 45 4 UM ls'.length (I4 ls')) (ho:Hm x.k.B u2 u3) (hc:Cl u3 x.k.B 96 ({ x with lv:=UM,ls:=ls' }:Ru).cells):Ia base kb { x with lv:=UM,ls:=ls' } t s u3:=by
 have hu2:Cl u2 x.k.B 96 x.cells:=((h.hB.below hb h.hB.lt).gb hg (fun e=>by
  obtain ⟨_,cur,OL⟩:=J2 h.lk e.symm;exact j6 h.hB OL J3 rfl))
 have k1:∀ {b:Nat} {t:TypeId} {xs:Array Value},u.heap[b]?=some (.cells xs t (0,0))->t≠96->t≠45->u3.heap[b]?=some (.cells xs t (0,0)):=fun {b t xs} hb' ht ht2=>by
  have hlt:=F4 hb';have h1:=(hb.block b hlt).trans hb';have h2:=(hg.block b (Nat.lt_of_lt_of_le hlt hb.size) (fun e=>by
   obtain ⟨_,cur,OL⟩:=J2 h.lk e.symm;exact j6 hb' OL ht2 rfl)).trans h1
  exact (ho.block b (j6 h2 hu2 ht)).trans h2
 have k2:∀ {e:TypeId} {size n:Nat} {v:Value} {xs:List Value},u.ownsRow base e size v n xs->e≠96->e≠45->u3.ownsRow base e size v n xs:=fun hr he he2=>Y0 hr fun k hk=>by
  obtain ⟨_,cur,OL⟩:=J2 hr hk;rw [k1 OL he he2,OL]
 exact ⟨hc,k1 h.h7 J3 J3,k1 h.h8 J3 J3,k1 h.h9 J3 J3,k1 h.h2 J3 J3,k1 h.h10 J3 J3,⟨h.rw.PQ,h.rw.VN,h.rw.QQ,h.rw.aS,k1 h.rw.h0 J3 J3,k1 h.rw.h1 J3 J3,k1 h.rw.h2 J3 J3,k1 h.rw.h3 J3 J3,k2 h.rw.o1 J3 J3,k2 h.rw.o2 J3 J3⟩,Y0 hr fun k hk=>ho.block k (by
  obtain ⟨_,cur,OL⟩:=J2 hr hk;exact j6 OL hu2 J3)⟩
theorem Ia.next {s':RS} {VP QO:Value} (h:Ia base kb x t s u) (hr:S_ base x.k.b0 x.k.b1 x.k.b2 x.k.b3 u' x.k.m.nm x.k.m.tl x.k.m.ar s' VP QO) (hx:Ex (FP x.k.b0 x.k.b1 x.k.b2 x.v1) u u'):Ia base kb { x with v1:=VP,v2:=QO } t s' u':=by
 have k1:∀ {b:Nat} {t:TypeId} {xs:Array Value},u.heap[b]?=some (.cells xs t (0,0))->t≠4->t≠110->t≠109->t≠31->u'.heap[b]?=some (.cells xs t (0,0)):=fun {b t xs} hb a1 a2 a3 a4=>(hx.block b (F4 hb) (fun e=>by
  rcases e with rfl | rfl | rfl | e
  · exact j6 hb h.rw.h0 a1 rfl
  · exact j6 hb h.rw.h1 a2 rfl
  · exact j6 hb h.rw.h2 a3 rfl
  obtain ⟨_,cur,OL⟩:=J2 h.rw.o1 e;exact j6 hb OL a4 rfl)).trans hb
 exact ⟨k1 h.hB J3 J3 J3 J3,k1 h.h7 J3 J3 J3 J3,k1 h.h8 J3 J3 J3 J3,k1 h.h9 J3 J3 J3 J3,k1 h.h2 J3 J3 J3 J3,k1 h.h10 J3 J3 J3 J3,hr,Y0 h.lk fun k hk=>by
  obtain ⟨_,cur,OL⟩:=J2 h.lk hk;rw [k1 OL J3 J3 J3 J3,OL]⟩
theorem Ia.turn {t':TN} (h:Ia base kb x t s u) (ht:Y7 u' x.k.ML t') (hk:∀ k,k≠x.k.ML->u'.heap[k]?=u.heap[k]?):Ia base kb x t' s u':=by
 have k1:∀ {b:Nat} {t:TypeId} {xs:Array Value},u.heap[b]?=some (.cells xs t (0,0))->t≠42->u'.heap[b]?=some (.cells xs t (0,0)):=fun {b t xs} hb a1=>(hk b (j6 hb h.h8 a1)).trans hb;have k2:∀ {e:TypeId} {size n:Nat} {v:Value} {xs:List Value},u.ownsRow base e size v n xs->e≠42->u'.ownsRow base e size v n xs:=fun hr he=>Y0 hr fun k hk=>by
  obtain ⟨_,cur,OL⟩:=J2 hr hk;rw [k1 OL he,OL]
 exact ⟨k1 h.hB J3,k1 h.h7 J3,ht,k1 h.h9 J3,k1 h.h2 J3,k1 h.h10 J3,⟨h.rw.PQ,h.rw.VN,h.rw.QQ,h.rw.aS,k1 h.rw.h0 J3,k1 h.rw.h1 J3,k1 h.rw.h2 J3,k1 h.rw.h3 J3,k2 h.rw.o1 J3,k2 h.rw.o2 J3⟩,k2 h.lk J3⟩
theorem yF (f:Fx) (E:Env) (hf:Rx f E) (n:Nat) (H50:mJ f E n):xI f E (n+1):=by
 intro g i x r w hs hl hi hn ha;obtain ⟨rc,rt⟩:=r;have yM:l8 E:=by rw [hf.hE];exact qc hf.tr hf.pt
 have hxa:=(hl.act i x hi).2 rfl;have hov:=(hl.non i x hi (by rw [hxa];simp)).1;have hmk:=yM.ms _ (hl.mem i x hi);have GN:=Q0 (M_ yM hmk (hl.his i x hi));have HRI:=Q0 (Y_ yM (hl.his i x hi) hmk);have HVR:=Q0 (OA yM (fun n r=>dB yM) (HRI.out.name hov).1 ha);have HLS:Hid (x.ls.length<=14):=Q0 (HRI.out.name hov).2;have HHX:=Q0 (Kl (hl.his i x hi) hov ha);obtain ⟨t,HT⟩:∃ t,Hid (tn x.k.m x.ls=t):=⟨_,rfl⟩;have JL:=Q0 hs;have lM:=Q0 hl;have HI:=Q0 hi;have HF:=Q0 hf;have a2O:=Q0 H50;have ZR:=Q0 hn;have wM:=Q0 yM;obtain ⟨w1,hw1⟩:∃ u:World,u=w.alloc (.cells #[.int .i64 rc,.string rt] 31):=⟨_,rfl⟩;have HW1:=Q0 hw1;have hb1:Below w.heap.size w w1:=by rw [hw1];exact bA
 have sZ:Hid (Cl w1 w.heap.size 31 [.int .i64 rc,.string rt]):=by show Cl _ _ _ _;rw [hw1];exact F3 w _ 31
 have HR1:Hid (Ia f.base f.kb x t (Xc x.k.m x.ls) w1):=by
  have:=(hs.ru i x hi).keep (w':=w1) fun k hk=>hb1.block k ((hs.ru i x hi).lt hk);rw [HT.out] at this;exact this
 have HN6:Hid (w.heap.size≠x.k.B):=by have:=(hs.ru i x hi).hB.lt;show _≠_;omega
 have HB1:=Q0 hb1;clear hs hl hi hf H50 hn yM hov hmk hw1 hb1 ha;have d1:w1.cell? ⟨x.k.c5,0,none⟩=some (.pointer (some ⟨x.k.B,0,none⟩)):=HR1.out.h7.cell 0;have d8:w1.cell? ⟨x.k.B,8,none⟩=some (.string x.wt):=HR1.out.hB.cell 8;have e8:=HR1.out.hB.opn 8;go_enter func78,ntmps78;rw [show pt x.k.c5=.pointer (some ⟨x.k.c5,0,none⟩) from rfl,show pt x.k.ML=.pointer (some ⟨x.k.ML,0,none⟩) from rfl,show pt x.k.FM=.pointer (some ⟨x.k.FM,0,none⟩) from rfl,show pt x.k.c2=.pointer (some ⟨x.k.c2,0,none⟩) from rfl,show pt x.k.fM=.pointer (some ⟨x.k.fM,0,none⟩) from rfl]
 go_upto_region 1 with fail
 rw [<- HW1.out]
 go_upto_region 2 with fail
 have jT:=F8 w1 x.k.B 8 (.string ⟨#[]⟩);have hc1:=HR1.out.hB.set 8 (.string ⟨#[]⟩);generalize (w1.setCell ⟨x.k.B,8,none⟩ (.string ⟨#[]⟩))=w2 at*;obtain ⟨x2,kY⟩:∃ x2:Ru,Hid (x2={ x with wt:=⟨#[]⟩ }):=⟨_,rfl⟩;have HR2:Hid (Ia f.base f.kb x2 t (Xc x.k.m x.ls) w2):=by rw [kY.out];exact HR1.out.yG jT hc1 rfl rfl rfl rfl rfl
 have C6:=Q0 (sZ.out.on jT HN6.out);have hBw2:=(HB1.out.mono JL.out.sz).trans (jT.below (by exact JL.out.rM _ _ (JL.out.kM i x HI.out _ (.inl U0))));have zO:Hid (f.base<=w2.heap.size):=by have:=hBw2.size;have:=JL.out.sz;show _<=_;omega
 have rY:Hid (Ex (fun k=>g.ow k=some (.run i)) w w2):=Q0 ((Ex.SG HB1.out).trans (jT.ex (S:=fun k=>g.ow k=some (.run i)) (JL.out.kM i x HI.out _ (.inl U0))));clear d1 d8 e8 sZ HR1 jT hc1 HB1 HW1;have hxk:x.k=x2.k:=by rw [kY.out]
 have tY:=Q0 hxk;have uY:Hid (x.ls=x2.ls/\x.lv=x2.lv/\x.v1=x2.v1/\x.v2=x2.v2/\x.wv=x2.wv/\x.st=x2.st/\x.r=x2.r/\x.GL=x2.GL/\x.wl=x2.wl):=by rw [kY.out];exact ⟨rfl,rfl,rfl,rfl,rfl,rfl,rfl,rfl,rfl⟩
 have HN6:Hid (w.heap.size≠x2.k.B):=by rw [<- hxk];exact HN6.out
 have HLS:Hid (x2.ls.length<=14):=by rw [<- uY.out.1];exact HLS.out
 rw [hxk];clear hxk;refine P7 (S:=fun u=>Cl u x2.k.c5 93 [pt x2.k.B]/\Cl u x2.k.B 96 x2.cells/\Y7 u x2.k.ML t/\Cl u w.heap.size 31 [.int .i64 rc,.string rt]) 17 I1 ?_ fun hH=>?_
 · exact ⟨HR2.out.h7,HR2.out.hB,HR2.out.h8,C6.out⟩
 obtain ⟨y0,hy0⟩:∃ x:World,x=w2.drew:=⟨_,rfl⟩;rw [<- hy0] at hH ⊢;have hby:Below w2.heap.size w2 y0:=by rw [hy0];exact (Below.refl _ w2).drew
 have HRY:=Q0 (HR2.out.keep (w':=y0) fun k hk=>hby.block k (HR2.out.lt hk));have aR:=Q0 (C6.out.below hby C6.out.lt);have IM:=Q0 hby
 clear hy0 hby
 refine lq 0 hH ?_ (v:=?_) (hv:=?e)
 case e=>intro wq hSw;(try dsimp only at hSw);have d1:wq.cell? ⟨x2.k.c5,0,none⟩=some (.pointer (some ⟨x2.k.B,0,none⟩)):=hSw.1.cell 0;have d2:wq.cell? ⟨x2.k.B,5,none⟩=some x2.lv:=hSw.2.1.cell 5;have d3:wq.cell? ⟨x2.k.ML,3,none⟩=some (.bool t.has):=(Y7.cells hSw.2.2.1).2.2.2.1;have d4:wq.cell? ⟨x2.k.ML,4,none⟩=some (.string t.name):=(Y7.cells hSw.2.2.1).2.2.2.2.1;have d5:wq.cell? ⟨w.heap.size,0,none⟩=some (.int .i64 rc):=hSw.2.2.2.cell 0;have d6:wq.cell? ⟨w.heap.size,1,none⟩=some (.string rt):=hSw.2.2.2.cell 1;go_simp;try with_reducible rfl
 try simp only [qq]
 refine lq 1 hH ?_ (v:=?_) (hv:=?e)
 case e=>intro wq hSw;(try dsimp only at hSw);have d1:wq.cell? ⟨x2.k.c5,0,none⟩=some (.pointer (some ⟨x2.k.B,0,none⟩)):=hSw.1.cell 0;have d2:wq.cell? ⟨x2.k.B,5,none⟩=some x2.lv:=hSw.2.1.cell 5;have d3:wq.cell? ⟨x2.k.ML,3,none⟩=some (.bool t.has):=(Y7.cells hSw.2.2.1).2.2.2.1;have d4:wq.cell? ⟨x2.k.ML,4,none⟩=some (.string t.name):=(Y7.cells hSw.2.2.1).2.2.2.2.1;have d5:wq.cell? ⟨w.heap.size,0,none⟩=some (.int .i64 rc):=hSw.2.2.2.cell 0;have d6:wq.cell? ⟨w.heap.size,1,none⟩=some (.string rt):=hSw.2.2.2.cell 1;go_simp;try with_reducible rfl
 try simp only [qq]
 refine lq 2 hH ?_
 try simp only [qq]
 refine lq 3 hH ?_
 try simp only [qq]
 refine lq 4 hH ?_
 try simp only [qq]
 refine lq 5 hH ?_ (v:=?_) (hv:=?e)
 case e=>intro wq hSw;(try dsimp only at hSw);have d1:wq.cell? ⟨x2.k.c5,0,none⟩=some (.pointer (some ⟨x2.k.B,0,none⟩)):=hSw.1.cell 0;have d2:wq.cell? ⟨x2.k.B,5,none⟩=some x2.lv:=hSw.2.1.cell 5;have d3:wq.cell? ⟨x2.k.ML,3,none⟩=some (.bool t.has):=(Y7.cells hSw.2.2.1).2.2.2.1;have d4:wq.cell? ⟨x2.k.ML,4,none⟩=some (.string t.name):=(Y7.cells hSw.2.2.1).2.2.2.2.1;have d5:wq.cell? ⟨w.heap.size,0,none⟩=some (.int .i64 rc):=hSw.2.2.2.cell 0;have d6:wq.cell? ⟨w.heap.size,1,none⟩=some (.string rt):=hSw.2.2.2.cell 1;go_simp;try with_reducible rfl
 try simp only [qq]
 refine lq 6 hH ?_
 try simp only [qq]
 refine lq 7 hH ?_ (v:=?_) (hv:=?e)
 case e=>intro wq hSw;(try dsimp only at hSw);have d1:wq.cell? ⟨x2.k.c5,0,none⟩=some (.pointer (some ⟨x2.k.B,0,none⟩)):=hSw.1.cell 0;have d2:wq.cell? ⟨x2.k.B,5,none⟩=some x2.lv:=hSw.2.1.cell 5;have d3:wq.cell? ⟨x2.k.ML,3,none⟩=some (.bool t.has):=(Y7.cells hSw.2.2.1).2.2.2.1;have d4:wq.cell? ⟨x2.k.ML,4,none⟩=some (.string t.name):=(Y7.cells hSw.2.2.1).2.2.2.2.1;have d5:wq.cell? ⟨w.heap.size,0,none⟩=some (.int .i64 rc):=hSw.2.2.2.cell 0;have d6:wq.cell? ⟨w.heap.size,1,none⟩=some (.string rt):=hSw.2.2.2.cell 1;go_simp;try with_reducible rfl
 try simp only [qq]
 refine lq 8 hH ?_
 try simp only [qq]
 refine lq 9 hH ?_ (v:=?_) (hv:=?e)
 case e=>intro wq hSw;(try dsimp only at hSw);have d1:wq.cell? ⟨x2.k.c5,0,none⟩=some (.pointer (some ⟨x2.k.B,0,none⟩)):=hSw.1.cell 0;have d2:wq.cell? ⟨x2.k.B,5,none⟩=some x2.lv:=hSw.2.1.cell 5;have d3:wq.cell? ⟨x2.k.ML,3,none⟩=some (.bool t.has):=(Y7.cells hSw.2.2.1).2.2.2.1;have d4:wq.cell? ⟨x2.k.ML,4,none⟩=some (.string t.name):=(Y7.cells hSw.2.2.1).2.2.2.2.1;have d5:wq.cell? ⟨w.heap.size,0,none⟩=some (.int .i64 rc):=hSw.2.2.2.cell 0;have d6:wq.cell? ⟨w.heap.size,1,none⟩=some (.string rt):=hSw.2.2.2.cell 1;go_simp;try with_reducible rfl
 try simp only [qq]
 refine lq 10 hH ?_ (v:=?_) (hv:=?e)
 case e=>intro wq hSw;(try dsimp only at hSw);have d1:wq.cell? ⟨x2.k.c5,0,none⟩=some (.pointer (some ⟨x2.k.B,0,none⟩)):=hSw.1.cell 0;have d2:wq.cell? ⟨x2.k.B,5,none⟩=some x2.lv:=hSw.2.1.cell 5;have d3:wq.cell? ⟨x2.k.ML,3,none⟩=some (.bool t.has):=(Y7.cells hSw.2.2.1).2.2.2.1;have d4:wq.cell? ⟨x2.k.ML,4,none⟩=some (.string t.name):=(Y7.cells hSw.2.2.1).2.2.2.2.1;have d5:wq.cell? ⟨w.heap.size,0,none⟩=some (.int .i64 rc):=hSw.2.2.2.cell 0;have d6:wq.cell? ⟨w.heap.size,1,none⟩=some (.string rt):=hSw.2.2.2.cell 1;go_simp;try with_reducible rfl
 try simp only [qq]
 refine lq 11 hH ?_
 try simp only [qq]
 refine lr (i:=12) (o:=⟨some 22,.buildSlice 36 1 #[(0,.tmp 21)],36,_,_,none⟩) rfl J3 I1 fun K hK=>?_;go_simp;obtain ⟨y1,hy1⟩:∃ x:World,x=y0.alloc (.cells #[.bool t.has,.string t.name,.int .i64 rc,.string rt] 45):=⟨_,rfl⟩;rw [<- hy1];have RL:Below y0.heap.size y0 y1:=by rw [hy1];exact bA
 have CL:Hid (Cl y1 y0.heap.size 45 [.bool t.has,.string t.name,.int .i64 rc,.string rt]):=by show Cl _ _ _ _;rw [hy1];exact F3 y0 _ 45
 have HR1:=Q0 (HRY.out.keep (w':=y1) fun k hk=>RL.block k (HRY.out.lt hk));have sZ:=Q0 (aR.out.below RL aR.out.lt);have HB1:=Q0 RL;clear hy1 hH;refine hK.out _ _ ?_ fun hH=>?_
 · exact ⟨HR1.out.h7,HR1.out.hB,HR1.out.h8,sZ.out⟩
 clear hK K RL
 try simp only [qq]
 refine lr (i:=13) (o:=⟨some 23,.call ⟨.builtin .append,#[.tmp 15,.tmp 22],#[36,36]⟩,36,_,_,none⟩) rfl J3 I1 fun K hK=>?_;refine V9 rfl _ _ 36 rfl f.base 45 4 underlying36 Oh J3 x2.lv x2.ls.length (I4 x2.ls) rfl HR1.out.lk (.slice (some ⟨y0.heap.size,0,none⟩) 1 1) 1 [.bool t.has,.string t.name,.int .i64 rc,.string rt] rfl (.inr ⟨⟨y0.heap.size,0,none⟩,1,rfl,rfl,r_ CL.out⟩) (by intro u hu;simp at hu;rcases hu with rfl | rfl | rfl | rfl <;> rfl) (by have:=HLS.out;omega) (by have:=HB1.out.size;have:=IM.out.size;have:=zO.out;omega) ?_;intro UM y2 O2 g2 at2;have FQ:Hid (y2.ownsRow f.base 45 4 UM (x2.ls++[(⟨t.has,t.name,rc,rt⟩:M.L4)]).length (I4 (x2.ls++[(⟨t.has,t.name,rc,rt⟩:M.L4)]))):=by show World.ownsRow _ _ _ _ _ _ _;rw [Rc,List.length_append];exact O2
 have HG2:=Q0 g2;have HA2:=Q0 at2;have hnb:∀ {b:Nat} {tt:TypeId} {xs:Array Value},y1.heap[b]?=some (.cells xs tt (0,0))->tt≠45->some b≠x2.lv.ownBlock:=fun hb ht e=>by
  obtain ⟨_,cur,OL⟩:=J2 HR1.out.lk e.symm;exact j6 hb OL ht rfl
 have MP:Hid (Cl y2 x2.k.B 96 x2.cells):=Q0 (HR1.out.hB.gb g2 (hnb HR1.out.hB J3));have ZQ:Hid (Cl y2 x2.k.c5 93 [pt x2.k.B]):=Q0 (HR1.out.h7.gb g2 (hnb HR1.out.h7 J3));have NU:Hid (Y7 y2 x2.k.ML t):=Q0 ((g2.block _ HR1.out.h8.lt (hnb HR1.out.h8 J3)).trans HR1.out.h8);have TP:Hid (Cl y2 w.heap.size 31 [.int .i64 rc,.string rt]):=Q0 (sZ.out.gb g2 (hnb sZ.out J3));clear O2 g2 at2 hH hnb;refine hK.out _ _ ?_ fun hH=>?_
 · exact ⟨ZQ.out,MP.out,NU.out,TP.out⟩
 clear hK K
 try simp only [qq]
 refine lr (i:=14) (o:=⟨some 24,.nilCheck (.tmp 10),0,_,_,none⟩) rfl J3 I1 fun K hK=>?_;go_simp;clear hH;refine hK.out _ _ ?_ fun hH=>?_
 · exact ⟨ZQ.out,MP.out,NU.out,TP.out⟩
 clear hK K
 try simp only [qq]
 refine lr (i:=15) (o:=⟨some 25,.fieldAddr 96 (.tmp 24) 0,0,_,_,none⟩) rfl J3 I1 fun K hK=>?_;go_simp;clear hH;refine hK.out _ _ ?_ fun hH=>?_
 · exact ⟨ZQ.out,MP.out,NU.out,TP.out⟩
 clear hK K
 try simp only [qq]
 refine lq 16 hH ?_
 try simp only [qq]
 refine lz (o:=⟨none,.store 36 (.tmp 26) (.tmp 23),0,_,_,none⟩) rfl I1 fun K hK=>?_;have z5:y2.cell? ⟨x2.k.B,5,none⟩=some x2.lv:=MP.out.cell 5;have zf:=MP.out.opn 5;obtain ⟨la,lc,hlv,_⟩:=Zb FQ.out;have a2P:UM=.slice la (x2.ls.length+1) lc:=by rw [hlv];simp
 clear hlv;subst a2P;go_simp;clear hH;refine hK.out _ _ ?_;clear hK K
 try simp only [qq]
 refine F9 I1 ?_ _;have hon:=F8 y2 x2.k.B 5 (.slice la (x2.ls.length+1) lc);have hcB:=MP.out.set 5 (.slice la (x2.ls.length+1) lc);generalize (y2.setCell ⟨x2.k.B,5,none⟩ (.slice la (x2.ls.length+1) lc))=w3 at*;have HR3:Hid (Ia f.base f.kb { x2 with lv:=.slice la (x2.ls.length+1) lc,ls:=x2.ls++[(⟨t.has,t.name,rc,rt⟩:M.L4)] } t (Xc x.k.m x.ls) w3):=Q0 (HRY.out.look HB1.out HG2.out FQ.out hon hcB);have vY:=Q0 (TP.out.on hon HN6.out);have bR:=Q0 hon;clear hon hcB MP ZQ NU TP HR1 HRY;obtain ⟨x3,BV⟩:∃ x3:Ru,Hid (x3={ x2 with lv:=.slice la (x2.ls.length+1) lc,ls:=x2.ls++[(⟨t.has,t.name,rc,rt⟩:M.L4)] }):=⟨_,rfl⟩;have HR3:Hid (Ia f.base f.kb x3 t (Xc x.k.m x.ls) w3):=by rw [BV.out];exact HR3.out
 have hk3:x2.k=x3.k:=by rw [BV.out]
 have lS:=Q0 hk3;rw [hk3];clear hk3;have d9:w3.cell? ⟨x3.k.FM,0,none⟩=some (.func (.func 51) #[] #[.pointer (some ⟨x3.k.b0,0,none⟩),.pointer (some ⟨x3.k.b1,0,none⟩),.pointer (some ⟨x3.k.b2,0,none⟩),.pointer (some ⟨x3.k.b3,0,none⟩)]):=HR3.out.h9.cell 0;have r0:w3.cell? ⟨w.heap.size,0,none⟩=some (.int .i64 rc):=vY.out.cell 0;have r1:w3.cell? ⟨w.heap.size,1,none⟩=some (.string rt):=vY.out.cell 1
 go_wp2_with fail
 have CV:∀ k,x2.lv.ownBlock=some k->g.ow k=some (.run i):=fun k e=>JL.out.kM i x HI.out k (.inr (.inl (by rw [uY.out.2.1];exact e)));have a4k:f.base<=x3.k.B:=by rw [<- lS.out,<- tY.out];exact JL.out.rM _ _ (JL.out.kM i x HI.out _ (.inl U0))
 have hBo:g.ow x3.k.B=some (.run i):=by rw [<- lS.out,<- tY.out];exact JL.out.kM i x HI.out _ (.inl U0)
 have hsz2:w.heap.size<=w2.heap.size:=rY.out.size;have a4l:w2.heap.size<=y0.heap.size:=IM.out.size;have a3i:y0.heap.size<=y1.heap.size:=HB1.out.size;have a0M:y1.heap.size<=y2.heap.size:=HG2.out.size;have OU:Hid (Ex (fun k=>g.ow k=some (.run i)) w w3):=by
  refine (((rY.out.Mh (IM.out.mono hsz2)).Mh (HB1.out.mono O0)).trans ?_);refine ⟨bR.out.os.trans HG2.out.os,bR.out.tape.trans HG2.out.tape,bR.out.output.trans HG2.out.output,by rw [bR.out.size];exact a0M,fun k hk hn=>?_⟩;exact (bR.out.block k (fun e=>hn (by rw [e,lS.out];exact hBo))).trans (HG2.out.block k hk (fun e=>hn (CV k e.symm)))
 have HB3:Hid (Below f.base w w3):=Q0 (OU.out.below (fun k e=>JL.out.rM _ _ e) JL.out.sz);have wY:=JL.out.bl.trans HB3.out;have HRO:=Q0 (EB x.k.m x.ls (fun y hy=>(Ih (GN.out.2 y hy)).2));have hmp:=Ej (wM.out.ms _ (lM.out.mem i x HI.out));have hts:rt.size<=1048576:=by have:=Pf HVR.out;rw [au] at this;exact Nat.le_trans this J3
 have hkm:x.k.m=x3.k.m:=by rw [tY.out,lS.out]
 refine (c51 f.base x3.k.b0 x3.k.b1 x3.k.b2 x3.k.b3 x3.k.m.nm x3.k.m.tl x3.k.m.ar (Xc x.k.m x.ls) x3.v1 x3.v2 ⟨rc,rt⟩ w3 HR3.out.rw HRO.out.1 (by have:=HRO.out.2;have:=GN.out.1;omega) hts (by rw [<- hkm];have:=hmp.2.2;omega) (Ja HF.out.RP wY HF.out.ten) (je HF.out.mx wY HF.out.ten) HF.out.ten).mono ?_;rintro e w4 ⟨rfl,⟨VP,QO,hrw,hn1,hn2⟩,xY⟩;have HKM:=Q0 hkm;clear hkm;obtain ⟨t4,tV⟩:∃ t4,Hid ((M6 x3.k.m.tl x3.k.m.ar (Xc x.k.m x.ls) ⟨rc,rt⟩).1=t4):=⟨_,rfl⟩;have SQ:Hid (tn x.k.m (x.ls++[(⟨t.has,t.name,rc,rt⟩:M.L4)])=t4):=by show _=_;rw [Cg,HKM.out];exact HKM.out▸tV.out
 have JR:Hid (Xc x.k.m (x.ls++[(⟨t.has,t.name,rc,rt⟩:M.L4)])=(M6 x3.k.m.tl x3.k.m.ar (Xc x.k.m x.ls) ⟨rc,rt⟩).2):=by show _=_;rw [Rf,HKM.out]
 rw [tV.out];obtain ⟨o,c,tt,th,IL,ts⟩:=t4;rw [show (TN.v ⟨o,c,tt,th,IL,ts⟩)=.agg #[.bool o,.int .i64 c,.string tt,.bool th,.string IL,.int .i64 ts] from rfl];have HR4:=Q0 (HR3.out.next hrw xY);have iR:Hid (Ex (fun k=>g.ow k=some (.run i)) w w4):=by
  refine OU.out.JF xY fun k hk e=>?_;have hk':zq x k:=by
   rcases e with e | e | e | e
   · exact .inl (by rw [e,<- lS.out,<- tY.out];simp)
   · exact .inl (by rw [e,<- lS.out,<- tY.out];simp)
   · exact .inl (by rw [e,<- lS.out,<- tY.out];simp)
   exact .inr (.inr (.inl (by rw [uY.out.2.2.1];rw [BV.out] at e;exact e)))
  exact JL.out.kM i x HI.out k hk'
 have a0N:=Q0 hn1;have a0O:=Q0 hn2;have a4m:w.heap.size<=w3.heap.size:=OU.out.size;clear d9 r0 r1 hrw hn1 hn2 xY wY
 go_upto_region 4 with (refine u_ rfl _ _ rfl x3.k.ML rfl ⟨o,c,tt,th,IL,ts⟩ t rfl HR4.out.h8 rfl ?_;intro w5 ht5 a0P hk5;have jO:=Q0 ht5;have QZ:=Q0 hk5;have GQ:=Q0 a0P;clear ht5 a0P hk5)
 obtain ⟨x4,yY⟩:∃ x4:Ru,Hid (x4={ x3 with v1:=VP,v2:=QO }):=⟨_,rfl⟩;have xM:Hid (x4.k=x.k/\x4.ls=x.ls++[(⟨t.has,t.name,rc,rt⟩:M.L4)]/\x4.wv=x.wv/\x4.wl=x.wl/\x4.st=x.st/\x4.r=x.r/\x4.GL=x.GL):=by
  show _/\_;rw [yY.out,BV.out,kY.out];exact ⟨rfl,rfl,rfl,rfl,rfl,rfl,rfl⟩
 have HXW:Hid (x4.wt=⟨#[]⟩):=by
  show _=_;rw [yY.out,BV.out,kY.out]
 have PL:Hid (Ia f.base f.kb x4 ⟨o,c,tt,th,IL,ts⟩ (M6 x3.k.m.tl x3.k.m.ar (Xc x.k.m x.ls) ⟨rc,rt⟩).2 w5):=by
  have:=HR4.out.turn jO.out QZ.out;rw [yY.out];exact this
 have jR:Hid (tn x4.k.m x4.ls=⟨o,c,tt,th,IL,ts⟩/\Xc x4.k.m x4.ls=(M6 x3.k.m.tl x3.k.m.ar (Xc x.k.m x.ls) ⟨rc,rt⟩).2):=by
  show _/\_;rw [xM.out.1,xM.out.2.1];exact ⟨SQ.out,JR.out⟩
 have a0Q:g.ow x3.k.ML=some (.run i):=by rw [<- lS.out,<- tY.out];exact JL.out.kM i x HI.out _ (.inl U0)
 have kR:Hid (Ex (fun k=>g.ow k=some (.run i)) w w5):=by
  have hb:=GQ.out 0 (Nat.zero_le _);exact ⟨hb.os.trans iR.out.os,hb.tape.trans iR.out.tape,hb.output.trans iR.out.output,Nat.le_trans iR.out.size hb.size,fun k hk hn=>(QZ.out k (fun e=>hn (by rw [e];exact a0Q))).trans (iR.out.block k hk hn)⟩
 have HS5:Hid (U_ f { g with ow:=ext g.ow w.heap.size (.run i),rs:=g.rs.set i x4 } w5):=by
  have h1:=JL.out.ext w.heap.size Q8 (.run i);refine h1.run (x':=x4) HI.out (kR.out.mono fun k hk e=>?_) ?_ (fun k hk=>?_) xM.out.1 xM.out.2.2.1 xM.out.2.2.2.1
  · show ext g.ow w.heap.size _ k=_
    rw [J7 hk];exact e
  · rw [jR.out.1,jR.out.2];exact PL.out
  have hown:∀ q,zq x q->ext g.ow w.heap.size (.run i) q=some (.run i):=fun q hq=>h1.kM i x HI.out q hq;rcases hk with hk | hk | hk | hk
  · exact hown k (.inl (by rw [xM.out.1] at hk;exact hk))
  · have hk':(Value.slice la (x2.ls.length+1) lc).ownBlock=some k:=by rw [yY.out,BV.out] at hk;exact hk
    rcases HA2.out with h | h
    · rw [h] at hk'
      exact hown k (.inr (.inl (by rw [uY.out.2.1];exact hk')))
    rw [h] at hk';have:=Option.some.inj hk';exact mh O0
  · have hk':VP.ownBlock=some k:=by rw [yY.out] at hk;exact hk
    rcases a0N.out k hk' with h | h
    · exact hown k (.inr (.inr (.inl (by rw [uY.out.2.2.1];rw [BV.out] at h;exact h))))
    exact mh O0
  have hk':QO.ownBlock=some k:=by rw [yY.out] at hk;exact hk
  rcases a0O.out k hk' with h | h
  · exact hown k (.inr (.inr (.inr (by rw [uY.out.2.2.2.1];rw [BV.out] at h;exact h))))
  exact mh O0
 have dM:Hid (Below f.base w w5):=Q0 (kR.out.below (fun k e=>JL.out.rM _ _ e) JL.out.sz);have HK4:Hid (x3.k=x4.k):=by rw [yY.out];rfl
 have HG4:Hid ((g.rs.set i x4)[i]?=some x4):=Q0 (Df HI.out);have a0R:Hid (V8 E x.k.m x4.ls):=by
  have:=HHX.out;rw [HT.out] at this;rw [xM.out.2.1];exact this
 have HPW:Hid (wh x4+1=wh x):=by
  show _=_;unfold wh;have DU:=HLS.out;rw [<- uY.out.1] at DU;rw [xM.out.2.1,xM.out.2.2.2.2.1];simp;split <;> omega
 have hj0:=Y7.cells jO.out;rw [HK4.out] at hj0 ⊢;obtain ⟨j0,j1,j2,j3,j4,j5,_⟩:=hj0;have c2c:w5.cell? ⟨x4.k.c2,0,none⟩=some (.pointer (some ⟨f.kb,0,none⟩)):=PL.out.h2.cell 0;have c5c:w5.cell? ⟨x4.k.c5,0,none⟩=some (.pointer (some ⟨x4.k.B,0,none⟩)):=PL.out.h7.cell 0;have a3j:w5.cell? ⟨x4.k.fM,0,none⟩=some (.func (.func 78) #[] #[.pointer (some ⟨x4.k.c5,0,none⟩),.pointer (some ⟨x4.k.ML,0,none⟩),.pointer (some ⟨x4.k.FM,0,none⟩),.pointer (some ⟨x4.k.c2,0,none⟩),.pointer (some ⟨x4.k.fM,0,none⟩)]):=PL.out.h10.cell 0;clear HR4 HR3 iR OU jO QZ GQ HB3 a0N a0O FQ HG2 HA2 CL vY aR HB1 IM bR CV hBo a0Q rY HR2 C6 hBw2;cases o
 · have IP:Hid (Md E { g with ow:=ext g.ow w.heap.size (.run i),rs:=g.rs.set i x4 } (some i)):=by
    have h1:=lM.out.upd (x':=x4) HI.out xM.out.1 xM.out.2.2.2.2.2.2 xM.out.2.2.2.1 xM.out.2.2.2.2.2.1 a0R.out (by rw [<- xM.out.1,jR.out.1]);exact ⟨h1.mem,h1.inj,h1.his,h1.fin,h1.non,h1.act,h1.iM,h1.qN,h1.EN,h1.FN,h1.VL,h1.iN⟩
   have h50:=a2O.out _ i x4 w5 HS5.out IP.out HG4.out (by have:=ZR.out;rw [xM.out.2.1];simp;omega);rw [jR.out.1] at h50;have HC:=Q0 h50;clear h50
   go_wp2_with fail
   refine HC.out.mono ?_;rintro e w6 ⟨rfl,g',ha⟩;have dQ:Hid (∃ g',dC f E g g' w w6/\Zd g'<Zd g):=by
    have hp:=Lf (x':=x4) HI.out;have hpw:=HPW.out;have hlt:Zd { g with ow:=ext g.ow w.heap.size (.run i),rs:=g.rs.set i x4 }<Zd g:=by
     unfold Zd;simp only [List.length_set];omega
    refine ⟨g',⟨ha.RP,ha.pU,fun j y hy=>?_,by have:=ha.Zd;omega,dM.out.trans ha.bl,fun k hk he=>?_⟩,by have:=ha.Zd;omega⟩;rotate_left
    · have pO:=kR.out.block k hk (by rw [he];simp)
      obtain ⟨h1,h2⟩:=ha.kp k (Nat.lt_of_lt_of_le hk kR.out.size) ((J7 hk).trans he);exact ⟨h1.trans pO,h2⟩
    obtain ⟨z,hz,PP⟩:∃ z,(g.rs.set i x4)[j]?=some z/\z.k=y.k:=by
     obtain ⟨z,hz,⟨rfl,rfl⟩ | ⟨rfl,_⟩⟩:=P_ (x':=x4) HI.out hy
     · rw [HI.out] at hy
       obtain rfl:=Option.some.inj hy;exact ⟨_,hz,xM.out.1⟩
     exact ⟨z,hz,rfl⟩
    obtain ⟨z',hz',hzk'⟩:=ha.ext j z hz;exact ⟨z',hz',hzk'.trans PP⟩
   clear ha HC;go_wp2
   go_end0
   exact ⟨rfl,dQ.out⟩
 have hms:E.ms.length<=30:=by rw [HF.out.hE];show (f.ms.map toM).length<=30;rw [List.length_map];exact Ba HF.out.pt
 have hrl:=lM.out.len hms;have YQ:g.q.length<=30:=by
  have:=Qh lM.out.qN (n:=g.rs.length) (fun j hj=>by
   obtain ⟨it,hit,rfl⟩:=List.mem_map.1 hj;exact JL.out.TM it hit)
  simp at this;omega
 have hwl:x.wl.length<=30:=by
  have:=Qh (lM.out.iN i x HI.out (by rw [hxa];simp)).1 (n:=g.rs.length) (fun j hj=>JL.out.DN i x HI.out j hj);omega
 have HC:=Q0 (ZK f { g with ow:=ext g.ow w.heap.size (.run i),rs:=g.rs.set i x4 } i x4 ⟨c,tt⟩ w5 HS5.out HG4.out (by show g.q.length+_<=_;rw [xM.out.2.2.2.1];omega) (by rw [xM.out.1];exact z_ hmp.1));clear hrl YQ hwl
 go_wp2_with fail
 refine HC.out.mono ?_;rintro e w6 ⟨rfl,its,rv',bO,hs6,hits,hre,hb6,a0S⟩;have dQ:Hid (∃ g',dC f E g g' w w6/\Zd g'<Zd g):=by
  have a2Q:=xM.out.2.2.2.2.2.2.trans hxa;have hpe:T_ i { x4 with r:=⟨c,tt⟩ }={ x4 with r:=⟨c,tt⟩ }:=by unfold T_;rw [if_neg (by show ¬ x4.GL=_;rw [a2Q];simp)]
  have hsa:=XF hs6 (F:=T_ i) (fun y=>by unfold T_;split;exact ⟨_,rfl⟩;exact ⟨y.GL,rfl⟩);have hgi:(((g.rs.set i x4).set i { x4 with r:=⟨c,tt⟩ }).map (T_ i))[i]?=some { x4 with r:=⟨c,tt⟩ }:=by rw [Zg (Df HG4.out),hpe]
  have hrb:=hsa.ru i _ hgi;have hsb:=hsa.run (x':={ x4 with r:=⟨c,tt⟩,GL:=.fin }) hgi (Ex.refl _ _) (hrb.gh rfl rfl rfl rfl rfl rfl rfl) (fun k hk=>hsa.kM i _ hgi k (zq.of (x:={ x4 with r:=⟨c,tt⟩ }) rfl rfl rfl rfl hk)) rfl rfl rfl;have hle:((((g.rs.set i x4).set i { x4 with r:=⟨c,tt⟩ }).map (T_ i)).set i { x4 with r:=⟨c,tt⟩,GL:=.fin })=(g.rs.map (T_ i)).set i { x4 with r:=⟨c,tt⟩,GL:=.fin }:=by
   rw [List.map_set,List.map_set,List.set_set,List.set_set]
  have hL:=lM.out.end (x':={ x4 with r:=⟨c,tt⟩,GL:=.fin }) (its:=its) (r:=⟨c,tt⟩) HI.out xM.out.1 rfl xM.out.2.2.2.1 rfl HXW.out a0R.out (by show (tn x.k.m x4.ls).over=true;rw [<- xM.out.1,jR.out.1]) (by show _=jg (tn x.k.m x4.ls);rw [<- xM.out.1,jR.out.1];rfl) (by rw [hits,xM.out.2.2.2.1]) hre;have hpi:(g.rs.map (T_ i))[i]?=some (T_ i x):=Zg HI.out;have hp:=Lf (x':={ x4 with r:=⟨c,tt⟩,GL:=.fin }) hpi;have hpx:wh (T_ i x)=wh x:=by obtain ⟨_,e2,e3,_⟩:=V6 i x;unfold wh;rw [e2,e3]
  have hpm:((g.rs.map (T_ i)).map wh)=g.rs.map wh:=by
   rw [List.map_map];refine List.map_congr_left fun y _=>?_;obtain ⟨_,e2,e3,_⟩:=V6 i y;show wh (T_ i y)=wh y;unfold wh;rw [e2,e3]
  have hp4:wh { x4 with r:=⟨c,tt⟩,GL:=.fin }=wh x4:=rfl;have hpw:=HPW.out;rw [hpm,hpx,hp4] at hp;have hlt:Zd { g with rs:=(g.rs.map (T_ i)).set i { x4 with r:=⟨c,tt⟩,GL:=.fin },q:=g.q++its,rv:=rv',ow:=bO }<Zd g:=by
   unfold Zd;simp only [List.length_set,List.length_map];omega
  refine ⟨{ g with rs:=(g.rs.map (T_ i)).set i { x4 with r:=⟨c,tt⟩,GL:=.fin },q:=g.q++its,rv:=rv',ow:=bO },⟨?_,⟨hL.mem,hL.inj,hL.his,hL.fin,hL.non,hL.act,hL.iM,hL.qN,hL.EN,hL.FN,hL.VL,hL.iN⟩,fun j y hy=>?_,Nat.le_of_lt hlt,dM.out.trans hb6,fun k hk he=>?_⟩,hlt⟩
  rotate_right
  · have pO:=kR.out.block k hk (by rw [he];simp)
    obtain ⟨h1,h2⟩:=a0S k (Nat.lt_of_lt_of_le hk kR.out.size) ((J7 hk).trans he);exact ⟨h1.trans pO,h2⟩
  · have:=hsb
    rw [<- hle];exact this
  obtain ⟨z,hz,⟨rfl,rfl⟩ | ⟨rfl,_⟩⟩:=P_ (x':={ x4 with r:=⟨c,tt⟩,GL:=.fin }) hpi (Zg (F:=T_ i) hy)
  · rw [HI.out] at hy
    obtain rfl:=Option.some.inj hy;exact ⟨_,hz,xM.out.1⟩
  exact ⟨_,hz,(V6 i y).1⟩
 clear hs6 hits hre hb6 a0S HC;go_wp2;refine bodyPost_ret (results_none rfl _ _ _) rfl ?_;exact ⟨rfl,dQ.out⟩
theorem yI (kb b6:Nat) (pa:Option Addr) (pc:Nat) (ms:List M3) (nm:ByteArray) (w:World) (u1 u2 u3 u4 u5 u7 u8 u9 u10 u11 u12 u13 u14 u15 u16 u17 u18 u19 u20 u21 u22 u23 u24 u25 u26 u27 u28 u29 u30 u31 u32 u33 u34 u35 u36 u37 u38 u39 u40 u41 u42 u43 u44 u45 u46 u47 u48 u49 u50 u51 u52 u53 u54 u55 u56 u57 u58 u59 u60 u61 u62 u63 u64 u65 u66 u67 u68 u69 u70 u71 u72 u73 u74 u75 u76 u77 u78 u79 u80 u81 u82 u83 u84:Value) {Q:Exit->Act->World->Prop} (hQ:∀ c (a:Act) (d:Option Tmp) (v:Value) w,Q (.panic c) (a.put d v) w->Q (.panic c) a w)
 (c1:w.cell? ⟨kb,1,none⟩=some (.slice pa ms.length pc)) (cO:w.cell? ⟨b6,4,none⟩=some (.string nm)) (hkl:kb<w.heap.size) (hbl:b6<w.heap.size) (hml:ms.length<=300) (OT:Hid (∀ u,Below w.heap.size w u->G.Ab u pa ms)) (hasc:G.Vi ms)
 (uM:∀ (t26 t27 t28 t29 t30 t31 t32 t33 t34 t35:Value) (b8:Nat) (y:M3) (th:Bool) (w':World),Below w.heap.size w w'->Cl w' b8 35 (Ed [.string ⟨#[]⟩,.string ⟨#[]⟩,.string ⟨#[]⟩] 0 [.string y.nm,.string y.tl,.string y.ar])->w.heap.size<=b8->((th=true/\∃ i,i<ms.length/\ms.getD i X6=y/\y.nm=nm)\/(th=false/\∀ j,j<ms.length->(ms.getD j X6).nm≠nm))->Q .normal { tmps:=#[.pointer (some ⟨kb,0,none⟩),u1,u2,u3,u4,u5,.pointer (some ⟨b6,0,none⟩),u7,.pointer (some ⟨b8,0,none⟩),.bool th,u10,u11,u12,u13,u14,u15,u16,u17,u18,u19,u20,u21,u22,u23,u24,u25,t26,t27,t28,t29,t30,t31,t32,t33,t34,t35,u36,u37,u38,u39,u40,u41,u42,u43,u44,u45,u46,u47,u48,u49,u50,u51,u52,u53,u54,u55,u56,u57,u58,u59,u60,u61,u62,u63,u64,u65,u66,u67,u68,u69,u70,u71,u72,u73,u74,u75,u76,u77,u78,u79,u80,u81,u82,u83,u84],defers:=[] } w'):
 (Code.region 3 #[⟨some 27,.move (.tmp 0),55, "l4_want.go:255",#[],none⟩,⟨some 28,.nilCheck (.tmp 27),0, "l4_want.go:255",#[⟨0,.data⟩],none⟩,⟨some 29,.fieldAddr 90 (.tmp 28) 1,0, "l4_want.go:255",#[⟨1,.data⟩],none⟩,⟨some 30,.load 84 (.tmp 29),84, "l4_want.go:255",#[⟨2,.data⟩],none⟩,⟨some 31,.fieldAddr 42 (.tmp 6) 3,0, "l4_want.go:255",#[],none⟩,⟨some 32,.load 9 (.tmp 31),9, "l4_want.go:255",#[⟨4,.data⟩],none⟩,⟨some 33,.call ⟨.value (.func 40),#[.tmp 30,.tmp 32],#[84,9]⟩,91, "l4_want.go:255",#[⟨3,.data⟩,⟨5,.data⟩],none⟩,⟨some 26,.move (.tmp 33),91, "l4_want.go:255",#[⟨6,.data⟩],none⟩,⟨some 34,.extract (.tmp 26) 0,35, "l4_want.go:255",#[⟨7,.data⟩],none⟩,⟨some 35,.extract (.tmp 26) 1,4, "l4_want.go:255",#[⟨7,.data⟩,⟨11,.gcOnly .lateStores⟩],none⟩,⟨some 8,.alloc 35,0, "l4_want.go:255",#[],none⟩,⟨none,.store 35 (.tmp 8) (.tmp 34),0, "l4_want.go:255",#[⟨10,.data⟩,⟨8,.data⟩,⟨6,.chain⟩,⟨0,.phase⟩,⟨1,.phase⟩,⟨2,.phase⟩,⟨3,.phase⟩,⟨4,.phase⟩,⟨5,.phase⟩,⟨6,.phase⟩,⟨7,.phase⟩,⟨8,.phase⟩,⟨9,.textOnly .lateStores⟩,⟨10,.phase⟩],none⟩,⟨some 9,.assign (.tmp 35),4, "l4_want.go:255",#[⟨9,.data⟩,⟨11,.chain⟩,⟨0,.phase⟩,⟨1,.phase⟩,⟨2,.phase⟩,⟨3,.phase⟩,⟨4,.phase⟩,⟨5,.phase⟩,⟨6,.phase⟩,⟨7,.phase⟩,⟨8,.phase⟩,⟨9,.phase⟩,⟨10,.phase⟩,⟨11,.phase⟩],none⟩] true).wp prog Q { tmps:=#[.pointer (some ⟨kb,0,none⟩),u1,u2,u3,u4,u5,.pointer (some ⟨b6,0,none⟩),u7,u8,u9,u10,u11,u12,u13,u14,u15,u16,u17,u18,u19,u20,u21,u22,u23,u24,u25,u26,u27,u28,u29,u30,u31,u32,u33,u34,u35,u36,u37,u38,u39,u40,u41,u42,u43,u44,u45,u46,u47,u48,u49,u50,u51,u52,u53,u54,u55,u56,u57,u58,u59,u60,u61,u62,u63,u64,u65,u66,u67,u68,u69,u70,u71,u72,u73,u74,u75,u76,u77,u78,u79,u80,u81,u82,u83,u84],defers:=[] } w:=by
 refine wp_region_held_drew (S:=fun u=>u.cell? ⟨kb,1,none⟩=some (.slice pa ms.length pc)/\u.cell? ⟨b6,4,none⟩=some (.string nm)) I1 ?_ fun hH=>?_
 · exact ⟨c1,cO⟩
 obtain ⟨x0,hx0⟩:∃ x:World,x=w.drew:=⟨_,rfl⟩;rw [<- hx0] at hH ⊢;have L0:Below w.heap.size w x0:=by rw [hx0];exact (Below.refl _ w).drew
 have hz0:w.heap.size<=x0.heap.size:=L0.size;clear hx0;refine tq 0 hH ?_;refine tq 1 hH ?_;refine tq 2 hH ?_;refine tq 3 hH ?_ (v:=?_) (hv:=?e)
 case e=>intro wq hSw;(try dsimp only at hSw);obtain ⟨s1,s4⟩:=hSw;go_simp;try with_reducible rfl
 refine tq 4 hH ?_;refine tq 5 hH ?_ (v:=?_) (hv:=?e)
 case e=>intro wq hSw;(try dsimp only at hSw);obtain ⟨s1,s4⟩:=hSw;go_simp;try with_reducible rfl
 try simp only [qq]
 refine wpAnyH_ready (rs:=[6,10]) I1 U0 (AllReadyH.cons (o:=⟨some 33,.call ⟨.value (.func 40),#[.tmp 30,.tmp 32],#[84,9]⟩,91,_,_,none⟩) rfl (fun K hK=>?_) (AllReadyH.cons (o:=⟨some 8,.alloc 35,0,_,_,none⟩) rfl (fun K hK=>?_) AllReadyH.nil))
 · go_simp
   refine (G.c40 pa pc ms nm x0 hml (OT.out x0 L0) hasc).mono ?_;rintro e x1 ⟨⟨y,th,rfl,hy⟩,AQ⟩;have HY:=Q0 hy;clear hy;go_simp;have L1:=L0.trans (AQ.mono O0);have hz1:=L1.size;clear hH;refine hK.out _ _ ?_ fun hH=>?_
   · exact ⟨(L1.cell (p:=⟨kb,1,none⟩) hkl).trans c1,(L1.cell (p:=⟨b6,4,none⟩) hbl).trans cO⟩
   clear hK K;refine tq 7 hH ?_;refine tq 8 hH ?_;refine tq 9 hH ?_
   try simp only [qq]
   refine rq 10 fun K hK=>?_;go_simp;obtain ⟨x2,hx2⟩:∃ x:World,x=x1.alloc (.cells #[.string ⟨#[]⟩,.string ⟨#[]⟩,.string ⟨#[]⟩] 35):=⟨_,rfl⟩;rw [<- hx2];have a2R:Below x1.heap.size x1 x2:=by rw [hx2];exact bA
   have zY:Hid (Cl x2 x1.heap.size 35 [.string ⟨#[]⟩,.string ⟨#[]⟩,.string ⟨#[]⟩]):=by show Cl _ _ _ _;rw [hx2];exact F3 x1 _ 35
   clear hx2;have L2:=L1.trans (a2R.mono O0);clear hH;refine hK.out _ _ ?_ fun hH=>?_
   · exact ⟨(L2.cell (p:=⟨kb,1,none⟩) hkl).trans c1,(L2.cell (p:=⟨b6,4,none⟩) hbl).trans cO⟩
   clear hK K
   try simp only [qq]
   refine rq 11 fun K hK=>?_;refine Xe rfl 35 _ _ rfl (B:=x1.heap.size) (j:=0) rfl (vs:=[.string y.nm,.string y.tl,.string y.ar]) rfl zY.out U0 (by intro v hv;simp at hv;rcases hv with rfl | rfl | rfl <;> rfl) I1 ?_;intro x9 KU ho9;have L9:=L2.trans (ho9.below O0);clear hH;refine hK.out _ _ ?_ fun hH=>?_
   · exact ⟨(L9.cell (p:=⟨kb,1,none⟩) hkl).trans c1,(L9.cell (p:=⟨b6,4,none⟩) hbl).trans cO⟩
   clear hK K;refine tq 12 hH ?_
   try simp only [qq]
   refine wpAnyH_done I1 ?_ _;refine uM _ _ _ _ _ _ _ _ _ _ x1.heap.size y th x9 L9 KU O0 HY.out
 go_simp;obtain ⟨x1,hx1⟩:∃ x:World,x=x0.alloc (.cells #[.string ⟨#[]⟩,.string ⟨#[]⟩,.string ⟨#[]⟩] 35):=⟨_,rfl⟩;rw [<- hx1];have a2S:Below x0.heap.size x0 x1:=by rw [hx1];exact bA
 have a0T:Hid (Cl x1 x0.heap.size 35 [.string ⟨#[]⟩,.string ⟨#[]⟩,.string ⟨#[]⟩]):=by show Cl _ _ _ _;rw [hx1];exact F3 x0 _ 35
 clear hx1;have L1:=L0.trans (a2S.mono O0);have hz1:=L1.size;clear hH;refine hK.out _ _ ?_ fun hH=>?_
 · exact ⟨(L1.cell (p:=⟨kb,1,none⟩) hkl).trans c1,(L1.cell (p:=⟨b6,4,none⟩) hbl).trans cO⟩
 clear hK K
 try simp only [qq]
 refine rq 6 fun K hK=>?_;go_simp;refine (G.c40 pa pc ms nm x1 hml (OT.out x1 L1) hasc).mono ?_;rintro e x2 ⟨⟨y,th,rfl,hy⟩,TL⟩;have HY:=Q0 hy;clear hy;go_simp;have L2:=L1.trans (TL.mono O0);have zY:=Q0 (a0T.out.below TL a0T.out.lt);clear hH;refine hK.out _ _ ?_ fun hH=>?_
 · exact ⟨(L2.cell (p:=⟨kb,1,none⟩) hkl).trans c1,(L2.cell (p:=⟨b6,4,none⟩) hbl).trans cO⟩
 clear hK K;refine tq 7 hH ?_;refine tq 8 hH ?_;refine tq 9 hH ?_
 try simp only [qq]
 refine rq 11 fun K hK=>?_;refine Xe rfl 35 _ _ rfl (B:=x0.heap.size) (j:=0) rfl (vs:=[.string y.nm,.string y.tl,.string y.ar]) rfl zY.out U0 (by intro v hv;simp at hv;rcases hv with rfl | rfl | rfl <;> rfl) I1 ?_;intro x9 KU ho9;have L9:=L2.trans (ho9.below O0);clear hH;refine hK.out _ _ ?_ fun hH=>?_
 · exact ⟨(L9.cell (p:=⟨kb,1,none⟩) hkl).trans c1,(L9.cell (p:=⟨b6,4,none⟩) hbl).trans cO⟩
 clear hK K;refine tq 12 hH ?_
 try simp only [qq]
 refine wpAnyH_done I1 ?_ _;refine uM _ _ _ _ _ _ _ _ _ _ x0.heap.size y th x9 L9 KU O0 HY.out
open G (Q6)
open G.T (F2 L6 Y3 U3)
theorem Qk {ms:List M3} (h:w.ownsRow base 35 3 v ms.length (G.F5 ms)):∃ a c,v=.slice a ms.length c/\G.Ab w a ms:=by
 exact G.U6 h
theorem nA (f:Fx) (E:Env) (hf:Rx f E) (n:Nat) (H48:xI f E n):mJ f E n:=by
 intro g i x w hs hl hi hn;have yM:l8 E:=by rw [hf.hE];exact qc hf.tr hf.pt
 have hxa:=(hl.act i x hi).2 rfl;have hov:=(hl.non i x hi (by rw [hxa];simp)).1;have hmk:=yM.ms _ (hl.mem i x hi);have hri:=Y_ yM (hl.his i x hi) hmk;have hnm:=(hri.name hov).1;obtain ⟨pa,pc,hpv,_⟩:=Qk hs.pl;have zW:=Q0 hpv;have OT:Hid (∀ u {g'},U_ f g' u->G.Ab u pa f.ms):=fun u g' h=>by
  obtain ⟨a,c,h1,h2⟩:=Qk h.pl;rw [hpv] at h1;have:pa=a:=by injection h1
  rw [this];exact h2
 obtain ⟨t,HT⟩:∃ t,Hid (tn x.k.m x.ls=t):=⟨_,rfl⟩;rw [HT.out] at hov hnm ⊢;obtain ⟨o,tc,tt,th,IL,ts⟩:=t;dsimp only at hov hnm;subst hov;rw [show (TN.v ⟨false,tc,tt,th,IL,ts⟩)=.agg #[.bool false,.int .i64 tc,.string tt,.bool th,.string IL,.int .i64 ts] from rfl];have HNM:=Q0 hnm;have JL:=Q0 hs;have HL1:Hid (Md E { g with ow:=X7 g.ow w.heap.size } (some i)):=Q0 ⟨hl.mem,hl.inj,hl.his,hl.fin,hl.non,hl.act,hl.iM,hl.qN,hl.EN,hl.FN,hl.VL,hl.iN⟩;have HI:=Q0 hi;have HF:=Q0 hf;have ZR:=Q0 hn;have wM:=Q0 yM;have H48:=Q0 H48;obtain ⟨w1,hw1⟩:∃ u:World,u=w.alloc (.cells #[.bool false,.int .i64 tc,.string tt,.bool th,.string IL,.int .i64 ts] 42):=⟨_,rfl⟩;have HW1:=Q0 hw1;have hb1:Below w.heap.size w w1:=by rw [hw1];exact bA
 have C6:Hid (Cl w1 w.heap.size 42 [.bool false,.int .i64 tc,.string tt,.bool th,.string IL,.int .i64 ts]):=by show Cl _ _ _ _;rw [hw1];exact F3 w _ 42
 have NL:Hid (U_ f { g with ow:=X7 g.ow w.heap.size } w1):=Q0 ((hs.X7 w.heap.size Q8).grow hb1);have HB1:Hid (Below f.base w w1):=Q0 (hb1.mono hs.sz);have a0U:=Q0 hb1;have j3:w1.cell? ⟨w.heap.size,3,none⟩=some (.bool th):=C6.out.cell 3;clear hs hl hi hf hn yM hmk hri hnm hw1 hb1 hpv;go_enter func80,ntmps80;rw [show pt f.kb=.pointer (some ⟨f.kb,0,none⟩) from rfl,show pt x.k.B=.pointer (some ⟨x.k.B,0,none⟩) from rfl,show x.k.go=.func (.func 78) #[] #[.pointer (some ⟨x.k.c5,0,none⟩),.pointer (some ⟨x.k.ML,0,none⟩),.pointer (some ⟨x.k.FM,0,none⟩),.pointer (some ⟨x.k.c2,0,none⟩),.pointer (some ⟨x.k.fM,0,none⟩)] from rfl]
 go_upto_region 1 with fail
 rw [<- HW1.out];clear HW1;cases th;rotate_left
 · go_upto_region 2 with fail
   refine P7 (S:=fun u=>Cl u f.kb 90 (b_ f g.rv)/\Cl u w.heap.size 42 [.bool false,.int .i64 tc,.string tt,.bool true,.string IL,.int .i64 ts]) 12 I1 ?_ fun hH=>?_
   · exact ⟨NL.out.kb,C6.out⟩
   obtain ⟨y0,hy0⟩:∃ x:World,x=w1.drew:=⟨_,rfl⟩;rw [<- hy0] at hH ⊢;have hby:Below w1.heap.size w1 y0:=by rw [hy0];exact (Below.refl _ w1).drew
   have mR:=Q0 (NL.out.grow hby);have aR:=Q0 (C6.out.below hby C6.out.lt);have IM:Hid (Below f.base w y0):=Q0 (HB1.out.trans (hby.mono (by have:=HB1.out.size;have:=JL.out.sz;omega)));have KZ:Hid (Below w.heap.size w y0):=Q0 (bT a0U.out hby);clear hy0 hby
   refine l2 0 hH ?_
   try simp only [qq]
   refine l2 1 hH ?_
   try simp only [qq]
   refine l2 2 hH ?_
   try simp only [qq]
   refine l2 3 hH ?_
   try simp only [qq]
   refine l2 4 hH ?_ (v:=?_) (hv:=?e)
   case e=>intro wq hSw;(try dsimp only at hSw);have d0:wq.cell? ⟨f.kb,0,none⟩=some (.slice f.ta f.fs.length f.tc):=hSw.1.cell 0;have d1:wq.cell? ⟨f.kb,1,none⟩=some (.slice pa f.ms.length pc):=(hSw.1.cell 1).trans (congrArg some zW.out);have d4:wq.cell? ⟨w.heap.size,4,none⟩=some (.string IL):=hSw.2.cell 4;go_simp;try with_reducible rfl
   try simp only [qq]
   refine l2 5 hH ?_
   try simp only [qq]
   refine l2 6 hH ?_
   try simp only [qq]
   refine l2 7 hH ?_
   try simp only [qq]
   refine l2 8 hH ?_ (v:=?_) (hv:=?e)
   case e=>intro wq hSw;(try dsimp only at hSw);have d0:wq.cell? ⟨f.kb,0,none⟩=some (.slice f.ta f.fs.length f.tc):=hSw.1.cell 0;have d1:wq.cell? ⟨f.kb,1,none⟩=some (.slice pa f.ms.length pc):=(hSw.1.cell 1).trans (congrArg some zW.out);have d4:wq.cell? ⟨w.heap.size,4,none⟩=some (.string IL):=hSw.2.cell 4;go_simp;try with_reducible rfl
   try simp only [qq]
   refine l2 9 hH ?_
   try simp only [qq]
   refine l2 10 hH ?_ (v:=?_) (hv:=?e)
   case e=>intro wq hSw;(try dsimp only at hSw);have d0:wq.cell? ⟨f.kb,0,none⟩=some (.slice f.ta f.fs.length f.tc):=hSw.1.cell 0;have d1:wq.cell? ⟨f.kb,1,none⟩=some (.slice pa f.ms.length pc):=(hSw.1.cell 1).trans (congrArg some zW.out);have d4:wq.cell? ⟨w.heap.size,4,none⟩=some (.string IL):=hSw.2.cell 4;go_simp;try with_reducible rfl
   try simp only [qq]
   refine lr (i:=11) (o:=⟨some 24,.call ⟨.value (.func 118),#[.tmp 17,.tmp 21,.tmp 23],#[25,84,9]⟩,31,_,_,none⟩) rfl J3 I1 fun K hK=>?_;go_simp;refine (oJ f.ta pa f.tc pc f.fs f.ms IL y0 HF.out.tr.1 (G.T.X0 HF.out.fa (mR.out.bl.mono Q8)) (G.T.Gm HF.out.tr) (Nat.le_trans (Ba HF.out.pt) J3) (OT.out y0 mR.out) (G.mg HF.out.pt)).mono ?_;rintro e y1 ⟨rfl,hb1⟩;have zO:=Q0 (mR.out.grow hb1);have AY:=Q0 (aR.out.below hb1 aR.out.lt);have DY:Hid (Below w.heap.size w y1):=Q0 (bT KZ.out hb1);have HBZ:Hid (Below f.base w y1):=Q0 (IM.out.trans (hb1.mono (by have:=IM.out.size;have:=JL.out.sz;omega)));go_simp;clear hH;refine hK.out _ _ ?_ fun hH=>?_
   · exact ⟨zO.out.kb,AY.out⟩
   clear hK K hb1
   try simp only [qq]
   refine lz (o:=⟨some 25,.call ⟨.value (.tmp 13),#[.tmp 24],#[31]⟩,0,_,_,none⟩) rfl I1 fun K hK=>?_;go_simp;refine (H48.out _ i x ⟨(Ii f.fs f.ms IL).1,(Ii f.fs f.ms IL).2⟩ y1 zO.out HL1.out HI.out ZR.out (by rw [HT.out,HF.out.hE];exact .inl ⟨rfl,rfl⟩)).mono ?_;rintro e y2 ⟨rfl,g',ha,_⟩;have dQ:Hid (∃ g',dC f E g g' w y2):=Q0 ⟨g',ha.RP,ha.pU,ha.ext,ha.Zd,HBZ.out.trans ha.bl,fun k hk he=>by
    obtain ⟨h1,h2⟩:=ha.kp k (Nat.lt_of_lt_of_le hk DY.out.size) ((I5 hk).trans he);exact ⟨h1.trans (DY.out.block k hk),h2⟩⟩
   clear ha;go_simp;clear hH;refine hK.out _ _ ?_;clear hK K
   try simp only [qq]
   refine F9 I1 ?_ _;go_wp2;refine bodyPost_ret (results_none rfl _ _ _) rfl ?_;exact ⟨rfl,dQ.out⟩
 have c1:=(NL.out.kb.cell 1).trans (congrArg some zW.out);have cO:w1.cell? ⟨w.heap.size,4,none⟩=some (.string IL):=C6.out.cell 4
 go_upto_region 3 with fail
 refine yI f.kb w.heap.size pa pc f.ms IL w1 _ _ _ _ _ _ _ _ _ _ _ _ _ _ _ _ _ _ _ _ _ _ _ _ _ _ _ _ _ _ _ _ _ _ _ _ _ _ _ _ _ _ _ _ _ _ _ _ _ _ _ _ _ _ _ _ _ _ _ _ _ _ _ _ _ _ _ _ _ _ _ _ _ _ _ _ _ _ _ _ _ _ _ ?hq1 c1 cO NL.out.kb.lt C6.out.lt (Nat.le_trans (Ba HF.out.pt) J3) (Q0 (fun u hb=>G.Ob (OT.out w1 NL.out) hb)) (G.mg HF.out.pt) ?vZ
 case hq1=>exact fun _ _ d _ _ h=>by cases d <;> exact h
 intro t26 t27 t28 t29 t30 t31 t32 t33 t34 t35 b8 y mth w2 hb2 hc8 fO hy;have HS2:=Q0 (NL.out.grow hb2);have TP:=Q0 (C6.out.below hb2 C6.out.lt);have C8:Hid (Cl w2 b8 35 [.string y.nm,.string y.tl,.string y.ar]):=Q0 hc8;have HB2:Hid (Below f.base w w2):=Q0 (HB1.out.trans (hb2.mono (by have:=HB1.out.size;have:=JL.out.sz;omega)));have hz2:w.heap.size<w2.heap.size:=TP.out.lt;have EY:Hid (Below w.heap.size w w2):=Q0 (bT a0U.out hb2);clear c1 cO hb2 hc8 j3 C6 NL HB1;cases mth
 · have hy:G.bg f.ms IL:=by
    rcases hy with ⟨h,_⟩ | ⟨_,h⟩
    · cases h
    exact h
   go_upto_region 5 with fail
   refine P7 (S:=fun u=>Cl u f.kb 90 (b_ f g.rv)/\Cl u w.heap.size 42 [.bool false,.int .i64 tc,.string tt,.bool false,.string IL,.int .i64 ts]) 8 I1 ?_ fun hH=>?_
   · exact ⟨HS2.out.kb,TP.out⟩
   obtain ⟨y0,hy0⟩:∃ x:World,x=w2.drew:=⟨_,rfl⟩;rw [<- hy0] at hH ⊢;have hby:Below w2.heap.size w2 y0:=by rw [hy0];exact (Below.refl _ w2).drew
   have mR:=Q0 (HS2.out.grow hby);have aR:=Q0 (TP.out.below hby TP.out.lt);have IM:Hid (Below f.base w y0):=Q0 (HB2.out.trans (hby.mono (by have:=HB2.out.size;have:=JL.out.sz;omega)));have KZ:Hid (Below w.heap.size w y0):=Q0 (bT EY.out hby);clear hy0 hby
   refine l2 0 hH ?_
   try simp only [qq]
   refine l2 1 hH ?_
   try simp only [qq]
   refine l2 2 hH ?_
   try simp only [qq]
   refine l2 3 hH ?_
   try simp only [qq]
   refine l2 4 hH ?_ (v:=?_) (hv:=?e)
   case e=>intro wq hSw;(try dsimp only at hSw);have d0:wq.cell? ⟨f.kb,0,none⟩=some (.slice f.ta f.fs.length f.tc):=hSw.1.cell 0;have d1:wq.cell? ⟨f.kb,1,none⟩=some (.slice pa f.ms.length pc):=(hSw.1.cell 1).trans (congrArg some zW.out);have d4:wq.cell? ⟨w.heap.size,4,none⟩=some (.string IL):=hSw.2.cell 4;go_simp;try with_reducible rfl
   try simp only [qq]
   refine l2 5 hH ?_
   try simp only [qq]
   refine l2 6 hH ?_ (v:=?_) (hv:=?e)
   case e=>intro wq hSw;(try dsimp only at hSw);have d0:wq.cell? ⟨f.kb,0,none⟩=some (.slice f.ta f.fs.length f.tc):=hSw.1.cell 0;have d1:wq.cell? ⟨f.kb,1,none⟩=some (.slice pa f.ms.length pc):=(hSw.1.cell 1).trans (congrArg some zW.out);have d4:wq.cell? ⟨w.heap.size,4,none⟩=some (.string IL):=hSw.2.cell 4;go_simp;try with_reducible rfl
   try simp only [qq]
   refine lr (i:=7) (o:=⟨some 45,.call ⟨.value (.func 41),#[.tmp 42,.tmp 44],#[25,9]⟩,31,_,_,none⟩) rfl J3 I1 fun K hK=>?_;go_simp;refine (G.UJ f.ta f.tc f.fs IL y0 HF.out.tr.1 (G.T.X0 HF.out.fa (mR.out.bl.mono Q8)) (G.T.Gm HF.out.tr)).mono ?_;rintro e y1 ⟨h43,hb1⟩;obtain ⟨r,he,hpl⟩:=Rs HF.out.tr h43 hy;obtain ⟨rc,rt⟩:=r;have he':e=.returned (.agg #[.int .i64 rc,.string rt]):=he;subst he';have HPL:=Q0 hpl;have zO:=Q0 (mR.out.grow hb1);have AY:=Q0 (aR.out.below hb1 aR.out.lt);have DY:Hid (Below w.heap.size w y1):=Q0 (bT KZ.out hb1);have HBZ:Hid (Below f.base w y1):=Q0 (IM.out.trans (hb1.mono (by have:=IM.out.size;have:=JL.out.sz;omega)));clear h43 he hpl;go_simp;clear hH;refine hK.out _ _ ?_ fun hH=>?_
   · exact ⟨zO.out.kb,AY.out⟩
   clear hK K hb1
   try simp only [qq]
   refine lz (o:=⟨some 46,.call ⟨.value (.tmp 38),#[.tmp 45],#[31]⟩,0,_,_,none⟩) rfl I1 fun K hK=>?_;go_simp;refine (H48.out _ i x ⟨rc,rt⟩ y1 zO.out HL1.out HI.out ZR.out (by rw [HT.out];exact .inr ⟨rfl,.inl (by rw [HF.out.hE];exact HPL.out)⟩)).mono ?_;rintro e y2 ⟨rfl,g',ha,_⟩;have dQ:Hid (∃ g',dC f E g g' w y2):=Q0 ⟨g',ha.RP,ha.pU,ha.ext,ha.Zd,HBZ.out.trans ha.bl,fun k hk he=>by
    obtain ⟨h1,h2⟩:=ha.kp k (Nat.lt_of_lt_of_le hk DY.out.size) ((I5 hk).trans he);exact ⟨h1.trans (DY.out.block k hk),h2⟩⟩
   clear ha;go_simp;clear hH;refine hK.out _ _ ?_;clear hK K
   try simp only [qq]
   refine F9 I1 ?_ _;go_wp2;refine bodyPost_ret (results_none rfl _ _ _) rfl ?_;exact ⟨rfl,dQ.out⟩
 obtain ⟨iy,NZ,OZ,hny⟩:∃ i,i<f.ms.length/\f.ms.getD i X6=y/\y.nm=IL:=by
  rcases hy with ⟨_,h⟩ | ⟨h,_⟩
  · exact h
  cases h
 clear hy;have SY:toM y∈E.ms:=by rw [HF.out.hE];exact Hd.2 ⟨iy,NZ,by rw [OZ]⟩
 have HPN:Hid (E.pl IL=none):=Q0 ((wM.out.made IL).2 ⟨toM y,SY,hny⟩);have HME:=Q0 SY;have aV:=Q0 hny;have hms:E.ms.length<=30:=by rw [HF.out.hE];show (f.ms.map toM).length<=30;rw [List.length_map];exact Ba HF.out.pt
 have hrl:g.rs.length<=30:=HL1.out.len hms;have YQ:g.q.length<=30:=by
  have:=Qh (l:=g.q.map It.i) HL1.out.qN (n:=g.rs.length) (fun j hj=>by
   obtain ⟨it,hit,rfl⟩:=List.mem_map.1 hj;exact JL.out.TM it hit)
  simp at this;omega
 have HC:=Q0 (XJ f E HF.out { g with ow:=X7 g.ow w.heap.size } (toM y) w2 HS2.out (by show y.nm.size<=20;rw [aV.out];exact z_ HNM.out) (by show g.rs.length<=1000;omega) (by show g.q.length<=1000;omega));have e0:w2.cell? ⟨b8,0,none⟩=some (.string y.nm):=C8.out.cell 0;have e1:w2.cell? ⟨b8,1,none⟩=some (.string y.tl):=C8.out.cell 1;have e2:w2.cell? ⟨b8,2,none⟩=some (.string y.ar):=C8.out.cell 2;clear NZ OZ hny SY hrl YQ
 go_wp2_with fail
 refine HC.out.mono ?_;rintro e w3 ⟨g',j,z,rfl,hs3,UR,hgj,hb3,hkp⟩;rw [show pt z.k.B=.pointer (some ⟨z.k.B,0,none⟩) from rfl];obtain ⟨hL3,hzm,hext,lU⟩:=HL1.out.kK wM.out JL.out.TM HME.out UR hgj (fun i' e=>by cases e;exact (List.getElem?_eq_some_iff.1 HI.out).1) hms;have FR:=Q0 hL3;have gM:=Q0 hs3;have nZ:=Q0 hzm;have a0V:=Q0 hext;have a0W:=Q0 lU;have a0X:Hid (g'.rs.length<=30):=Q0 (hL3.len hms);have kQ:=Q0 hgj;have HI3:=Q0 (hext i x HI.out);have HB3:=Q0 (HB2.out.trans hb3);have FO:w3.cell? ⟨z.k.B,6,none⟩=some (.int .i64 z.r.code):=(hs3.ru j z hgj).hB.cell 6;have hz7:w3.cell? ⟨z.k.B,7,none⟩=some (.string z.r.tx):=(hs3.ru j z hgj).hB.cell 7;have vY:Hid (Cl w3 w.heap.size 42 [.bool false,.int .i64 tc,.string tt,.bool false,.string IL,.int .i64 ts]):=Q0 ((hkp w.heap.size TP.out.lt (L8 Q8)).1.trans TP.out);have a0Y:Hid (∀ k,k<w.heap.size->g.ow k=none->w3.heap[k]?=w.heap[k]?/\g'.ow k=none):=fun k hk he=>by
  obtain ⟨h1,h2⟩:=hkp k (Nat.lt_of_lt_of_le hk EY.out.size) ((I5 hk).trans he);exact ⟨h1.trans (EY.out.block k hk),h2⟩
 have hz3:w.heap.size<w3.heap.size:=vY.out.lt;clear hs3 UR hgj hb3 hkp hL3 hzm hext lU HC e0 e1 e2 hms;by_cases hc6:z.r.code=6;rotate_left
 · have hfin:=Classical.byContradiction fun h=>hc6 (by rw [(FR.out.non j z kQ.out h).2])
   have hrr:=FR.out.fin j z kQ.out hfin;have NW:Hid (Ro E (tn x.k.m x.ls) z.r):=by
    rw [HT.out];exact .inr ⟨rfl,.inr ⟨HPN.out,z.k.m,z.ls,FR.out.mem j z kQ.out,by rw [nZ.out];exact aV.out,FR.out.his j z kQ.out,hrr.1.1,hrr.2⟩⟩
   have hne:(z.r.code !=6)=true:=by simpa using hc6
   clear hfin hrr hc6
   go_wp2_with fail
   refine (H48.out g' i x z.r w3 gM.out FR.out HI3.out ZR.out NW.out).mono ?_;rintro e w4 ⟨rfl,g2,ha,_⟩;have dQ:Hid (∃ g',dC f E g g' w w4):=Q0 ⟨g2,ha.RP,ha.pU,fun k u hu=>ha.ext k u (a0V.out k u hu),Nat.le_trans ha.Zd a0W.out,HB3.out.trans ha.bl,fun k hk he=>by
    obtain ⟨h1,h2⟩:=a0Y.out k hk he;obtain ⟨h3,h4⟩:=ha.kp k O0 h2;exact ⟨h3.trans h1,h4⟩⟩
   clear ha;go_wp2;refine bodyPost_ret (results_none rfl _ _ _) rfl ?_;exact ⟨rfl,dQ.out⟩
 have hzf:z.GL≠.fin:=fun h=>by
  obtain ⟨h1,h2⟩:=FR.out.fin j z kQ.out h;have h3:=(Y_ wM.out (FR.out.his j z kQ.out) (wM.out.ms _ (FR.out.mem j z kQ.out))).over h1.1;refine Ez (r:=jg (tn z.k.m z.ls)) h3 ?_;rw [<- h2];exact hc6
 have HZF:=Q0 hzf;have DY:Hid (z.wl.length<=30):=by
  have:=Qh (FR.out.iN j z kQ.out hzf).1 (n:=g'.rs.length) (fun k hk=>gM.out.DN j z kQ.out k hk);have:=a0X.out;show _<=_;omega
 have eO:=gM.out.ru i x HI3.out;have q8:w3.cell? ⟨x.k.B,8,none⟩=some (.string x.wt):=eO.hB.cell 8;have f8:=eO.hB.opn 8;have q4:w3.cell? ⟨w.heap.size,4,none⟩=some (.string IL):=vY.out.cell 4;rw [hc6] at FO
 go_upto_region 10 with fail
 have hon:=F8 w3 x.k.B 8 (.string IL);have hcB:=eO.hB.set 8 (.string IL);generalize (w3.setCell ⟨x.k.B,8,none⟩ (.string IL))=w4 at*;have lQ:g'.ow x.k.B=some (.run i):=gM.out.kM i x HI3.out _ (.inl U0);have EO:Hid (U_ f { g' with rs:=g'.rs.set i { x with wt:=IL,GL:=.VL j } } w4):=Q0 (gM.out.run (x':={ x with wt:=IL,GL:=.VL j }) HI3.out (hon.ex (S:=fun k=>g'.ow k=some (.run i)) lQ) (eO.yG hon hcB rfl rfl rfl rfl rfl) (fun k hk=>gM.out.kM i x HI3.out k (zq.of (x:=x) rfl rfl rfl rfl hk)) rfl rfl rfl);have hnB:w.heap.size≠x.k.B:=by have:=(JL.out.ru i x HI.out).hB.lt;omega
 have C64:=Q0 (vY.out.on hon hnB);have a0Z:Hid (∀ k,k<w.heap.size->g.ow k=none->w4.heap[k]?=w.heap[k]?/\g'.ow k=none):=fun k hk he=>by
  obtain ⟨h1,h2⟩:=a0Y.out k hk he;exact ⟨(hon.block k (fun e=>by rw [e,lQ] at h2;cases h2)).trans h1,h2⟩
 have mM:Hid (Below f.base w w4):=Q0 (HB3.out.trans (hon.below (by exact gM.out.rM _ _ lQ)));obtain ⟨z4,zN,PP,a1a,FY,a1b,a1c,qO,DV⟩:∃ z4,(g'.rs.set i { x with wt:=IL,GL:=.VL j })[j]?=some z4/\z4.k=z.k/\z4.wv=z.wv/\z4.wl=z.wl/\z4.ls=z.ls/\z4.st=z.st/\z4.r=z.r/\z4.GL=if j=i then .VL j else z.GL:=by
  obtain ⟨u,hu,⟨rfl,rfl⟩ | ⟨rfl,hne⟩⟩:=P_ (x':={ x with wt:=IL,GL:=.VL j }) HI3.out kQ.out
  · have:=kQ.out
    rw [HI3.out] at this;obtain rfl:=Option.some.inj this;exact ⟨_,hu,rfl,rfl,rfl,rfl,rfl,rfl,U0⟩
  exact ⟨u,hu,rfl,rfl,rfl,rfl,rfl,rfl,by rw [if_neg (fun c=>hne c.symm)]⟩
 have PU:=Q0 zN;have HZP:=Q0 (And.intro PP (And.intro a1a (And.intro FY (And.intro a1b (And.intro a1c (And.intro qO DV))))));have HWV:Hid ((U9 g'.lw IL).getD (.slice none 0 0)=z4.wv):=by
  have:=EO.out.kw j z4 zN;rw [PP,nZ.out,show (toM y).nm=y.nm from rfl,aV.out] at this;exact this
 have a2T:Hid (z4.wl.length<=30):=by rw [FY];exact DY.out
 have hnl:IL.size<=maxLen:=by have:=z_ HNM.out;unfold maxLen;omega
 clear q8 f8 q4 FO hz7 hon hcB eO hc6 zN PP a1a FY a1b a1c qO DV hzf lQ;refine P7 (S:=fun u=>Cl u f.kb 90 (b_ f g'.rv)/\Cl u w.heap.size 42 [.bool false,.int .i64 tc,.string tt,.bool false,.string IL,.int .i64 ts]/\u.ownsMap prog 9 Z8 f.mw g'.lw.length (mapD g'.lw)) 16 I1 ?_ fun hH=>?_
 · exact ⟨EO.out.kb,C64.out,EO.out.mw⟩
 obtain ⟨y0,hy0⟩:∃ x:World,x=w4.drew:=⟨_,rfl⟩;rw [<- hy0] at hH ⊢;have hby:Below w4.heap.size w4 y0:=by rw [hy0];exact (Below.refl _ w4).drew
 have mR:=Q0 (EO.out.grow hby);have a2U:Hid (∀ k,k<w.heap.size->g.ow k=none->y0.heap[k]?=w.heap[k]?/\g'.ow k=none):=fun k hk he=>⟨(hby.block k (Nat.lt_trans hk C64.out.lt)).trans (a0Z.out k hk he).1,(a0Z.out k hk he).2⟩;have aR:=Q0 (C64.out.below hby C64.out.lt);have IM:Hid (Below f.base w y0):=Q0 (mM.out.trans (hby.mono (by have:=mM.out.size;have:=JL.out.sz;omega)));clear hy0 hby
 refine lq 0 hH ?_
 try simp only [qq]
 refine lq 1 hH ?_
 try simp only [qq]
 refine lq 2 hH ?_
 try simp only [qq]
 refine lq 3 hH ?_ (v:=?_) (hv:=?e)
 case e=>intro wq hSw;(try dsimp only at hSw);have d3:wq.cell? ⟨f.kb,3,none⟩=some (.map (some f.mw)):=hSw.1.cell 3;have d4:wq.cell? ⟨w.heap.size,4,none⟩=some (.string IL):=hSw.2.1.cell 4;go_simp;try with_reducible rfl
 try simp only [qq]
 refine lq 4 hH ?_
 try simp only [qq]
 refine lq 5 hH ?_ (v:=?_) (hv:=?e)
 case e=>intro wq hSw;(try dsimp only at hSw);have d3:wq.cell? ⟨f.kb,3,none⟩=some (.map (some f.mw)):=hSw.1.cell 3;have d4:wq.cell? ⟨w.heap.size,4,none⟩=some (.string IL):=hSw.2.1.cell 4;go_simp;try with_reducible rfl
 try simp only [qq]
 refine lq 6 hH ?_
 try simp only [qq]
 refine lq 7 hH ?_
 try simp only [qq]
 refine lq 8 hH ?_
 try simp only [qq]
 refine lq 9 hH ?_ (v:=?_) (hv:=?e)
 case e=>intro wq hSw;(try dsimp only at hSw);have d3:wq.cell? ⟨f.kb,3,none⟩=some (.map (some f.mw)):=hSw.1.cell 3;have d4:wq.cell? ⟨w.heap.size,4,none⟩=some (.string IL):=hSw.2.1.cell 4;go_simp;try with_reducible rfl
 try simp only [qq]
 refine lq 10 hH ?_
 try simp only [qq]
 refine lq 11 hH ?_ (v:=?_) (hv:=?e)
 case e=>intro wq hSw;(try dsimp only at hSw);have d3:wq.cell? ⟨f.kb,3,none⟩=some (.map (some f.mw)):=hSw.1.cell 3;have d4:wq.cell? ⟨w.heap.size,4,none⟩=some (.string IL):=hSw.2.1.cell 4;go_simp;try with_reducible rfl
 try simp only [qq]
 refine lk (i:=12) (oi:=⟨some 81,.lookup 87 (.tmp 78) (.tmp 80) false,190,_,_,none⟩) (v:=z4.wv) rfl I1 rfl ?e hH ?_
 case e=>intro wq hSw;exact qp 87 _ _ false rfl (v:=.map (some f.mw)) (z:=.string IL) rfl rfl ((uB hSw.2.2 hnl).trans (by rw [HWV.out]))
 try simp only [qq]
 refine lq 13 hH ?_
 try simp only [qq]
 refine lr (i:=14) (o:=⟨some 83,.buildSlice 190 1 #[(0,.tmp 82)],190,_,_,none⟩) rfl J3 I1 fun K hK=>?_;go_simp;obtain ⟨y1,hy1⟩:∃ uu:World,uu=y0.alloc (.cells #[.func (.func 78) #[] #[.pointer (some ⟨x.k.c5,0,none⟩),.pointer (some ⟨x.k.ML,0,none⟩),.pointer (some ⟨x.k.FM,0,none⟩),.pointer (some ⟨x.k.c2,0,none⟩),.pointer (some ⟨x.k.fM,0,none⟩)]] 145):=⟨_,rfl⟩;rw [<- hy1];have RL:Below y0.heap.size y0 y1:=by rw [hy1];exact bA
 have CL:Hid (Cl y1 y0.heap.size 145 [x.k.go]):=by show Cl _ _ _ _;rw [hy1];exact F3 y0 _ 145
 have zO:=Q0 (mR.out.grow RL);have AY:=Q0 (aR.out.below RL aR.out.lt);have QT:=Q0 RL;clear hy1 hH;refine hK.out _ _ ?_ fun hH=>?_
 · exact ⟨zO.out.kb,AY.out,zO.out.mw⟩
 clear hK K RL
 try simp only [qq]
 refine lr (i:=15) (o:=⟨some 84,.call ⟨.builtin .append,#[.tmp 81,.tmp 83],#[190,190]⟩,190,_,_,none⟩) rfl J3 I1 fun K hK=>?_;refine V9 rfl _ _ 190 rfl f.base 145 1 underlying190 aG J3 z4.wv z4.wl.length _ rfl (zO.out.wr j z4 PU.out) (.slice (some ⟨y0.heap.size,0,none⟩) 1 1) 1 [x.k.go] rfl (.inr ⟨⟨y0.heap.size,0,none⟩,1,rfl,rfl,r_ CL.out⟩) (by intro u hu;simp at hu;subst hu;rfl) (by have:=a2T.out;omega) zO.out.sz ?_;intro wv' y2 O2 g2 at2;have hwo:∀ k,z4.wv.ownBlock=some k->g'.ow k=some (.wt j):=fun k e=>zO.out.oN j z4 PU.out k e;have eP:Hid (Cl y2 f.kb 90 (b_ f g'.rv)):=Q0 (zO.out.kb.gb g2 (fun e=>by have:=hwo _ e.symm;rw [zO.out.jM] at this;cases this));have GY:Hid (y2.ownsMap prog 9 Z8 f.mw g'.lw.length (mapD g'.lw)):=Q0 (Xa zO.out.mw (g2.block _ (I6 zO.out.mw) (fun e=>by have:=hwo _ e.symm;rw [zO.out.nN] at this;cases this)));have a2V:Hid (Cl y2 w.heap.size 42 [.bool false,.int .i64 tc,.string tt,.bool false,.string IL,.int .i64 ts]):=Q0 (AY.out.gb g2 (fun e=>by
  obtain ⟨_,cur,OL⟩:=J2 (zO.out.wr j z4 PU.out) e.symm;exact j6 AY.out OL J3 rfl))
 have FQ:=Q0 O2;have HG2:=Q0 g2;have HA2:=Q0 at2;clear O2 g2 at2 hH;refine hK.out _ _ ?_ fun hH=>?_
 · exact ⟨eP.out,a2V.out,GY.out⟩
 clear hK K
 try simp only [qq]
 refine lz (o:=⟨none,.mapUpdate 87 (.tmp 72) (.tmp 74) (.tmp 84),0,_,_,none⟩) rfl I1 fun K hK=>?_;refine Et rfl 87 _ _ _ rfl (b:=f.mw) (n:=g'.lw.length) (l:=g'.lw) (k:=IL) (vv:=wv') rfl rfl rfl GY.out underlying87 (by have:=sw gM.out.aw gM.out.oO;have:=a0X.out;unfold maxLen;omega) hnl rfl ?_;intro w5 hm5 hg5;have HM5:=Q0 (Dv hm5);have AV:=Q0 hg5;clear hm5 hg5 hH;refine hK.out _ _ ?_;clear hK K
 try simp only [qq]
 refine F9 I1 ?_ _;have dQ:Hid (∃ g2,dC f E g g2 w w5):=by
  have hzn:z4.k.m.nm=IL:=by rw [HZP.out.1,nZ.out];exact aV.out
  have hks:(g'.rs.set i { x with wt:=IL,GL:=.VL j }).map (·.k)=g'.ks:=Gp HI3.out rfl;have hgo:g'.ks.getD i Og=x.k:=by
   show (g'.rs.map (·.k)).getD i Og=x.k;rw [List.getD_eq_getElem?_getD,List.getElem?_map,HI3.out];rfl
  have hpk:=Es gM.out.aw IL wv';have h1:=mR.out.ext y0.heap.size Q8 (.wt j);have hs1:y0.heap.size<=y1.heap.size:=QT.out.size;have hs2:y1.heap.size<=y2.heap.size:=HG2.out.size;have a0x:∀ k,z4.wv.ownBlock=some k->k<y0.heap.size:=fun k e=>F_ (mR.out.wr j z4 PU.out) e;have a3k:=I6 mR.out.mw;have hex:Ex (fun k=>ext g'.ow y0.heap.size (.wt j) k=some .mw\/ext g'.ow y0.heap.size (.wt j) k=some (.wt j)) y0 w5:=by
   refine ⟨AV.out.os.trans (HG2.out.os.trans QT.out.os),AV.out.tape.trans (HG2.out.tape.trans QT.out.tape),AV.out.output.trans (HG2.out.output.trans QT.out.output),Nat.le_trans hs1 (Nat.le_trans hs2 AV.out.size),fun k hk hn=>?_⟩;have hkm:some k≠some f.mw:=fun e=>hn (.inl (by rw [J7 hk,Option.some.inj e];exact gM.out.nN));have yV:some k≠z4.wv.ownBlock:=fun e=>hn (.inr (by rw [J7 hk];exact hwo k e.symm));exact (AV.out.block k O0 hkm).trans ((HG2.out.block k O0 yV).trans (QT.out.block k hk))
  have hr0:y2.ownsRow f.base 145 1 wv' (z4.wl++[i]).length ((z4.wl++[i]).map fun q=>(((g'.rs.set i { x with wt:=IL,GL:=.VL j }).map (·.k)).getD q Og).go):=by
   have:=FQ.out;rw [List.map_append,List.length_append];have e:[i].map (fun q=>(((g'.rs.set i { x with wt:=IL,GL:=.VL j }).map (·.k)).getD q Og).go)=[x.k.go]:=by rw [hks];show [(g'.ks.getD i Og).go]=_;rw [hgo]
   rw [e];exact this
  have hrow:w5.ownsRow f.base 145 1 wv' (z4.wl++[i]).length ((z4.wl++[i]).map fun q=>(((g'.rs.set i { x with wt:=IL,GL:=.VL j }).map (·.k)).getD q Og).go):=by
   refine Y0 hr0 fun k hk=>AV.out.block k (F_ hr0 hk) fun e=>?_;obtain ⟨_,cur,OL⟩:=J2 hr0 hk;obtain ⟨es,ck,hmm⟩:=Ee GY.out;rw [Option.some.inj e,hmm] at OL;cases OL
  have hxl:=(List.getElem?_eq_some_iff.1 HI3.out).1;have hs5:=h1.wait (j:=j) (y:=z4) (wv':=wv') (vP:=z4.wl++[i]) PU.out hex HM5.out hpk.1 (fun n=>by rw [hpk.2 n,hzn]) hrow (fun k e=>by
   rcases HA2.out with h | h
   · rw [h] at e
     exact (J7 (a0x k e)).trans (hwo k e)
   · rw [h] at e
     have:=Option.some.inj e;exact mh O0) (fun q hq=>by
   show q<(g'.rs.set i _).length;rw [List.length_set];rcases List.mem_append.1 hq with hq | hq
   · have:=mR.out.DN j z4 PU.out q hq
     rw [List.length_set] at this;exact this
   rw [List.mem_singleton.1 hq];exact hxl)
  have hxt:=HT.out;have hpt:∀ (k:Nat) u,g'.rs[k]?=some u->∃ u',((g'.rs.set i { x with wt:=IL,GL:=.VL j }).set j { z4 with wv:=wv',wl:=z4.wl++[i] })[k]?=some u'/\pI i j (tn x.k.m x.ls).name k u u':=fun k u hu=>by
   obtain ⟨v,hv,hvp⟩:∃ v,(g'.rs.set i { x with wt:=IL,GL:=.VL j })[k]?=some v/\v.k=u.k/\v.ls=u.ls/\v.st=u.st/\(v.r=u.r/\v.wt=if k=i then (tn x.k.m x.ls).name else u.wt)/\v.GL=(if k=i then .VL j else u.GL)/\v.wl=u.wl:=by
    obtain ⟨v,hv,⟨rfl,rfl⟩ | ⟨rfl,hne⟩⟩:=P_ (x':={ x with wt:=IL,GL:=.VL j }) HI3.out hu
    · rw [HI3.out] at hu
      obtain rfl:=Option.some.inj hu;exact ⟨_,hv,rfl,rfl,rfl,⟨rfl,by rw [if_pos rfl,hxt]⟩,U0,rfl⟩
    exact ⟨v,hv,rfl,rfl,rfl,⟨rfl,by rw [if_neg (fun c=>hne c.symm)]⟩,by rw [if_neg (fun c=>hne c.symm)],rfl⟩
   obtain ⟨p1,p2,p3,p4,p5,p6⟩:=hvp;obtain ⟨u',hu',⟨rfl,rfl⟩ | ⟨rfl,hne⟩⟩:=P_ (x':={ z4 with wv:=wv',wl:=z4.wl++[i] }) PU.out hv
   · have:=PU.out
     rw [hv] at this;obtain rfl:=Option.some.inj this;exact ⟨_,hu',p1,p2,p3,p4,p5,by show v.wl++[i]=_;rw [if_pos rfl,p6]⟩
   exact ⟨u',hu',p1,p2,p3,p4,p5,by rw [if_neg (fun c=>hne c.symm)];exact p6⟩
  have hlen:((g'.rs.set i { x with wt:=IL,GL:=.VL j }).set j { z4 with wv:=wv',wl:=z4.wl++[i] }).length=g'.rs.length:=U0;have hL:=FR.out.nK (rs2:=(g'.rs.set i { x with wt:=IL,GL:=.VL j }).set j { z4 with wv:=wv',wl:=z4.wl++[i] }) HI3.out kQ.out (by rw [hxt]) (by rw [hxt];exact HPN.out) HZF.out (by rw [hxt,nZ.out];exact aV.out) hpt (fun k u' hu'=>by
   have hk:k<g'.rs.length:=by rw [<- hlen];exact (List.getElem?_eq_some_iff.1 hu').1
   obtain ⟨u'',h1,h2⟩:=hpt k _ (List.getElem?_eq_getElem hk);rw [hu'] at h1;obtain rfl:=Option.some.inj h1;exact ⟨_,List.getElem?_eq_getElem hk,h2⟩)
  have hp1:=Lf (x':={ x with wt:=IL,GL:=.VL j }) HI3.out;have hp2:=Lf (x':={ z4 with wv:=wv',wl:=z4.wl++[i] }) PU.out;have e1:wh { x with wt:=IL,GL:=.VL j }=wh x:=rfl;have e2:wh { z4 with wv:=wv',wl:=z4.wl++[i] }=wh z4:=rfl;rw [e1] at hp1;rw [e2] at hp2;refine ⟨_,hs5,⟨hL.mem,hL.inj,hL.his,hL.fin,hL.non,hL.act,hL.iM,hL.qN,hL.EN,hL.FN,hL.VL,hL.iN⟩,fun k u hu=>?_,?_,?_,fun k hk he=>?_⟩
  rotate_right
  · obtain ⟨h3,h4⟩:=a2U.out k hk he
    have hky:=Nat.lt_trans hk aR.out.lt;have hxe:ext g'.ow y0.heap.size (.wt j) k=none:=(J7 hky).trans h4;exact ⟨(hex.block k hky (by rw [hxe];simp)).trans h3,hxe⟩
  · obtain ⟨u',h1,h2⟩:=hpt k u (a0V.out k u hu)
    exact ⟨u',h1,h2.1⟩
  · refine Nat.le_trans ?_ a0W.out
    unfold Zd;simp only [hlen];omega
  exact IM.out.trans (hex.below (fun k e=>by rcases e with e | e <;> exact h1.rM k _ e) mR.out.sz)
 go_wp2
 go_end0
 exact ⟨rfl,dQ.out⟩
theorem runs (f:Fx) (E:Env) (hf:Rx f E):∀ n,xI f E n/\mJ f E n
 | 0=>by
  have h:xI f E 0:=fun g i x r w hs hl hi hn ha=>by
   have yM:l8 E:=by rw [hf.hE];exact qc hf.tr hf.pt
   have hxa:=(hl.act i x hi).2 rfl;have hov:=(hl.non i x hi (by rw [hxa];simp)).1;have:=((Y_ yM (hl.his i x hi) (yM.ms _ (hl.mem i x hi))).name hov).2;omega
  exact ⟨h,nA f E hf 0 h⟩
 | n+1=>by
  have h:=yF f E hf n (runs f E hf n).2;exact ⟨h,nA f E hf (n+1) h⟩
theorem gL (f:Fx) (E:Env) (hf:Rx f E) (g:Gh) (i:Nat) (x:Ru) (w:World) (hs:U_ f g w) (hl:Md E g (some i)) (hi:g.rs[i]?=some x):
 Calls prog 81 #[pt x.k.c2,pt x.k.c5,pt x.k.ML,pt x.k.fM] w fun e w'=>e=.returned (.tuple #[])/\∃ g',dC f E g g' w w':=by
 have eO:=hs.ru i x hi;have HC:=Q0 ((runs f E hf 15).2 g i x w hs hl hi O0);obtain ⟨t,HT⟩:∃ t,Hid (tn x.k.m x.ls=t):=⟨_,rfl⟩;have h8:=eO.h8;rw [HT.out] at h8 HC;have d2:w.cell? ⟨x.k.c2,0,none⟩=some (.pointer (some ⟨f.kb,0,none⟩)):=eO.h2.cell 0;have d7:w.cell? ⟨x.k.c5,0,none⟩=some (.pointer (some ⟨x.k.B,0,none⟩)):=eO.h7.cell 0;have d10:w.cell? ⟨x.k.fM,0,none⟩=some (.func (.func 78) #[] #[.pointer (some ⟨x.k.c5,0,none⟩),.pointer (some ⟨x.k.ML,0,none⟩),.pointer (some ⟨x.k.FM,0,none⟩),.pointer (some ⟨x.k.c2,0,none⟩),.pointer (some ⟨x.k.fM,0,none⟩)]):=eO.h10.cell 0;obtain ⟨j0,j1,j2,j3,j4,j5,_⟩:=Y7.cells h8;obtain ⟨o,c,tt,th,IL,ts⟩:=t;clear eO hs hl hi h8;go_enter func81,ntmps81;rw [show pt x.k.c5=.pointer (some ⟨x.k.c5,0,none⟩) from rfl,show pt x.k.ML=.pointer (some ⟨x.k.ML,0,none⟩) from rfl,show pt x.k.c2=.pointer (some ⟨x.k.c2,0,none⟩) from rfl,show pt x.k.fM=.pointer (some ⟨x.k.fM,0,none⟩) from rfl];dsimp only at j0 j1 j2 j3 j4 j5
 go_wp2_with fail
 refine HC.out.mono ?_;rintro e w1 ⟨rfl,ha⟩;have HA:=Q0 ha;clear ha;go_wp2
 go_end0
 exact ⟨rfl,HA.out⟩
theorem c117 (f:Fx) (E:Env) (hf:Rx f E) (g:Gh) (i:Nat) (x:Ru) (r:R2) (b7 b5:Nat) (w:World) (hs:U_ f g w) (hl:Md E g (some i)) (hi:g.rs[i]?=some x) (ha:Ro E (tn x.k.m x.ls) r) (h7:Cl w b7 145 [x.k.go]) (h5:Cl w b5 31 [.int .i64 r.code,.string r.tx]):
 Calls prog 117 #[pt b7,pt b5] w fun e w'=>e=.returned (.tuple #[])/\∃ g',dC f E g g' w w'/\Zd g'<Zd g:=by
 have HC:=Q0 ((runs f E hf 15).1 g i x r w hs hl hi O0 ha);have d7:w.cell? ⟨b7,0,none⟩=some (.func (.func 78) #[] #[.pointer (some ⟨x.k.c5,0,none⟩),.pointer (some ⟨x.k.ML,0,none⟩),.pointer (some ⟨x.k.FM,0,none⟩),.pointer (some ⟨x.k.c2,0,none⟩),.pointer (some ⟨x.k.fM,0,none⟩)]):=h7.cell 0;have d0:w.cell? ⟨b5,0,none⟩=some (.int .i64 r.code):=h5.cell 0;have d1:w.cell? ⟨b5,1,none⟩=some (.string r.tx):=h5.cell 1;clear hs hl hi ha h7 h5;go_enter func117,ntmps117;rw [show pt b7=.pointer (some ⟨b7,0,none⟩) from rfl,show pt b5=.pointer (some ⟨b5,0,none⟩) from rfl]
 go_wp2_with fail
 refine HC.out.mono ?_;rintro e w1 ⟨rfl,ha⟩;have HA:=Q0 ha;clear ha;go_wp2
 go_end0
 exact ⟨rfl,HA.out⟩
end Go.Proofs.YtdpoaadafcaffaaGreatDoor

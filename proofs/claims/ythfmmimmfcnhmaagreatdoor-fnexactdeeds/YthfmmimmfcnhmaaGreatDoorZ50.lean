import Derived.Test.YthfmmimmfcnhmaaGreatDoorZ49
set_option linter.unusedVariables false
set_option maxHeartbeats 8000000
set_option maxRecDepth 100000
namespace Go.Proofs.YthfmmimmfcnhmaaGreatDoor
open Proofs.Tryz
open Go.RowKit
variable {u u' w:World} {base kb:Nat} {x:Ru} {t:TN} {s:RS} {lv' v:Value}
theorem Ex.trans2 {S S2:Nat->Prop} {a b c:World} (h:Ex S a b) (k:Ex S2 b c) (hs:∀ q,q<a.heap.size->S2 q->S q):Ex S a c:=⟨k.os.trans h.os,k.tape.trans h.tape,k.output.trans h.output,Nat.le_trans h.size k.size,fun q hq hn=>(k.block q (Nat.lt_of_lt_of_le hq h.size) (fun e=>hn (hs q hq e))).trans (h.block q hq hn)⟩
theorem RuAt.look {u1 u2 u3:World} {ls':List M.L4} (h:RuAt base kb x t s u) (hb:Below u.heap.size u u1) (hg:u1.grownBy u2 x.lv.ownBlock) (hr:u2.ownsRow base 98 4 lv' ls'.length (lkCells ls')) (ho:OnB x.k.B u2 u3) (hc:Cl u3 x.k.B 95 ({ x with lv:=lv',ls:=ls' }:Ru).cells):RuAt base kb { x with lv:=lv',ls:=ls' } t s u3:=by
 have hu2:Cl u2 x.k.B 95 x.cells:=((h.hB.below hb h.hB.lt).gb hg (fun e=>by
  obtain ⟨_,cur,hcu⟩:=own_block h.lk e.symm
  exact blk_ne h.hB hcu (by decide) rfl))
 have k1:∀ {b:Nat} {t:TypeId} {xs:Array Value},u.heap[b]?=some (.cells xs t (0,0))->t≠95->t≠98->u3.heap[b]?=some (.cells xs t (0,0)):=fun {b t xs} hb' ht ht2=>by
  have hlt:=blk_lt hb'
  have h1:=(hb.block b hlt).trans hb'
  have h2:=(hg.block b (Nat.lt_of_lt_of_le hlt hb.size) (fun e=>by
   obtain ⟨_,cur,hcu⟩:=own_block h.lk e.symm
   exact blk_ne hb' hcu ht2 rfl)).trans h1
  exact (ho.block b (blk_ne h2 hu2 ht)).trans h2
 have k2:∀ {e:TypeId} {size n:Nat} {v:Value} {xs:List Value},u.ownsRow base e size v n xs->e≠95->e≠98->u3.ownsRow base e size v n xs:=fun hr he he2=>ownsRow_keep hr fun k hk=>by
  obtain ⟨_,cur,hcu⟩:=own_block hr hk
  rw [k1 hcu he he2,hcu]
 exact ⟨hc,k1 h.h7 (by decide) (by decide),k1 h.h8 (by decide) (by decide),k1 h.h9 (by decide) (by decide),k1 h.h2 (by decide) (by decide),k1 h.h10 (by decide) (by decide),⟨h.rw.le0,h.rw.le1,h.rw.le2,h.rw.le3,k1 h.rw.h0 (by decide) (by decide),k1 h.rw.h1 (by decide) (by decide),k1 h.rw.h2 (by decide) (by decide),k1 h.rw.h3 (by decide) (by decide),k2 h.rw.o1 (by decide) (by decide),k2 h.rw.o2 (by decide) (by decide)⟩,ownsRow_keep hr fun k hk=>ho.block k (by
  obtain ⟨_,cur,hcu⟩:=own_block hr hk
  exact blk_ne hcu hu2 (by decide))⟩
theorem RuAt.next {s':RS} {v1' v2':Value} (h:RuAt base kb x t s u) (hr:RunW base x.k.b0 x.k.b1 x.k.b2 x.k.b3 u' x.k.m.nm x.k.m.tl x.k.m.ar s' v1' v2') (hx:Ex (FP x.k.b0 x.k.b1 x.k.b2 x.v1) u u'):RuAt base kb { x with v1:=v1',v2:=v2' } t s' u':=by
 have k1:∀ {b:Nat} {t:TypeId} {xs:Array Value},u.heap[b]?=some (.cells xs t (0,0))->t≠4->t≠147->t≠150->t≠53->u'.heap[b]?=some (.cells xs t (0,0)):=fun {b t xs} hb a1 a2 a3 a4=>(hx.block b (blk_lt hb) (fun e=>by
  rcases e with rfl | rfl | rfl | e
  · exact blk_ne hb h.rw.h0 a1 rfl
  · exact blk_ne hb h.rw.h1 a2 rfl
  · exact blk_ne hb h.rw.h2 a3 rfl
  obtain ⟨_,cur,hcu⟩:=own_block h.rw.o1 e
  exact blk_ne hb hcu a4 rfl)).trans hb
 exact ⟨k1 h.hB (by decide) (by decide) (by decide) (by decide),k1 h.h7 (by decide) (by decide) (by decide) (by decide),k1 h.h8 (by decide) (by decide) (by decide) (by decide),k1 h.h9 (by decide) (by decide) (by decide) (by decide),k1 h.h2 (by decide) (by decide) (by decide) (by decide),k1 h.h10 (by decide) (by decide) (by decide) (by decide),hr,ownsRow_keep h.lk fun k hk=>by
  obtain ⟨_,cur,hcu⟩:=own_block h.lk hk
  rw [k1 hcu (by decide) (by decide) (by decide) (by decide),hcu]⟩
theorem RuAt.turn {t':TN} (h:RuAt base kb x t s u) (ht:T6At u' x.k.c51 t') (hk:∀ k,k≠x.k.c51->u'.heap[k]?=u.heap[k]?):RuAt base kb x t' s u':=by
 have k1:∀ {b:Nat} {t:TypeId} {xs:Array Value},u.heap[b]?=some (.cells xs t (0,0))->t≠112->u'.heap[b]?=some (.cells xs t (0,0)):=fun {b t xs} hb a1=>(hk b (blk_ne hb h.h8 a1)).trans hb
 have k2:∀ {e:TypeId} {size n:Nat} {v:Value} {xs:List Value},u.ownsRow base e size v n xs->e≠112->u'.ownsRow base e size v n xs:=fun hr he=>ownsRow_keep hr fun k hk=>by
  obtain ⟨_,cur,hcu⟩:=own_block hr hk
  rw [k1 hcu he,hcu]
 exact ⟨k1 h.hB (by decide),k1 h.h7 (by decide),ht,k1 h.h9 (by decide),k1 h.h2 (by decide),k1 h.h10 (by decide),⟨h.rw.le0,h.rw.le1,h.rw.le2,h.rw.le3,k1 h.rw.h0 (by decide),k1 h.rw.h1 (by decide),k1 h.rw.h2 (by decide),k1 h.rw.h3 (by decide),k2 h.rw.o1 (by decide),k2 h.rw.o2 (by decide)⟩,k2 h.lk (by decide)⟩
theorem step48 (f:Fx) (E:Env) (hf:Fok f E) (n:Nat) (H50:P50 f E n):P48 f E (n+1):=by
 intro g i x r w hs hl hi hn ha
 obtain ⟨rc,rt⟩:=r
 have hEE:EnvOk E:=by rw [hf.hE];exact envOk hf.tr hf.pt
 have hxa:x.sta=.act:=(hl.act i x hi).2 rfl
 have hov:=(hl.non i x hi (by rw [hxa];simp)).1
 have hmk:=hEE.ms _ (hl.mem i x hi)
 have HOK:=hidI (hist_ok hEE hmk (hl.his i x hi))
 have HRI:=hidI (hist_inv hEE (hl.his i x hi) hmk)
 have HVR:=hidI (ans_vr hEE (fun n r=>fin_vr hEE) (HRI.out.name hov).1 ha)
 have HLS:Hid (x.ls.length<=14):=hidI (HRI.out.name hov).2
 have HHX:=hidI (hist_ans (hl.his i x hi) hov ha)
 obtain ⟨t,HT⟩:∃ t,Hid (tn x.k.m x.ls=t):=⟨_,rfl⟩
 have HS0:=hidI hs
 have HL0:=hidI hl
 have HI:=hidI hi
 have HF:=hidI hf
 have HH50:=hidI H50
 have HNN:=hidI hn
 have HEE:=hidI hEE
 obtain ⟨w1,hw1⟩:∃ u:World,u=w.alloc (.cells #[.int .i64 rc,.string rt] 53):=⟨_,rfl⟩
 have HW1:=hidI hw1
 have hb1:Below w.heap.size w w1:=by rw [hw1];exact (Below.refl _ _).alloc (Nat.le_refl _) _
 have C61:Hid (Cl w1 w.heap.size 53 [.int .i64 rc,.string rt]):=by show Cl _ _ _ _;rw [hw1];exact cl_new w _ 53
 have HR1:Hid (RuAt f.base f.kb x t (rsF x.k.m x.ls) w1):=by
  have:=(hs.ru i x hi).keep (w':=w1) fun k hk=>hb1.block k ((hs.ru i x hi).lt hk)
  rw [HT.out] at this
  exact this
 have HN6:Hid (w.heap.size≠x.k.B):=by have:=(hs.ru i x hi).hB.lt;show _≠_;omega
 have HB1:=hidI hb1
 clear hs hl hi hf H50 hn hEE hov hmk hw1 hb1 ha
 have d1:w1.cell? ⟨x.k.c7,0,none⟩=some (.pointer (some ⟨x.k.B,0,none⟩)):=HR1.out.h7.cell 0
 have d8:w1.cell? ⟨x.k.B,8,none⟩=some (.string x.wt):=HR1.out.hB.cell 8
 have e8:=HR1.out.hB.opn 8
 go_enter func73,ntmps73
 rw [show pt x.k.c7=.pointer (some ⟨x.k.c7,0,none⟩) from rfl,show pt x.k.c51=.pointer (some ⟨x.k.c51,0,none⟩) from rfl,show pt x.k.c9=.pointer (some ⟨x.k.c9,0,none⟩) from rfl,show pt x.k.c2=.pointer (some ⟨x.k.c2,0,none⟩) from rfl,show pt x.k.c13=.pointer (some ⟨x.k.c13,0,none⟩) from rfl]
 go_upto_region 1 with fail
 rw [<- HW1.out]
 go_upto_region 2 with fail
 have hon1:=on_set w1 x.k.B 8 (.string ⟨#[]⟩)
 have hc1:=HR1.out.hB.set 8 (.string ⟨#[]⟩)
 generalize (w1.setCell ⟨x.k.B,8,none⟩ (.string ⟨#[]⟩))=w2 at*
 obtain ⟨x2,HX2⟩:∃ x2:Ru,Hid (x2={ x with wt:=⟨#[]⟩ }):=⟨_,rfl⟩
 have HR2:Hid (RuAt f.base f.kb x2 t (rsF x.k.m x.ls) w2):=by rw [HX2.out];exact HR1.out.setB hon1 hc1 rfl rfl rfl rfl rfl
 have C6:=hidI (C61.out.on hon1 HN6.out)
 have hBw2:Below f.base w w2:=(HB1.out.mono HS0.out.sz).trans (hon1.below (by exact HS0.out.oge _ _ (HS0.out.oru i x HI.out _ (.inl (by simp)))))
 have HSZ:Hid (f.base<=w2.heap.size):=by have:=hBw2.size;have:=HS0.out.sz;show _<=_;omega
 have HEX2:Hid (Ex (fun k=>g.ow k=some (.run i)) w w2):=hidI ((Ex.ofB HB1.out).trans (hon1.ex (S:=fun k=>g.ow k=some (.run i)) (HS0.out.oru i x HI.out _ (.inl (by simp)))))
 clear d1 d8 e8 C61 HR1 hon1 hc1 HB1 HW1
 have hxk:x.k=x2.k:=by rw [HX2.out]
 have HXK:=hidI hxk
 have HXL:Hid (x.ls=x2.ls/\x.lv=x2.lv/\x.v1=x2.v1/\x.v2=x2.v2/\x.wv=x2.wv/\x.st=x2.st/\x.r=x2.r/\x.sta=x2.sta/\x.wl=x2.wl):=by rw [HX2.out];exact ⟨rfl,rfl,rfl,rfl,rfl,rfl,rfl,rfl,rfl⟩
 have HN6:Hid (w.heap.size≠x2.k.B):=by rw [<- hxk];exact HN6.out
 have HLS:Hid (x2.ls.length<=14):=by rw [<- HXL.out.1];exact HLS.out
 rw [hxk]
 clear hxk
 refine wp_region_L (S:=fun u=>Cl u x2.k.c7 92 [pt x2.k.B]/\Cl u x2.k.B 95 x2.cells/\T6At u x2.k.c51 t/\Cl u w.heap.size 53 [.int .i64 rc,.string rt]) 17 (by kernel_rfl) ?_ (fun hH=>?_)
 · exact ⟨HR2.out.h7,HR2.out.hB,HR2.out.h8,C6.out⟩
 obtain ⟨y0,hy0⟩:∃ x:World,x=w2.drew:=⟨_,rfl⟩
 rw [<- hy0] at hH ⊢
 have hby:Below w2.heap.size w2 y0:=by rw [hy0];exact (Below.refl _ w2).drew
 have HRY:=hidI (HR2.out.keep (w':=y0) fun k hk=>hby.block k (HR2.out.lt hk))
 have C6y:=hidI (C6.out.below hby C6.out.lt)
 have HBY:=hidI hby
 clear hy0 hby
 refine lq 0 hH ?_ (v:=?_) (hv:=?e)
 case e=>intro wq hSw;(try dsimp only at hSw);have d1:wq.cell? ⟨x2.k.c7,0,none⟩=some (.pointer (some ⟨x2.k.B,0,none⟩)):=hSw.1.cell 0;have d2:wq.cell? ⟨x2.k.B,5,none⟩=some x2.lv:=hSw.2.1.cell 5;have d3:wq.cell? ⟨x2.k.c51,3,none⟩=some (.bool t.has):=(T6At.cells hSw.2.2.1).2.2.2.1;have d4:wq.cell? ⟨x2.k.c51,4,none⟩=some (.string t.name):=(T6At.cells hSw.2.2.1).2.2.2.2.1;have d5:wq.cell? ⟨w.heap.size,0,none⟩=some (.int .i64 rc):=hSw.2.2.2.cell 0;have d6:wq.cell? ⟨w.heap.size,1,none⟩=some (.string rt):=hSw.2.2.2.cell 1;go_simp;try with_reducible rfl
 try simp only [qq]
 refine lq 1 hH ?_ (v:=?_) (hv:=?e)
 case e=>intro wq hSw;(try dsimp only at hSw);have d1:wq.cell? ⟨x2.k.c7,0,none⟩=some (.pointer (some ⟨x2.k.B,0,none⟩)):=hSw.1.cell 0;have d2:wq.cell? ⟨x2.k.B,5,none⟩=some x2.lv:=hSw.2.1.cell 5;have d3:wq.cell? ⟨x2.k.c51,3,none⟩=some (.bool t.has):=(T6At.cells hSw.2.2.1).2.2.2.1;have d4:wq.cell? ⟨x2.k.c51,4,none⟩=some (.string t.name):=(T6At.cells hSw.2.2.1).2.2.2.2.1;have d5:wq.cell? ⟨w.heap.size,0,none⟩=some (.int .i64 rc):=hSw.2.2.2.cell 0;have d6:wq.cell? ⟨w.heap.size,1,none⟩=some (.string rt):=hSw.2.2.2.cell 1;go_simp;try with_reducible rfl
 try simp only [qq]
 refine lq 2 hH ?_
 try simp only [qq]
 refine lq 3 hH ?_
 try simp only [qq]
 refine lq 4 hH ?_
 try simp only [qq]
 refine lq 5 hH ?_ (v:=?_) (hv:=?e)
 case e=>intro wq hSw;(try dsimp only at hSw);have d1:wq.cell? ⟨x2.k.c7,0,none⟩=some (.pointer (some ⟨x2.k.B,0,none⟩)):=hSw.1.cell 0;have d2:wq.cell? ⟨x2.k.B,5,none⟩=some x2.lv:=hSw.2.1.cell 5;have d3:wq.cell? ⟨x2.k.c51,3,none⟩=some (.bool t.has):=(T6At.cells hSw.2.2.1).2.2.2.1;have d4:wq.cell? ⟨x2.k.c51,4,none⟩=some (.string t.name):=(T6At.cells hSw.2.2.1).2.2.2.2.1;have d5:wq.cell? ⟨w.heap.size,0,none⟩=some (.int .i64 rc):=hSw.2.2.2.cell 0;have d6:wq.cell? ⟨w.heap.size,1,none⟩=some (.string rt):=hSw.2.2.2.cell 1;go_simp;try with_reducible rfl
 try simp only [qq]
 refine lq 6 hH ?_
 try simp only [qq]
 refine lq 7 hH ?_ (v:=?_) (hv:=?e)
 case e=>intro wq hSw;(try dsimp only at hSw);have d1:wq.cell? ⟨x2.k.c7,0,none⟩=some (.pointer (some ⟨x2.k.B,0,none⟩)):=hSw.1.cell 0;have d2:wq.cell? ⟨x2.k.B,5,none⟩=some x2.lv:=hSw.2.1.cell 5;have d3:wq.cell? ⟨x2.k.c51,3,none⟩=some (.bool t.has):=(T6At.cells hSw.2.2.1).2.2.2.1;have d4:wq.cell? ⟨x2.k.c51,4,none⟩=some (.string t.name):=(T6At.cells hSw.2.2.1).2.2.2.2.1;have d5:wq.cell? ⟨w.heap.size,0,none⟩=some (.int .i64 rc):=hSw.2.2.2.cell 0;have d6:wq.cell? ⟨w.heap.size,1,none⟩=some (.string rt):=hSw.2.2.2.cell 1;go_simp;try with_reducible rfl
 try simp only [qq]
 refine lq 8 hH ?_
 try simp only [qq]
 refine lq 9 hH ?_ (v:=?_) (hv:=?e)
 case e=>intro wq hSw;(try dsimp only at hSw);have d1:wq.cell? ⟨x2.k.c7,0,none⟩=some (.pointer (some ⟨x2.k.B,0,none⟩)):=hSw.1.cell 0;have d2:wq.cell? ⟨x2.k.B,5,none⟩=some x2.lv:=hSw.2.1.cell 5;have d3:wq.cell? ⟨x2.k.c51,3,none⟩=some (.bool t.has):=(T6At.cells hSw.2.2.1).2.2.2.1;have d4:wq.cell? ⟨x2.k.c51,4,none⟩=some (.string t.name):=(T6At.cells hSw.2.2.1).2.2.2.2.1;have d5:wq.cell? ⟨w.heap.size,0,none⟩=some (.int .i64 rc):=hSw.2.2.2.cell 0;have d6:wq.cell? ⟨w.heap.size,1,none⟩=some (.string rt):=hSw.2.2.2.cell 1;go_simp;try with_reducible rfl
 try simp only [qq]
 refine lq 10 hH ?_ (v:=?_) (hv:=?e)
 case e=>intro wq hSw;(try dsimp only at hSw);have d1:wq.cell? ⟨x2.k.c7,0,none⟩=some (.pointer (some ⟨x2.k.B,0,none⟩)):=hSw.1.cell 0;have d2:wq.cell? ⟨x2.k.B,5,none⟩=some x2.lv:=hSw.2.1.cell 5;have d3:wq.cell? ⟨x2.k.c51,3,none⟩=some (.bool t.has):=(T6At.cells hSw.2.2.1).2.2.2.1;have d4:wq.cell? ⟨x2.k.c51,4,none⟩=some (.string t.name):=(T6At.cells hSw.2.2.1).2.2.2.2.1;have d5:wq.cell? ⟨w.heap.size,0,none⟩=some (.int .i64 rc):=hSw.2.2.2.cell 0;have d6:wq.cell? ⟨w.heap.size,1,none⟩=some (.string rt):=hSw.2.2.2.cell 1;go_simp;try with_reducible rfl
 try simp only [qq]
 refine lq 11 hH ?_
 try simp only [qq]
 refine lr (i:=12) (o:=⟨some 22,.buildSlice 51 1 #[(0,.tmp 21)],51,_,_,none⟩) rfl (by decide) (by kernel_rfl) (fun K hK=>?_)
 go_simp
 obtain ⟨y1,hy1⟩:∃ x:World,x=y0.alloc (.cells #[.bool t.has,.string t.name,.int .i64 rc,.string rt] 98):=⟨_,rfl⟩
 rw [<- hy1]
 have hby1:Below y0.heap.size y0 y1:=by rw [hy1];exact (Below.refl _ _).alloc (Nat.le_refl _) _
 have CL:Hid (Cl y1 y0.heap.size 98 [.bool t.has,.string t.name,.int .i64 rc,.string rt]):=by show Cl _ _ _ _;rw [hy1];exact cl_new y0 _ 98
 have HR1:=hidI (HRY.out.keep (w':=y1) fun k hk=>hby1.block k (HRY.out.lt hk))
 have C61:=hidI (C6y.out.below hby1 C6y.out.lt)
 have HB1:=hidI hby1
 clear hy1 hH
 refine hK.out _ _ ?_ (fun hH=>?_)
 · exact ⟨HR1.out.h7,HR1.out.hB,HR1.out.h8,C61.out⟩
 clear hK K hby1
 try simp only [qq]
 refine lr (i:=13) (o:=⟨some 23,.call ⟨.builtin .append,#[.tmp 15,.tmp 22],#[51,51]⟩,51,_,_,none⟩) rfl (by decide) (by kernel_rfl) (fun K hK=>?_)
 refine st_app rfl _ _ 51 rfl f.base 98 4 underlying51 inf98 (by decide) x2.lv x2.ls.length (lkCells x2.ls) rfl HR1.out.lk (.slice (some ⟨y0.heap.size,0,none⟩) 1 1) 1 [.bool t.has,.string t.name,.int .i64 rc,.string rt] rfl (.inr ⟨⟨y0.heap.size,0,none⟩,1,rfl,rfl,cl_row CL.out⟩) (by intro u hu;simp at hu;rcases hu with rfl | rfl | rfl | rfl <;> rfl) (by have:=HLS.out;omega) (by have:=HB1.out.size;have:=HBY.out.size;have:=HSZ.out;omega) ?_
 intro lv' y2 O2 g2 at2
 have HO2:Hid (y2.ownsRow f.base 98 4 lv' (x2.ls++[(⟨t.has,t.name,rc,rt⟩:M.L4)]).length (lkCells (x2.ls++[(⟨t.has,t.name,rc,rt⟩:M.L4)]))):=by show World.ownsRow _ _ _ _ _ _ _;rw [lkCells_snoc,List.length_append];exact O2
 have HG2:=hidI g2
 have HA2:=hidI at2
 have hnb:∀ {b:Nat} {tt:TypeId} {xs:Array Value},y1.heap[b]?=some (.cells xs tt (0,0))->tt≠98->some b≠x2.lv.ownBlock:=fun hb ht e=>by
  obtain ⟨_,cur,hcu⟩:=own_block HR1.out.lk e.symm
  exact blk_ne hb hcu ht rfl
 have HBB2:Hid (Cl y2 x2.k.B 95 x2.cells):=hidI (HR1.out.hB.gb g2 (hnb HR1.out.hB (by decide)))
 have HC72:Hid (Cl y2 x2.k.c7 92 [pt x2.k.B]):=hidI (HR1.out.h7.gb g2 (hnb HR1.out.h7 (by decide)))
 have HC82:Hid (T6At y2 x2.k.c51 t):=hidI ((g2.block _ HR1.out.h8.lt (hnb HR1.out.h8 (by decide))).trans HR1.out.h8)
 have C62:Hid (Cl y2 w.heap.size 53 [.int .i64 rc,.string rt]):=hidI (C61.out.gb g2 (hnb C61.out (by decide)))
 clear O2 g2 at2 hH hnb
 refine hK.out _ _ ?_ (fun hH=>?_)
 · exact ⟨HC72.out,HBB2.out,HC82.out,C62.out⟩
 clear hK K
 try simp only [qq]
 refine lr (i:=14) (o:=⟨some 24,.nilCheck (.tmp 10),0,_,_,none⟩) rfl (by decide) (by kernel_rfl) (fun K hK=>?_)
 go_simp
 clear hH
 refine hK.out _ _ ?_ (fun hH=>?_)
 · exact ⟨HC72.out,HBB2.out,HC82.out,C62.out⟩
 clear hK K
 try simp only [qq]
 refine lr (i:=15) (o:=⟨some 25,.fieldAddr 95 (.tmp 24) 0,0,_,_,none⟩) rfl (by decide) (by kernel_rfl) (fun K hK=>?_)
 go_simp
 clear hH
 refine hK.out _ _ ?_ (fun hH=>?_)
 · exact ⟨HC72.out,HBB2.out,HC82.out,C62.out⟩
 clear hK K
 try simp only [qq]
 refine lq 16 hH ?_
 try simp only [qq]
 refine lz (o:=⟨none,.store 51 (.tmp 26) (.tmp 23),0,_,_,none⟩) rfl (by kernel_rfl) (fun K hK=>?_)
 have z5:y2.cell? ⟨x2.k.B,5,none⟩=some x2.lv:=HBB2.out.cell 5
 have zf:y2.frozen? ⟨x2.k.B,5,none⟩=false:=HBB2.out.opn 5
 obtain ⟨la,lc,hlv,_⟩:=row_lks HO2.out
 have hlv':lv'=.slice la (x2.ls.length+1) lc:=by rw [hlv];simp
 clear hlv
 subst hlv'
 go_simp
 clear hH
 refine hK.out _ _ ?_
 clear hK K
 try simp only [qq]
 refine wpL_done (by kernel_rfl) ?_ _
 have hon:=on_set y2 x2.k.B 5 (.slice la (x2.ls.length+1) lc)
 have hcB:=HBB2.out.set 5 (.slice la (x2.ls.length+1) lc)
 generalize (y2.setCell ⟨x2.k.B,5,none⟩ (.slice la (x2.ls.length+1) lc))=w3 at*
 have HR3:Hid (RuAt f.base f.kb { x2 with lv:=.slice la (x2.ls.length+1) lc,ls:=x2.ls++[(⟨t.has,t.name,rc,rt⟩:M.L4)] } t (rsF x.k.m x.ls) w3):=hidI (HRY.out.look HB1.out HG2.out HO2.out hon hcB)
 have C63:=hidI (C62.out.on hon HN6.out)
 have HON3:=hidI hon
 clear hon hcB HBB2 HC72 HC82 C62 HR1 HRY
 obtain ⟨x3,HX3⟩:∃ x3:Ru,Hid (x3={ x2 with lv:=.slice la (x2.ls.length+1) lc,ls:=x2.ls++[(⟨t.has,t.name,rc,rt⟩:M.L4)] }):=⟨_,rfl⟩
 have HR3:Hid (RuAt f.base f.kb x3 t (rsF x.k.m x.ls) w3):=by rw [HX3.out];exact HR3.out
 have hk3:x2.k=x3.k:=by rw [HX3.out]
 have HK3:=hidI hk3
 rw [hk3]
 clear hk3
 have d9:w3.cell? ⟨x3.k.c9,0,none⟩=some (.func (.func 104) #[] #[.pointer (some ⟨x3.k.b0,0,none⟩),.pointer (some ⟨x3.k.b1,0,none⟩),.pointer (some ⟨x3.k.b2,0,none⟩),.pointer (some ⟨x3.k.b3,0,none⟩)]):=HR3.out.h9.cell 0
 have r0:w3.cell? ⟨w.heap.size,0,none⟩=some (.int .i64 rc):=C63.out.cell 0
 have r1:w3.cell? ⟨w.heap.size,1,none⟩=some (.string rt):=C63.out.cell 1
 go_wp2_with fail
 have hlvge:∀ k,x2.lv.ownBlock=some k->g.ow k=some (.run i):=fun k e=>HS0.out.oru i x HI.out k (.inr (.inl (by rw [HXL.out.2.1];exact e)))
 have hBge:f.base<=x3.k.B:=by rw [<- HK3.out,<- HXK.out];exact HS0.out.oge _ _ (HS0.out.oru i x HI.out _ (.inl (by simp)))
 have hBo:g.ow x3.k.B=some (.run i):=by rw [<- HK3.out,<- HXK.out];exact HS0.out.oru i x HI.out _ (.inl (by simp))
 have hsz2:w.heap.size<=w2.heap.size:=HEX2.out.size
 have hszy:w2.heap.size<=y0.heap.size:=HBY.out.size
 have hszy1:y0.heap.size<=y1.heap.size:=HB1.out.size
 have hszy2:y1.heap.size<=y2.heap.size:=HG2.out.size
 have HEX3:Hid (Ex (fun k=>g.ow k=some (.run i)) w w3):=by
  refine (((HEX2.out.andB (HBY.out.mono hsz2)).andB (HB1.out.mono (by omega))).trans ?_)
  refine ⟨HON3.out.os.trans HG2.out.os,HON3.out.tape.trans HG2.out.tape,HON3.out.output.trans HG2.out.output,by rw [HON3.out.size];exact hszy2,fun k hk hn=>?_⟩
  exact (HON3.out.block k (fun e=>hn (by rw [e,HK3.out];exact hBo))).trans (HG2.out.block k hk (fun e=>hn (hlvge k e.symm)))
 have HB3:Hid (Below f.base w w3):=hidI (HEX3.out.below (fun k e=>HS0.out.oge _ _ e) HS0.out.sz)
 have hB03:=HS0.out.bl.trans HB3.out
 have HRO:=hidI (rsF_ok x.k.m x.ls (fun y hy=>(lkOk_le (HOK.out.2 y hy)).2))
 have hmp:=okM_parts (HEE.out.ms _ (HL0.out.mem i x HI.out))
 have hts:rt.size<=1048576:=by have:=vr_small HVR.out;rw [ba_len] at this;exact Nat.le_trans this (by decide)
 have hkm:x.k.m=x3.k.m:=by rw [HXK.out,HK3.out]
 refine (c104 f.base x3.k.b0 x3.k.b1 x3.k.b2 x3.k.b3 x3.k.m.nm x3.k.m.tl x3.k.m.ar (rsF x.k.m x.ls) x3.v1 x3.v2 ⟨rc,rt⟩ w3 HR3.out.rw HRO.out.1 (by have:=HRO.out.2;have:=HOK.out.1;omega) hts (by rw [<- hkm];have:=hmp.2.2;omega) (shapes_base HF.out.shp hB03 HF.out.ten) (max_base HF.out.mx hB03 HF.out.ten) HF.out.ten).mono ?_
 rintro e w4 ⟨rfl,⟨v1',v2',hrw,hn1,hn2⟩,hex4⟩
 have HKM:=hidI hkm
 clear hkm
 obtain ⟨t4,HT4⟩:∃ t4,Hid ((nextR x3.k.m.tl x3.k.m.ar (rsF x.k.m x.ls) ⟨rc,rt⟩).1=t4):=⟨_,rfl⟩
 have HTN:Hid (tn x.k.m (x.ls++[(⟨t.has,t.name,rc,rt⟩:M.L4)])=t4):=by show _=_;rw [tn_snoc,HKM.out];exact HKM.out▸HT4.out
 have HRS:Hid (rsF x.k.m (x.ls++[(⟨t.has,t.name,rc,rt⟩:M.L4)])=(nextR x3.k.m.tl x3.k.m.ar (rsF x.k.m x.ls) ⟨rc,rt⟩).2):=by show _=_;rw [rsF_snoc,HKM.out]
 rw [HT4.out]
 obtain ⟨o,c,tt,th,tnm,ts⟩:=t4
 rw [show (TN.v ⟨o,c,tt,th,tnm,ts⟩)=.agg #[.bool o,.int .i64 c,.string tt,.bool th,.string tnm,.int .i64 ts] from rfl]
 have HR4:=hidI (HR3.out.next hrw hex4)
 have HEX4:Hid (Ex (fun k=>g.ow k=some (.run i)) w w4):=by
  refine HEX3.out.trans2 hex4 (fun k hk e=>?_)
  have hk':FPx x k:=by
   rcases e with e | e | e | e
   · exact .inl (by rw [e,<- HK3.out,<- HXK.out];simp)
   · exact .inl (by rw [e,<- HK3.out,<- HXK.out];simp)
   · exact .inl (by rw [e,<- HK3.out,<- HXK.out];simp)
   exact .inr (.inr (.inl (by rw [HXL.out.2.2.1];rw [HX3.out] at e;exact e)))
  exact HS0.out.oru i x HI.out k hk'
 have HNV1:=hidI hn1
 have HNV2:=hidI hn2
 have hsz3:w.heap.size<=w3.heap.size:=HEX3.out.size
 clear d9 r0 r1 hrw hn1 hn2 hex4 hB03
 go_upto_region 4 with (refine wp_turn rfl _ _ rfl x3.k.c51 rfl ⟨o,c,tt,th,tnm,ts⟩ t rfl HR4.out.h8 rfl ?_;intro w5 ht5 hbl5 hk5;have HT5:=hidI ht5;have HK5:=hidI hk5;have HBL5:=hidI hbl5;clear ht5 hbl5 hk5)
 obtain ⟨x4,HX4⟩:∃ x4:Ru,Hid (x4={ x3 with v1:=v1',v2:=v2' }):=⟨_,rfl⟩
 have HXF:Hid (x4.k=x.k/\x4.ls=x.ls++[(⟨t.has,t.name,rc,rt⟩:M.L4)]/\x4.wv=x.wv/\x4.wl=x.wl/\x4.st=x.st/\x4.r=x.r/\x4.sta=x.sta):=by
  show _/\_
  rw [HX4.out,HX3.out,HX2.out]
  exact ⟨rfl,rfl,rfl,rfl,rfl,rfl,rfl⟩
 have HXW:Hid (x4.wt=⟨#[]⟩):=by
  show _=_
  rw [HX4.out,HX3.out,HX2.out]
 have HR5:Hid (RuAt f.base f.kb x4 ⟨o,c,tt,th,tnm,ts⟩ (nextR x3.k.m.tl x3.k.m.ar (rsF x.k.m x.ls) ⟨rc,rt⟩).2 w5):=by
  have:=HR4.out.turn HT5.out HK5.out
  rw [HX4.out]
  exact this
 have HTN4:Hid (tn x4.k.m x4.ls=⟨o,c,tt,th,tnm,ts⟩/\rsF x4.k.m x4.ls=(nextR x3.k.m.tl x3.k.m.ar (rsF x.k.m x.ls) ⟨rc,rt⟩).2):=by
  show _/\_
  rw [HXF.out.1,HXF.out.2.1]
  exact ⟨HTN.out,HRS.out⟩
 have hc8o:g.ow x3.k.c51=some (.run i):=by rw [<- HK3.out,<- HXK.out];exact HS0.out.oru i x HI.out _ (.inl (by simp))
 have HEX5:Hid (Ex (fun k=>g.ow k=some (.run i)) w w5):=by
  have hb:=HBL5.out 0 (Nat.zero_le _)
  exact ⟨hb.os.trans HEX4.out.os,hb.tape.trans HEX4.out.tape,hb.output.trans HEX4.out.output,Nat.le_trans HEX4.out.size hb.size,fun k hk hn=>(HK5.out k (fun e=>hn (by rw [e];exact hc8o))).trans (HEX4.out.block k hk hn)⟩
 have HS5:Hid (Shp f { g with ow:=ext g.ow w.heap.size (.run i),rs:=g.rs.set i x4 } w5):=by
  have h1:=HS0.out.ext w.heap.size (Nat.le_refl _) (.run i)
  refine h1.run (x':=x4) HI.out (HEX5.out.mono fun k hk e=>?_) ?_ (fun k hk=>?_) HXF.out.1 HXF.out.2.2.1 HXF.out.2.2.2.1
  · show ext g.ow w.heap.size _ k=_
    rw [ext_lt hk];exact e
  · rw [HTN4.out.1,HTN4.out.2];exact HR5.out
  have hown:∀ q,FPx x q->ext g.ow w.heap.size (.run i) q=some (.run i):=fun q hq=>h1.oru i x HI.out q hq
  rcases hk with hk | hk | hk | hk
  · exact hown k (.inl (by rw [HXF.out.1] at hk;exact hk))
  · have hk':(Value.slice la (x2.ls.length+1) lc).ownBlock=some k:=by rw [HX4.out,HX3.out] at hk;exact hk
    rcases HA2.out with h | h
    · rw [h] at hk'
      exact hown k (.inr (.inl (by rw [HXL.out.2.1];exact hk')))
    rw [h] at hk'
    have:=Option.some.inj hk'
    exact ext_ge (by omega)
  · have hk':v1'.ownBlock=some k:=by rw [HX4.out] at hk;exact hk
    rcases HNV1.out k hk' with h | h
    · exact hown k (.inr (.inr (.inl (by rw [HXL.out.2.2.1];rw [HX3.out] at h;exact h))))
    exact ext_ge (by omega)
  have hk':v2'.ownBlock=some k:=by rw [HX4.out] at hk;exact hk
  rcases HNV2.out k hk' with h | h
  · exact hown k (.inr (.inr (.inr (by rw [HXL.out.2.2.2.1];rw [HX3.out] at h;exact h))))
  exact ext_ge (by omega)
 have HB5:Hid (Below f.base w w5):=hidI (HEX5.out.below (fun k e=>HS0.out.oge _ _ e) HS0.out.sz)
 have HK4:Hid (x3.k=x4.k):=by rw [HX4.out];rfl
 have HG4:Hid ((g.rs.set i x4)[i]?=some x4):=hidI (set_get HI.out)
 have HHX4:Hid (Hist E x.k.m x4.ls):=by
  have:=HHX.out
  rw [HT.out] at this
  rw [HXF.out.2.1]
  exact this
 have HPW:Hid (pwr x4+1=pwr x):=by
  show _=_
  unfold pwr
  have h14:=HLS.out
  rw [<- HXL.out.1] at h14
  rw [HXF.out.2.1,HXF.out.2.2.2.2.1]
  simp
  split <;> omega
 have hj0:=T6At.cells HT5.out
 rw [HK4.out] at hj0 ⊢
 obtain ⟨j0,j1,j2,j3,j4,j5,_⟩:=hj0
 have c2c:w5.cell? ⟨x4.k.c2,0,none⟩=some (.pointer (some ⟨f.kb,0,none⟩)):=HR5.out.h2.cell 0
 have c7c:w5.cell? ⟨x4.k.c7,0,none⟩=some (.pointer (some ⟨x4.k.B,0,none⟩)):=HR5.out.h7.cell 0
 have c13c:w5.cell? ⟨x4.k.c13,0,none⟩=some (.func (.func 73) #[] #[.pointer (some ⟨x4.k.c7,0,none⟩),.pointer (some ⟨x4.k.c51,0,none⟩),.pointer (some ⟨x4.k.c9,0,none⟩),.pointer (some ⟨x4.k.c2,0,none⟩),.pointer (some ⟨x4.k.c13,0,none⟩)]):=HR5.out.h10.cell 0
 clear HR4 HR3 HEX4 HEX3 HT5 HK5 HBL5 HB3 HNV1 HNV2 HO2 HG2 HA2 CL C63 C6y HB1 HBY HON3 hlvge hBo hc8o HEX2 HR2 C6 hBw2
 cases o
 · have HL5:Hid (Lgc E { g with ow:=ext g.ow w.heap.size (.run i),rs:=g.rs.set i x4 } (some i)):=by
    have h1:=HL0.out.upd (x':=x4) HI.out HXF.out.1 HXF.out.2.2.2.2.2.2 HXF.out.2.2.2.1 HXF.out.2.2.2.2.2.1 HHX4.out (by rw [<- HXF.out.1,HTN4.out.1])
    exact ⟨h1.mem,h1.inj,h1.his,h1.fin,h1.non,h1.act,h1.que,h1.qnd,h1.qgo,h1.qre,h1.wai,h1.wls⟩
   have h50:=HH50.out _ i x4 w5 HS5.out HL5.out HG4.out (by have:=HNN.out;rw [HXF.out.2.1];simp;omega)
   rw [HTN4.out.1] at h50
   have HC:=hidI h50
   clear h50
   go_wp2_with fail
   refine HC.out.mono ?_
   rintro e w6 ⟨rfl,g',ha⟩
   have HFA:Hid (∃ g',Aft f E g g' w w6/\ptl g'<ptl g):=by
    have hp:=psum_set (x':=x4) HI.out
    have hpw:=HPW.out
    have hlt:ptl { g with ow:=ext g.ow w.heap.size (.run i),rs:=g.rs.set i x4 }<ptl g:=by
     unfold ptl
     simp only [List.length_set]
     omega
    refine ⟨g',⟨ha.shp,ha.lgc,fun j y hy=>?_,by have:=ha.ptl;omega,HB5.out.trans ha.bl,fun k hk he=>?_⟩,by have:=ha.ptl;omega⟩
    rotate_left
    · have hw5:=HEX5.out.block k hk (by rw [he];simp)
      obtain ⟨h1,h2⟩:=ha.kp k (Nat.lt_of_lt_of_le hk HEX5.out.size) ((ext_lt hk).trans he)
      exact ⟨h1.trans hw5,h2⟩
    obtain ⟨z,hz,hzk⟩:∃ z,(g.rs.set i x4)[j]?=some z/\z.k=y.k:=by
     obtain ⟨z,hz,⟨rfl,rfl⟩ | ⟨rfl,_⟩⟩:=set_old (x':=x4) HI.out hy
     · rw [HI.out] at hy
       obtain rfl:=Option.some.inj hy
       exact ⟨_,hz,HXF.out.1⟩
     exact ⟨z,hz,rfl⟩
    obtain ⟨z',hz',hzk'⟩:=ha.ext j z hz
    exact ⟨z',hz',hzk'.trans hzk⟩
   clear ha HC
   go_wp2
   go_end0
   exact ⟨rfl,HFA.out⟩
 have hms:E.ms.length<=30:=by rw [HF.out.hE];show (f.ms.map toM).length<=30;rw [List.length_map];exact isPT_30 HF.out.pt
 have hrl:=HL0.out.len hms
 have hql:g.q.length<=30:=by
  have:=nodup_lt HL0.out.qnd (n:=g.rs.length) (fun j hj=>by
   obtain ⟨it,hit,rfl⟩:=List.mem_map.1 hj
   exact HS0.out.qlt it hit)
  simp at this
  omega
 have hwl:x.wl.length<=30:=by
  have:=nodup_lt (HL0.out.wls i x HI.out (by rw [hxa];simp)).1 (n:=g.rs.length) (fun j hj=>HS0.out.wlt i x HI.out j hj)
  omega
 have HC:=hidI (c74 f { g with ow:=ext g.ow w.heap.size (.run i),rs:=g.rs.set i x4 } i x4 ⟨c,tt⟩ w5 HS5.out HG4.out (by show g.q.length+_<=_;rw [HXF.out.2.2.2.1];omega) (by rw [HXF.out.1];exact name_le hmp.1))
 clear hrl hql hwl
 go_wp2_with fail
 refine HC.out.mono ?_
 rintro e w6 ⟨rfl,its,rv',ow',hs6,hits,hre,hb6,hkp6⟩
 have HFA:Hid (∃ g',Aft f E g g' w w6/\ptl g'<ptl g):=by
  have hx4a:x4.sta=.act:=HXF.out.2.2.2.2.2.2.trans hxa
  have hpe:prom i { x4 with r:=⟨c,tt⟩ }={ x4 with r:=⟨c,tt⟩ }:=by unfold prom;rw [if_neg (by show ¬ x4.sta=_;rw [hx4a];simp)]
  have hsa:=shp_gh hs6 (F:=prom i) (fun y=>by unfold prom;split;exact ⟨_,rfl⟩;exact ⟨y.sta,rfl⟩)
  have hgi:(((g.rs.set i x4).set i { x4 with r:=⟨c,tt⟩ }).map (prom i))[i]?=some { x4 with r:=⟨c,tt⟩ }:=by rw [map_of (set_get HG4.out),hpe]
  have hrb:=hsa.ru i _ hgi
  have hsb:=hsa.run (x':={ x4 with r:=⟨c,tt⟩,sta:=.fin }) hgi (Ex.refl _ _) (hrb.gh rfl rfl rfl rfl rfl rfl rfl) (fun k hk=>hsa.oru i _ hgi k (FPx.of (x:={ x4 with r:=⟨c,tt⟩ }) rfl rfl rfl rfl hk)) rfl rfl rfl
  have hle:((((g.rs.set i x4).set i { x4 with r:=⟨c,tt⟩ }).map (prom i)).set i { x4 with r:=⟨c,tt⟩,sta:=.fin })=(g.rs.map (prom i)).set i { x4 with r:=⟨c,tt⟩,sta:=.fin }:=by
   rw [List.map_set,List.map_set,List.set_set,List.set_set]
  have hL:=HL0.out.end (x':={ x4 with r:=⟨c,tt⟩,sta:=.fin }) (its:=its) (r:=⟨c,tt⟩) HI.out HXF.out.1 rfl HXF.out.2.2.2.1 rfl HXW.out HHX4.out (by show (tn x.k.m x4.ls).over=true;rw [<- HXF.out.1,HTN4.out.1]) (by show _=resOf (tn x.k.m x4.ls);rw [<- HXF.out.1,HTN4.out.1];rfl) (by rw [hits,HXF.out.2.2.2.1]) hre
  have hpi:(g.rs.map (prom i))[i]?=some (prom i x):=map_of HI.out
  have hp:=psum_set (x':={ x4 with r:=⟨c,tt⟩,sta:=.fin }) hpi
  have hpx:pwr (prom i x)=pwr x:=by obtain ⟨_,e2,e3,_⟩:=prom_eq i x;unfold pwr;rw [e2,e3]
  have hpm:((g.rs.map (prom i)).map pwr)=g.rs.map pwr:=by
   rw [List.map_map]
   refine List.map_congr_left fun y _=>?_
   obtain ⟨_,e2,e3,_⟩:=prom_eq i y
   show pwr (prom i y)=pwr y
   unfold pwr
   rw [e2,e3]
  have hp4:pwr { x4 with r:=⟨c,tt⟩,sta:=.fin }=pwr x4:=rfl
  have hpw:=HPW.out
  rw [hpm,hpx,hp4] at hp
  have hlt:ptl { g with rs:=(g.rs.map (prom i)).set i { x4 with r:=⟨c,tt⟩,sta:=.fin },q:=g.q++its,rv:=rv',ow:=ow' }<ptl g:=by
   unfold ptl
   simp only [List.length_set,List.length_map]
   omega
  refine ⟨{ g with rs:=(g.rs.map (prom i)).set i { x4 with r:=⟨c,tt⟩,sta:=.fin },q:=g.q++its,rv:=rv',ow:=ow' },⟨?_,⟨hL.mem,hL.inj,hL.his,hL.fin,hL.non,hL.act,hL.que,hL.qnd,hL.qgo,hL.qre,hL.wai,hL.wls⟩,fun j y hy=>?_,Nat.le_of_lt hlt,HB5.out.trans hb6,fun k hk he=>?_⟩,hlt⟩
  rotate_right
  · have hw5:=HEX5.out.block k hk (by rw [he];simp)
    obtain ⟨h1,h2⟩:=hkp6 k (Nat.lt_of_lt_of_le hk HEX5.out.size) ((ext_lt hk).trans he)
    exact ⟨h1.trans hw5,h2⟩
  · have:=hsb
    rw [<- hle]
    exact this
  obtain ⟨z,hz,⟨rfl,rfl⟩ | ⟨rfl,_⟩⟩:=set_old (x':={ x4 with r:=⟨c,tt⟩,sta:=.fin }) hpi (map_of (F:=prom i) hy)
  · rw [HI.out] at hy
    obtain rfl:=Option.some.inj hy
    exact ⟨_,hz,HXF.out.1⟩
  exact ⟨_,hz,(prom_eq i y).1⟩
 clear hs6 hits hre hb6 hkp6 HC
 go_wp2
 refine bodyPost_ret (results_none rfl _ _ _) rfl ?_
 exact ⟨rfl,HFA.out⟩
theorem r50 (kb b6:Nat) (pa:Option Addr) (pc:Nat) (ms:List M3) (nm:ByteArray) (w:World) (u1 u2 u3 u4 u5 u7 u8 u9 u10 u11 u12 u13 u14 u15 u16 u17 u18 u19 u20 u21 u22 u23 u24 u25 u26 u27 u28 u29 u30 u31 u32 u33 u34 u35 u36 u37 u38 u39 u40 u41 u42 u43 u44 u45 u46 u47 u48 u49 u50 u51 u52 u53 u54 u55 u56 u57 u58 u59 u60 u61 u62 u63 u64 u65 u66 u67 u68 u69 u70 u71 u72 u73 u74 u75 u76 u77 u78 u79 u80 u81 u82 u83 u84:Value) {Q:Exit->Act->World->Prop} (hQ:∀ c (a:Act) (d:Option Tmp) (v:Value) w,Q (.panic c) (a.put d v) w->Q (.panic c) a w)
 (c1:w.cell? ⟨kb,1,none⟩=some (.slice pa ms.length pc)) (c4:w.cell? ⟨b6,4,none⟩=some (.string nm)) (hkl:kb<w.heap.size) (hbl:b6<w.heap.size) (hml:ms.length<=300) (HMK:Hid (∀ u,Below w.heap.size w u->G.MksAt u pa ms)) (hasc:G.AscM ms)
 (hKK:∀ (t26 t27 t28 t29 t30 t31 t32 t33 t34 t35:Value) (b8:Nat) (y:M3) (th:Bool) (w':World),Below w.heap.size w w'->Cl w' b8 50 (putL [.string ⟨#[]⟩,.string ⟨#[]⟩,.string ⟨#[]⟩] 0 [.string y.nm,.string y.tl,.string y.ar])->w.heap.size<=b8->((th=true/\∃ i,i<ms.length/\ms.getD i m3z=y/\y.nm=nm)\/(th=false/\∀ j,j<ms.length->(ms.getD j m3z).nm≠nm))->Q .normal { tmps:=#[.pointer (some ⟨kb,0,none⟩),u1,u2,u3,u4,u5,.pointer (some ⟨b6,0,none⟩),u7,.pointer (some ⟨b8,0,none⟩),.bool th,u10,u11,u12,u13,u14,u15,u16,u17,u18,u19,u20,u21,u22,u23,u24,u25,t26,t27,t28,t29,t30,t31,t32,t33,t34,t35,u36,u37,u38,u39,u40,u41,u42,u43,u44,u45,u46,u47,u48,u49,u50,u51,u52,u53,u54,u55,u56,u57,u58,u59,u60,u61,u62,u63,u64,u65,u66,u67,u68,u69,u70,u71,u72,u73,u74,u75,u76,u77,u78,u79,u80,u81,u82,u83,u84],defers:=[] } w'):
 (Code.region 3 #[⟨some 27,.move (.tmp 0),46, "l4_want.go:255",#[],none⟩,⟨some 28,.nilCheck (.tmp 27),0, "l4_want.go:255",#[⟨0,.data⟩],none⟩,⟨some 29,.fieldAddr 88 (.tmp 28) 1,0, "l4_want.go:255",#[⟨1,.data⟩],none⟩,⟨some 30,.load 73 (.tmp 29),73, "l4_want.go:255",#[⟨2,.data⟩],none⟩,⟨some 31,.fieldAddr 112 (.tmp 6) 3,0, "l4_want.go:255",#[],none⟩,⟨some 32,.load 9 (.tmp 31),9, "l4_want.go:255",#[⟨4,.data⟩],none⟩,⟨some 33,.call ⟨.value (.func 45),#[.tmp 30,.tmp 32],#[73,9]⟩,89, "l4_want.go:255",#[⟨3,.data⟩,⟨5,.data⟩],none⟩,⟨some 26,.move (.tmp 33),89, "l4_want.go:255",#[⟨6,.data⟩],none⟩,⟨some 34,.extract (.tmp 26) 0,50, "l4_want.go:255",#[⟨7,.data⟩],none⟩,⟨some 35,.extract (.tmp 26) 1,4, "l4_want.go:255",#[⟨7,.data⟩,⟨11,.gcOnly .lateStores⟩],none⟩,⟨some 8,.alloc 50,0, "l4_want.go:255",#[],none⟩,⟨none,.store 50 (.tmp 8) (.tmp 34),0, "l4_want.go:255",#[⟨10,.data⟩,⟨8,.data⟩,⟨6,.chain⟩,⟨0,.phase⟩,⟨1,.phase⟩,⟨2,.phase⟩,⟨3,.phase⟩,⟨4,.phase⟩,⟨5,.phase⟩,⟨6,.phase⟩,⟨7,.phase⟩,⟨8,.phase⟩,⟨9,.textOnly .lateStores⟩,⟨10,.phase⟩],none⟩,⟨some 9,.assign (.tmp 35),4, "l4_want.go:255",#[⟨9,.data⟩,⟨11,.chain⟩,⟨0,.phase⟩,⟨1,.phase⟩,⟨2,.phase⟩,⟨3,.phase⟩,⟨4,.phase⟩,⟨5,.phase⟩,⟨6,.phase⟩,⟨7,.phase⟩,⟨8,.phase⟩,⟨9,.phase⟩,⟨10,.phase⟩,⟨11,.phase⟩],none⟩] true).wp prog Q { tmps:=#[.pointer (some ⟨kb,0,none⟩),u1,u2,u3,u4,u5,.pointer (some ⟨b6,0,none⟩),u7,u8,u9,u10,u11,u12,u13,u14,u15,u16,u17,u18,u19,u20,u21,u22,u23,u24,u25,u26,u27,u28,u29,u30,u31,u32,u33,u34,u35,u36,u37,u38,u39,u40,u41,u42,u43,u44,u45,u46,u47,u48,u49,u50,u51,u52,u53,u54,u55,u56,u57,u58,u59,u60,u61,u62,u63,u64,u65,u66,u67,u68,u69,u70,u71,u72,u73,u74,u75,u76,u77,u78,u79,u80,u81,u82,u83,u84],defers:=[] } w:=by
 refine wp_region_held_drew (S:=fun u=>u.cell? ⟨kb,1,none⟩=some (.slice pa ms.length pc)/\u.cell? ⟨b6,4,none⟩=some (.string nm)) (by kernel_rfl) ?_ (fun hH=>?_)
 · exact ⟨c1,c4⟩
 obtain ⟨x0,hx0⟩:∃ x:World,x=w.drew:=⟨_,rfl⟩
 rw [<- hx0] at hH ⊢
 have L0:Below w.heap.size w x0:=by rw [hx0];exact (Below.refl _ w).drew
 have hz0:w.heap.size<=x0.heap.size:=L0.size
 clear hx0
 refine tq 0 hH ?_
 refine tq 1 hH ?_
 refine tq 2 hH ?_
 refine tq 3 hH ?_ (v:=?_) (hv:=?e)
 case e=>intro wq hSw;(try dsimp only at hSw);obtain ⟨s1,s4⟩:=hSw;go_simp;try with_reducible rfl
 refine tq 4 hH ?_
 refine tq 5 hH ?_ (v:=?_) (hv:=?e)
 case e=>intro wq hSw;(try dsimp only at hSw);obtain ⟨s1,s4⟩:=hSw;go_simp;try with_reducible rfl
 try simp only [qq]
 refine wpAnyH_ready (rs:=[6,10]) (by kernel_rfl) (by simp) (AllReadyH.cons (o:=⟨some 33,.call ⟨.value (.func 45),#[.tmp 30,.tmp 32],#[73,9]⟩,89,_,_,none⟩) rfl (fun K hK=>?_) (AllReadyH.cons (o:=⟨some 8,.alloc 50,0,_,_,none⟩) rfl (fun K hK=>?_) AllReadyH.nil))
 · go_simp
   refine (G.c45 pa pc ms nm x0 hml (HMK.out x0 L0) hasc).mono ?_
   rintro e x1 ⟨⟨y,th,rfl,hy⟩,hbx1⟩
   have HY:=hidI hy
   clear hy
   go_simp
   have L1:Below w.heap.size w x1:=L0.trans (hbx1.mono (by omega))
   have hz1:=L1.size
   clear hH
   refine hK.out _ _ ?_ (fun hH=>?_)
   · exact ⟨(L1.cell (p:=⟨kb,1,none⟩) hkl).trans c1,(L1.cell (p:=⟨b6,4,none⟩) hbl).trans c4⟩
   clear hK K
   refine tq 7 hH ?_
   refine tq 8 hH ?_
   refine tq 9 hH ?_
   try simp only [qq]
   refine rq 10 (fun K hK=>?_)
   go_simp
   obtain ⟨x2,hx2⟩:∃ x:World,x=x1.alloc (.cells #[.string ⟨#[]⟩,.string ⟨#[]⟩,.string ⟨#[]⟩] 50):=⟨_,rfl⟩
   rw [<- hx2]
   have bax2:Below x1.heap.size x1 x2:=by rw [hx2];exact (Below.refl _ _).alloc (Nat.le_refl _) _
   have CAx2:Hid (Cl x2 x1.heap.size 50 [.string ⟨#[]⟩,.string ⟨#[]⟩,.string ⟨#[]⟩]):=by show Cl _ _ _ _;rw [hx2];exact cl_new x1 _ 50
   clear hx2
   have L2:Below w.heap.size w x2:=L1.trans (bax2.mono (by omega))
   clear hH
   refine hK.out _ _ ?_ (fun hH=>?_)
   · exact ⟨(L2.cell (p:=⟨kb,1,none⟩) hkl).trans c1,(L2.cell (p:=⟨b6,4,none⟩) hbl).trans c4⟩
   clear hK K
   try simp only [qq]
   refine rq 11 (fun K hK=>?_)
   refine st_stN rfl 50 _ _ rfl (B:=x1.heap.size) (j:=0) rfl (vs:=[.string y.nm,.string y.tl,.string y.ar]) rfl CAx2.out (by simp) (by intro v hv;simp at hv;rcases hv with rfl | rfl | rfl <;> rfl) (by kernel_rfl) ?_
   intro x9 hc9 ho9
   have L9:Below w.heap.size w x9:=L2.trans (ho9.below (by omega))
   clear hH
   refine hK.out _ _ ?_ (fun hH=>?_)
   · exact ⟨(L9.cell (p:=⟨kb,1,none⟩) hkl).trans c1,(L9.cell (p:=⟨b6,4,none⟩) hbl).trans c4⟩
   clear hK K
   refine tq 12 hH ?_
   try simp only [qq]
   refine wpAnyH_done (by kernel_rfl) ?_ _
   refine hKK _ _ _ _ _ _ _ _ _ _ x1.heap.size y th x9 L9 hc9 (by omega) HY.out
 go_simp
 obtain ⟨x1,hx1⟩:∃ x:World,x=x0.alloc (.cells #[.string ⟨#[]⟩,.string ⟨#[]⟩,.string ⟨#[]⟩] 50):=⟨_,rfl⟩
 rw [<- hx1]
 have bax1:Below x0.heap.size x0 x1:=by rw [hx1];exact (Below.refl _ _).alloc (Nat.le_refl _) _
 have CAx1:Hid (Cl x1 x0.heap.size 50 [.string ⟨#[]⟩,.string ⟨#[]⟩,.string ⟨#[]⟩]):=by show Cl _ _ _ _;rw [hx1];exact cl_new x0 _ 50
 clear hx1
 have L1:Below w.heap.size w x1:=L0.trans (bax1.mono (by omega))
 have hz1:=L1.size
 clear hH
 refine hK.out _ _ ?_ (fun hH=>?_)
 · exact ⟨(L1.cell (p:=⟨kb,1,none⟩) hkl).trans c1,(L1.cell (p:=⟨b6,4,none⟩) hbl).trans c4⟩
 clear hK K
 try simp only [qq]
 refine rq 6 (fun K hK=>?_)
 go_simp
 refine (G.c45 pa pc ms nm x1 hml (HMK.out x1 L1) hasc).mono ?_
 rintro e x2 ⟨⟨y,th,rfl,hy⟩,hbx2⟩
 have HY:=hidI hy
 clear hy
 go_simp
 have L2:Below w.heap.size w x2:=L1.trans (hbx2.mono (by omega))
 have CAx2:=hidI (CAx1.out.below hbx2 CAx1.out.lt)
 clear hH
 refine hK.out _ _ ?_ (fun hH=>?_)
 · exact ⟨(L2.cell (p:=⟨kb,1,none⟩) hkl).trans c1,(L2.cell (p:=⟨b6,4,none⟩) hbl).trans c4⟩
 clear hK K
 refine tq 7 hH ?_
 refine tq 8 hH ?_
 refine tq 9 hH ?_
 try simp only [qq]
 refine rq 11 (fun K hK=>?_)
 refine st_stN rfl 50 _ _ rfl (B:=x0.heap.size) (j:=0) rfl (vs:=[.string y.nm,.string y.tl,.string y.ar]) rfl CAx2.out (by simp) (by intro v hv;simp at hv;rcases hv with rfl | rfl | rfl <;> rfl) (by kernel_rfl) ?_
 intro x9 hc9 ho9
 have L9:Below w.heap.size w x9:=L2.trans (ho9.below (by omega))
 clear hH
 refine hK.out _ _ ?_ (fun hH=>?_)
 · exact ⟨(L9.cell (p:=⟨kb,1,none⟩) hkl).trans c1,(L9.cell (p:=⟨b6,4,none⟩) hbl).trans c4⟩
 clear hK K
 refine tq 12 hH ?_
 try simp only [qq]
 refine wpAnyH_done (by kernel_rfl) ?_ _
 refine hKK _ _ _ _ _ _ _ _ _ _ x0.heap.size y th x9 L9 hc9 (by omega) HY.out
open G (IsPT)
open G.T (F2 f2z treeOk FilesAt)
theorem row_mks {ms:List M3} (h:w.ownsRow base 50 3 v ms.length (G.mkCells ms)):∃ a c,v=.slice a ms.length c/\G.MksAt w a ms:=by
 exact G.own3_form h
theorem step50 (f:Fx) (E:Env) (hf:Fok f E) (n:Nat) (H48:P48 f E n):P50 f E n:=by
 intro g i x w hs hl hi hn
 have hEE:EnvOk E:=by rw [hf.hE];exact envOk hf.tr hf.pt
 have hxa:x.sta=.act:=(hl.act i x hi).2 rfl
 have hov:=(hl.non i x hi (by rw [hxa];simp)).1
 have hmk:=hEE.ms _ (hl.mem i x hi)
 have hri:=hist_inv hEE (hl.his i x hi) hmk
 have hnm:=(hri.name hov).1
 obtain ⟨pa,pc,hpv,_⟩:=row_mks hs.pl
 have HPV:=hidI hpv
 have HMK:Hid (∀ u {g'},Shp f g' u->G.MksAt u pa f.ms):=fun u g' h=>by
  obtain ⟨a,c,h1,h2⟩:=row_mks h.pl
  rw [hpv] at h1
  have:pa=a:=by injection h1
  rw [this];exact h2
 obtain ⟨t,HT⟩:∃ t,Hid (tn x.k.m x.ls=t):=⟨_,rfl⟩
 rw [HT.out] at hov hnm ⊢
 obtain ⟨o,tc,tt,th,tnm,ts⟩:=t
 dsimp only at hov hnm
 subst hov
 rw [show (TN.v ⟨false,tc,tt,th,tnm,ts⟩)=.agg #[.bool false,.int .i64 tc,.string tt,.bool th,.string tnm,.int .i64 ts] from rfl]
 have HNM:=hidI hnm
 have HS0:=hidI hs
 have HL1:Hid (Lgc E { g with ow:=extN g.ow w.heap.size } (some i)):=hidI ⟨hl.mem,hl.inj,hl.his,hl.fin,hl.non,hl.act,hl.que,hl.qnd,hl.qgo,hl.qre,hl.wai,hl.wls⟩
 have HI:=hidI hi
 have HF:=hidI hf
 have HNN:=hidI hn
 have HEE:=hidI hEE
 have H48:=hidI H48
 obtain ⟨w1,hw1⟩:∃ u:World,u=w.alloc (.cells #[.bool false,.int .i64 tc,.string tt,.bool th,.string tnm,.int .i64 ts] 112):=⟨_,rfl⟩
 have HW1:=hidI hw1
 have hb1:Below w.heap.size w w1:=by rw [hw1];exact (Below.refl _ _).alloc (Nat.le_refl _) _
 have C6:Hid (Cl w1 w.heap.size 112 [.bool false,.int .i64 tc,.string tt,.bool th,.string tnm,.int .i64 ts]):=by show Cl _ _ _ _;rw [hw1];exact cl_new w _ 112
 have HS1:Hid (Shp f { g with ow:=extN g.ow w.heap.size } w1):=hidI ((hs.extN w.heap.size (Nat.le_refl _)).grow hb1)
 have HB1:Hid (Below f.base w w1):=hidI (hb1.mono hs.sz)
 have HW1b:=hidI hb1
 have j3:w1.cell? ⟨w.heap.size,3,none⟩=some (.bool th):=C6.out.cell 3
 clear hs hl hi hf hn hEE hmk hri hnm hw1 hb1 hpv
 go_enter func75,ntmps75
 rw [show pt f.kb=.pointer (some ⟨f.kb,0,none⟩) from rfl,show pt x.k.B=.pointer (some ⟨x.k.B,0,none⟩) from rfl,show x.k.go=.func (.func 73) #[] #[.pointer (some ⟨x.k.c7,0,none⟩),.pointer (some ⟨x.k.c51,0,none⟩),.pointer (some ⟨x.k.c9,0,none⟩),.pointer (some ⟨x.k.c2,0,none⟩),.pointer (some ⟨x.k.c13,0,none⟩)] from rfl]
 go_upto_region 1 with fail
 rw [<- HW1.out]
 clear HW1
 cases th
 rotate_left
 · go_upto_region 2 with fail
   refine wp_region_L (S:=fun u=>Cl u f.kb 88 (kbCells f g.rv)/\Cl u w.heap.size 112 [.bool false,.int .i64 tc,.string tt,.bool true,.string tnm,.int .i64 ts]) 12 (by kernel_rfl) ?_ (fun hH=>?_)
   · exact ⟨HS1.out.kb,C6.out⟩
   obtain ⟨y0,hy0⟩:∃ x:World,x=w1.drew:=⟨_,rfl⟩
   rw [<- hy0] at hH ⊢
   have hby:Below w1.heap.size w1 y0:=by rw [hy0];exact (Below.refl _ w1).drew
   have HSY:=hidI (HS1.out.grow hby)
   have C6y:=hidI (C6.out.below hby C6.out.lt)
   have HBY:Hid (Below f.base w y0):=hidI (HB1.out.trans (hby.mono (by have:=HB1.out.size;have:=HS0.out.sz;omega)))
   have HWY:Hid (Below w.heap.size w y0):=hidI (HW1b.out.trans (hby.mono HW1b.out.size))
   clear hy0 hby
   refine l2 0 hH ?_
   try simp only [qq]
   refine l2 1 hH ?_
   try simp only [qq]
   refine l2 2 hH ?_
   try simp only [qq]
   refine l2 3 hH ?_
   try simp only [qq]
   refine l2 4 hH ?_ (v:=?_) (hv:=?e)
   case e=>intro wq hSw;(try dsimp only at hSw);have d0:wq.cell? ⟨f.kb,0,none⟩=some (.slice f.ta f.fs.length f.tc):=hSw.1.cell 0;have d1:wq.cell? ⟨f.kb,1,none⟩=some (.slice pa f.ms.length pc):=(hSw.1.cell 1).trans (congrArg some HPV.out);have d4:wq.cell? ⟨w.heap.size,4,none⟩=some (.string tnm):=hSw.2.cell 4;go_simp;try with_reducible rfl
   try simp only [qq]
   refine l2 5 hH ?_
   try simp only [qq]
   refine l2 6 hH ?_
   try simp only [qq]
   refine l2 7 hH ?_
   try simp only [qq]
   refine l2 8 hH ?_ (v:=?_) (hv:=?e)
   case e=>intro wq hSw;(try dsimp only at hSw);have d0:wq.cell? ⟨f.kb,0,none⟩=some (.slice f.ta f.fs.length f.tc):=hSw.1.cell 0;have d1:wq.cell? ⟨f.kb,1,none⟩=some (.slice pa f.ms.length pc):=(hSw.1.cell 1).trans (congrArg some HPV.out);have d4:wq.cell? ⟨w.heap.size,4,none⟩=some (.string tnm):=hSw.2.cell 4;go_simp;try with_reducible rfl
   try simp only [qq]
   refine l2 9 hH ?_
   try simp only [qq]
   refine l2 10 hH ?_ (v:=?_) (hv:=?e)
   case e=>intro wq hSw;(try dsimp only at hSw);have d0:wq.cell? ⟨f.kb,0,none⟩=some (.slice f.ta f.fs.length f.tc):=hSw.1.cell 0;have d1:wq.cell? ⟨f.kb,1,none⟩=some (.slice pa f.ms.length pc):=(hSw.1.cell 1).trans (congrArg some HPV.out);have d4:wq.cell? ⟨w.heap.size,4,none⟩=some (.string tnm):=hSw.2.cell 4;go_simp;try with_reducible rfl
   try simp only [qq]
   refine lr (i:=11) (o:=⟨some 24,.call ⟨.value (.func 109),#[.tmp 17,.tmp 21,.tmp 23],#[30,73,9]⟩,53,_,_,none⟩) rfl (by decide) (by kernel_rfl) (fun K hK=>?_)
   go_simp
   refine (c109 f.ta pa f.tc pc f.fs f.ms tnm y0 HF.out.tr.1 (G.T.files_below HF.out.fa (HSY.out.bl.mono (Nat.le_refl _))) (G.T.asc_of HF.out.tr) (Nat.le_trans (isPT_30 HF.out.pt) (by decide)) (HMK.out y0 HSY.out) (G.isPT_asc HF.out.pt)).mono ?_
   rintro e y1 ⟨rfl,hb1⟩
   have HSZ:=hidI (HSY.out.grow hb1)
   have C6z:=hidI (C6y.out.below hb1 C6y.out.lt)
   have HWZ:Hid (Below w.heap.size w y1):=hidI (HWY.out.trans (hb1.mono HWY.out.size))
   have HBZ:Hid (Below f.base w y1):=hidI (HBY.out.trans (hb1.mono (by have:=HBY.out.size;have:=HS0.out.sz;omega)))
   go_simp
   clear hH
   refine hK.out _ _ ?_ (fun hH=>?_)
   · exact ⟨HSZ.out.kb,C6z.out⟩
   clear hK K hb1
   try simp only [qq]
   refine lz (o:=⟨some 25,.call ⟨.value (.tmp 13),#[.tmp 24],#[53]⟩,0,_,_,none⟩) rfl (by kernel_rfl) (fun K hK=>?_)
   go_simp
   refine (H48.out _ i x ⟨(seeH f.fs f.ms tnm).1,(seeH f.fs f.ms tnm).2⟩ y1 HSZ.out HL1.out HI.out HNN.out (by rw [HT.out,HF.out.hE];exact .inl ⟨rfl,rfl⟩)).mono ?_
   rintro e y2 ⟨rfl,g',ha,_⟩
   have HFA:Hid (∃ g',Aft f E g g' w y2):=hidI ⟨g',ha.shp,ha.lgc,ha.ext,ha.ptl,HBZ.out.trans ha.bl,fun k hk he=>by
    obtain ⟨h1,h2⟩:=ha.kp k (Nat.lt_of_lt_of_le hk HWZ.out.size) ((extN_lt hk).trans he)
    exact ⟨h1.trans (HWZ.out.block k hk),h2⟩⟩
   clear ha
   go_simp
   clear hH
   refine hK.out _ _ ?_
   clear hK K
   try simp only [qq]
   refine wpL_done (by kernel_rfl) ?_ _
   go_wp2
   refine bodyPost_ret (results_none rfl _ _ _) rfl ?_
   exact ⟨rfl,HFA.out⟩
 have c1:w1.cell? ⟨f.kb,1,none⟩=some (.slice pa f.ms.length pc):=(HS1.out.kb.cell 1).trans (congrArg some HPV.out)
 have c4:w1.cell? ⟨w.heap.size,4,none⟩=some (.string tnm):=C6.out.cell 4
 go_upto_region 3 with fail
 refine r50 f.kb w.heap.size pa pc f.ms tnm w1 _ _ _ _ _ _ _ _ _ _ _ _ _ _ _ _ _ _ _ _ _ _ _ _ _ _ _ _ _ _ _ _ _ _ _ _ _ _ _ _ _ _ _ _ _ _ _ _ _ _ _ _ _ _ _ _ _ _ _ _ _ _ _ _ _ _ _ _ _ _ _ _ _ _ _ _ _ _ _ _ _ _ _ ?hq1 c1 c4 HS1.out.kb.lt C6.out.lt (Nat.le_trans (isPT_30 HF.out.pt) (by decide)) (hidI (fun u hb=>G.mks_below (HMK.out w1 HS1.out) hb)) (G.isPT_asc HF.out.pt) ?kk1
 case hq1=>exact fun _ _ d _ _ h=>by cases d <;> exact h
 intro t26 t27 t28 t29 t30 t31 t32 t33 t34 t35 b8 y mth w2 hb2 hc8 hb8 hy
 have HS2:=hidI (HS1.out.grow hb2)
 have C62:=hidI (C6.out.below hb2 C6.out.lt)
 have C8:Hid (Cl w2 b8 50 [.string y.nm,.string y.tl,.string y.ar]):=hidI hc8
 have HB2:Hid (Below f.base w w2):=hidI (HB1.out.trans (hb2.mono (by have:=HB1.out.size;have:=HS0.out.sz;omega)))
 have hz2:w.heap.size<w2.heap.size:=C62.out.lt
 have HW2b:Hid (Below w.heap.size w w2):=hidI (HW1b.out.trans (hb2.mono HW1b.out.size))
 clear c1 c4 hb2 hc8 j3 C6 HS1 HB1
 cases mth
 · have hy:G.FreeM f.ms tnm:=by
    rcases hy with ⟨h,_⟩ | ⟨_,h⟩
    · cases h
    exact h
   go_upto_region 5 with fail
   refine wp_region_L (S:=fun u=>Cl u f.kb 88 (kbCells f g.rv)/\Cl u w.heap.size 112 [.bool false,.int .i64 tc,.string tt,.bool false,.string tnm,.int .i64 ts]) 8 (by kernel_rfl) ?_ (fun hH=>?_)
   · exact ⟨HS2.out.kb,C62.out⟩
   obtain ⟨y0,hy0⟩:∃ x:World,x=w2.drew:=⟨_,rfl⟩
   rw [<- hy0] at hH ⊢
   have hby:Below w2.heap.size w2 y0:=by rw [hy0];exact (Below.refl _ w2).drew
   have HSY:=hidI (HS2.out.grow hby)
   have C6y:=hidI (C62.out.below hby C62.out.lt)
   have HBY:Hid (Below f.base w y0):=hidI (HB2.out.trans (hby.mono (by have:=HB2.out.size;have:=HS0.out.sz;omega)))
   have HWY:Hid (Below w.heap.size w y0):=hidI (HW2b.out.trans (hby.mono HW2b.out.size))
   clear hy0 hby
   refine l2 0 hH ?_
   try simp only [qq]
   refine l2 1 hH ?_
   try simp only [qq]
   refine l2 2 hH ?_
   try simp only [qq]
   refine l2 3 hH ?_
   try simp only [qq]
   refine l2 4 hH ?_ (v:=?_) (hv:=?e)
   case e=>intro wq hSw;(try dsimp only at hSw);have d0:wq.cell? ⟨f.kb,0,none⟩=some (.slice f.ta f.fs.length f.tc):=hSw.1.cell 0;have d1:wq.cell? ⟨f.kb,1,none⟩=some (.slice pa f.ms.length pc):=(hSw.1.cell 1).trans (congrArg some HPV.out);have d4:wq.cell? ⟨w.heap.size,4,none⟩=some (.string tnm):=hSw.2.cell 4;go_simp;try with_reducible rfl
   try simp only [qq]
   refine l2 5 hH ?_
   try simp only [qq]
   refine l2 6 hH ?_ (v:=?_) (hv:=?e)
   case e=>intro wq hSw;(try dsimp only at hSw);have d0:wq.cell? ⟨f.kb,0,none⟩=some (.slice f.ta f.fs.length f.tc):=hSw.1.cell 0;have d1:wq.cell? ⟨f.kb,1,none⟩=some (.slice pa f.ms.length pc):=(hSw.1.cell 1).trans (congrArg some HPV.out);have d4:wq.cell? ⟨w.heap.size,4,none⟩=some (.string tnm):=hSw.2.cell 4;go_simp;try with_reducible rfl
   try simp only [qq]
   refine lr (i:=7) (o:=⟨some 45,.call ⟨.value (.func 46),#[.tmp 42,.tmp 44],#[30,9]⟩,53,_,_,none⟩) rfl (by decide) (by kernel_rfl) (fun K hK=>?_)
   go_simp
   refine (G.c46 f.ta f.tc f.fs tnm y0 HF.out.tr.1 (G.T.files_below HF.out.fa (HSY.out.bl.mono (Nat.le_refl _))) (G.T.asc_of HF.out.tr)).mono ?_
   rintro e y1 ⟨h43,hb1⟩
   obtain ⟨r,he,hpl⟩:=un_plain HF.out.tr h43 hy
   obtain ⟨rc,rt⟩:=r
   have he':e=.returned (.agg #[.int .i64 rc,.string rt]):=he
   subst he'
   have HPL:=hidI hpl
   have HSZ:=hidI (HSY.out.grow hb1)
   have C6z:=hidI (C6y.out.below hb1 C6y.out.lt)
   have HWZ:Hid (Below w.heap.size w y1):=hidI (HWY.out.trans (hb1.mono HWY.out.size))
   have HBZ:Hid (Below f.base w y1):=hidI (HBY.out.trans (hb1.mono (by have:=HBY.out.size;have:=HS0.out.sz;omega)))
   clear h43 he hpl
   go_simp
   clear hH
   refine hK.out _ _ ?_ (fun hH=>?_)
   · exact ⟨HSZ.out.kb,C6z.out⟩
   clear hK K hb1
   try simp only [qq]
   refine lz (o:=⟨some 46,.call ⟨.value (.tmp 38),#[.tmp 45],#[53]⟩,0,_,_,none⟩) rfl (by kernel_rfl) (fun K hK=>?_)
   go_simp
   refine (H48.out _ i x ⟨rc,rt⟩ y1 HSZ.out HL1.out HI.out HNN.out (by rw [HT.out];exact .inr ⟨rfl,.inl (by rw [HF.out.hE];exact HPL.out)⟩)).mono ?_
   rintro e y2 ⟨rfl,g',ha,_⟩
   have HFA:Hid (∃ g',Aft f E g g' w y2):=hidI ⟨g',ha.shp,ha.lgc,ha.ext,ha.ptl,HBZ.out.trans ha.bl,fun k hk he=>by
    obtain ⟨h1,h2⟩:=ha.kp k (Nat.lt_of_lt_of_le hk HWZ.out.size) ((extN_lt hk).trans he)
    exact ⟨h1.trans (HWZ.out.block k hk),h2⟩⟩
   clear ha
   go_simp
   clear hH
   refine hK.out _ _ ?_
   clear hK K
   try simp only [qq]
   refine wpL_done (by kernel_rfl) ?_ _
   go_wp2
   refine bodyPost_ret (results_none rfl _ _ _) rfl ?_
   exact ⟨rfl,HFA.out⟩
 obtain ⟨iy,hiy,hgy,hny⟩:∃ i,i<f.ms.length/\f.ms.getD i m3z=y/\y.nm=tnm:=by
  rcases hy with ⟨_,h⟩ | ⟨h,_⟩
  · exact h
  cases h
 clear hy
 have hmE:toM y∈E.ms:=by rw [HF.out.hE];exact mem_toM.2 ⟨iy,hiy,by rw [hgy]⟩
 have HPN:Hid (E.pl tnm=none):=hidI ((HEE.out.made tnm).2 ⟨toM y,hmE,hny⟩)
 have HME:=hidI hmE
 have HNY:Hid (y.nm=tnm):=hny
 have hms:E.ms.length<=30:=by rw [HF.out.hE];show (f.ms.map toM).length<=30;rw [List.length_map];exact isPT_30 HF.out.pt
 have hrl:g.rs.length<=30:=HL1.out.len hms
 have hql:g.q.length<=30:=by
  have:=nodup_lt (l:=g.q.map It.i) HL1.out.qnd (n:=g.rs.length) (fun j hj=>by
   obtain ⟨it,hit,rfl⟩:=List.mem_map.1 hj
   exact HS0.out.qlt it hit)
  simp at this
  omega
 have HC:=hidI (c47 f E HF.out { g with ow:=extN g.ow w.heap.size } (toM y) w2 HS2.out (by show y.nm.size<=20;rw [HNY.out];exact name_le HNM.out) (by show g.rs.length<=1000;omega) (by show g.q.length<=1000;omega))
 have e0:w2.cell? ⟨b8,0,none⟩=some (.string y.nm):=C8.out.cell 0
 have e1:w2.cell? ⟨b8,1,none⟩=some (.string y.tl):=C8.out.cell 1
 have e2:w2.cell? ⟨b8,2,none⟩=some (.string y.ar):=C8.out.cell 2
 clear hiy hgy hny hmE hrl hql
 go_wp2_with fail
 refine HC.out.mono ?_
 rintro e w3 ⟨g',j,z,rfl,hs3,hbeg,hgj,hb3,hkp⟩
 rw [show pt z.k.B=.pointer (some ⟨z.k.B,0,none⟩) from rfl]
 obtain ⟨hL3,hzm,hext,hptl⟩:=HL1.out.beg HEE.out HS0.out.qlt HME.out hbeg hgj (fun i' e=>by cases e;exact (List.getElem?_eq_some_iff.1 HI.out).1) hms
 have HL3:=hidI hL3
 have HS3:=hidI hs3
 have HZM:=hidI hzm
 have HEXT:=hidI hext
 have HPTL:=hidI hptl
 have HRLN:Hid (g'.rs.length<=30):=hidI (hL3.len hms)
 have HGJ:=hidI hgj
 have HI3:=hidI (hext i x HI.out)
 have HB3:=hidI (HB2.out.trans hb3)
 have hz6:w3.cell? ⟨z.k.B,6,none⟩=some (.int .i64 z.r.code):=(hs3.ru j z hgj).hB.cell 6
 have hz7:w3.cell? ⟨z.k.B,7,none⟩=some (.string z.r.tx):=(hs3.ru j z hgj).hB.cell 7
 have C63:Hid (Cl w3 w.heap.size 112 [.bool false,.int .i64 tc,.string tt,.bool false,.string tnm,.int .i64 ts]):=hidI ((hkp w.heap.size C62.out.lt (extN_ge (Nat.le_refl _))).1.trans C62.out)
 have HKP3:Hid (∀ k,k<w.heap.size->g.ow k=none->w3.heap[k]?=w.heap[k]?/\g'.ow k=none):=fun k hk he=>by
  obtain ⟨h1,h2⟩:=hkp k (Nat.lt_of_lt_of_le hk HW2b.out.size) ((extN_lt hk).trans he)
  exact ⟨h1.trans (HW2b.out.block k hk),h2⟩
 have hz3:w.heap.size<w3.heap.size:=C63.out.lt
 clear hs3 hbeg hgj hb3 hkp hL3 hzm hext hptl HC e0 e1 e2 hms
 by_cases hc6:z.r.code=6
 rotate_left
 · have hfin:z.sta=.fin:=Classical.byContradiction fun h=>hc6 (by rw [(HL3.out.non j z HGJ.out h).2])
   have hrr:=HL3.out.fin j z HGJ.out hfin
   have HAN:Hid (Ans E (tn x.k.m x.ls) z.r):=by
    rw [HT.out]
    exact .inr ⟨rfl,.inr ⟨HPN.out,z.k.m,z.ls,HL3.out.mem j z HGJ.out,by rw [HZM.out];exact HNY.out,HL3.out.his j z HGJ.out,hrr.1.1,hrr.2⟩⟩
   have hne:(z.r.code !=6)=true:=by simpa using hc6
   clear hfin hrr hc6
   go_wp2_with fail
   refine (H48.out g' i x z.r w3 HS3.out HL3.out HI3.out HNN.out HAN.out).mono ?_
   rintro e w4 ⟨rfl,g2,ha,_⟩
   have HFA:Hid (∃ g',Aft f E g g' w w4):=hidI ⟨g2,ha.shp,ha.lgc,fun k u hu=>ha.ext k u (HEXT.out k u hu),Nat.le_trans ha.ptl HPTL.out,HB3.out.trans ha.bl,fun k hk he=>by
    obtain ⟨h1,h2⟩:=HKP3.out k hk he
    obtain ⟨h3,h4⟩:=ha.kp k (by omega) h2
    exact ⟨h3.trans h1,h4⟩⟩
   clear ha
   go_wp2
   refine bodyPost_ret (results_none rfl _ _ _) rfl ?_
   exact ⟨rfl,HFA.out⟩
 have hzf:z.sta≠.fin:=fun h=>by
  obtain ⟨h1,h2⟩:=HL3.out.fin j z HGJ.out h
  have h3:=(hist_inv HEE.out (HL3.out.his j z HGJ.out) (HEE.out.ms _ (HL3.out.mem j z HGJ.out))).over h1.1
  refine vr_six (r:=resOf (tn z.k.m z.ls)) h3 ?_
  rw [<- h2];exact hc6
 have HZF:=hidI hzf
 have HWZ:Hid (z.wl.length<=30):=by
  have:=nodup_lt (HL3.out.wls j z HGJ.out hzf).1 (n:=g'.rs.length) (fun k hk=>HS3.out.wlt j z HGJ.out k hk)
  have:=HRLN.out
  show _<=_
  omega
 have hru:=HS3.out.ru i x HI3.out
 have q8:w3.cell? ⟨x.k.B,8,none⟩=some (.string x.wt):=hru.hB.cell 8
 have f8:=hru.hB.opn 8
 have q4:w3.cell? ⟨w.heap.size,4,none⟩=some (.string tnm):=C63.out.cell 4
 rw [hc6] at hz6
 go_upto_region 10 with fail
 have hon:=on_set w3 x.k.B 8 (.string tnm)
 have hcB:=hru.hB.set 8 (.string tnm)
 generalize (w3.setCell ⟨x.k.B,8,none⟩ (.string tnm))=w4 at*
 have hBown:g'.ow x.k.B=some (.run i):=HS3.out.oru i x HI3.out _ (.inl (by simp))
 have HS4:Hid (Shp f { g' with rs:=g'.rs.set i { x with wt:=tnm,sta:=.wai j } } w4):=hidI (HS3.out.run (x':={ x with wt:=tnm,sta:=.wai j }) HI3.out (hon.ex (S:=fun k=>g'.ow k=some (.run i)) hBown) (hru.setB hon hcB rfl rfl rfl rfl rfl) (fun k hk=>HS3.out.oru i x HI3.out k (FPx.of (x:=x) rfl rfl rfl rfl hk)) rfl rfl rfl)
 have hnB:w.heap.size≠x.k.B:=by have:=(HS0.out.ru i x HI.out).hB.lt;omega
 have C64:=hidI (C63.out.on hon hnB)
 have HKP4:Hid (∀ k,k<w.heap.size->g.ow k=none->w4.heap[k]?=w.heap[k]?/\g'.ow k=none):=fun k hk he=>by
  obtain ⟨h1,h2⟩:=HKP3.out k hk he
  exact ⟨(hon.block k (fun e=>by rw [e,hBown] at h2;cases h2)).trans h1,h2⟩
 have HB4:Hid (Below f.base w w4):=hidI (HB3.out.trans (hon.below (by exact HS3.out.oge _ _ hBown)))
 obtain ⟨z4,hz4,hzk,hzwv,hzwl,hzls,hzst,hzr,hzsta⟩:∃ z4,(g'.rs.set i { x with wt:=tnm,sta:=.wai j })[j]?=some z4/\z4.k=z.k/\z4.wv=z.wv/\z4.wl=z.wl/\z4.ls=z.ls/\z4.st=z.st/\z4.r=z.r/\z4.sta=if j=i then .wai j else z.sta:=by
  obtain ⟨u,hu,⟨rfl,rfl⟩ | ⟨rfl,hne⟩⟩:=set_old (x':={ x with wt:=tnm,sta:=.wai j }) HI3.out HGJ.out
  · have:=HGJ.out
    rw [HI3.out] at this
    obtain rfl:=Option.some.inj this
    exact ⟨_,hu,rfl,rfl,rfl,rfl,rfl,rfl,by simp⟩
  exact ⟨u,hu,rfl,rfl,rfl,rfl,rfl,rfl,by rw [if_neg (fun c=>hne c.symm)]⟩
 have HZ4:=hidI hz4
 have HZP:=hidI (And.intro hzk (And.intro hzwv (And.intro hzwl (And.intro hzls (And.intro hzst (And.intro hzr hzsta))))))
 have HWV:Hid ((getK g'.lw tnm).getD (.slice none 0 0)=z4.wv):=by
  have:=HS4.out.kw j z4 hz4
  rw [hzk,HZM.out,show (toM y).nm=y.nm from rfl,HNY.out] at this
  exact this
 have HWLN:Hid (z4.wl.length<=30):=by rw [hzwl];exact HWZ.out
 have hnl:tnm.size<=maxLen:=by have:=name_le HNM.out;unfold maxLen;omega
 clear q8 f8 q4 hz6 hz7 hon hcB hru hc6 hz4 hzk hzwv hzwl hzls hzst hzr hzsta hzf hBown
 refine wp_region_L (S:=fun u=>Cl u f.kb 88 (kbCells f g'.rv)/\Cl u w.heap.size 112 [.bool false,.int .i64 tc,.string tt,.bool false,.string tnm,.int .i64 ts]/\u.ownsMap prog 9 tokR f.mw g'.lw.length (mapD g'.lw)) 16 (by kernel_rfl) ?_ (fun hH=>?_)
 · exact ⟨HS4.out.kb,C64.out,HS4.out.mw⟩
 obtain ⟨y0,hy0⟩:∃ x:World,x=w4.drew:=⟨_,rfl⟩
 rw [<- hy0] at hH ⊢
 have hby:Below w4.heap.size w4 y0:=by rw [hy0];exact (Below.refl _ w4).drew
 have HSY:=hidI (HS4.out.grow hby)
 have HKPY:Hid (∀ k,k<w.heap.size->g.ow k=none->y0.heap[k]?=w.heap[k]?/\g'.ow k=none):=fun k hk he=>⟨(hby.block k (Nat.lt_trans hk C64.out.lt)).trans (HKP4.out k hk he).1,(HKP4.out k hk he).2⟩
 have C6y:=hidI (C64.out.below hby C64.out.lt)
 have HBY:Hid (Below f.base w y0):=hidI (HB4.out.trans (hby.mono (by have:=HB4.out.size;have:=HS0.out.sz;omega)))
 clear hy0 hby
 refine lq 0 hH ?_
 try simp only [qq]
 refine lq 1 hH ?_
 try simp only [qq]
 refine lq 2 hH ?_
 try simp only [qq]
 refine lq 3 hH ?_ (v:=?_) (hv:=?e)
 case e=>intro wq hSw;(try dsimp only at hSw);have d3:wq.cell? ⟨f.kb,3,none⟩=some (.map (some f.mw)):=hSw.1.cell 3;have d4:wq.cell? ⟨w.heap.size,4,none⟩=some (.string tnm):=hSw.2.1.cell 4;go_simp;try with_reducible rfl
 try simp only [qq]
 refine lq 4 hH ?_
 try simp only [qq]
 refine lq 5 hH ?_ (v:=?_) (hv:=?e)
 case e=>intro wq hSw;(try dsimp only at hSw);have d3:wq.cell? ⟨f.kb,3,none⟩=some (.map (some f.mw)):=hSw.1.cell 3;have d4:wq.cell? ⟨w.heap.size,4,none⟩=some (.string tnm):=hSw.2.1.cell 4;go_simp;try with_reducible rfl
 try simp only [qq]
 refine lq 6 hH ?_
 try simp only [qq]
 refine lq 7 hH ?_
 try simp only [qq]
 refine lq 8 hH ?_
 try simp only [qq]
 refine lq 9 hH ?_ (v:=?_) (hv:=?e)
 case e=>intro wq hSw;(try dsimp only at hSw);have d3:wq.cell? ⟨f.kb,3,none⟩=some (.map (some f.mw)):=hSw.1.cell 3;have d4:wq.cell? ⟨w.heap.size,4,none⟩=some (.string tnm):=hSw.2.1.cell 4;go_simp;try with_reducible rfl
 try simp only [qq]
 refine lq 10 hH ?_
 try simp only [qq]
 refine lq 11 hH ?_ (v:=?_) (hv:=?e)
 case e=>intro wq hSw;(try dsimp only at hSw);have d3:wq.cell? ⟨f.kb,3,none⟩=some (.map (some f.mw)):=hSw.1.cell 3;have d4:wq.cell? ⟨w.heap.size,4,none⟩=some (.string tnm):=hSw.2.1.cell 4;go_simp;try with_reducible rfl
 try simp only [qq]
 refine lk (i:=12) (oi:=⟨some 81,.lookup 85 (.tmp 78) (.tmp 80) false,175,_,_,none⟩) (v:=z4.wv) rfl (by kernel_rfl) rfl ?e hH ?_
 case e=>intro wq hSw;exact ex_look 85 _ _ false rfl (v:=.map (some f.mw)) (z:=.string tnm) rfl rfl ((look68 hSw.2.2 hnl).trans (by rw [HWV.out]))
 try simp only [qq]
 refine lq 13 hH ?_
 try simp only [qq]
 refine lr (i:=14) (o:=⟨some 83,.buildSlice 175 1 #[(0,.tmp 82)],175,_,_,none⟩) rfl (by decide) (by kernel_rfl) (fun K hK=>?_)
 go_simp
 obtain ⟨y1,hy1⟩:∃ uu:World,uu=y0.alloc (.cells #[.func (.func 73) #[] #[.pointer (some ⟨x.k.c7,0,none⟩),.pointer (some ⟨x.k.c51,0,none⟩),.pointer (some ⟨x.k.c9,0,none⟩),.pointer (some ⟨x.k.c2,0,none⟩),.pointer (some ⟨x.k.c13,0,none⟩)]] 135):=⟨_,rfl⟩
 rw [<- hy1]
 have hby1:Below y0.heap.size y0 y1:=by rw [hy1];exact (Below.refl _ _).alloc (Nat.le_refl _) _
 have CL:Hid (Cl y1 y0.heap.size 135 [x.k.go]):=by show Cl _ _ _ _;rw [hy1];exact cl_new y0 _ 135
 have HSZ:=hidI (HSY.out.grow hby1)
 have C6z:=hidI (C6y.out.below hby1 C6y.out.lt)
 have HBA:=hidI hby1
 clear hy1 hH
 refine hK.out _ _ ?_ (fun hH=>?_)
 · exact ⟨HSZ.out.kb,C6z.out,HSZ.out.mw⟩
 clear hK K hby1
 try simp only [qq]
 refine lr (i:=15) (o:=⟨some 84,.call ⟨.builtin .append,#[.tmp 81,.tmp 83],#[175,175]⟩,175,_,_,none⟩) rfl (by decide) (by kernel_rfl) (fun K hK=>?_)
 refine st_app rfl _ _ 175 rfl f.base 135 1 underlying175 inf135 (by decide) z4.wv z4.wl.length _ rfl (HSZ.out.wr j z4 HZ4.out) (.slice (some ⟨y0.heap.size,0,none⟩) 1 1) 1 [x.k.go] rfl (.inr ⟨⟨y0.heap.size,0,none⟩,1,rfl,rfl,cl_row CL.out⟩) (by intro u hu;simp at hu;subst hu;rfl) (by have:=HWLN.out;omega) HSZ.out.sz ?_
 intro wv' y2 O2 g2 at2
 have hwo:∀ k,z4.wv.ownBlock=some k->g'.ow k=some (.wt j):=fun k e=>HSZ.out.owr j z4 HZ4.out k e
 have HKB2:Hid (Cl y2 f.kb 88 (kbCells f g'.rv)):=hidI (HSZ.out.kb.gb g2 (fun e=>by have:=hwo _ e.symm;rw [HSZ.out.okb] at this;cases this))
 have HMW2:Hid (y2.ownsMap prog 9 tokR f.mw g'.lw.length (mapD g'.lw)):=hidI (mp_keep HSZ.out.mw (g2.block _ (mp_lt HSZ.out.mw) (fun e=>by have:=hwo _ e.symm;rw [HSZ.out.omw] at this;cases this)))
 have C62b:Hid (Cl y2 w.heap.size 112 [.bool false,.int .i64 tc,.string tt,.bool false,.string tnm,.int .i64 ts]):=hidI (C6z.out.gb g2 (fun e=>by
  obtain ⟨_,cur,hcu⟩:=own_block (HSZ.out.wr j z4 HZ4.out) e.symm
  exact blk_ne C6z.out hcu (by decide) rfl))
 have HO2:=hidI O2
 have HG2:=hidI g2
 have HA2:=hidI at2
 clear O2 g2 at2 hH
 refine hK.out _ _ ?_ (fun hH=>?_)
 · exact ⟨HKB2.out,C62b.out,HMW2.out⟩
 clear hK K
 try simp only [qq]
 refine lz (o:=⟨none,.mapUpdate 85 (.tmp 72) (.tmp 74) (.tmp 84),0,_,_,none⟩) rfl (by kernel_rfl) (fun K hK=>?_)
 refine step_upS rfl 85 _ _ _ rfl (b:=f.mw) (n:=g'.lw.length) (l:=g'.lw) (k:=tnm) (vv:=wv') rfl rfl rfl HMW2.out underlying85 (by have:=asc_len HS3.out.aw HS3.out.kwo;have:=HRLN.out;unfold maxLen;omega) hnl rfl ?_
 intro w5 hm5 hg5
 have HM5:=hidI (len_put hm5)
 have HG5:=hidI hg5
 clear hm5 hg5 hH
 refine hK.out _ _ ?_
 clear hK K
 try simp only [qq]
 refine wpL_done (by kernel_rfl) ?_ _
 have HFA:Hid (∃ g2,Aft f E g g2 w w5):=by
  have hzn:z4.k.m.nm=tnm:=by rw [HZP.out.1,HZM.out];exact HNY.out
  have hks:(g'.rs.set i { x with wt:=tnm,sta:=.wai j }).map (·.k)=g'.ks:=ks_set HI3.out rfl
  have hgo:g'.ks.getD i rkz=x.k:=by
   show (g'.rs.map (·.k)).getD i rkz=x.k
   rw [List.getD_eq_getElem?_getD,List.getElem?_map,HI3.out]
   rfl
  have hpk:=getK_put HS3.out.aw tnm wv'
  have h1:=HSY.out.ext y0.heap.size (Nat.le_refl _) (.wt j)
  have hs1:y0.heap.size<=y1.heap.size:=HBA.out.size
  have hs2:y1.heap.size<=y2.heap.size:=HG2.out.size
  have hwlt:∀ k,z4.wv.ownBlock=some k->k<y0.heap.size:=fun k e=>row_lt (HSY.out.wr j z4 HZ4.out) e
  have hmwlt:f.mw<y0.heap.size:=mp_lt HSY.out.mw
  have hex:Ex (fun k=>ext g'.ow y0.heap.size (.wt j) k=some .mw\/ext g'.ow y0.heap.size (.wt j) k=some (.wt j)) y0 w5:=by
   refine ⟨HG5.out.os.trans (HG2.out.os.trans HBA.out.os),HG5.out.tape.trans (HG2.out.tape.trans HBA.out.tape),HG5.out.output.trans (HG2.out.output.trans HBA.out.output),Nat.le_trans hs1 (Nat.le_trans hs2 HG5.out.size),fun k hk hn=>?_⟩
   have hkm:some k≠some f.mw:=fun e=>hn (.inl (by rw [ext_lt hk,Option.some.inj e];exact HS3.out.omw))
   have hkw:some k≠z4.wv.ownBlock:=fun e=>hn (.inr (by rw [ext_lt hk];exact hwo k e.symm))
   exact (HG5.out.block k (by omega) hkm).trans ((HG2.out.block k (by omega) hkw).trans (HBA.out.block k hk))
  have hr0:y2.ownsRow f.base 135 1 wv' (z4.wl++[i]).length ((z4.wl++[i]).map fun q=>(((g'.rs.set i { x with wt:=tnm,sta:=.wai j }).map (·.k)).getD q rkz).go):=by
   have:=HO2.out
   rw [List.map_append,List.length_append]
   have e:[i].map (fun q=>(((g'.rs.set i { x with wt:=tnm,sta:=.wai j }).map (·.k)).getD q rkz).go)=[x.k.go]:=by rw [hks];show [(g'.ks.getD i rkz).go]=_;rw [hgo]
   rw [e]
   exact this
  have hrow:w5.ownsRow f.base 135 1 wv' (z4.wl++[i]).length ((z4.wl++[i]).map fun q=>(((g'.rs.set i { x with wt:=tnm,sta:=.wai j }).map (·.k)).getD q rkz).go):=by
   refine ownsRow_keep hr0 fun k hk=>HG5.out.block k (row_lt hr0 hk) (fun e=>?_)
   obtain ⟨_,cur,hcu⟩:=own_block hr0 hk
   obtain ⟨es,ck,hmm⟩:=mp_isMap HMW2.out
   rw [Option.some.inj e,hmm] at hcu
   cases hcu
  have hxl:i<g'.rs.length:=(List.getElem?_eq_some_iff.1 HI3.out).1
  have hs5:=h1.wait (j:=j) (y:=z4) (wv':=wv') (wl':=z4.wl++[i]) HZ4.out hex HM5.out hpk.1 (fun n=>by rw [hpk.2 n,hzn]) hrow (fun k e=>by
   rcases HA2.out with h | h
   · rw [h] at e
     exact (ext_lt (hwlt k e)).trans (hwo k e)
   · rw [h] at e
     have:=Option.some.inj e
     exact ext_ge (by omega)) (fun q hq=>by
   show q<(g'.rs.set i _).length
   rw [List.length_set]
   rcases List.mem_append.1 hq with hq | hq
   · have:=HSY.out.wlt j z4 HZ4.out q hq
     rw [List.length_set] at this
     exact this
   rw [List.mem_singleton.1 hq];exact hxl)
  have hxt:=HT.out
  have hpt:∀ (k:Nat) u,g'.rs[k]?=some u->∃ u',((g'.rs.set i { x with wt:=tnm,sta:=.wai j }).set j { z4 with wv:=wv',wl:=z4.wl++[i] })[k]?=some u'/\WtP i j (tn x.k.m x.ls).name k u u':=fun k u hu=>by
   obtain ⟨v,hv,hvp⟩:∃ v,(g'.rs.set i { x with wt:=tnm,sta:=.wai j })[k]?=some v/\v.k=u.k/\v.ls=u.ls/\v.st=u.st/\(v.r=u.r/\v.wt=if k=i then (tn x.k.m x.ls).name else u.wt)/\v.sta=(if k=i then .wai j else u.sta)/\v.wl=u.wl:=by
    obtain ⟨v,hv,⟨rfl,rfl⟩ | ⟨rfl,hne⟩⟩:=set_old (x':={ x with wt:=tnm,sta:=.wai j }) HI3.out hu
    · rw [HI3.out] at hu
      obtain rfl:=Option.some.inj hu
      exact ⟨_,hv,rfl,rfl,rfl,⟨rfl,by rw [if_pos rfl,hxt]⟩,by simp,rfl⟩
    exact ⟨v,hv,rfl,rfl,rfl,⟨rfl,by rw [if_neg (fun c=>hne c.symm)]⟩,by rw [if_neg (fun c=>hne c.symm)],rfl⟩
   obtain ⟨p1,p2,p3,p4,p5,p6⟩:=hvp
   obtain ⟨u',hu',⟨rfl,rfl⟩ | ⟨rfl,hne⟩⟩:=set_old (x':={ z4 with wv:=wv',wl:=z4.wl++[i] }) HZ4.out hv
   · have:=HZ4.out
     rw [hv] at this
     obtain rfl:=Option.some.inj this
     exact ⟨_,hu',p1,p2,p3,p4,p5,by show v.wl++[i]=_;rw [if_pos rfl,p6]⟩
   exact ⟨u',hu',p1,p2,p3,p4,p5,by rw [if_neg (fun c=>hne c.symm)];exact p6⟩
  have hlen:((g'.rs.set i { x with wt:=tnm,sta:=.wai j }).set j { z4 with wv:=wv',wl:=z4.wl++[i] }).length=g'.rs.length:=by simp
  have hL:=HL3.out.wtg (rs2:=(g'.rs.set i { x with wt:=tnm,sta:=.wai j }).set j { z4 with wv:=wv',wl:=z4.wl++[i] }) HI3.out HGJ.out (by rw [hxt]) (by rw [hxt];exact HPN.out) HZF.out (by rw [hxt,HZM.out];exact HNY.out) hpt (fun k u' hu'=>by
   have hk:k<g'.rs.length:=by rw [<- hlen];exact (List.getElem?_eq_some_iff.1 hu').1
   obtain ⟨u'',h1,h2⟩:=hpt k _ (List.getElem?_eq_getElem hk)
   rw [hu'] at h1
   obtain rfl:=Option.some.inj h1
   exact ⟨_,List.getElem?_eq_getElem hk,h2⟩)
  have hp1:=psum_set (x':={ x with wt:=tnm,sta:=.wai j }) HI3.out
  have hp2:=psum_set (x':={ z4 with wv:=wv',wl:=z4.wl++[i] }) HZ4.out
  have e1:pwr { x with wt:=tnm,sta:=.wai j }=pwr x:=rfl
  have e2:pwr { z4 with wv:=wv',wl:=z4.wl++[i] }=pwr z4:=rfl
  rw [e1] at hp1
  rw [e2] at hp2
  refine ⟨_,hs5,⟨hL.mem,hL.inj,hL.his,hL.fin,hL.non,hL.act,hL.que,hL.qnd,hL.qgo,hL.qre,hL.wai,hL.wls⟩,fun k u hu=>?_,?_,?_,fun k hk he=>?_⟩
  rotate_right
  · obtain ⟨h3,h4⟩:=HKPY.out k hk he
    have hky:k<y0.heap.size:=Nat.lt_trans hk C6y.out.lt
    have hxe:ext g'.ow y0.heap.size (.wt j) k=none:=(ext_lt hky).trans h4
    exact ⟨(hex.block k hky (by rw [hxe];simp)).trans h3,hxe⟩
  · obtain ⟨u',h1,h2⟩:=hpt k u (HEXT.out k u hu)
    exact ⟨u',h1,h2.1⟩
  · refine Nat.le_trans ?_ HPTL.out
    unfold ptl
    simp only [hlen]
    omega
  exact HBY.out.trans (hex.below (fun k e=>by rcases e with e | e <;> exact h1.oge k _ e) HSY.out.sz)
 go_wp2
 go_end0
 exact ⟨rfl,HFA.out⟩
theorem runs (f:Fx) (E:Env) (hf:Fok f E):∀ n,P48 f E n/\P50 f E n
 | 0=>by
  have h:P48 f E 0:=fun g i x r w hs hl hi hn ha=>by
   have hEE:EnvOk E:=by rw [hf.hE];exact envOk hf.tr hf.pt
   have hxa:x.sta=.act:=(hl.act i x hi).2 rfl
   have hov:=(hl.non i x hi (by rw [hxa];simp)).1
   have:=((hist_inv hEE (hl.his i x hi) (hEE.ms _ (hl.mem i x hi))).name hov).2
   omega
  exact ⟨h,step50 f E hf 0 h⟩
 | n+1=>by
  have h:=step48 f E hf n (runs f E hf n).2
  exact ⟨h,step50 f E hf (n+1) h⟩
theorem c76 (f:Fx) (E:Env) (hf:Fok f E) (g:Gh) (i:Nat) (x:Ru) (w:World) (hs:Shp f g w) (hl:Lgc E g (some i)) (hi:g.rs[i]?=some x):
 Calls prog 76 #[pt x.k.c2,pt x.k.c7,pt x.k.c51,pt x.k.c13] w fun e w'=>e=.returned (.tuple #[])/\∃ g',Aft f E g g' w w':=by
 have hru:=hs.ru i x hi
 have HC:=hidI ((runs f E hf 15).2 g i x w hs hl hi (by omega))
 obtain ⟨t,HT⟩:∃ t,Hid (tn x.k.m x.ls=t):=⟨_,rfl⟩
 have h8:=hru.h8
 rw [HT.out] at h8 HC
 have d2:w.cell? ⟨x.k.c2,0,none⟩=some (.pointer (some ⟨f.kb,0,none⟩)):=hru.h2.cell 0
 have d7:w.cell? ⟨x.k.c7,0,none⟩=some (.pointer (some ⟨x.k.B,0,none⟩)):=hru.h7.cell 0
 have d10:w.cell? ⟨x.k.c13,0,none⟩=some (.func (.func 73) #[] #[.pointer (some ⟨x.k.c7,0,none⟩),.pointer (some ⟨x.k.c51,0,none⟩),.pointer (some ⟨x.k.c9,0,none⟩),.pointer (some ⟨x.k.c2,0,none⟩),.pointer (some ⟨x.k.c13,0,none⟩)]):=hru.h10.cell 0
 obtain ⟨j0,j1,j2,j3,j4,j5,_⟩:=T6At.cells h8
 obtain ⟨o,c,tt,th,tnm,ts⟩:=t
 clear hru hs hl hi h8
 go_enter func76,ntmps76
 rw [show pt x.k.c7=.pointer (some ⟨x.k.c7,0,none⟩) from rfl,show pt x.k.c51=.pointer (some ⟨x.k.c51,0,none⟩) from rfl,show pt x.k.c2=.pointer (some ⟨x.k.c2,0,none⟩) from rfl,show pt x.k.c13=.pointer (some ⟨x.k.c13,0,none⟩) from rfl]
 dsimp only at j0 j1 j2 j3 j4 j5
 go_wp2_with fail
 refine HC.out.mono ?_
 rintro e w1 ⟨rfl,ha⟩
 have HA:=hidI ha
 clear ha
 go_wp2
 go_end0
 exact ⟨rfl,HA.out⟩
theorem c108 (f:Fx) (E:Env) (hf:Fok f E) (g:Gh) (i:Nat) (x:Ru) (r:R2) (b7 b5:Nat) (w:World) (hs:Shp f g w) (hl:Lgc E g (some i)) (hi:g.rs[i]?=some x) (ha:Ans E (tn x.k.m x.ls) r) (h7:Cl w b7 135 [x.k.go]) (h5:Cl w b5 53 [.int .i64 r.code,.string r.tx]):
 Calls prog 108 #[pt b7,pt b5] w fun e w'=>e=.returned (.tuple #[])/\∃ g',Aft f E g g' w w'/\ptl g'<ptl g:=by
 have HC:=hidI ((runs f E hf 15).1 g i x r w hs hl hi (by omega) ha)
 have d7:w.cell? ⟨b7,0,none⟩=some (.func (.func 73) #[] #[.pointer (some ⟨x.k.c7,0,none⟩),.pointer (some ⟨x.k.c51,0,none⟩),.pointer (some ⟨x.k.c9,0,none⟩),.pointer (some ⟨x.k.c2,0,none⟩),.pointer (some ⟨x.k.c13,0,none⟩)]):=h7.cell 0
 have d0:w.cell? ⟨b5,0,none⟩=some (.int .i64 r.code):=h5.cell 0
 have d1:w.cell? ⟨b5,1,none⟩=some (.string r.tx):=h5.cell 1
 clear hs hl hi ha h7 h5
 go_enter func108,ntmps108
 rw [show pt b7=.pointer (some ⟨b7,0,none⟩) from rfl,show pt b5=.pointer (some ⟨b5,0,none⟩) from rfl]
 go_wp2_with fail
 refine HC.out.mono ?_
 rintro e w1 ⟨rfl,ha⟩
 have HA:=hidI ha
 clear ha
 go_wp2
 go_end0
 exact ⟨rfl,HA.out⟩
end Go.Proofs.YthfmmimmfcnhmaaGreatDoor

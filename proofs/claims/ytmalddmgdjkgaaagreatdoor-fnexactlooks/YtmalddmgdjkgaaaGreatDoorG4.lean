import Derived.Test.YtmalddmgdjkgaaaGreatDoorZ31
namespace Go.Proofs.YtmalddmgdjkgaaaGreatDoor
open Go.RowKit
set_option maxHeartbeats 4000000 in
set_option maxRecDepth 100000 in
theorem c73h (base b0 b1 b2 b3:Nat) (nm tl ar:ByteArray) (T:List I3) (reps:List R2) (v1 v2:Value) (r:R2) (w:World) (h:RunW base b0 b1 b2 b3 w nm tl ar ⟨true,T,reps⟩ v1 v2) (hrn:reps.length≤300) (h3:Three T ar (reps++[r])) (hsh:ShapesAt w) (hmx:MaxAt w) (hba:10≤base):
 Calls Tryz.prog 73 #[.agg #[.int .i64 r.code,.string r.tx],.pointer (some ⟨b0,0,none⟩),.pointer (some ⟨b1,0,none⟩),.pointer (some ⟨b2,0,none⟩),.pointer (some ⟨b3,0,none⟩)] w fun e w'=>e=.returned (nextT T ar (reps++[r])).v∧(∃ v1' v2',RunW base b0 b1 b2 b3 w' nm tl ar ⟨true,T,reps++[r]⟩ v1' v2'∧Nw w v1 v1'∧Nw w v2 v2')∧Ex (FP b0 b1 b2 v1) w w':=by
 have H:Hid (RunW base b0 b1 b2 b3 w nm tl ar ⟨true,T,reps⟩ v1 v2):=h
 have HS:Hid (ShapesAt w):=hsh
 have HM:Hid (MaxAt w):=hmx
 have H3:Hid (Three T ar (reps++[r])):=h3
 have l0:=blk_lt h.h0;have l1:=blk_lt h.h1;have l2:=blk_lt h.h2;have l3:=blk_lt h.h3
 have le1:=h.le1
 have c0:w.cell? ⟨b0,0,none⟩=some (.bool true):=by rw [Lib.cell_of_heap h.h0];rfl
 have c1:w.cell? ⟨b1,0,none⟩=some v1:=by rw [Lib.cell_of_heap h.h1];rfl
 have f1:w.frozen? ⟨b1,0,none⟩=false:=Lib.frozen_of_heap h.h1 0
 obtain ⟨i0,hi,hz0,hz1,hz2⟩:=info_parts info43
 have hown:w.ownsRow base 43 2 v1 reps.length (resCells reps):=h.o1
 clear h hsh hmx h3
 have k0:=past (show b0<w.heap.size from l0) c0
 have k1:=past (show b1<w.heap.size from l1) c1
 have g1:=pastf (show b1<w.heap.size from l1) f1
 obtain ⟨w0,hw0⟩:∃ w0,w0=((w.alloc (.cells #[.int .i64 r.code,.string r.tx] 43)).alloc (.cells #[.bool false,.int .i64 0,.string ⟨#[]⟩,.bool false,.string ⟨#[]⟩,.int .i64 0] 93)).alloc (.cells #[.int .i64 r.code,.string r.tx] 43):=⟨_,rfl⟩
 have HW0:Hid (w0=((w.alloc (.cells #[.int .i64 r.code,.string r.tx] 43)).alloc (.cells #[.bool false,.int .i64 0,.string ⟨#[]⟩,.bool false,.string ⟨#[]⟩,.int .i64 0] 93)).alloc (.cells #[.int .i64 r.code,.string r.tx] 43)):=hw0
 have hbw:Below w.heap.size w w0:=by rw [hw0];exact (((Below.refl _ _).alloc (Nat.le_refl _) _).alloc (by simp) _).alloc (by simp;omega) _
 have HB:Hid (Below w.heap.size w w0):=hbw
 have hz0':w0.heap.size=w.heap.size+3:=by rw [hw0];simp
 have hres:w0.heap[w.heap.size+1]?=some (.cells #[.bool false,.int .i64 0,.string ⟨#[]⟩,.bool false,.string ⟨#[]⟩,.int .i64 0] 93 (0,0)):=by
  rw [hw0,Lib.alloc_old _ _ _ (by simp)];exact alloc_new (by simp) _
 have HRES:Hid (w0.heap[w.heap.size+1]?=some (.cells #[.bool false,.int .i64 0,.string ⟨#[]⟩,.bool false,.string ⟨#[]⟩,.int .i64 0] 93 (0,0))):=hres
 clear hw0 hbw hres
 go_enter Tryz.func73,Tryz.ntmps73
 go_wp2_with (at_builtin;refine wpList_append_own_at _ rfl _ _ 124 rfl base 43 i0 (.agg #[.int .i64 0,.string ⟨#[]⟩]) 2 24 Tryz.underlying124 hi hz0 hz1 hz2 rfl (by decide) _ _ _ rfl (((hown.alloc _).alloc _).alloc _) ⟨w.heap.size+1+1,0,none⟩ 1 1 [_,_] rfl rfl (row2n (by simp) _ _ _) (by intro u hu;simp at hu;rcases hu with rfl | rfl <;> rfl) (by unfold maxLen;omega) (by omega) (by simp;omega) ?_;rw [← HW0.out];intro v' w3 hown3 (hgrow:w0.grownBy w3 v1.ownBlock) _ (hat:v'.ownBlock=v1.ownBlock∨v'.ownBlock=some w0.heap.size);have HNW:Hid (Nw w v1 v'):=nw_at hat (by omega);have HEX:Hid (Ex (FP b0 b1 b2 v1) w w3):=(Ex.ofB HB.out).grown hgrow (fun k e _=>.inr (.inr (.inr e)));clear hat;have X:Hid (RunW base b0 b1 b2 b3 (w3.setCell ⟨b1,0,none⟩ v') nm tl ar ⟨true,T,reps++[r]⟩ v' v2):=(H.out.below HB.out).app hgrow r v' hown3;have hrow:∀ k,v1.ownBlock=some k→base≤k∧∃ cur,w0.heap[k]?=some (.cells cur 43 (0,0)):=(fun k hk=>own_block (H.out.below HB.out).o1 hk);have HR3:Hid (w3.heap[w.heap.size+1]?=some (.cells z6 93 (0,0))):=(hgrow.block _ (by omega) (fun e=>by obtain ⟨_,cur,hc⟩:=hrow _ e.symm;exact blk_ne HRES.out hc (by decide) rfl)).trans HRES.out;have H1:Hid (w3.heap[b1]?=some (.cells #[v1] 124 (0,0))):=(hgrow.block _ (by omega) (fun e=>by obtain ⟨_,cur,hc⟩:=hrow _ e.symm;exact blk_ne (H.out.below HB.out).h1 hc (by decide) rfl)).trans (H.out.below HB.out).h1;have HBB:Hid (Below base w w3):=((HB.out.mono (by omega)).grown hgrow (by omega) (fun k hk=>(hrow k hk).1));have hz3:w0.heap.size≤w3.heap.size:=hgrow.size;obtain ⟨ao,cp,rfl⟩:=row_form2 hown3;have d1:w3.cell? ⟨b1,0,none⟩=some v1:=(by rw [Lib.cell_of_heap H1.out];rfl);have e1:w3.frozen? ⟨b1,0,none⟩=false:=Lib.frozen_of_heap H1.out 0;obtain ⟨a2,cp2,hv2,HI⟩:=own3_form X.out.o2;have m2:(w3.setCell ⟨b1,0,none⟩ (.slice ao (reps.length+1) cp)).cell? ⟨b2,0,none⟩=some (.slice a2 T.length cp2):=(by rw [Lib.cell_of_heap X.out.h2,← hv2];rfl);have m3:(w3.setCell ⟨b1,0,none⟩ (.slice ao (reps.length+1) cp)).cell? ⟨b3,2,none⟩=some (.string ar):=(by rw [Lib.cell_of_heap X.out.h3];rfl);have m1:(w3.setCell ⟨b1,0,none⟩ (.slice ao (reps.length+1) cp)).cell? ⟨b1,0,none⟩=some (.slice ao (reps.length+1) cp):=(by rw [Lib.cell_of_heap X.out.h1];rfl);have HINS:Hid (InsAt (w3.setCell ⟨b1,0,none⟩ (.slice ao (reps.length+1) cp)) a2 T):=HI;clear hgrow hown3 hrow HI hv2)
 obtain ⟨a3,cp3,hv3,HRS⟩:=own2_form X.out.o1
 have ha3:ao=a3:=by injection hv3
 subst ha3
 have hB4:Below base w (w3.setCell ⟨b1,0,none⟩ (.slice ao (reps.length+1) cp)):=HBB.out.setCell (by exact le1) _
 have HR4:(w3.setCell ⟨b1,0,none⟩ (.slice ao (reps.length+1) cp)).heap[w.heap.size+1]?=some (.cells z6 93 (0,0)):=(heap_setCell_other _ _ _ _ (by show w.heap.size+1≠b1;omega)).trans HR3.out
 rcases hN:nextT T ar (reps++[r]) with ⟨o,c,t,hh,n,k⟩
 refine (c74s a2 cp2 _ T ar ao cp _ (reps++[r]) _ rfl (by simp) H3.out HINS.out HRS (shapes_base HS.out hB4 hba) (max_base HM.out hB4 hba) hN).mono ?_
 rintro e w5 ⟨rfl,hb5⟩
 have HR5:w5.heap[w.heap.size+1]?=some (.cells z6 93 (0,0)):=(hb5.block _ (blk_lt HR4)).trans HR4
 have HX5:Hid (RunW base b0 b1 b2 b3 w5 nm tl ar ⟨true,T,reps++[r]⟩ (.slice ao (reps.length+1) cp) v2):=X.out.below hb5
 have HB5:Hid (Ex (FP b0 b1 b2 v1) w w5):=(HEX.out.setCell (fun _=>.inr (.inl rfl)) _).andB (hb5.mono hB4.size)
 have q0:=Lib.cell_of_heap HR5 0;have q1:=Lib.cell_of_heap HR5 1;have q2:=Lib.cell_of_heap HR5 2;have q3:=Lib.cell_of_heap HR5 3;have q4:=Lib.cell_of_heap HR5 4;have q5:=Lib.cell_of_heap HR5 5
 have hfz:∀ j,w5.frozen? ⟨w.heap.size+1,j,none⟩=false:=fun j=>Lib.frozen_of_heap HR5 j
 have HR6:Hid (w5.heap[w.heap.size+1]?=some (.cells z6 93 (0,0))):=HR5
 clear HR5 hb5 HR4 hB4 hv3 HRS
 change w5.cell? _=some (.bool false) at q0
 change w5.cell? _=some (.int .i64 0) at q1
 change w5.cell? _=some (.string ⟨#[]⟩) at q2
 change w5.cell? _=some (.bool false) at q3
 change w5.cell? _=some (.string ⟨#[]⟩) at q4
 change w5.cell? _=some (.int .i64 0) at q5
 go_wp2
 obtain ⟨s0,s1,s2,s3,s4,s5⟩:=set6 HR6.out (.bool o) (.int .i64 c) (.string t) (.bool hh) (.string n) (.int .i64 k)
 refine bodyPost_ret (v:=.agg #[.bool o,.int .i64 c,.string t,.bool hh,.string n,.int .i64 k]) (by simp [results,Tryz.results73,go_sem,s0,s1,s2,s3,s4,s5]) rfl ⟨by rw [hN];rfl,⟨_,_,HX5.out.set6 HR6.out _ _ _ _ _ _,HNW.out,nw_refl _ _⟩,?_⟩
 exact HB5.out.andB (set6_below (by omega) _ _ _ _ _ _)
end Go.Proofs.YtmalddmgdjkgaaaGreatDoor

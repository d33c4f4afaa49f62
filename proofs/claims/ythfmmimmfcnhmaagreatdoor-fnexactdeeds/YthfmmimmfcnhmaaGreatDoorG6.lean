import Derived.Test.YthfmmimmfcnhmaaGreatDoorZ31
set_option maxHeartbeats 8000000
set_option maxRecDepth 100000
namespace Go.Proofs.YthfmmimmfcnhmaaGreatDoor
open Proofs.Tryz
open Go.RowKit
theorem c104h (base b0 b1 b2 b3:Nat) (nm tl ar:ByteArray) (T:List I3) (reps:List R2) (v1 v2:Value) (r:R2) (w:World) (h:RunW base b0 b1 b2 b3 w nm tl ar ⟨true,T,reps⟩ v1 v2) (hrn:reps.length<=300) (h3:Three T ar (reps++[r])) (hsh:ShapesAt w) (hmx:MaxAt w) (hba:10<=base):
 Calls prog 104 #[.agg #[.int .i64 r.code,.string r.tx],.pointer (some ⟨b0,0,none⟩),.pointer (some ⟨b1,0,none⟩),.pointer (some ⟨b2,0,none⟩),.pointer (some ⟨b3,0,none⟩)] w fun e w'=>e=.returned (nextT T ar (reps++[r])).v/\(∃ v1' v2',RunW base b0 b1 b2 b3 w' nm tl ar ⟨true,T,reps++[r]⟩ v1' v2'/\Nw w v1 v1'/\Nw w v2 v2')/\Ex (FP b0 b1 b2 v1) w w':=by
 have H:Hid (RunW base b0 b1 b2 b3 w nm tl ar ⟨true,T,reps⟩ v1 v2):=h
 have HS:Hid (ShapesAt w):=hsh
 have HM:Hid (MaxAt w):=hmx
 have H3:Hid (Three T ar (reps++[r])):=h3
 have l0:=blk_lt h.h0;have l1:=blk_lt h.h1;have l2:=blk_lt h.h2;have l3:=blk_lt h.h3
 have le1:=h.le1
 have c0:w.cell? ⟨b0,0,none⟩=some (.bool true):=by rw [Lib.cell_of_heap h.h0];rfl
 have c1:w.cell? ⟨b1,0,none⟩=some v1:=by rw [Lib.cell_of_heap h.h1];rfl
 have f1:w.frozen? ⟨b1,0,none⟩=false:=Lib.frozen_of_heap h.h1 0
 obtain ⟨i0,hi,hz0,hz1,hz2⟩:=info_parts info53
 have hown:w.ownsRow base 53 2 v1 reps.length (resCells reps):=h.o1
 clear h hsh hmx h3
 have k0:=past (show b0<w.heap.size from l0) c0
 have k1:=past (show b1<w.heap.size from l1) c1
 have g1:=pastf (show b1<w.heap.size from l1) f1
 obtain ⟨w0,hw0⟩:∃ w0,w0=((w.alloc (.cells #[.int .i64 r.code,.string r.tx] 53)).alloc (.cells #[.bool false,.int .i64 0,.string ⟨#[]⟩,.bool false,.string ⟨#[]⟩,.int .i64 0] 112)).alloc (.cells #[.int .i64 r.code,.string r.tx] 53):=⟨_,rfl⟩
 have HW0:Hid (w0=((w.alloc (.cells #[.int .i64 r.code,.string r.tx] 53)).alloc (.cells #[.bool false,.int .i64 0,.string ⟨#[]⟩,.bool false,.string ⟨#[]⟩,.int .i64 0] 112)).alloc (.cells #[.int .i64 r.code,.string r.tx] 53)):=hw0
 have hbw:Below w.heap.size w w0:=by rw [hw0];exact (((Below.refl _ _).alloc (Nat.le_refl _) _).alloc (by simp) _).alloc (by simp;omega) _
 have HB:Hid (Below w.heap.size w w0):=hbw
 have hz0':w0.heap.size=w.heap.size+3:=by rw [hw0];simp
 have hres:w0.heap[w.heap.size+1]?=some (.cells #[.bool false,.int .i64 0,.string ⟨#[]⟩,.bool false,.string ⟨#[]⟩,.int .i64 0] 112 (0,0)):=by
  rw [hw0,Lib.alloc_old _ _ _ (by simp)];exact alloc_new (by simp) _
 have HRES:Hid (w0.heap[w.heap.size+1]?=some (.cells #[.bool false,.int .i64 0,.string ⟨#[]⟩,.bool false,.string ⟨#[]⟩,.int .i64 0] 112 (0,0))):=hres
 clear hw0 hbw hres
 go_enter func104,ntmps104
 go_wp2_with (at_builtin;refine wpList_append_own_at _ rfl _ _ 147 rfl base 53 i0 (.agg #[.int .i64 0,.string ⟨#[]⟩]) 2 24 underlying147 hi hz0 hz1 hz2 rfl (by decide) _ _ _ rfl (((hown.alloc _).alloc _).alloc _) ⟨w.heap.size+1+1,0,none⟩ 1 1 [_,_] rfl rfl (row2n (by simp) _ _ _) (by intro u hu;simp at hu;rcases hu with rfl | rfl <;> rfl) (by unfold maxLen;omega) (by omega) (by simp;omega) ?_;rw [<- HW0.out];intro v' w3 hown3 (hgrow:w0.grownBy w3 v1.ownBlock) _ (hat:v'.ownBlock=v1.ownBlock\/v'.ownBlock=some w0.heap.size);have HNW:Hid (Nw w v1 v'):=nw_at hat (by omega);have HEX:Hid (Ex (FP b0 b1 b2 v1) w w3):=(Ex.ofB HB.out).grown hgrow (fun k e _=>.inr (.inr (.inr e)));clear hat;have X:Hid (RunW base b0 b1 b2 b3 (w3.setCell ⟨b1,0,none⟩ v') nm tl ar ⟨true,T,reps++[r]⟩ v' v2):=(H.out.below HB.out).app hgrow r v' hown3;have hrow:∀ k,v1.ownBlock=some k->base<=k/\∃ cur,w0.heap[k]?=some (.cells cur 53 (0,0)):=(fun k hk=>own_block (H.out.below HB.out).o1 hk);have HR3:Hid (w3.heap[w.heap.size+1]?=some (.cells z6 112 (0,0))):=(hgrow.block _ (by omega) (fun e=>by obtain ⟨_,cur,hc⟩:=hrow _ e.symm;exact blk_ne HRES.out hc (by decide) rfl)).trans HRES.out;have H1:Hid (w3.heap[b1]?=some (.cells #[v1] 147 (0,0))):=(hgrow.block _ (by omega) (fun e=>by obtain ⟨_,cur,hc⟩:=hrow _ e.symm;exact blk_ne (H.out.below HB.out).h1 hc (by decide) rfl)).trans (H.out.below HB.out).h1;have HBB:Hid (Below base w w3):=((HB.out.mono (by omega)).grown hgrow (by omega) (fun k hk=>(hrow k hk).1));have hz3:w0.heap.size<=w3.heap.size:=hgrow.size;obtain ⟨ao,cp,rfl⟩:=row_form2 hown3;have d1:w3.cell? ⟨b1,0,none⟩=some v1:=(by rw [Lib.cell_of_heap H1.out];rfl);have e1:w3.frozen? ⟨b1,0,none⟩=false:=Lib.frozen_of_heap H1.out 0;obtain ⟨a2,cp2,hv2,HI⟩:=own3_form X.out.o2;have m2:(w3.setCell ⟨b1,0,none⟩ (.slice ao (reps.length+1) cp)).cell? ⟨b2,0,none⟩=some (.slice a2 T.length cp2):=(by rw [Lib.cell_of_heap X.out.h2,<- hv2];rfl);have m3:(w3.setCell ⟨b1,0,none⟩ (.slice ao (reps.length+1) cp)).cell? ⟨b3,2,none⟩=some (.string ar):=(by rw [Lib.cell_of_heap X.out.h3];rfl);have m1:(w3.setCell ⟨b1,0,none⟩ (.slice ao (reps.length+1) cp)).cell? ⟨b1,0,none⟩=some (.slice ao (reps.length+1) cp):=(by rw [Lib.cell_of_heap X.out.h1];rfl);have HINS:Hid (InsAt (w3.setCell ⟨b1,0,none⟩ (.slice ao (reps.length+1) cp)) a2 T):=HI;clear hgrow hown3 hrow HI hv2)
 obtain ⟨a3,cp3,hv3,HRS⟩:=own2_form X.out.o1
 have ha3:ao=a3:=by injection hv3
 subst ha3
 have hB4:Below base w (w3.setCell ⟨b1,0,none⟩ (.slice ao (reps.length+1) cp)):=HBB.out.setCell (by exact le1) _
 have HR4:(w3.setCell ⟨b1,0,none⟩ (.slice ao (reps.length+1) cp)).heap[w.heap.size+1]?=some (.cells z6 112 (0,0)):=(heap_setCell_other _ _ _ _ (by show w.heap.size+1≠b1;omega)).trans HR3.out
 rcases hN:nextT T ar (reps++[r]) with ⟨o,c,t,hh,n,k⟩
 refine (c105s a2 cp2 _ T ar ao cp _ (reps++[r]) _ rfl (by simp) H3.out HINS.out HRS (shapes_base HS.out hB4 hba) (max_base HM.out hB4 hba) hN).mono ?_
 rintro e w5 ⟨rfl,hb5⟩
 have HR5:w5.heap[w.heap.size+1]?=some (.cells z6 112 (0,0)):=(hb5.block _ (blk_lt HR4)).trans HR4
 have HX5:Hid (RunW base b0 b1 b2 b3 w5 nm tl ar ⟨true,T,reps++[r]⟩ (.slice ao (reps.length+1) cp) v2):=X.out.below hb5
 have HB5:Hid (Ex (FP b0 b1 b2 v1) w w5):=(HEX.out.setCell (fun _=>.inr (.inl rfl)) _).andB (hb5.mono hB4.size)
 have q0:=Lib.cell_of_heap HR5 0;have q1:=Lib.cell_of_heap HR5 1;have q2:=Lib.cell_of_heap HR5 2;have q3:=Lib.cell_of_heap HR5 3;have q4:=Lib.cell_of_heap HR5 4;have q5:=Lib.cell_of_heap HR5 5
 have hfz:∀ j,w5.frozen? ⟨w.heap.size+1,j,none⟩=false:=fun j=>Lib.frozen_of_heap HR5 j
 have HR6:Hid (w5.heap[w.heap.size+1]?=some (.cells z6 112 (0,0))):=HR5
 clear HR5 hb5 HR4 hB4 hv3 HRS
 change w5.cell? _=some (.bool false) at q0
 change w5.cell? _=some (.int .i64 0) at q1
 change w5.cell? _=some (.string ⟨#[]⟩) at q2
 change w5.cell? _=some (.bool false) at q3
 change w5.cell? _=some (.string ⟨#[]⟩) at q4
 change w5.cell? _=some (.int .i64 0) at q5
 go_wp2
 obtain ⟨s0,s1,s2,s3,s4,s5⟩:=set6 HR6.out (.bool o) (.int .i64 c) (.string t) (.bool hh) (.string n) (.int .i64 k)
 refine bodyPost_ret (v:=.agg #[.bool o,.int .i64 c,.string t,.bool hh,.string n,.int .i64 k]) (by simp [results,Tryz.results104,go_sem,s0,s1,s2,s3,s4,s5]) rfl ⟨by rw [hN];rfl,⟨_,_,HX5.out.set6 HR6.out _ _ _ _ _ _,HNW.out,nw_refl _ _⟩,?_⟩
 exact HB5.out.andB (set6_below (by omega) _ _ _ _ _ _)
theorem c104m (base b0 b1 b2 b3:Nat) (nm tl ar:ByteArray) (T:List I3) (reps:List R2) (v1 v2:Value)  (tx:ByteArray) (w:World) (h:RunW base b0 b1 b2 b3 w nm tl ar ⟨false,T,reps⟩ v1 v2):
 Calls prog 104 #[.agg #[.int .i64 4,.string tx],.pointer (some ⟨b0,0,none⟩),.pointer (some ⟨b1,0,none⟩),.pointer (some ⟨b2,0,none⟩),.pointer (some ⟨b3,0,none⟩)] w fun e w'=>e=.returned (overT 4 tl 0).v/\RunW base b0 b1 b2 b3 w' nm tl ar ⟨false,T,reps⟩ v1 v2/\Below w.heap.size w w':=by
 have H:Hid (RunW base b0 b1 b2 b3 w nm tl ar ⟨false,T,reps⟩ v1 v2):=h
 have l0:=blk_lt h.h0;have l1:=blk_lt h.h1;have l2:=blk_lt h.h2;have l3:=blk_lt h.h3
 have le1:=h.le1
 have c0:w.cell? ⟨b0,0,none⟩=some (.bool false):=by rw [Lib.cell_of_heap h.h0];rfl
 have cx3:w.cell? ⟨b3,1,none⟩=some (.string tl):=by rw [Lib.cell_of_heap h.h3];rfl
 clear h
 have k0:=past (show b0<w.heap.size from l0) c0
 have k3:=past (show b3<w.heap.size from l3) cx3
 obtain ⟨w0,hw0⟩:∃ w0,w0=(w.alloc (.cells #[.int .i64 4,.string tx] 53)).alloc (.cells #[.bool false,.int .i64 0,.string ⟨#[]⟩,.bool false,.string ⟨#[]⟩,.int .i64 0] 112):=⟨_,rfl⟩
 have HW0:Hid (w0=(w.alloc (.cells #[.int .i64 4,.string tx] 53)).alloc (.cells #[.bool false,.int .i64 0,.string ⟨#[]⟩,.bool false,.string ⟨#[]⟩,.int .i64 0] 112)):=hw0
 have hbw:Below w.heap.size w w0:=by rw [hw0];exact ((Below.refl _ _).alloc (Nat.le_refl _) _).alloc (by simp) _
 have HB:Hid (Below w.heap.size w w0):=hbw
 have hz0':w0.heap.size=w.heap.size+2:=by rw [hw0];simp
 have hres:w0.heap[w.heap.size+1]?=some (.cells z6 112 (0,0)):=by
  rw [hw0];exact alloc_new (by simp) _
 have HRES:Hid (w0.heap[w.heap.size+1]?=some (.cells z6 112 (0,0))):=hres
 clear hw0 hbw hres
 go_enter func104,ntmps104
 go_wp2_with fail
 rw [<- HW0.out]
 refine (c107 4 tl w0).mono ?_
 rintro e w5 ⟨rfl,hb5⟩
 have HR5:w5.heap[w.heap.size+1]?=some (.cells z6 112 (0,0)):=(hb5.block _ (blk_lt HRES.out)).trans HRES.out
 have HX5:Hid (RunW base b0 b1 b2 b3 w5 nm tl ar ⟨false,T,reps⟩ v1 v2):=(H.out.below HB.out).below hb5
 have HB5:Hid (Below w.heap.size w w5):=HB.out.trans (hb5.mono (by omega))
 have q0:=Lib.cell_of_heap HR5 0;have q1:=Lib.cell_of_heap HR5 1;have q2:=Lib.cell_of_heap HR5 2;have q3:=Lib.cell_of_heap HR5 3;have q4:=Lib.cell_of_heap HR5 4;have q5:=Lib.cell_of_heap HR5 5
 have hfz:∀ j,w5.frozen? ⟨w.heap.size+1,j,none⟩=false:=fun j=>Lib.frozen_of_heap HR5 j
 have HR6:Hid (w5.heap[w.heap.size+1]?=some (.cells z6 112 (0,0))):=HR5
 clear HR5 hb5
 change w5.cell? _=some (.bool false) at q0
 change w5.cell? _=some (.int .i64 0) at q1
 change w5.cell? _=some (.string ⟨#[]⟩) at q2
 change w5.cell? _=some (.bool false) at q3
 change w5.cell? _=some (.string ⟨#[]⟩) at q4
 change w5.cell? _=some (.int .i64 0) at q5
 go_wp2
 obtain ⟨s0,s1,s2,s3,s4,s5⟩:=set6 HR6.out (.bool true) (.int .i64 4) (.string tl) (.bool false) (.string ⟨#[]⟩) (.int .i64 0)
 refine bodyPost_ret (v:=.agg #[.bool true,.int .i64 4,.string tl,.bool false,.string ⟨#[]⟩,.int .i64 0]) (by simp [results,Tryz.results104,go_sem,s0,s1,s2,s3,s4,s5]) rfl ⟨rfl,HX5.out.set6 HR6.out _ _ _ _ _ _,?_⟩
 exact HB5.out.trans (set6_below (by omega) _ _ _ _ _ _)
theorem c104b (base b0 b1 b2 b3:Nat) (nm tl ar:ByteArray) (T:List I3) (reps:List R2) (v1 v2:Value) (cd:Int) (hc0:cd≠0) (hc4:cd≠4) (tx:ByteArray) (w:World) (h:RunW base b0 b1 b2 b3 w nm tl ar ⟨false,T,reps⟩ v1 v2):
 Calls prog 104 #[.agg #[.int .i64 cd,.string tx],.pointer (some ⟨b0,0,none⟩),.pointer (some ⟨b1,0,none⟩),.pointer (some ⟨b2,0,none⟩),.pointer (some ⟨b3,0,none⟩)] w fun e w'=>e=.returned (overT 5 tl 0).v/\RunW base b0 b1 b2 b3 w' nm tl ar ⟨false,T,reps⟩ v1 v2/\Below w.heap.size w w':=by
 have H:Hid (RunW base b0 b1 b2 b3 w nm tl ar ⟨false,T,reps⟩ v1 v2):=h
 have l0:=blk_lt h.h0;have l1:=blk_lt h.h1;have l2:=blk_lt h.h2;have l3:=blk_lt h.h3
 have le1:=h.le1
 have c0:w.cell? ⟨b0,0,none⟩=some (.bool false):=by rw [Lib.cell_of_heap h.h0];rfl
 have cx3:w.cell? ⟨b3,1,none⟩=some (.string tl):=by rw [Lib.cell_of_heap h.h3];rfl
 clear h
 have k0:=past (show b0<w.heap.size from l0) c0
 have k3:=past (show b3<w.heap.size from l3) cx3
 obtain ⟨w0,hw0⟩:∃ w0,w0=(w.alloc (.cells #[.int .i64 cd,.string tx] 53)).alloc (.cells #[.bool false,.int .i64 0,.string ⟨#[]⟩,.bool false,.string ⟨#[]⟩,.int .i64 0] 112):=⟨_,rfl⟩
 have HW0:Hid (w0=(w.alloc (.cells #[.int .i64 cd,.string tx] 53)).alloc (.cells #[.bool false,.int .i64 0,.string ⟨#[]⟩,.bool false,.string ⟨#[]⟩,.int .i64 0] 112)):=hw0
 have hbw:Below w.heap.size w w0:=by rw [hw0];exact ((Below.refl _ _).alloc (Nat.le_refl _) _).alloc (by simp) _
 have HB:Hid (Below w.heap.size w w0):=hbw
 have hz0':w0.heap.size=w.heap.size+2:=by rw [hw0];simp
 have hres:w0.heap[w.heap.size+1]?=some (.cells z6 112 (0,0)):=by
  rw [hw0];exact alloc_new (by simp) _
 have HRES:Hid (w0.heap[w.heap.size+1]?=some (.cells z6 112 (0,0))):=hres
 clear hw0 hbw hres
 go_enter func104,ntmps104
 go_wp2_with fail
 rw [<- HW0.out]
 refine (c107 5 tl w0).mono ?_
 rintro e w5 ⟨rfl,hb5⟩
 have HR5:w5.heap[w.heap.size+1]?=some (.cells z6 112 (0,0)):=(hb5.block _ (blk_lt HRES.out)).trans HRES.out
 have HX5:Hid (RunW base b0 b1 b2 b3 w5 nm tl ar ⟨false,T,reps⟩ v1 v2):=(H.out.below HB.out).below hb5
 have HB5:Hid (Below w.heap.size w w5):=HB.out.trans (hb5.mono (by omega))
 have q0:=Lib.cell_of_heap HR5 0;have q1:=Lib.cell_of_heap HR5 1;have q2:=Lib.cell_of_heap HR5 2;have q3:=Lib.cell_of_heap HR5 3;have q4:=Lib.cell_of_heap HR5 4;have q5:=Lib.cell_of_heap HR5 5
 have hfz:∀ j,w5.frozen? ⟨w.heap.size+1,j,none⟩=false:=fun j=>Lib.frozen_of_heap HR5 j
 have HR6:Hid (w5.heap[w.heap.size+1]?=some (.cells z6 112 (0,0))):=HR5
 clear HR5 hb5
 change w5.cell? _=some (.bool false) at q0
 change w5.cell? _=some (.int .i64 0) at q1
 change w5.cell? _=some (.string ⟨#[]⟩) at q2
 change w5.cell? _=some (.bool false) at q3
 change w5.cell? _=some (.string ⟨#[]⟩) at q4
 change w5.cell? _=some (.int .i64 0) at q5
 go_wp2
 obtain ⟨s0,s1,s2,s3,s4,s5⟩:=set6 HR6.out (.bool true) (.int .i64 5) (.string tl) (.bool false) (.string ⟨#[]⟩) (.int .i64 0)
 refine bodyPost_ret (v:=.agg #[.bool true,.int .i64 5,.string tl,.bool false,.string ⟨#[]⟩,.int .i64 0]) (by simp [results,Tryz.results104,go_sem,s0,s1,s2,s3,s4,s5]) rfl ⟨rfl,HX5.out.set6 HR6.out _ _ _ _ _ _,?_⟩
 exact HB5.out.trans (set6_below (by omega) _ _ _ _ _ _)
theorem RunW.take {base b0 b1 b2 b3:Nat} {u:World} {nm tl ar:ByteArray} {T is:List I3} {reps:List R2} {v1 v2:Value} (h:RunW base b0 b1 b2 b3 u nm tl ar ⟨false,T,reps⟩ v1 v2) (ok:Bool) (v:Value) (ho:u.ownsRow base 183 3 v is.length (insCells is)):
 RunW base b0 b1 b2 b3 ((u.setCell ⟨b2,0,none⟩ v).setCell ⟨b0,0,none⟩ (.bool ok)) nm tl ar ⟨ok,is,reps⟩ v1 v:=by
 have s2:∀ (k:Nat) (x:Array Value) (t:TypeId),u.heap[k]?=some (.cells x t (0,0))->t≠150->(u.setCell ⟨b2,0,none⟩ v).heap[k]?=some (.cells x t (0,0)):=fun k x t hk ht=>(heap_setCell_other _ _ _ _ (blk_ne hk h.h2 ht)).trans hk
 have n0:=s2 _ _ _ h.h0 (by decide)
 have s3:∀ (k:Nat) (x:Array Value) (t:TypeId),(u.setCell ⟨b2,0,none⟩ v).heap[k]?=some (.cells x t (0,0))->t≠4->((u.setCell ⟨b2,0,none⟩ v).setCell ⟨b0,0,none⟩ (.bool ok)).heap[k]?=some (.cells x t (0,0)):=fun k x t hk ht=>(heap_setCell_other _ _ _ _ (blk_ne hk n0 ht)).trans hk
 refine ⟨h.le0,h.le1,h.le2,h.le3,heap_setCell_same _ b0 0 _ _ _ n0,s3 _ _ _ (s2 _ _ _ h.h1 (by decide)) (by decide),s3 _ _ _ (heap_setCell_same _ b2 0 _ _ _ h.h2) (by decide),s3 _ _ _ (s2 _ _ _ h.h3 (by decide)) (by decide),?_,?_⟩
 · refine ownsRow_keep h.o1 fun k hk=>?_
   obtain ⟨_,cur,hc⟩:=own_block h.o1 hk
   rw [s3 _ _ _ (s2 _ _ _ hc (by decide)) (by decide),hc]
 refine ownsRow_keep ho fun k hk=>?_
 obtain ⟨_,cur,hc⟩:=own_block ho hk
 rw [s3 _ _ _ (s2 _ _ _ hc (by decide)) (by decide),hc]
theorem c104r (base b0 b1 b2 b3:Nat) (nm tl ar:ByteArray) (T:List I3) (reps:List R2) (v1 v2:Value) (tx:ByteArray) (w:World) (h:RunW base b0 b1 b2 b3 w nm tl ar ⟨false,T,reps⟩ v1 v2) (hts:tx.size<=1048576) (har:ar.size<=1048576) (hsh:ShapesAt w) (hmx:MaxAt w) (hba:10<=base):
 Calls Tryz.prog 104 #[.agg #[.int .i64 0,.string tx],.pointer (some ⟨b0,0,none⟩),.pointer (some ⟨b1,0,none⟩),.pointer (some ⟨b2,0,none⟩),.pointer (some ⟨b3,0,none⟩)] w fun e w'=>e=.returned (firstR tl ar tx.data.toList).v/\(∃ v2',RunW base b0 b1 b2 b3 w' nm tl ar ⟨(readT tx.data.toList).2,(readT tx.data.toList).1,reps⟩ v1 v2'/\Nw w v2 v2')/\Ex (FP b0 b1 b2 v1) w w':=by
 have HS:Hid (ShapesAt w):=hsh
 have HM:Hid (MaxAt w):=hmx
 clear hsh hmx
 have H:Hid (RunW base b0 b1 b2 b3 w nm tl ar ⟨false,T,reps⟩ v1 v2):=h
 have l0:=blk_lt h.h0;have l1:=blk_lt h.h1;have l2:=blk_lt h.h2;have l3:=blk_lt h.h3
 have le1:=h.le1
 have c0:w.cell? ⟨b0,0,none⟩=some (.bool false):=by rw [Lib.cell_of_heap h.h0];rfl
 have cx3:w.cell? ⟨b3,1,none⟩=some (.string tl):=by rw [Lib.cell_of_heap h.h3];rfl
 clear h
 have k0:=past (show b0<w.heap.size from l0) c0
 have k3:=past (show b3<w.heap.size from l3) cx3
 obtain ⟨w0,hw0⟩:∃ w0,w0=(w.alloc (.cells #[.int .i64 0,.string tx] 53)).alloc (.cells #[.bool false,.int .i64 0,.string ⟨#[]⟩,.bool false,.string ⟨#[]⟩,.int .i64 0] 112):=⟨_,rfl⟩
 have HW0:Hid (w0=(w.alloc (.cells #[.int .i64 0,.string tx] 53)).alloc (.cells #[.bool false,.int .i64 0,.string ⟨#[]⟩,.bool false,.string ⟨#[]⟩,.int .i64 0] 112)):=hw0
 have hbw:Below w.heap.size w w0:=by rw [hw0];exact ((Below.refl _ _).alloc (Nat.le_refl _) _).alloc (by simp) _
 have HB:Hid (Below w.heap.size w w0):=hbw
 have hz0':w0.heap.size=w.heap.size+2:=by rw [hw0];simp
 have hres:w0.heap[w.heap.size+1]?=some (.cells z6 112 (0,0)):=by
  rw [hw0];exact alloc_new (by simp) _
 have HRES:Hid (w0.heap[w.heap.size+1]?=some (.cells z6 112 (0,0))):=hres
 clear hw0 hbw hres
 go_enter Tryz.func104,Tryz.ntmps104
 go_wp2_with fail
 rw [<- HW0.out]
 have hB0:Below base w w0:=HB.out.mono (by omega)
 refine (c106 tx w0 hts (shapes_base HS.out hB0 hba) (max_base HM.out hB0 hba)).mono ?_
 rintro e w1 ⟨⟨is,ok,v,rfl,hown,hread⟩,hb1⟩
 have HRD:Hid (readT tx.data.toList=(is,ok)):=readT_of hread
 have hB1:Below base w w1:=hB0.trans (hb1.mono (by omega))
 have hown':w1.ownsRow base 183 3 v is.length (insCells is):=owns_mono hown (by omega)
 have HNW:Hid (Nw w v2 v):=fun k e=>.inr (by have:=(hown.lt k e).1;omega)
 have hE1:Ex (FP b0 b1 b2 v1) w w1:=(Ex.ofB HB.out).andB (hb1.mono (by omega))
 have X1:=(H.out.below HB.out).below hb1
 have X2:Hid (RunW base b0 b1 b2 b3 ((w1.setCell ⟨b2,0,none⟩ v).setCell ⟨b0,0,none⟩ (.bool ok)) nm tl ar ⟨ok,is,reps⟩ v1 v):=X1.take ok v hown'
 obtain ⟨a,cp,hv,HI⟩:=own3_form X2.out.o2
 have hv':v=.slice a is.length cp:=hv
 subst hv'
 have hss:∀ i,(is.getD i i3z).tx.size<=1048576:=fun i=>Nat.le_trans ((read_small hread).2 i) (by omega)
 have hil:is.length<=40:=(read_small hread).1
 have HINS:Hid (InsAt ((w1.setCell ⟨b2,0,none⟩ (.slice a is.length cp)).setCell ⟨b0,0,none⟩ (.bool ok)) a is):=HI
 have n2:w1.cell? ⟨b2,0,none⟩=some v2:=by rw [Lib.cell_of_heap X1.h2];rfl
 have n2f:w1.frozen? ⟨b2,0,none⟩=false:=Lib.frozen_of_heap X1.h2 0
 have n0f:∀ u,(w1.setCell ⟨b2,0,none⟩ u).frozen? ⟨b0,0,none⟩=false:=fun u=>by simpa using Lib.frozen_of_heap X1.h0 0
 have hne:b0≠b2:=blk_ne X1.h0 X1.h2 (by decide)
 have n0:∀ u,(w1.setCell ⟨b2,0,none⟩ u).cell? ⟨b0,0,none⟩=some (.bool false):=fun u=>by
  rw [World.cell?_setCell_other _ _ _ _ (fun e=>hne (by injection e with e _;exact e.symm)),Lib.cell_of_heap X1.h0];rfl
 have m0:((w1.setCell ⟨b2,0,none⟩ (.slice a is.length cp)).setCell ⟨b0,0,none⟩ (.bool ok)).cell? ⟨b0,0,none⟩=some (.bool ok):=by rw [Lib.cell_of_heap X2.out.h0];rfl
 have m2:((w1.setCell ⟨b2,0,none⟩ (.slice a is.length cp)).setCell ⟨b0,0,none⟩ (.bool ok)).cell? ⟨b2,0,none⟩=some (.slice a is.length cp):=by rw [Lib.cell_of_heap X2.out.h2];rfl
 have m31:((w1.setCell ⟨b2,0,none⟩ (.slice a is.length cp)).setCell ⟨b0,0,none⟩ (.bool ok)).cell? ⟨b3,1,none⟩=some (.string tl):=by rw [Lib.cell_of_heap X2.out.h3];rfl
 have m32:((w1.setCell ⟨b2,0,none⟩ (.slice a is.length cp)).setCell ⟨b0,0,none⟩ (.bool ok)).cell? ⟨b3,2,none⟩=some (.string ar):=by rw [Lib.cell_of_heap X2.out.h3];rfl
 have HR1:w1.heap[w.heap.size+1]?=some (.cells z6 112 (0,0)):=(hb1.block _ (blk_lt HRES.out)).trans HRES.out
 have HR2:((w1.setCell ⟨b2,0,none⟩ (.slice a is.length cp)).setCell ⟨b0,0,none⟩ (.bool ok)).heap[w.heap.size+1]?=some (.cells z6 112 (0,0)):=by
  rw [heap_setCell_other _ _ _ _ (by show w.heap.size+1≠b0;omega),heap_setCell_other _ _ _ _ (by show w.heap.size+1≠b2;omega)];exact HR1
 have HR2':Hid (((w1.setCell ⟨b2,0,none⟩ (.slice a is.length cp)).setCell ⟨b0,0,none⟩ (.bool ok)).heap[w.heap.size+1]?=some (.cells z6 112 (0,0))):=HR2
 have hle0:=X1.le0;have hle2:=X1.le2
 have hB2:Below base w ((w1.setCell ⟨b2,0,none⟩ (.slice a is.length cp)).setCell ⟨b0,0,none⟩ (.bool ok)):=(hB1.setCell (by exact hle2) _).setCell (by exact hle0) _
 have HE2:Hid (Ex (FP b0 b1 b2 v1) w ((w1.setCell ⟨b2,0,none⟩ (.slice a is.length cp)).setCell ⟨b0,0,none⟩ (.bool ok))):=(hE1.setCell (fun _=>.inr (.inr (.inl rfl))) _).setCell (fun _=>.inl rfl) _
 have HB2:Hid (Below base w ((w1.setCell ⟨b2,0,none⟩ (.slice a is.length cp)).setCell ⟨b0,0,none⟩ (.bool ok))):=hB2
 have hz1':w0.heap.size<=w1.heap.size:=hb1.size
 clear hE1 X1 hown hown' hread hv HI HR1 HR2 hB1 hb1 hB0 hB2
 cases ok
 · go_wp2_with fail
   refine (c107 7 tl _).mono ?_
   rintro e w5 ⟨rfl,hb5⟩
   have HR5:w5.heap[w.heap.size+1]?=some (.cells z6 112 (0,0)):=(hb5.block _ (blk_lt HR2'.out)).trans HR2'.out
   have HX5:Hid (RunW base b0 b1 b2 b3 w5 nm tl ar ⟨false,is,reps⟩ v1 (.slice a is.length cp)):=X2.out.below hb5
   have HB5:Hid (Ex (FP b0 b1 b2 v1) w w5):=HE2.out.andB (hb5.mono (by simp;omega))
   have q0:=Lib.cell_of_heap HR5 0;have q1:=Lib.cell_of_heap HR5 1;have q2:=Lib.cell_of_heap HR5 2;have q3:=Lib.cell_of_heap HR5 3;have q4:=Lib.cell_of_heap HR5 4;have q5:=Lib.cell_of_heap HR5 5
   have hfz:∀ j,w5.frozen? ⟨w.heap.size+1,j,none⟩=false:=fun j=>Lib.frozen_of_heap HR5 j
   have HR6:Hid (w5.heap[w.heap.size+1]?=some (.cells z6 112 (0,0))):=HR5
   clear HR5 hb5
   change w5.cell? _=some (.bool false) at q0
   change w5.cell? _=some (.int .i64 0) at q1
   change w5.cell? _=some (.string ⟨#[]⟩) at q2
   change w5.cell? _=some (.bool false) at q3
   change w5.cell? _=some (.string ⟨#[]⟩) at q4
   change w5.cell? _=some (.int .i64 0) at q5
   go_wp2
   obtain ⟨s0,s1,s2,s3,s4,s5⟩:=set6 HR6.out (.bool true) (.int .i64 7) (.string tl) (.bool false) (.string ⟨#[]⟩) (.int .i64 0)
   refine bodyPost_ret (v:=.agg #[.bool true,.int .i64 7,.string tl,.bool false,.string ⟨#[]⟩,.int .i64 0]) (by simp [results,Tryz.results104,go_sem,s0,s1,s2,s3,s4,s5]) rfl ⟨by unfold firstR;rw [HRD.out];rfl,⟨.slice a is.length cp,?_,HNW.out⟩,?_⟩
   · rw [HRD.out];exact HX5.out.set6 HR6.out _ _ _ _ _ _
   exact HB5.out.andB (set6_below (by omega) _ _ _ _ _ _)
 rcases hN:nextT is ar [] with ⟨o,c,t,hh,n,k⟩
 have HN:Hid (nextT is ar []=⟨o,c,t,hh,n,k⟩):=hN
 clear hN
 go_wp2_with fail
 refine (c105s a cp _ is ar none 0 0 [] _ rfl rfl ⟨by omega,hss,har,Nat.zero_le _,fun i=>by simp [r2z,ByteArray.size]⟩ HINS.out (.inl rfl) (shapes_base HS.out HB2.out hba) (max_base HM.out HB2.out hba) HN.out).mono ?_
 rintro e w5 ⟨rfl,hb5⟩
 have HR5:w5.heap[w.heap.size+1]?=some (.cells z6 112 (0,0)):=(hb5.block _ (blk_lt HR2'.out)).trans HR2'.out
 have HX5:Hid (RunW base b0 b1 b2 b3 w5 nm tl ar ⟨true,is,reps⟩ v1 (.slice a is.length cp)):=X2.out.below hb5
 have HB5:Hid (Ex (FP b0 b1 b2 v1) w w5):=HE2.out.andB (hb5.mono (by simp;omega))
 have q0:=Lib.cell_of_heap HR5 0;have q1:=Lib.cell_of_heap HR5 1;have q2:=Lib.cell_of_heap HR5 2;have q3:=Lib.cell_of_heap HR5 3;have q4:=Lib.cell_of_heap HR5 4;have q5:=Lib.cell_of_heap HR5 5
 have hfz:∀ j,w5.frozen? ⟨w.heap.size+1,j,none⟩=false:=fun j=>Lib.frozen_of_heap HR5 j
 have HR6:Hid (w5.heap[w.heap.size+1]?=some (.cells z6 112 (0,0))):=HR5
 clear HR5 hb5
 change w5.cell? _=some (.bool false) at q0
 change w5.cell? _=some (.int .i64 0) at q1
 change w5.cell? _=some (.string ⟨#[]⟩) at q2
 change w5.cell? _=some (.bool false) at q3
 change w5.cell? _=some (.string ⟨#[]⟩) at q4
 change w5.cell? _=some (.int .i64 0) at q5
 go_wp2
 obtain ⟨s0,s1,s2,s3,s4,s5⟩:=set6 HR6.out (.bool o) (.int .i64 c) (.string t) (.bool hh) (.string n) (.int .i64 k)
 refine bodyPost_ret (v:=.agg #[.bool o,.int .i64 c,.string t,.bool hh,.string n,.int .i64 k]) (by simp [results,Tryz.results104,go_sem,s0,s1,s2,s3,s4,s5]) rfl ⟨by unfold firstR;rw [HRD.out];show _=Ending.returned (nextT is ar []).v;rw [HN.out];rfl,⟨.slice a is.length cp,?_,HNW.out⟩,?_⟩
 · rw [HRD.out];exact HX5.out.set6 HR6.out _ _ _ _ _ _
 exact HB5.out.andB (set6_below (by omega) _ _ _ _ _ _)

import Derived.Test.YtmalddmgdjkgaaaGreatDoorZ31
namespace Go.Proofs.YtmalddmgdjkgaaaGreatDoor
open Go.RowKit
theorem RunW.take {base b0 b1 b2 b3:Nat} {u:World} {nm tl ar:ByteArray} {T is:List I3} {reps:List R2} {v1 v2:Value} (h:RunW base b0 b1 b2 b3 u nm tl ar ⟨false,T,reps⟩ v1 v2) (ok:Bool) (v:Value) (ho:u.ownsRow base 149 3 v is.length (insCells is)):
 RunW base b0 b1 b2 b3 ((u.setCell ⟨b2,0,none⟩ v).setCell ⟨b0,0,none⟩ (.bool ok)) nm tl ar ⟨ok,is,reps⟩ v1 v:=by
 have s2:∀ (k:Nat) (x:Array Value) (t:TypeId),u.heap[k]?=some (.cells x t (0,0))→t≠127→(u.setCell ⟨b2,0,none⟩ v).heap[k]?=some (.cells x t (0,0)):=fun k x t hk ht=>(heap_setCell_other _ _ _ _ (blk_ne hk h.h2 ht)).trans hk
 have n0:=s2 _ _ _ h.h0 (by decide)
 have s3:∀ (k:Nat) (x:Array Value) (t:TypeId),(u.setCell ⟨b2,0,none⟩ v).heap[k]?=some (.cells x t (0,0))→t≠4→((u.setCell ⟨b2,0,none⟩ v).setCell ⟨b0,0,none⟩ (.bool ok)).heap[k]?=some (.cells x t (0,0)):=fun k x t hk ht=>(heap_setCell_other _ _ _ _ (blk_ne hk n0 ht)).trans hk
 refine ⟨h.le0,h.le1,h.le2,h.le3,heap_setCell_same _ b0 0 _ _ _ n0,s3 _ _ _ (s2 _ _ _ h.h1 (by decide)) (by decide),s3 _ _ _ (heap_setCell_same _ b2 0 _ _ _ h.h2) (by decide),s3 _ _ _ (s2 _ _ _ h.h3 (by decide)) (by decide),?_,?_⟩
 · refine ownsRow_keep h.o1 fun k hk=>?_
   obtain ⟨_,cur,hc⟩:=own_block h.o1 hk
   rw [s3 _ _ _ (s2 _ _ _ hc (by decide)) (by decide),hc]
 refine ownsRow_keep ho fun k hk=>?_
 obtain ⟨_,cur,hc⟩:=own_block ho hk
 rw [s3 _ _ _ (s2 _ _ _ hc (by decide)) (by decide),hc]
set_option maxHeartbeats 4000000 in
set_option maxRecDepth 100000 in
theorem c73r (base b0 b1 b2 b3:Nat) (nm tl ar:ByteArray) (T:List I3) (reps:List R2) (v1 v2:Value) (tx:ByteArray) (w:World) (h:RunW base b0 b1 b2 b3 w nm tl ar ⟨false,T,reps⟩ v1 v2) (hts:tx.size≤1048576) (har:ar.size≤1048576) (hsh:ShapesAt w) (hmx:MaxAt w) (hba:10≤base):
 Calls Tryz.prog 73 #[.agg #[.int .i64 0,.string tx],.pointer (some ⟨b0,0,none⟩),.pointer (some ⟨b1,0,none⟩),.pointer (some ⟨b2,0,none⟩),.pointer (some ⟨b3,0,none⟩)] w fun e w'=>e=.returned (firstR tl ar tx.data.toList).v∧(∃ v2',RunW base b0 b1 b2 b3 w' nm tl ar ⟨(readT tx.data.toList).2,(readT tx.data.toList).1,reps⟩ v1 v2'∧Nw w v2 v2')∧Ex (FP b0 b1 b2 v1) w w':=by
 have HS:Hid (ShapesAt w):=hsh
 have HM:Hid (MaxAt w):=hmx
 clear hsh hmx
 have H:Hid (RunW base b0 b1 b2 b3 w nm tl ar ⟨false,T,reps⟩ v1 v2):=h
 have l0:=blk_lt h.h0;have l1:=blk_lt h.h1;have l2:=blk_lt h.h2;have l3:=blk_lt h.h3
 have le1:=h.le1
 have c0:w.cell? ⟨b0,0,none⟩=some (.bool false):=by rw [Lib.cell_of_heap h.h0];rfl
 have cx3:w.cell? ⟨b3,1,none⟩=some (.string tl):=by rw [Lib.cell_of_heap h.h3];rfl
 clear h
 have k0:=past (show b0<w.heap.size from l0) c0
 have k3:=past (show b3<w.heap.size from l3) cx3
 obtain ⟨w0,hw0⟩:∃ w0,w0=(w.alloc (.cells #[.int .i64 0,.string tx] 43)).alloc (.cells #[.bool false,.int .i64 0,.string ⟨#[]⟩,.bool false,.string ⟨#[]⟩,.int .i64 0] 93):=⟨_,rfl⟩
 have HW0:Hid (w0=(w.alloc (.cells #[.int .i64 0,.string tx] 43)).alloc (.cells #[.bool false,.int .i64 0,.string ⟨#[]⟩,.bool false,.string ⟨#[]⟩,.int .i64 0] 93)):=hw0
 have hbw:Below w.heap.size w w0:=by rw [hw0];exact ((Below.refl _ _).alloc (Nat.le_refl _) _).alloc (by simp) _
 have HB:Hid (Below w.heap.size w w0):=hbw
 have hz0':w0.heap.size=w.heap.size+2:=by rw [hw0];simp
 have hres:w0.heap[w.heap.size+1]?=some (.cells z6 93 (0,0)):=by
  rw [hw0];exact alloc_new (by simp) _
 have HRES:Hid (w0.heap[w.heap.size+1]?=some (.cells z6 93 (0,0))):=hres
 clear hw0 hbw hres
 go_enter Tryz.func73,Tryz.ntmps73
 go_wp2_with fail
 rw [← HW0.out]
 have hB0:Below base w w0:=HB.out.mono (by omega)
 refine (c75 tx w0 hts (shapes_base HS.out hB0 hba) (max_base HM.out hB0 hba)).mono ?_
 rintro e w1 ⟨⟨is,ok,v,rfl,hown,hread⟩,hb1⟩
 have HRD:Hid (readT tx.data.toList=(is,ok)):=readT_of hread
 have hB1:Below base w w1:=hB0.trans (hb1.mono (by omega))
 have hown':w1.ownsRow base 149 3 v is.length (insCells is):=owns_mono hown (by omega)
 have HNW:Hid (Nw w v2 v):=fun k e=>.inr (by have:=(hown.lt k e).1;omega)
 have hE1:Ex (FP b0 b1 b2 v1) w w1:=(Ex.ofB HB.out).andB (hb1.mono (by omega))
 have X1:=(H.out.below HB.out).below hb1
 have X2:Hid (RunW base b0 b1 b2 b3 ((w1.setCell ⟨b2,0,none⟩ v).setCell ⟨b0,0,none⟩ (.bool ok)) nm tl ar ⟨ok,is,reps⟩ v1 v):=X1.take ok v hown'
 obtain ⟨a,cp,hv,HI⟩:=own3_form X2.out.o2
 have hv':v=.slice a is.length cp:=hv
 subst hv'
 have hss:∀ i,(is.getD i i3z).tx.size≤1048576:=fun i=>Nat.le_trans ((read_small hread).2 i) (by omega)
 have hil:is.length≤40:=(read_small hread).1
 have HINS:Hid (InsAt ((w1.setCell ⟨b2,0,none⟩ (.slice a is.length cp)).setCell ⟨b0,0,none⟩ (.bool ok)) a is):=HI
 have n2:w1.cell? ⟨b2,0,none⟩=some v2:=by rw [Lib.cell_of_heap X1.h2];rfl
 have n2f:w1.frozen? ⟨b2,0,none⟩=false:=Lib.frozen_of_heap X1.h2 0
 have n0f:∀ u,(w1.setCell ⟨b2,0,none⟩ u).frozen? ⟨b0,0,none⟩=false:=fun u=>by simpa using Lib.frozen_of_heap X1.h0 0
 have hne:b0≠b2:=blk_ne X1.h0 X1.h2 (by decide)
 have n0:∀ u,(w1.setCell ⟨b2,0,none⟩ u).cell? ⟨b0,0,none⟩=some (.bool false):=fun u=>by
  rw [World.cell?_setCell_other _ _ _ _ (fun e=>hne (by injection e with e _;exact e.symm)),Lib.cell_of_heap X1.h0];rfl
 have m0:((w1.setCell ⟨b2,0,none⟩ (.slice a is.length cp)).setCell ⟨b0,0,none⟩ (.bool ok)).cell? ⟨b0,0,none⟩=some (.bool ok):=by rw [Lib.cell_of_heap X2.out.h0];rfl
 have m2:((w1.setCell ⟨b2,0,none⟩ (.slice a is.length cp)).setCell ⟨b0,0,none⟩ (.bool ok)).cell? ⟨b2,0,none⟩=some (.slice a is.length cp):=by rw [Lib.cell_of_heap X2.out.h2];rfl
 have m31:((w1.setCell ⟨b2,0,none⟩ (.slice a is.length cp)).setCell ⟨b0,0,none⟩ (.bool ok)).cell? ⟨b3,1,none⟩=some (.string tl):=by rw [Lib.cell_of_heap X2.out.h3];rfl
 have m32:((w1.setCell ⟨b2,0,none⟩ (.slice a is.length cp)).setCell ⟨b0,0,none⟩ (.bool ok)).cell? ⟨b3,2,none⟩=some (.string ar):=by rw [Lib.cell_of_heap X2.out.h3];rfl
 have HR1:w1.heap[w.heap.size+1]?=some (.cells z6 93 (0,0)):=(hb1.block _ (blk_lt HRES.out)).trans HRES.out
 have HR2:((w1.setCell ⟨b2,0,none⟩ (.slice a is.length cp)).setCell ⟨b0,0,none⟩ (.bool ok)).heap[w.heap.size+1]?=some (.cells z6 93 (0,0)):=by
  rw [heap_setCell_other _ _ _ _ (by show w.heap.size+1≠b0;omega),heap_setCell_other _ _ _ _ (by show w.heap.size+1≠b2;omega)];exact HR1
 have HR2':Hid (((w1.setCell ⟨b2,0,none⟩ (.slice a is.length cp)).setCell ⟨b0,0,none⟩ (.bool ok)).heap[w.heap.size+1]?=some (.cells z6 93 (0,0))):=HR2
 have hle0:=X1.le0;have hle2:=X1.le2
 have hB2:Below base w ((w1.setCell ⟨b2,0,none⟩ (.slice a is.length cp)).setCell ⟨b0,0,none⟩ (.bool ok)):=(hB1.setCell (by exact hle2) _).setCell (by exact hle0) _
 have HE2:Hid (Ex (FP b0 b1 b2 v1) w ((w1.setCell ⟨b2,0,none⟩ (.slice a is.length cp)).setCell ⟨b0,0,none⟩ (.bool ok))):=(hE1.setCell (fun _=>.inr (.inr (.inl rfl))) _).setCell (fun _=>.inl rfl) _
 have HB2:Hid (Below base w ((w1.setCell ⟨b2,0,none⟩ (.slice a is.length cp)).setCell ⟨b0,0,none⟩ (.bool ok))):=hB2
 have hz1':w0.heap.size≤w1.heap.size:=hb1.size
 clear hE1 X1 hown hown' hread hv HI HR1 HR2 hB1 hb1 hB0 hB2
 cases ok
 · go_wp2_with fail
   refine (c76 7 tl _).mono ?_
   rintro e w5 ⟨rfl,hb5⟩
   have HR5:w5.heap[w.heap.size+1]?=some (.cells z6 93 (0,0)):=(hb5.block _ (blk_lt HR2'.out)).trans HR2'.out
   have HX5:Hid (RunW base b0 b1 b2 b3 w5 nm tl ar ⟨false,is,reps⟩ v1 (.slice a is.length cp)):=X2.out.below hb5
   have HB5:Hid (Ex (FP b0 b1 b2 v1) w w5):=HE2.out.andB (hb5.mono (by simp;omega))
   have q0:=Lib.cell_of_heap HR5 0;have q1:=Lib.cell_of_heap HR5 1;have q2:=Lib.cell_of_heap HR5 2;have q3:=Lib.cell_of_heap HR5 3;have q4:=Lib.cell_of_heap HR5 4;have q5:=Lib.cell_of_heap HR5 5
   have hfz:∀ j,w5.frozen? ⟨w.heap.size+1,j,none⟩=false:=fun j=>Lib.frozen_of_heap HR5 j
   have HR6:Hid (w5.heap[w.heap.size+1]?=some (.cells z6 93 (0,0))):=HR5
   clear HR5 hb5
   change w5.cell? _=some (.bool false) at q0
   change w5.cell? _=some (.int .i64 0) at q1
   change w5.cell? _=some (.string ⟨#[]⟩) at q2
   change w5.cell? _=some (.bool false) at q3
   change w5.cell? _=some (.string ⟨#[]⟩) at q4
   change w5.cell? _=some (.int .i64 0) at q5
   go_wp2
   obtain ⟨s0,s1,s2,s3,s4,s5⟩:=set6 HR6.out (.bool true) (.int .i64 7) (.string tl) (.bool false) (.string ⟨#[]⟩) (.int .i64 0)
   refine bodyPost_ret (v:=.agg #[.bool true,.int .i64 7,.string tl,.bool false,.string ⟨#[]⟩,.int .i64 0]) (by simp [results,Tryz.results73,go_sem,s0,s1,s2,s3,s4,s5]) rfl ⟨by unfold firstR;rw [HRD.out];rfl,⟨.slice a is.length cp,?_,HNW.out⟩,?_⟩
   · rw [HRD.out];exact HX5.out.set6 HR6.out _ _ _ _ _ _
   exact HB5.out.andB (set6_below (by omega) _ _ _ _ _ _)
 rcases hN:nextT is ar [] with ⟨o,c,t,hh,n,k⟩
 have HN:Hid (nextT is ar []=⟨o,c,t,hh,n,k⟩):=hN
 clear hN
 go_wp2_with fail
 refine (c74s a cp _ is ar none 0 0 [] _ rfl rfl ⟨by omega,hss,har,Nat.zero_le _,fun i=>by simp [r2z,ByteArray.size]⟩ HINS.out (.inl rfl) (shapes_base HS.out HB2.out hba) (max_base HM.out HB2.out hba) HN.out).mono ?_
 rintro e w5 ⟨rfl,hb5⟩
 have HR5:w5.heap[w.heap.size+1]?=some (.cells z6 93 (0,0)):=(hb5.block _ (blk_lt HR2'.out)).trans HR2'.out
 have HX5:Hid (RunW base b0 b1 b2 b3 w5 nm tl ar ⟨true,is,reps⟩ v1 (.slice a is.length cp)):=X2.out.below hb5
 have HB5:Hid (Ex (FP b0 b1 b2 v1) w w5):=HE2.out.andB (hb5.mono (by simp;omega))
 have q0:=Lib.cell_of_heap HR5 0;have q1:=Lib.cell_of_heap HR5 1;have q2:=Lib.cell_of_heap HR5 2;have q3:=Lib.cell_of_heap HR5 3;have q4:=Lib.cell_of_heap HR5 4;have q5:=Lib.cell_of_heap HR5 5
 have hfz:∀ j,w5.frozen? ⟨w.heap.size+1,j,none⟩=false:=fun j=>Lib.frozen_of_heap HR5 j
 have HR6:Hid (w5.heap[w.heap.size+1]?=some (.cells z6 93 (0,0))):=HR5
 clear HR5 hb5
 change w5.cell? _=some (.bool false) at q0
 change w5.cell? _=some (.int .i64 0) at q1
 change w5.cell? _=some (.string ⟨#[]⟩) at q2
 change w5.cell? _=some (.bool false) at q3
 change w5.cell? _=some (.string ⟨#[]⟩) at q4
 change w5.cell? _=some (.int .i64 0) at q5
 go_wp2
 obtain ⟨s0,s1,s2,s3,s4,s5⟩:=set6 HR6.out (.bool o) (.int .i64 c) (.string t) (.bool hh) (.string n) (.int .i64 k)
 refine bodyPost_ret (v:=.agg #[.bool o,.int .i64 c,.string t,.bool hh,.string n,.int .i64 k]) (by simp [results,Tryz.results73,go_sem,s0,s1,s2,s3,s4,s5]) rfl ⟨by unfold firstR;rw [HRD.out];show _=Ending.returned (nextT is ar []).v;rw [HN.out];rfl,⟨.slice a is.length cp,?_,HNW.out⟩,?_⟩
 · rw [HRD.out];exact HX5.out.set6 HR6.out _ _ _ _ _ _
 exact HB5.out.andB (set6_below (by omega) _ _ _ _ _ _)
end Go.Proofs.YtmalddmgdjkgaaaGreatDoor

import Derived.Test.YtmalddmgdjkgaaaGreatDoorZ31
namespace Go.Proofs.YtmalddmgdjkgaaaGreatDoor
open Go.RowKit
set_option maxHeartbeats 4000000 in
set_option maxRecDepth 100000 in
theorem c73m (base b0 b1 b2 b3:Nat) (nm tl ar:ByteArray) (T:List I3) (reps:List R2) (v1 v2:Value)  (tx:ByteArray) (w:World) (h:RunW base b0 b1 b2 b3 w nm tl ar ⟨false,T,reps⟩ v1 v2):
 Calls Tryz.prog 73 #[.agg #[.int .i64 4,.string tx],.pointer (some ⟨b0,0,none⟩),.pointer (some ⟨b1,0,none⟩),.pointer (some ⟨b2,0,none⟩),.pointer (some ⟨b3,0,none⟩)] w fun e w'=>e=.returned (overT 4 tl 0).v∧RunW base b0 b1 b2 b3 w' nm tl ar ⟨false,T,reps⟩ v1 v2∧Below w.heap.size w w':=by
 have H:Hid (RunW base b0 b1 b2 b3 w nm tl ar ⟨false,T,reps⟩ v1 v2):=h
 have l0:=blk_lt h.h0;have l1:=blk_lt h.h1;have l2:=blk_lt h.h2;have l3:=blk_lt h.h3
 have le1:=h.le1
 have c0:w.cell? ⟨b0,0,none⟩=some (.bool false):=by rw [Lib.cell_of_heap h.h0];rfl
 have cx3:w.cell? ⟨b3,1,none⟩=some (.string tl):=by rw [Lib.cell_of_heap h.h3];rfl
 clear h
 have k0:=past (show b0<w.heap.size from l0) c0
 have k3:=past (show b3<w.heap.size from l3) cx3
 obtain ⟨w0,hw0⟩:∃ w0,w0=(w.alloc (.cells #[.int .i64 4,.string tx] 43)).alloc (.cells #[.bool false,.int .i64 0,.string ⟨#[]⟩,.bool false,.string ⟨#[]⟩,.int .i64 0] 93):=⟨_,rfl⟩
 have HW0:Hid (w0=(w.alloc (.cells #[.int .i64 4,.string tx] 43)).alloc (.cells #[.bool false,.int .i64 0,.string ⟨#[]⟩,.bool false,.string ⟨#[]⟩,.int .i64 0] 93)):=hw0
 have hbw:Below w.heap.size w w0:=by rw [hw0];exact ((Below.refl _ _).alloc (Nat.le_refl _) _).alloc (by simp) _
 have HB:Hid (Below w.heap.size w w0):=hbw
 have hz0':w0.heap.size=w.heap.size+2:=by rw [hw0];simp
 have hres:w0.heap[w.heap.size+1]?=some (.cells z6 93 (0,0)):=by
  rw [hw0];exact alloc_new (by simp) _
 have HRES:Hid (w0.heap[w.heap.size+1]?=some (.cells z6 93 (0,0))):=hres
 clear hw0 hbw hres
 go_enter Tryz.func73,Tryz.ntmps73
 go_wp2_with fail
 rw [← HW0.out]
 refine (c76 4 tl w0).mono ?_
 rintro e w5 ⟨rfl,hb5⟩
 have HR5:w5.heap[w.heap.size+1]?=some (.cells z6 93 (0,0)):=(hb5.block _ (blk_lt HRES.out)).trans HRES.out
 have HX5:Hid (RunW base b0 b1 b2 b3 w5 nm tl ar ⟨false,T,reps⟩ v1 v2):=(H.out.below HB.out).below hb5
 have HB5:Hid (Below w.heap.size w w5):=HB.out.trans (hb5.mono (by omega))
 have q0:=Lib.cell_of_heap HR5 0;have q1:=Lib.cell_of_heap HR5 1;have q2:=Lib.cell_of_heap HR5 2;have q3:=Lib.cell_of_heap HR5 3;have q4:=Lib.cell_of_heap HR5 4;have q5:=Lib.cell_of_heap HR5 5
 have hfz:∀ j,w5.frozen? ⟨w.heap.size+1,j,none⟩=false:=fun j=>Lib.frozen_of_heap HR5 j
 have HR6:Hid (w5.heap[w.heap.size+1]?=some (.cells z6 93 (0,0))):=HR5
 clear HR5 hb5
 change w5.cell? _=some (.bool false) at q0
 change w5.cell? _=some (.int .i64 0) at q1
 change w5.cell? _=some (.string ⟨#[]⟩) at q2
 change w5.cell? _=some (.bool false) at q3
 change w5.cell? _=some (.string ⟨#[]⟩) at q4
 change w5.cell? _=some (.int .i64 0) at q5
 go_wp2
 obtain ⟨s0,s1,s2,s3,s4,s5⟩:=set6 HR6.out (.bool true) (.int .i64 4) (.string tl) (.bool false) (.string ⟨#[]⟩) (.int .i64 0)
 refine bodyPost_ret (v:=.agg #[.bool true,.int .i64 4,.string tl,.bool false,.string ⟨#[]⟩,.int .i64 0]) (by simp [results,Tryz.results73,go_sem,s0,s1,s2,s3,s4,s5]) rfl ⟨rfl,HX5.out.set6 HR6.out _ _ _ _ _ _,?_⟩
 exact HB5.out.trans (set6_below (by omega) _ _ _ _ _ _)
set_option maxHeartbeats 4000000 in
set_option maxRecDepth 100000 in
theorem c73b (base b0 b1 b2 b3:Nat) (nm tl ar:ByteArray) (T:List I3) (reps:List R2) (v1 v2:Value) (cd:Int) (hc0:cd≠0) (hc4:cd≠4) (tx:ByteArray) (w:World) (h:RunW base b0 b1 b2 b3 w nm tl ar ⟨false,T,reps⟩ v1 v2):
 Calls Tryz.prog 73 #[.agg #[.int .i64 cd,.string tx],.pointer (some ⟨b0,0,none⟩),.pointer (some ⟨b1,0,none⟩),.pointer (some ⟨b2,0,none⟩),.pointer (some ⟨b3,0,none⟩)] w fun e w'=>e=.returned (overT 5 tl 0).v∧RunW base b0 b1 b2 b3 w' nm tl ar ⟨false,T,reps⟩ v1 v2∧Below w.heap.size w w':=by
 have H:Hid (RunW base b0 b1 b2 b3 w nm tl ar ⟨false,T,reps⟩ v1 v2):=h
 have l0:=blk_lt h.h0;have l1:=blk_lt h.h1;have l2:=blk_lt h.h2;have l3:=blk_lt h.h3
 have le1:=h.le1
 have c0:w.cell? ⟨b0,0,none⟩=some (.bool false):=by rw [Lib.cell_of_heap h.h0];rfl
 have cx3:w.cell? ⟨b3,1,none⟩=some (.string tl):=by rw [Lib.cell_of_heap h.h3];rfl
 clear h
 have k0:=past (show b0<w.heap.size from l0) c0
 have k3:=past (show b3<w.heap.size from l3) cx3
 obtain ⟨w0,hw0⟩:∃ w0,w0=(w.alloc (.cells #[.int .i64 cd,.string tx] 43)).alloc (.cells #[.bool false,.int .i64 0,.string ⟨#[]⟩,.bool false,.string ⟨#[]⟩,.int .i64 0] 93):=⟨_,rfl⟩
 have HW0:Hid (w0=(w.alloc (.cells #[.int .i64 cd,.string tx] 43)).alloc (.cells #[.bool false,.int .i64 0,.string ⟨#[]⟩,.bool false,.string ⟨#[]⟩,.int .i64 0] 93)):=hw0
 have hbw:Below w.heap.size w w0:=by rw [hw0];exact ((Below.refl _ _).alloc (Nat.le_refl _) _).alloc (by simp) _
 have HB:Hid (Below w.heap.size w w0):=hbw
 have hz0':w0.heap.size=w.heap.size+2:=by rw [hw0];simp
 have hres:w0.heap[w.heap.size+1]?=some (.cells z6 93 (0,0)):=by
  rw [hw0];exact alloc_new (by simp) _
 have HRES:Hid (w0.heap[w.heap.size+1]?=some (.cells z6 93 (0,0))):=hres
 clear hw0 hbw hres
 go_enter Tryz.func73,Tryz.ntmps73
 go_wp2_with fail
 rw [← HW0.out]
 refine (c76 5 tl w0).mono ?_
 rintro e w5 ⟨rfl,hb5⟩
 have HR5:w5.heap[w.heap.size+1]?=some (.cells z6 93 (0,0)):=(hb5.block _ (blk_lt HRES.out)).trans HRES.out
 have HX5:Hid (RunW base b0 b1 b2 b3 w5 nm tl ar ⟨false,T,reps⟩ v1 v2):=(H.out.below HB.out).below hb5
 have HB5:Hid (Below w.heap.size w w5):=HB.out.trans (hb5.mono (by omega))
 have q0:=Lib.cell_of_heap HR5 0;have q1:=Lib.cell_of_heap HR5 1;have q2:=Lib.cell_of_heap HR5 2;have q3:=Lib.cell_of_heap HR5 3;have q4:=Lib.cell_of_heap HR5 4;have q5:=Lib.cell_of_heap HR5 5
 have hfz:∀ j,w5.frozen? ⟨w.heap.size+1,j,none⟩=false:=fun j=>Lib.frozen_of_heap HR5 j
 have HR6:Hid (w5.heap[w.heap.size+1]?=some (.cells z6 93 (0,0))):=HR5
 clear HR5 hb5
 change w5.cell? _=some (.bool false) at q0
 change w5.cell? _=some (.int .i64 0) at q1
 change w5.cell? _=some (.string ⟨#[]⟩) at q2
 change w5.cell? _=some (.bool false) at q3
 change w5.cell? _=some (.string ⟨#[]⟩) at q4
 change w5.cell? _=some (.int .i64 0) at q5
 go_wp2
 obtain ⟨s0,s1,s2,s3,s4,s5⟩:=set6 HR6.out (.bool true) (.int .i64 5) (.string tl) (.bool false) (.string ⟨#[]⟩) (.int .i64 0)
 refine bodyPost_ret (v:=.agg #[.bool true,.int .i64 5,.string tl,.bool false,.string ⟨#[]⟩,.int .i64 0]) (by simp [results,Tryz.results73,go_sem,s0,s1,s2,s3,s4,s5]) rfl ⟨rfl,HX5.out.set6 HR6.out _ _ _ _ _ _,?_⟩
 exact HB5.out.trans (set6_below (by omega) _ _ _ _ _ _)
end Go.Proofs.YtmalddmgdjkgaaaGreatDoor

import Derived.Test.YtdpoaadafcaffaaGreatDoorZ31
import Derived.Test.YtdpoaadafcaffaaGreatDoorZ39
set_option linter.unusedVariables false
set_option maxHeartbeats 8000000
set_option maxRecDepth 100000
namespace Go.Proofs.YtdpoaadafcaffaaGreatDoor
open Proofs.Tryz
open Go.RowKit
theorem OJ (base b0 b1 b2 b3:Nat) (nm tl ar:ByteArray) (T:List I3) (EL:List R2) (v1 v2:Value) (r:R2) (w:World) (h:S_ base b0 b1 b2 b3 w nm tl ar ⟨true,T,EL⟩ v1 v2) (hrn:EL.length<=300) (h3:Three T ar (EL++[r])) (hsh:Z5 w) (hmx:N8 w) (hba:10<=base):
 Calls prog 51 #[.agg #[.int .i64 r.code,.string r.tx],.pointer (some ⟨b0,0,none⟩),.pointer (some ⟨b1,0,none⟩),.pointer (some ⟨b2,0,none⟩),.pointer (some ⟨b3,0,none⟩)] w fun e w'=>e=.returned (Z7 T ar (EL++[r])).v/\(∃ VP QO,S_ base b0 b1 b2 b3 w' nm tl ar ⟨true,T,EL++[r]⟩ VP QO/\Nw w v1 VP/\Nw w v2 QO)/\Ex (FP b0 b1 b2 v1) w w':=by
 have H:=Q0 h;have HS:=Q0 hsh;have HM:=Q0 hmx;have H3:=Q0 h3;have l0:=F4 h.h0;have l1:=F4 h.h1;have l2:=F4 h.h2;have l3:=F4 h.h3;have VN:=h.VN;have c0:w.cell? ⟨b0,0,none⟩=some (.bool true):=by rw [Lib.cell_of_heap h.h0];rfl
 have c1:w.cell? ⟨b1,0,none⟩=some v1:=by rw [Lib.cell_of_heap h.h1];rfl
 have f1:w.frozen? ⟨b1,0,none⟩=false:=Lib.frozen_of_heap h.h1 0;obtain ⟨i0,hi,hz0,hz1,hz2⟩:=info_parts NB;have hown:w.ownsRow base 31 2 v1 EL.length (X8 EL):=h.o1;clear h hsh hmx h3;have k0:=past (show b0<w.heap.size from l0) c0;have k1:=past (show b1<w.heap.size from l1) c1;have g1:=Ya (show b1<w.heap.size from l1) f1;obtain ⟨w0,hw0⟩:∃ w0,w0=((w.alloc (.cells #[.int .i64 r.code,.string r.tx] 31)).alloc (.cells #[.bool false,.int .i64 0,.string ⟨#[]⟩,.bool false,.string ⟨#[]⟩,.int .i64 0] 42)).alloc (.cells #[.int .i64 r.code,.string r.tx] 31):=⟨_,rfl⟩;have HW0:=Q0 hw0;have hbw:Below w.heap.size w w0:=by rw [hw0];exact (bA.alloc U0 _).alloc X3 _
 have HB:=Q0 hbw;have hz0':w0.heap.size=w.heap.size+3:=by rw [hw0];simp
 have hres:w0.heap[w.heap.size+1]?=some (.cells #[.bool false,.int .i64 0,.string ⟨#[]⟩,.bool false,.string ⟨#[]⟩,.int .i64 0] 42 (0,0)):=by
  rw [hw0,Lib.alloc_old _ _ _ U0];exact M5 U0 _
 have ZL:=Q0 hres;clear hw0 hbw hres;go_enter func51,ntmps51
 go_wp2_with (at_builtin;refine wpList_append_own_at _ rfl _ _ 110 rfl base 31 i0 (.agg #[.int .i64 0,.string ⟨#[]⟩]) 2 24 underlying110 hi hz0 hz1 hz2 rfl J3 _ _ _ rfl (((hown.alloc _).alloc _).alloc _) ⟨w.heap.size+1+1,0,none⟩ 1 1 [_,_] rfl rfl (WE U0 _ _ _) (by intro u hu;simp at hu;rcases hu with rfl | rfl <;> rfl) (by unfold maxLen;omega) O0 X3 ?_;rw [<- HW0.out];intro v' w3 hown3 (hgrow:w0.grownBy w3 v1.ownBlock) _ (hat:v'.ownBlock=v1.ownBlock\/v'.ownBlock=some w0.heap.size);have VY:Hid (Nw w v1 v'):=tH hat O0;have HEX:Hid (Ex (FP b0 b1 b2 v1) w w3):=(Ex.SG HB.out).grown hgrow (fun k e _=>.inr (.inr (.inr e)));clear hat;have X:Hid (S_ base b0 b1 b2 b3 (w3.setCell ⟨b1,0,none⟩ v') nm tl ar ⟨true,T,EL++[r]⟩ v' v2):=(H.out.below HB.out).app hgrow r v' hown3;have hrow:∀ k,v1.ownBlock=some k->base<=k/\∃ cur,w0.heap[k]?=some (.cells cur 31 (0,0)):=(fun k hk=>J2 (H.out.below HB.out).o1 hk);have HR3:Hid (w3.heap[w.heap.size+1]?=some (.cells z6 42 (0,0))):=(hgrow.block _ O0 (fun e=>by obtain ⟨_,cur,hc⟩:=hrow _ e.symm;exact j6 ZL.out hc J3 rfl)).trans ZL.out;have H1:Hid (w3.heap[b1]?=some (.cells #[v1] 110 (0,0))):=(hgrow.block _ O0 (fun e=>by obtain ⟨_,cur,hc⟩:=hrow _ e.symm;exact j6 (H.out.below HB.out).h1 hc J3 rfl)).trans (H.out.below HB.out).h1;have xQ:Hid (Below base w w3):=((HB.out.mono O0).grown hgrow O0 (fun k hk=>(hrow k hk).1));have hz3:w0.heap.size<=w3.heap.size:=hgrow.size;obtain ⟨ao,cp,rfl⟩:=dn hown3;have d1:w3.cell? ⟨b1,0,none⟩=some v1:=(by rw [Lib.cell_of_heap H1.out];rfl);have e1:w3.frozen? ⟨b1,0,none⟩=false:=Lib.frozen_of_heap H1.out 0;obtain ⟨a2,cp2,hv2,HI⟩:=U6 X.out.o2;have m2:(w3.setCell ⟨b1,0,none⟩ (.slice ao (EL.length+1) cp)).cell? ⟨b2,0,none⟩=some (.slice a2 T.length cp2):=(by rw [Lib.cell_of_heap X.out.h2,<- hv2];rfl);have m3:(w3.setCell ⟨b1,0,none⟩ (.slice ao (EL.length+1) cp)).cell? ⟨b3,2,none⟩=some (.string ar):=(by rw [Lib.cell_of_heap X.out.h3];rfl);have m1:(w3.setCell ⟨b1,0,none⟩ (.slice ao (EL.length+1) cp)).cell? ⟨b1,0,none⟩=some (.slice ao (EL.length+1) cp):=(by rw [Lib.cell_of_heap X.out.h1];rfl);have NQ:Hid (t_ (w3.setCell ⟨b1,0,none⟩ (.slice ao (EL.length+1) cp)) a2 T):=HI;clear hgrow hown3 hrow HI hv2)
 obtain ⟨a3,cp3,hv3,JR⟩:=Mj X.out.o1;have ha3:ao=a3:=by injection hv3
 subst ha3;have hB4:Below base w (w3.setCell ⟨b1,0,none⟩ (.slice ao (EL.length+1) cp)):=xQ.out.setCell (by exact VN) _;have HR4:(w3.setCell ⟨b1,0,none⟩ (.slice ao (EL.length+1) cp)).heap[w.heap.size+1]?=some (.cells z6 42 (0,0)):=(heap_setCell_other _ _ _ _ (by show w.heap.size+1≠b1;omega)).trans HR3.out;rcases hN:Z7 T ar (EL++[r]) with ⟨o,c,t,hh,n,k⟩;refine (bH a2 cp2 _ T ar ao cp _ (EL++[r]) _ rfl U0 H3.out NQ.out JR (Ja HS.out hB4 hba) (je HM.out hB4 hba) hN).mono ?_;rintro e w5 ⟨rfl,hb5⟩;have PL:=(hb5.block _ (F4 HR4)).trans HR4;have OQ:=Q0 (X.out.below hb5);have dM:=Q0 ((HEX.out.setCell (fun _=>.inr (.inl rfl)) _).Mh (hb5.mono hB4.size));have q0:=Lib.cell_of_heap PL 0;have q1:=Lib.cell_of_heap PL 1;have q2:=Lib.cell_of_heap PL 2;have q3:=Lib.cell_of_heap PL 3;have q4:=Lib.cell_of_heap PL 4;have q5:=Lib.cell_of_heap PL 5;have hfz:∀ j,w5.frozen? ⟨w.heap.size+1,j,none⟩=false:=fun j=>Lib.frozen_of_heap PL j;have ZM:=Q0 PL;clear PL hb5 HR4 hB4 hv3 JR;change w5.cell? _=some (.bool false) at q0;change w5.cell? _=some (.int .i64 0) at q1;change w5.cell? _=some (.string ⟨#[]⟩) at q2;change w5.cell? _=some (.bool false) at q3;change w5.cell? _=some (.string ⟨#[]⟩) at q4;change w5.cell? _=some (.int .i64 0) at q5;go_wp2;obtain ⟨s0,s1,s2,s3,s4,s5⟩:=K_ ZM.out (.bool o) (.int .i64 c) (.string t) (.bool hh) (.string n) (.int .i64 k);refine bodyPost_ret (v:=.agg #[.bool o,.int .i64 c,.string t,.bool hh,.string n,.int .i64 k]) (by simp [results,Tryz.results51,go_sem,s0,s1,s2,s3,s4,s5]) rfl ⟨by rw [hN];rfl,⟨_,_,OQ.out.K_ ZM.out _ _ _ _ _ _,VY.out,jf _ _⟩,?_⟩;exact dM.out.Mh (M4 O0 _ _ _ _ _ _)
theorem fJ (base b0 b1 b2 b3:Nat) (nm tl ar:ByteArray) (T:List I3) (EL:List R2) (v1 v2:Value)  (tx:ByteArray) (w:World) (h:S_ base b0 b1 b2 b3 w nm tl ar ⟨false,T,EL⟩ v1 v2):
 Calls prog 51 #[.agg #[.int .i64 4,.string tx],.pointer (some ⟨b0,0,none⟩),.pointer (some ⟨b1,0,none⟩),.pointer (some ⟨b2,0,none⟩),.pointer (some ⟨b3,0,none⟩)] w fun e w'=>e=.returned (P5 4 tl 0).v/\S_ base b0 b1 b2 b3 w' nm tl ar ⟨false,T,EL⟩ v1 v2/\Below w.heap.size w w':=by
 have H:=Q0 h;have l0:=F4 h.h0;have l1:=F4 h.h1;have l2:=F4 h.h2;have l3:=F4 h.h3;have VN:=h.VN;have c0:w.cell? ⟨b0,0,none⟩=some (.bool false):=by rw [Lib.cell_of_heap h.h0];rfl
 have TW:w.cell? ⟨b3,1,none⟩=some (.string tl):=by rw [Lib.cell_of_heap h.h3];rfl
 clear h;have k0:=past (show b0<w.heap.size from l0) c0;have k3:=past (show b3<w.heap.size from l3) TW;obtain ⟨w0,hw0⟩:∃ w0,w0=(w.alloc (.cells #[.int .i64 4,.string tx] 31)).alloc (.cells #[.bool false,.int .i64 0,.string ⟨#[]⟩,.bool false,.string ⟨#[]⟩,.int .i64 0] 42):=⟨_,rfl⟩;have HW0:=Q0 hw0;have hbw:Below w.heap.size w w0:=by rw [hw0];exact bA.alloc U0 _
 have HB:=Q0 hbw;have hz0':w0.heap.size=w.heap.size+2:=by rw [hw0];simp
 have hres:w0.heap[w.heap.size+1]?=some (.cells z6 42 (0,0)):=by
  rw [hw0];exact M5 U0 _
 have ZL:=Q0 hres;clear hw0 hbw hres;go_enter func51,ntmps51
 go_wp2_with fail
 rw [<- HW0.out];refine (IJ 4 tl w0).mono ?_;rintro e w5 ⟨rfl,hb5⟩;have PL:=(hb5.block _ (F4 ZL.out)).trans ZL.out;have OQ:=Q0 ((H.out.below HB.out).below hb5);have dM:=Q0 (HB.out.trans (hb5.mono O0));have q0:=Lib.cell_of_heap PL 0;have q1:=Lib.cell_of_heap PL 1;have q2:=Lib.cell_of_heap PL 2;have q3:=Lib.cell_of_heap PL 3;have q4:=Lib.cell_of_heap PL 4;have q5:=Lib.cell_of_heap PL 5;have hfz:∀ j,w5.frozen? ⟨w.heap.size+1,j,none⟩=false:=fun j=>Lib.frozen_of_heap PL j;have ZM:=Q0 PL;clear PL hb5;change w5.cell? _=some (.bool false) at q0;change w5.cell? _=some (.int .i64 0) at q1;change w5.cell? _=some (.string ⟨#[]⟩) at q2;change w5.cell? _=some (.bool false) at q3;change w5.cell? _=some (.string ⟨#[]⟩) at q4;change w5.cell? _=some (.int .i64 0) at q5;go_wp2;obtain ⟨s0,s1,s2,s3,s4,s5⟩:=K_ ZM.out (.bool true) (.int .i64 4) (.string tl) (.bool false) (.string ⟨#[]⟩) (.int .i64 0);refine bodyPost_ret (v:=.agg #[.bool true,.int .i64 4,.string tl,.bool false,.string ⟨#[]⟩,.int .i64 0]) (by simp [results,Tryz.results51,go_sem,s0,s1,s2,s3,s4,s5]) rfl ⟨rfl,OQ.out.K_ ZM.out _ _ _ _ _ _,?_⟩;exact dM.out.trans (M4 O0 _ _ _ _ _ _)
theorem AJ (base b0 b1 b2 b3:Nat) (nm tl ar:ByteArray) (T:List I3) (EL:List R2) (v1 v2:Value) (cd:Int) (hc0:cd≠0) (hc4:cd≠4) (tx:ByteArray) (w:World) (h:S_ base b0 b1 b2 b3 w nm tl ar ⟨false,T,EL⟩ v1 v2):
 Calls prog 51 #[.agg #[.int .i64 cd,.string tx],.pointer (some ⟨b0,0,none⟩),.pointer (some ⟨b1,0,none⟩),.pointer (some ⟨b2,0,none⟩),.pointer (some ⟨b3,0,none⟩)] w fun e w'=>e=.returned (P5 5 tl 0).v/\S_ base b0 b1 b2 b3 w' nm tl ar ⟨false,T,EL⟩ v1 v2/\Below w.heap.size w w':=by
 have H:=Q0 h;have l0:=F4 h.h0;have l1:=F4 h.h1;have l2:=F4 h.h2;have l3:=F4 h.h3;have VN:=h.VN;have c0:w.cell? ⟨b0,0,none⟩=some (.bool false):=by rw [Lib.cell_of_heap h.h0];rfl
 have TW:w.cell? ⟨b3,1,none⟩=some (.string tl):=by rw [Lib.cell_of_heap h.h3];rfl
 clear h;have k0:=past (show b0<w.heap.size from l0) c0;have k3:=past (show b3<w.heap.size from l3) TW;obtain ⟨w0,hw0⟩:∃ w0,w0=(w.alloc (.cells #[.int .i64 cd,.string tx] 31)).alloc (.cells #[.bool false,.int .i64 0,.string ⟨#[]⟩,.bool false,.string ⟨#[]⟩,.int .i64 0] 42):=⟨_,rfl⟩;have HW0:=Q0 hw0;have hbw:Below w.heap.size w w0:=by rw [hw0];exact bA.alloc U0 _
 have HB:=Q0 hbw;have hz0':w0.heap.size=w.heap.size+2:=by rw [hw0];simp
 have hres:w0.heap[w.heap.size+1]?=some (.cells z6 42 (0,0)):=by
  rw [hw0];exact M5 U0 _
 have ZL:=Q0 hres;clear hw0 hbw hres;go_enter func51,ntmps51
 go_wp2_with fail
 rw [<- HW0.out];refine (IJ 5 tl w0).mono ?_;rintro e w5 ⟨rfl,hb5⟩;have PL:=(hb5.block _ (F4 ZL.out)).trans ZL.out;have OQ:=Q0 ((H.out.below HB.out).below hb5);have dM:=Q0 (HB.out.trans (hb5.mono O0));have q0:=Lib.cell_of_heap PL 0;have q1:=Lib.cell_of_heap PL 1;have q2:=Lib.cell_of_heap PL 2;have q3:=Lib.cell_of_heap PL 3;have q4:=Lib.cell_of_heap PL 4;have q5:=Lib.cell_of_heap PL 5;have hfz:∀ j,w5.frozen? ⟨w.heap.size+1,j,none⟩=false:=fun j=>Lib.frozen_of_heap PL j;have ZM:=Q0 PL;clear PL hb5;change w5.cell? _=some (.bool false) at q0;change w5.cell? _=some (.int .i64 0) at q1;change w5.cell? _=some (.string ⟨#[]⟩) at q2;change w5.cell? _=some (.bool false) at q3;change w5.cell? _=some (.string ⟨#[]⟩) at q4;change w5.cell? _=some (.int .i64 0) at q5;go_wp2;obtain ⟨s0,s1,s2,s3,s4,s5⟩:=K_ ZM.out (.bool true) (.int .i64 5) (.string tl) (.bool false) (.string ⟨#[]⟩) (.int .i64 0);refine bodyPost_ret (v:=.agg #[.bool true,.int .i64 5,.string tl,.bool false,.string ⟨#[]⟩,.int .i64 0]) (by simp [results,Tryz.results51,go_sem,s0,s1,s2,s3,s4,s5]) rfl ⟨rfl,OQ.out.K_ ZM.out _ _ _ _ _ _,?_⟩;exact dM.out.trans (M4 O0 _ _ _ _ _ _)
theorem S_.take {base b0 b1 b2 b3:Nat} {u:World} {nm tl ar:ByteArray} {T is:List I3} {EL:List R2} {v1 v2:Value} (h:S_ base b0 b1 b2 b3 u nm tl ar ⟨false,T,EL⟩ v1 v2) (ok:Bool) (v:Value) (ho:u.ownsRow base 121 3 v is.length (D5 is)):
 S_ base b0 b1 b2 b3 ((u.setCell ⟨b2,0,none⟩ v).setCell ⟨b0,0,none⟩ (.bool ok)) nm tl ar ⟨ok,is,EL⟩ v1 v:=by
 have s2:∀ (k:Nat) (x:Array Value) (t:TypeId),u.heap[k]?=some (.cells x t (0,0))->t≠109->(u.setCell ⟨b2,0,none⟩ v).heap[k]?=some (.cells x t (0,0)):=fun k x t hk ht=>(heap_setCell_other _ _ _ _ (j6 hk h.h2 ht)).trans hk;have n0:=s2 _ _ _ h.h0 J3;have s3:∀ (k:Nat) (x:Array Value) (t:TypeId),(u.setCell ⟨b2,0,none⟩ v).heap[k]?=some (.cells x t (0,0))->t≠4->((u.setCell ⟨b2,0,none⟩ v).setCell ⟨b0,0,none⟩ (.bool ok)).heap[k]?=some (.cells x t (0,0)):=fun k x t hk ht=>(heap_setCell_other _ _ _ _ (j6 hk n0 ht)).trans hk;refine ⟨h.PQ,h.VN,h.QQ,h.aS,heap_setCell_same _ b0 0 _ _ _ n0,s3 _ _ _ (s2 _ _ _ h.h1 J3) J3,s3 _ _ _ (heap_setCell_same _ b2 0 _ _ _ h.h2) J3,s3 _ _ _ (s2 _ _ _ h.h3 J3) J3,?_,?_⟩
 · refine Y0 h.o1 fun k hk=>?_
   obtain ⟨_,cur,hc⟩:=J2 h.o1 hk;rw [s3 _ _ _ (s2 _ _ _ hc J3) J3,hc]
 refine Y0 ho fun k hk=>?_;obtain ⟨_,cur,hc⟩:=J2 ho hk;rw [s3 _ _ _ (s2 _ _ _ hc J3) J3,hc]
theorem FI (base b0 b1 b2 b3:Nat) (nm tl ar:ByteArray) (T:List I3) (EL:List R2) (v1 v2:Value) (tx:ByteArray) (w:World) (h:S_ base b0 b1 b2 b3 w nm tl ar ⟨false,T,EL⟩ v1 v2) (hts:tx.size<=1048576) (har:ar.size<=1048576) (hsh:Z5 w) (hmx:N8 w) (hba:10<=base):
 Calls Tryz.prog 51 #[.agg #[.int .i64 0,.string tx],.pointer (some ⟨b0,0,none⟩),.pointer (some ⟨b1,0,none⟩),.pointer (some ⟨b2,0,none⟩),.pointer (some ⟨b3,0,none⟩)] w fun e w'=>e=.returned (Qa tl ar tx.data.toList).v/\(∃ QO,S_ base b0 b1 b2 b3 w' nm tl ar ⟨(w_ tx.data.toList).2,(w_ tx.data.toList).1,EL⟩ v1 QO/\Nw w v2 QO)/\Ex (FP b0 b1 b2 v1) w w':=by
 have HS:=Q0 hsh;have HM:=Q0 hmx;clear hsh hmx;have H:=Q0 h;have l0:=F4 h.h0;have l1:=F4 h.h1;have l2:=F4 h.h2;have l3:=F4 h.h3;have VN:=h.VN;have c0:w.cell? ⟨b0,0,none⟩=some (.bool false):=by rw [Lib.cell_of_heap h.h0];rfl
 have TW:w.cell? ⟨b3,1,none⟩=some (.string tl):=by rw [Lib.cell_of_heap h.h3];rfl
 clear h;have k0:=past (show b0<w.heap.size from l0) c0;have k3:=past (show b3<w.heap.size from l3) TW;obtain ⟨w0,hw0⟩:∃ w0,w0=(w.alloc (.cells #[.int .i64 0,.string tx] 31)).alloc (.cells #[.bool false,.int .i64 0,.string ⟨#[]⟩,.bool false,.string ⟨#[]⟩,.int .i64 0] 42):=⟨_,rfl⟩;have HW0:=Q0 hw0;have hbw:Below w.heap.size w w0:=by rw [hw0];exact bA.alloc U0 _
 have HB:=Q0 hbw;have hz0':w0.heap.size=w.heap.size+2:=by rw [hw0];simp
 have hres:w0.heap[w.heap.size+1]?=some (.cells z6 42 (0,0)):=by
  rw [hw0];exact M5 U0 _
 have ZL:=Q0 hres;clear hw0 hbw hres;go_enter Tryz.func51,Tryz.ntmps51
 go_wp2_with fail
 rw [<- HW0.out];have hB0:Below base w w0:=HB.out.mono O0;refine (c53 tx w0 hts (Ja HS.out hB0 hba) (je HM.out hB0 hba)).mono ?_;rintro e w1 ⟨⟨is,ok,v,rfl,hown,hread⟩,hb1⟩;have iV:=Q0 (Zq hread);have hB1:=hB0.trans (hb1.mono O0);have hown':w1.ownsRow base 121 3 v is.length (D5 is):=V4 hown O0;have VY:Hid (Nw w v2 v):=fun k e=>.inr (by have:=(hown.lt k e).1;omega);have hE1:Ex (FP b0 b1 b2 v1) w w1:=(Ex.SG HB.out).Mh (hb1.mono O0);have X1:=(H.out.below HB.out).below hb1;have X2:=Q0 (X1.take ok v hown');obtain ⟨a,cp,hv,HI⟩:=U6 X2.out.o2;have hv':=hv;subst hv';have hss:∀ i,(is.getD i K9).tx.size<=1048576:=fun i=>Nat.le_trans ((Ze hread).2 i) O0;have hil:=(Ze hread).1;have NQ:=Q0 HI;have n2:w1.cell? ⟨b2,0,none⟩=some v2:=by rw [Lib.cell_of_heap X1.h2];rfl
 have n2f:=Lib.frozen_of_heap X1.h2 0;have n0f:∀ u,(w1.setCell ⟨b2,0,none⟩ u).frozen? ⟨b0,0,none⟩=false:=fun u=>by simpa using Lib.frozen_of_heap X1.h0 0
 have hne:=j6 X1.h0 X1.h2 J3;have n0:∀ u,(w1.setCell ⟨b2,0,none⟩ u).cell? ⟨b0,0,none⟩=some (.bool false):=fun u=>by
  rw [World.cell?_setCell_other _ _ _ _ (fun e=>hne (by injection e with e _;exact e.symm)),Lib.cell_of_heap X1.h0];rfl
 have m0:((w1.setCell ⟨b2,0,none⟩ (.slice a is.length cp)).setCell ⟨b0,0,none⟩ (.bool ok)).cell? ⟨b0,0,none⟩=some (.bool ok):=by rw [Lib.cell_of_heap X2.out.h0];rfl
 have m2:((w1.setCell ⟨b2,0,none⟩ (.slice a is.length cp)).setCell ⟨b0,0,none⟩ (.bool ok)).cell? ⟨b2,0,none⟩=some (.slice a is.length cp):=by rw [Lib.cell_of_heap X2.out.h2];rfl
 have m31:((w1.setCell ⟨b2,0,none⟩ (.slice a is.length cp)).setCell ⟨b0,0,none⟩ (.bool ok)).cell? ⟨b3,1,none⟩=some (.string tl):=by rw [Lib.cell_of_heap X2.out.h3];rfl
 have m32:((w1.setCell ⟨b2,0,none⟩ (.slice a is.length cp)).setCell ⟨b0,0,none⟩ (.bool ok)).cell? ⟨b3,2,none⟩=some (.string ar):=by rw [Lib.cell_of_heap X2.out.h3];rfl
 have HR1:=(hb1.block _ (F4 ZL.out)).trans ZL.out;have HR2:((w1.setCell ⟨b2,0,none⟩ (.slice a is.length cp)).setCell ⟨b0,0,none⟩ (.bool ok)).heap[w.heap.size+1]?=some (.cells z6 42 (0,0)):=by
  rw [heap_setCell_other _ _ _ _ (by show w.heap.size+1≠b0;omega),heap_setCell_other _ _ _ _ (by show w.heap.size+1≠b2;omega)];exact HR1
 have sU:=Q0 HR2;have hle0:=X1.PQ;have hle2:=X1.QQ;have hB2:Below base w ((w1.setCell ⟨b2,0,none⟩ (.slice a is.length cp)).setCell ⟨b0,0,none⟩ (.bool ok)):=(hB1.setCell (by exact hle2) _).setCell (by exact hle0) _;have HE2:Hid (Ex (FP b0 b1 b2 v1) w ((w1.setCell ⟨b2,0,none⟩ (.slice a is.length cp)).setCell ⟨b0,0,none⟩ (.bool ok))):=(hE1.setCell (fun _=>.inr (.inr (.inl rfl))) _).setCell (fun _=>.inl rfl) _;have HB2:=Q0 hB2;have hz1':=hb1.size;clear hE1 X1 hown hown' hread hv HI HR1 HR2 hB1 hb1 hB0 hB2;cases ok
 · go_wp2_with fail
   refine (IJ 7 tl _).mono ?_;rintro e w5 ⟨rfl,hb5⟩;have PL:=(hb5.block _ (F4 sU.out)).trans sU.out;have OQ:=Q0 (X2.out.below hb5);have dM:=Q0 (HE2.out.Mh (hb5.mono X3));have q0:=Lib.cell_of_heap PL 0;have q1:=Lib.cell_of_heap PL 1;have q2:=Lib.cell_of_heap PL 2;have q3:=Lib.cell_of_heap PL 3;have q4:=Lib.cell_of_heap PL 4;have q5:=Lib.cell_of_heap PL 5;have hfz:∀ j,w5.frozen? ⟨w.heap.size+1,j,none⟩=false:=fun j=>Lib.frozen_of_heap PL j;have ZM:=Q0 PL;clear PL hb5;change w5.cell? _=some (.bool false) at q0;change w5.cell? _=some (.int .i64 0) at q1;change w5.cell? _=some (.string ⟨#[]⟩) at q2;change w5.cell? _=some (.bool false) at q3;change w5.cell? _=some (.string ⟨#[]⟩) at q4;change w5.cell? _=some (.int .i64 0) at q5;go_wp2;obtain ⟨s0,s1,s2,s3,s4,s5⟩:=K_ ZM.out (.bool true) (.int .i64 7) (.string tl) (.bool false) (.string ⟨#[]⟩) (.int .i64 0);refine bodyPost_ret (v:=.agg #[.bool true,.int .i64 7,.string tl,.bool false,.string ⟨#[]⟩,.int .i64 0]) (by simp [results,Tryz.results51,go_sem,s0,s1,s2,s3,s4,s5]) rfl ⟨by unfold Qa;rw [iV.out];rfl,⟨.slice a is.length cp,?_,VY.out⟩,?_⟩
   · rw [iV.out];exact OQ.out.K_ ZM.out _ _ _ _ _ _
   exact dM.out.Mh (M4 O0 _ _ _ _ _ _)
 rcases hN:Z7 is ar [] with ⟨o,c,t,hh,n,k⟩;have HN:=Q0 hN;clear hN
 go_wp2_with fail
 refine (bH a cp _ is ar none 0 0 [] _ rfl rfl ⟨O0,hss,har,Nat.zero_le _,fun i=>by simp [Oa,ByteArray.size]⟩ NQ.out (.inl rfl) (Ja HS.out HB2.out hba) (je HM.out HB2.out hba) HN.out).mono ?_;rintro e w5 ⟨rfl,hb5⟩;have PL:=(hb5.block _ (F4 sU.out)).trans sU.out;have OQ:=Q0 (X2.out.below hb5);have dM:=Q0 (HE2.out.Mh (hb5.mono X3));have q0:=Lib.cell_of_heap PL 0;have q1:=Lib.cell_of_heap PL 1;have q2:=Lib.cell_of_heap PL 2;have q3:=Lib.cell_of_heap PL 3;have q4:=Lib.cell_of_heap PL 4;have q5:=Lib.cell_of_heap PL 5;have hfz:∀ j,w5.frozen? ⟨w.heap.size+1,j,none⟩=false:=fun j=>Lib.frozen_of_heap PL j;have ZM:=Q0 PL;clear PL hb5;change w5.cell? _=some (.bool false) at q0;change w5.cell? _=some (.int .i64 0) at q1;change w5.cell? _=some (.string ⟨#[]⟩) at q2;change w5.cell? _=some (.bool false) at q3;change w5.cell? _=some (.string ⟨#[]⟩) at q4;change w5.cell? _=some (.int .i64 0) at q5;go_wp2;obtain ⟨s0,s1,s2,s3,s4,s5⟩:=K_ ZM.out (.bool o) (.int .i64 c) (.string t) (.bool hh) (.string n) (.int .i64 k);refine bodyPost_ret (v:=.agg #[.bool o,.int .i64 c,.string t,.bool hh,.string n,.int .i64 k]) (by simp [results,Tryz.results51,go_sem,s0,s1,s2,s3,s4,s5]) rfl ⟨by unfold Qa;rw [iV.out];show _=Ending.returned (Z7 is ar []).v;rw [HN.out];rfl,⟨.slice a is.length cp,?_,VY.out⟩,?_⟩
 · rw [iV.out];exact OQ.out.K_ ZM.out _ _ _ _ _ _
 exact dM.out.Mh (M4 O0 _ _ _ _ _ _)
variable {ar tl:ByteArray} {t:TN} {s:RS} {x:M.L4} {ls xs:List M.L4} {m:M3} {u w:World}
theorem c51 (base b0 b1 b2 b3:Nat) (nm tl ar:ByteArray) (s:RS) (v1 v2:Value) (r:R2) (w:World) (h:S_ base b0 b1 b2 b3 w nm tl ar s v1 v2) (hok:Wp s) (hrn:s.EL.length<=300) (hts:r.tx.size<=1048576) (har:ar.size<=1048576) (hsh:Z5 w) (hmx:N8 w) (hba:10<=base):
 Calls Tryz.prog 51 #[.agg #[.int .i64 r.code,.string r.tx],.pointer (some ⟨b0,0,none⟩),.pointer (some ⟨b1,0,none⟩),.pointer (some ⟨b2,0,none⟩),.pointer (some ⟨b3,0,none⟩)] w fun e w'=>e=.returned (M6 tl ar s r).1.v/\(∃ VP QO,S_ base b0 b1 b2 b3 w' nm tl ar (M6 tl ar s r).2 VP QO/\Nw w v1 VP/\Nw w v2 QO)/\Ex (FP b0 b1 b2 v1) w w':=by
 obtain ⟨hs,T,EL⟩:=s;cases hs;rotate_left
 · have e:M6 tl ar ⟨true,T,EL⟩ r=(Z7 T ar (EL++[r]),⟨true,T,EL++[r]⟩):=by simp [M6]
   rw [e];exact OJ base b0 b1 b2 b3 nm tl ar T EL v1 v2 r w h hrn ⟨by have:=hok.tl;show T.length<=_;exact Nat.le_trans this O0,fun i=>Nat.le_trans (hok.ts i) O0,har,by simp;have:EL.length<=300:=hrn;omega,Le hok.rs hts⟩ hsh hmx hba
 obtain ⟨c,tx⟩:=r;by_cases h0:c=0
 · subst h0
   have e:M6 tl ar ⟨false,T,EL⟩ ⟨0,tx⟩=(Qa tl ar tx.data.toList,⟨(w_ tx.data.toList).2,(w_ tx.data.toList).1,EL⟩):=by simp [M6]
   rw [e];refine (FI base b0 b1 b2 b3 nm tl ar T EL v1 v2 tx w h hts har hsh hmx hba).mono ?_;rintro e w' ⟨rfl,⟨v,hx,hn⟩,hb⟩;exact ⟨rfl,⟨v1,v,hx,jf _ _,hn⟩,hb⟩
 by_cases h4:c=4
 · subst h4
   have e:M6 tl ar ⟨false,T,EL⟩ ⟨4,tx⟩=(P5 4 tl 0,⟨false,T,EL⟩):=by simp [M6]
   rw [e];refine (fJ base b0 b1 b2 b3 nm tl ar T EL v1 v2 tx w h).mono ?_;rintro e w' ⟨rfl,hx,hb⟩;exact ⟨rfl,⟨v1,v2,hx,jf _ _,jf _ _⟩,.SG hb⟩
 have e:M6 tl ar ⟨false,T,EL⟩ ⟨c,tx⟩=(P5 5 tl 0,⟨false,T,EL⟩):=by simp [M6,h0,h4]
 rw [e];refine (AJ base b0 b1 b2 b3 nm tl ar T EL v1 v2 c h0 h4 tx w h).mono ?_;rintro e w' ⟨rfl,hx,hb⟩;exact ⟨rfl,⟨v1,v2,hx,jf _ _,jf _ _⟩,.SG hb⟩
def Halt (t:TN) (x:M.L4):Prop:=t.over=true\/x.has≠t.has\/x.nm≠t.name\/¬ M.Gf x
open Classical in
noncomputable def Xr (tl ar:ByteArray):TN->RS->List M.L4->TN
 | t,_,[]=>t
 | t,s,x::xs=>if Halt t x then R5 else Xr tl ar (M6 tl ar s ⟨x.cd,x.tx⟩).1 (M6 tl ar s ⟨x.cd,x.tx⟩).2 xs
open Classical in
theorem Lh (h:Halt t x):Xr tl ar t s (x::xs)=R5:=by
 show (if _ then _ else _)=_;exact if_pos h
open Classical in
theorem ou (h:¬ Halt t x):Xr tl ar t s (x::xs)=Xr tl ar (M6 tl ar s ⟨x.cd,x.tx⟩).1 (M6 tl ar s ⟨x.cd,x.tx⟩).2 xs:=by
 show (if _ then _ else _)=_;exact if_neg h
def Tf (tl:ByteArray):TN:=⟨false,0,⟨#[]⟩,false,tl,0⟩
open Classical in
noncomputable def goT (m:M3) (ls:List M.L4):TN:=if Z9 m=true/\ls.length<=15 then Xr m.tl m.ar (Tf m.tl) Pg ls else R5
theorem Tz (h:Z9 m=false\/15<ls.length):goT m ls=R5:=by
 unfold goT;refine if_neg fun h'=>?_;rcases h with h | h
 · rw [h'.1] at h;cases h
 omega
theorem Ew (h:Z9 m=true) (h2:ls.length<=15):goT m ls=Xr m.tl m.ar (Tf m.tl) Pg ls:=if_pos ⟨h,h2⟩
theorem Vz {k:Nat} (h:k<ls.length):ls.drop k=ls.getD k M.A_::ls.drop (k+1):=by
 rw [List.drop_eq_getElem_cons h]
 congr 1
 simp [List.getD,h]
def WG (m:M3) (w:World):World:=(w.alloc (.cells #[.string m.nm,.string m.tl,.string m.ar] 35)).alloc (.cells #[.bool false,.int .i64 0,.string ⟨#[]⟩,.bool false,.string ⟨#[]⟩,.int .i64 0] 42)
theorem Fg (m:M3) (w:World):(WG m w).heap.size=w.heap.size+2:=by simp [WG]
theorem Ch (m:M3) (w:World):Below w.heap.size w (WG m w):=bA.alloc U0 _
theorem qH (h:Below (w.heap.size+2) (WG m w) u):u.heap[w.heap.size+1]?=some (.cells z6 42 (0,0)):=by
 rw [h.block _ O0];exact M5 U0 _
theorem MB (h:Below (w.heap.size+2) (WG m w) u):u.cell? ⟨w.heap.size,0,none⟩=some (.string m.nm)/\u.cell? ⟨w.heap.size,1,none⟩=some (.string m.tl)/\u.cell? ⟨w.heap.size,2,none⟩=some (.string m.ar):=by
 have e:u.heap[w.heap.size]?=some (.cells #[.string m.nm,.string m.tl,.string m.ar] 35 (0,0)):=by
  rw [h.block _ O0,WG,Lib.alloc_old _ _ _ U0];exact M5 rfl _
 exact ⟨Lib.cell_of_heap e 0,Lib.cell_of_heap e 1,Lib.cell_of_heap e 2⟩
end Go.Proofs.YtdpoaadafcaffaaGreatDoor
namespace Go.Proofs.YtdpoaadafcaffaaGreatDoor
open Go.RowKit
variable {u:World} {B k:Nat} {t:TN}
def Y7 (u:World) (B:Nat) (t:TN):Prop:=u.heap[B]?=some (.cells #[.bool t.over,.int .i64 t.code,.string t.text,.bool t.has,.string t.name,.int .i64 t.steps] 42 (0,0))
theorem Y7.set (h:Y7 u B t) (t':TN):Y7 ((((((u.setCell ⟨B,0,none⟩ (.bool t'.over)).setCell ⟨B,1,none⟩ (.int .i64 t'.code)).setCell ⟨B,2,none⟩ (.string t'.text)).setCell ⟨B,3,none⟩ (.bool t'.has)).setCell ⟨B,4,none⟩ (.string t'.name)).setCell ⟨B,5,none⟩ (.int .i64 t'.steps)) B t':=by
 have h0:=heap_setCell_same u B 0 _ 42 (.bool t'.over) h;have h1:=heap_setCell_same _ B 1 _ 42 (.int .i64 t'.code) h0;have h2:=heap_setCell_same _ B 2 _ 42 (.string t'.text) h1;have h3:=heap_setCell_same _ B 3 _ 42 (.bool t'.has) h2;have h4:=heap_setCell_same _ B 4 _ 42 (.string t'.name) h3;exact heap_setCell_same _ B 5 _ 42 (.int .i64 t'.steps) h4
theorem Y7.cells (h:Y7 u B t):u.cell? ⟨B,0,none⟩=some (.bool t.over)/\u.cell? ⟨B,1,none⟩=some (.int .i64 t.code)/\u.cell? ⟨B,2,none⟩=some (.string t.text)/\u.cell? ⟨B,3,none⟩=some (.bool t.has)/\u.cell? ⟨B,4,none⟩=some (.string t.name)/\u.cell? ⟨B,5,none⟩=some (.int .i64 t.steps)/\∀ j,u.frozen? ⟨B,j,none⟩=false:=
 ⟨Lib.cell_of_heap h 0,Lib.cell_of_heap h 1,Lib.cell_of_heap h 2,Lib.cell_of_heap h 3,Lib.cell_of_heap h 4,Lib.cell_of_heap h 5,fun j=>Lib.frozen_of_heap h j⟩
theorem Y7.blk (h:Y7 u B t):M.Ta u B [.bool t.over,.int .i64 t.code,.string t.text,.bool t.has,.string t.name,.int .i64 t.steps]:=fun j v e=>by
 rw [Lib.cell_of_heap h j];simpa using e
theorem Y7.below {u':World} {N:Nat} (h:Y7 u B t) (hb:Below N u u') (hN:B<N):Y7 u' B t:=(hb.block B hN).trans h
theorem u_ {ops:Array Oper} {rest:List Oper} {o:Oper} {a:Act} {Q:Exit->Act->World->Prop} (hgd:o.guard=none) (x y:Operand) (ho:o.op=.store 42 x y) (B:Nat) (hx:a.eval x=.pointer (some ⟨B,0,none⟩)) (t t0:TN) (hy:a.eval y=t.v) (hT:Y7 u B t0) (hdst:o.dst=none)
 (h:∀ u',Y7 u' B t->(∀ m,m<=B->Below m u u')->(∀ k,k≠B->u'.heap[k]?=u.heap[k]?)->wpList Tryz.prog ops Q rest a u'):wpList Tryz.prog ops Q (o::rest) a u:=by
 refine M.Fj (P:=Tryz.prog) hgd 42 x y ho B 0 hx [.bool t.over,.int .i64 t.code,.string t.text,.bool t.has,.string t.name,.int .i64 t.steps] hy (fun i hi=>?_) (fun j=>Lib.frozen_of_heap hT j) (by intro v hv;simp at hv;rcases hv with rfl | rfl | rfl | rfl | rfl | rfl <;> rfl) I1 hdst ?_
 · rw [Nat.zero_add,Lib.cell_of_heap hT i]
   have hi':i<6:=hi;simp [hi']
 refine h _ (hT.set t) (fun m hm=>M4 hm _ _ _ _ _ _) fun k hk=>?_;show ((((((u.setCell ⟨B,0,none⟩ _).setCell ⟨B,1,none⟩ _).setCell ⟨B,2,none⟩ _).setCell ⟨B,3,none⟩ _).setCell ⟨B,4,none⟩ _).setCell ⟨B,5,none⟩ _).heap[k]?=_;simp only [heap_setCell_other _ _ _ _ (show k≠(⟨B,0,none⟩:Addr).block from hk),heap_setCell_other _ _ _ _ (show k≠(⟨B,1,none⟩:Addr).block from hk),heap_setCell_other _ _ _ _ (show k≠(⟨B,2,none⟩:Addr).block from hk),heap_setCell_other _ _ _ _ (show k≠(⟨B,3,none⟩:Addr).block from hk),heap_setCell_other _ _ _ _ (show k≠(⟨B,4,none⟩:Addr).block from hk),heap_setCell_other _ _ _ _ (show k≠(⟨B,5,none⟩:Addr).block from hk)]
theorem ze {w:World} {a:Option Addr} {ls:List M.L4} (h:M.Ma w a ls) (hb:Below w.heap.size w u) (hk:k<ls.length):∃ b off,a=some ⟨b,off,none⟩/\b<w.heap.size/\u.cell? ⟨b,off+k*4,none⟩=some (.bool (ls.getD k M.A_).has)/\u.cell? ⟨b,off+k*4+1,none⟩=some (.string (ls.getD k M.A_).nm)/\u.cell? ⟨b,off+k*4+2,none⟩=some (.int .i64 (ls.getD k M.A_).cd)/\u.cell? ⟨b,off+k*4+3,none⟩=some (.string (ls.getD k M.A_).tx):=by
 rcases h with h | ⟨b,off,h1,h2,h3⟩
 · rw [h] at hk;exact absurd hk (Nat.not_lt_zero _)
 obtain ⟨x0,x1,x2,x3⟩:=h3 k hk;exact ⟨b,off,h1,h2,(hb.cell (p:=⟨b,off+k*4,none⟩) h2).trans x0,(hb.cell (p:=⟨b,off+k*4+1,none⟩) h2).trans x1,(hb.cell (p:=⟨b,off+k*4+2,none⟩) h2).trans x2,(hb.cell (p:=⟨b,off+k*4+3,none⟩) h2).trans x3⟩
end Go.Proofs.YtdpoaadafcaffaaGreatDoor

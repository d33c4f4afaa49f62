import Derived.Test.YtdpoaadafcaffaaGreatDoorZ49
set_option linter.unusedVariables false
set_option maxHeartbeats 8000000
set_option maxRecDepth 100000
namespace Go.Proofs.YtdpoaadafcaffaaGreatDoor
open Proofs.Tryz
open Go.RowKit
theorem sK (x:M.L4) (w:World) (h:M.Gf x):
 Calls prog 29 #[.agg #[.bool x.has,.string x.nm,.int .i64 x.cd,.string x.tx]] w fun e w'=>e=.returned (.bool true)/\Below w.heap.size w w':=by
 obtain ⟨s1,s2⟩:=Ih h;have hB0:∀ o,Below w.heap.size w (w.alloc o):=fun o=>bA;have hn:=h.1;cases hh:x.has
 · have HV:=Q0 ((M.gB hn hh).1 h)
   clear h;go_enter func29,ntmps29
   go_wp2_with fail
   refine (c17 x.nm _ O0).mono ?_;rintro e w1 ⟨rfl,hw⟩;obtain rfl:=hw.symm;rw [hn]
   go_wp2_with fail
   refine (QJ x.cd x.tx _ O0).mono ?_;rintro e w2 ⟨rfl,hb2⟩;have hB2:=(hB0 _).trans (hb2.mono U0);rw [HV.out];go_wp2;go_ret;exact ⟨rfl,hB2⟩
 have HE:=Q0 ((M.VB hn hh).1 h);clear h;go_enter func29,ntmps29
 go_wp2_with fail
 refine (c17 x.nm _ O0).mono ?_;rintro e w1 ⟨rfl,hw⟩;obtain rfl:=hw.symm;rw [hn];rcases HE.out with ⟨h1,h2⟩ | ⟨h1,h2⟩
 all_goals
  go_wp2
  all_goals go_ret
  all_goals first
   | exact ⟨rfl,(hB0 _).alloc U0 _⟩
   | exact ⟨rfl,((hB0 _).alloc U0 _).alloc X3 _⟩
   | (exfalso;simp_all)
theorem S_.keep {base b0 b1 b2 b3 B:Nat} {u u':World} {nm tl ar:ByteArray} {s:RS} {v1 v2:Value} (h:S_ base b0 b1 b2 b3 u nm tl ar s v1 v2) {x:Array Value} (hB:u.heap[B]?=some (.cells x 42 (0,0))) (hk:∀ k,k≠B->u'.heap[k]?=u.heap[k]?):S_ base b0 b1 b2 b3 u' nm tl ar s v1 v2:=by
 have s3:∀ (k:Nat) (x:Array Value) (t:TypeId),u.heap[k]?=some (.cells x t (0,0))->t≠42->u'.heap[k]?=some (.cells x t (0,0)):=fun k x t h1 ht=>(hk k (j6 h1 hB ht)).trans h1;refine ⟨h.PQ,h.VN,h.QQ,h.aS,s3 _ _ _ h.h0 J3,s3 _ _ _ h.h1 J3,s3 _ _ _ h.h2 J3,s3 _ _ _ h.h3 J3,?_,?_⟩
 · refine Y0 h.o1 fun k hk'=>?_
   obtain ⟨_,cur,hc⟩:=J2 h.o1 hk';rw [s3 _ _ _ hc J3,hc]
 refine Y0 h.o2 fun k hk'=>?_;obtain ⟨_,cur,hc⟩:=J2 h.o2 hk';rw [s3 _ _ _ hc J3,hc]
theorem Ko {E:Env} {m:M3} {L:List M.L4} (h:V8 E m L) {k:Nat} (hk:k<L.length):∃ r,L.getD k M.A_=Yh (tn m (L.take k)) r/\(tn m (L.take k)).over=false/\L.take (k+1)=L.take k++[Yh (tn m (L.take k)) r]/\Ro E (tn m (L.take k)) r:=by
 have e:L.take (k+1)=L.take k++[L.getD k M.A_]:=by rw [List.take_add_one];simp [List.getD,hk]
 have h1:=kr (L.drop (k+1)) _ (by rw [List.take_append_drop];exact h);obtain ⟨_,h2,r,h3,h4⟩:=Eg h1 _ _ e;exact ⟨r,h3,h2,by rw [e,h3],h4⟩
theorem c12 {E:Env} (hE:l8 E) (m:M3) (a:Option Addr) (cap:Nat) (L:List M.L4) (w:World) (hm:Z9 m=true) (hL:V8 E m L) (hat:M.Ma w a L) (hsh:Z5 w) (hmx:N8 w) (MQ:10<=w.heap.size):
 Calls prog 12 #[.agg #[.string m.nm,.string m.tl,.string m.ar],.slice a L.length cap] w fun e w'=>e=.returned (tn m L).v/\Below w.heap.size w w':=by
 have bQ:=(M_ hE hm hL).1;have yN:=Q0 (M_ hE hm hL).2;have HLE:Hid (∀ x∈L,x.tx.size<=1048576):=fun x hx=>(Ih (yN.out x hx)).2;have HH:=Q0 hL;have a3Q:(L.length:Int)<=15:=O0;have HW:Hid (WG m w=(w.alloc (.cells #[.string m.nm,.string m.tl,.string m.ar] 35)).alloc (.cells #[.bool false,.int .i64 0,.string ⟨#[]⟩,.bool false,.string ⟨#[]⟩,.int .i64 0] 42)):=rfl;have HAT:=Q0 hat;have JN:=Q0 hsh;have sP:=Q0 hmx;have HM:=Q0 hm;have hml:=Rn hm;have HML:=Q0 hml;clear hat hsh hmx hL hm hml;go_enter func12,ntmps12
 go_wp2_with fail
 rw [<- HW.out];refine (G.qI m _ ⟨Nat.le_trans HML.out.1 O0,Nat.le_trans HML.out.2.1 O0,Nat.le_trans HML.out.2.2 O0⟩).mono ?_;rintro e w1 ⟨rfl,hb1⟩;rw [HM.out];have HB:Hid (Below (w.heap.size+2) (WG m w) w1):=hb1.mono (by rw [Fg]; omega);obtain ⟨x0,x1,x2⟩:=MB HB.out;have hz1:w.heap.size+2<=w1.heap.size:=by have:=hb1.size;rw [Fg] at this;exact this
 clear hb1
 go_wp2_with fail
 refine (iK m.nm m.tl m.ar w1).mono ?_;rintro e w2 ⟨rfl,hb2⟩;have HB2:=Q0 (HB.out.trans (hb2.mono hz1));have hz2:=Nat.le_trans hz1 hb2.size;obtain ⟨y0,y1,y2⟩:=MB HB2.out;have p0:=past (show w.heap.size<w2.heap.size by omega) y0;have p1:=past (show w.heap.size<w2.heap.size by omega) y1;have p2:=past (show w.heap.size<w2.heap.size by omega) y2;obtain ⟨w3,hw3⟩:∃ w3,w3=w2.alloc (.cells #[.bool false,.int .i64 0,.string ⟨#[]⟩,.bool false,.string m.tl,.int .i64 0] 42):=⟨_,rfl⟩;have HW3:=Q0 hw3;clear hw3 hb2 HB x0 x1 x2
 go_wp2_with fail
 rw [<- HW3.out];refine (c28 m.nm m.tl m.ar w3).mono ?_;rintro e w4 ⟨b0,b1,b2,b3,rfl,hrun,hb4⟩;have hz3:w3.heap.size=w2.heap.size+1:=by rw [HW3.out];simp
 have zN:w2.heap.size+1<=w4.heap.size:=by have:=hb4.size;omega
 have tV:Hid (Y7 w4 w2.heap.size (tn m [])):=(hb4.block _ O0).trans (by rw [HW3.out];exact M5 rfl _);have mM:=Q0 ((HB2.out.trans (by rw [HW3.out];exact (Below.refl _ _).alloc hz2 _)).trans (hb4.mono O0));have YW:Hid (S_ w3.heap.size b0 b1 b2 b3 w4 m.nm m.tl m.ar (Xc m []) (.slice none 0 0) (.slice none 0 0)):=hrun;clear hb4 hrun y0 y1 y2 p0 p1 p2
 go_wp2_with fail
 go_loopw [24] (fun r wr=>∃ (k:Nat) (v1 v2:Value),r=.int .i64 k/\k<=L.length/\Hid (Y7 wr w2.heap.size (tn m (L.take k)))/\Hid (S_ w3.heap.size b0 b1 b2 b3 wr m.nm m.tl m.ar (Xc m (L.take k)) v1 v2)/\Hid (Below (w.heap.size+2) (WG m w) wr)/\w3.heap.size<=wr.heap.size) (fun r _=>L.length - (intOf r).toNat)
 case atStart=>exact ⟨0,_,_,rfl,Nat.zero_le _,tV.out,YW.out,mM.out,O0⟩
 obtain ⟨k,v1,v2,rfl,hkl,HT,HR,WT,qO⟩:=hrel;have hBw:=(Ch m w).trans (WT.out.mono O0);by_cases hlt:k<L.length;rotate_left
 · have hke:k=L.length:=O0
   have HZ:Hid (Y7 wr w2.heap.size (tn m L)):=by have:=HT.out;rw [hke,List.take_length] at this;exact this
   subst hke;obtain ⟨⟨o,c,tx,hh,n,st⟩,HQ⟩:∃ t,Hid (tn m L=t):=⟨_,rfl⟩;rw [HQ.out] at HZ;obtain ⟨t0,t1,t2,t3,t4,t5,tf⟩:=Y7.cells HZ.out
   go_wp2_with (refine u_ rfl _ _ rfl (w.heap.size+1) rfl ⟨o,c,tx,hh,n,st⟩ R5 rfl (qH WT.out) rfl ?_;intro u' hT' hB' _)
   refine bodyPost_ret (v:=TN.v ⟨o,c,tx,hh,n,st⟩) (M.O8 (P:=Tryz.prog) (ty:=42) rfl _ _ (w.heap.size+1) _ _ rfl hT'.blk underlying42 rfl I1) rfl ⟨by rw [HQ.out],?_⟩;exact ((Ch m w).trans (WT.out.mono O0)).trans (hB' _ O0)
 obtain ⟨lb,off,ha,hlb,x0,x1,x2,x3⟩:=ze HAT.out hBw hlt;subst ha;obtain ⟨r,e1,e2,e3,_⟩:=Ko HH.out hlt;have hlo:M.Gf (Yh (tn m (L.take k)) r):=by rw [<- e1];exact yN.out _ (by simp [List.getD,hlt])
 have HO:=Q0 (EB m (L.take k) (fun x hx=>HLE.out x (List.mem_of_mem_take hx)));have hrl:(Xc m (L.take k)).EL.length<=15:=by have:=HO.out.2;rw [List.length_take] at this;omega
 have XQ:Hid (tn m (L.take (k+1))=(M6 m.tl m.ar (Xc m (L.take k)) r).1):=by show _=_;rw [e3,Cg];rfl
 have HN2:Hid (Xc m (L.take (k+1))=(M6 m.tl m.ar (Xc m (L.take k)) r).2):=by show _=_;rw [e3,Rf];rfl
 rw [e1] at x0 x1 x2 x3;clear e1 e3;generalize Xc m (L.take k)=s at*;generalize tn m (L.take k)=t at*;obtain ⟨o,c,tx,xh,xn,st⟩:=t;obtain ⟨xc,xt⟩:=r;unfold Yh at hlo x0 x1 x2 x3;have gZ:=Q0 hlo;obtain rfl:o=false:=e2;obtain ⟨t0,t1,t2,t3,t4,t5,tf⟩:=Y7.cells HT.out;have hl1:w2.heap.size<wr.heap.size:=O0;have p0:=past (p:=⟨w2.heap.size,0,none⟩) hl1 t0 (.cells #[.bool xh,.string xn,.int .i64 xc,.string xt] 45);have p3:=past (p:=⟨w2.heap.size,3,none⟩) hl1 t3 (.cells #[.bool xh,.string xn,.int .i64 xc,.string xt] 45);have p4:=past (p:=⟨w2.heap.size,4,none⟩) hl1 t4 (.cells #[.bool xh,.string xn,.int .i64 xc,.string xt] 45);have iO:Hid (Below (w.heap.size+2) (WG m w) (wr.alloc (.cells #[.bool xh,.string xn,.int .i64 xc,.string xt] 45))):=WT.out.alloc O0 _;have hne:(xn.toList==xn.toList)=true:=U0;clear t0 t1 t2 t3 t4 t5 tf hBw hlo
 go_wp2_with fail
 refine (sK ⟨xh,xn,xc,xt⟩ _ gZ.out).mono ?_;rintro e w5 ⟨rfl,hb5⟩;have IQ:wr.heap.size+1<=w5.heap.size:=by have:=hb5.size;simpa using this
 have dM:=Q0 (iO.out.trans (hb5.mono X3));have hbr:=bA.trans (hb5.mono U0);have jO:=Q0 (HT.out.below hbr hl1);have PL:=Q0 (HR.out.below hbr);have z2:w5.cell? ⟨wr.heap.size,2,none⟩=some (.int .i64 xc):=(hb5.cell (p:=⟨wr.heap.size,2,none⟩) U0).trans (by simp [go_sem]);have z3:w5.cell? ⟨wr.heap.size,3,none⟩=some (.string xt):=(hb5.cell (p:=⟨wr.heap.size,3,none⟩) U0).trans (by simp [go_sem]);have a0s:=(Ch m w).trans (dM.out.mono O0);clear hb5 hbr p0 p3 p4 x0 x1 x2 x3
 go_wp2_with fail
 refine (c51 w3.heap.size b0 b1 b2 b3 m.nm m.tl m.ar s v1 v2 ⟨xc,xt⟩ w5 PL.out HO.out.1 O0 (Ih gZ.out).2 HML.out.2.2 (F7 JN.out a0s) (P8 sP.out a0s) O0).mono ?_;rintro e w6 ⟨rfl,⟨VP,QO,ZM,_⟩,hx6⟩;have hb6:Below w3.heap.size w5 w6:=hx6.below (fun k e=>by
  rcases e with rfl | rfl | rfl | e
  · exact PL.out.PQ
  · exact PL.out.VN
  · exact PL.out.QQ
  exact (PL.out.o1.lt k e).1) O0
 rw [<- HN2.out] at ZM;rw [<- XQ.out];have JO:=Q0 (jO.out.below hb6 O0);have HRW:=Q0 ZM;have QL:=Q0 (dM.out.trans (hb6.mono O0));have FO:=hb6.size;clear hb6 ZM hx6 XQ HN2 z2 z3;have sW:Hid (tn m (L.take (k+1))=tn m (L.take (k+1))):=rfl;generalize hq:tn m (L.take (k+1))=t' at sW ⊢;have HQ:=Q0 hq;clear hq sW;obtain ⟨o',c',XT,hh',n',st'⟩:=t'
 go_wp2_with (refine u_ rfl _ _ rfl w2.heap.size rfl ⟨o',c',XT,hh',n',st'⟩ _ rfl JO.out rfl ?_;intro u' hT' hB' hK')
 have uU:Hid (Y7 u' w2.heap.size (tn m (L.take (k+1)))):=by rw [HQ.out];exact hT'
 have HRK:=Q0 (HRW.out.keep JO.out hK');have iZ:=Q0 (QL.out.trans (hB' _ O0));have hzu:=(hB' 0 O0).size;clear hT' hB' hK';go_roundw
 case rel=>exact ⟨k+1,VP,QO,by go_num,O0,uU,HRK,iZ,O0⟩
 case measure=>simp [intOf];omega
end Go.Proofs.YtdpoaadafcaffaaGreatDoor

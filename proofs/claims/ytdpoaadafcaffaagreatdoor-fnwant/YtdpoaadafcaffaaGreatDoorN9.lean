import Derived.Test.YtdpoaadafcaffaaGreatDoorZ22
set_option linter.unusedVariables false
set_option maxHeartbeats 8000000
set_option maxRecDepth 100000
namespace Go.Proofs.YtdpoaadafcaffaaGreatDoor
open Proofs.Tryz
open Go.RowKit
theorem Zc (c:Int) (t:ByteArray) (k:Int) (w:World):
 Calls prog 126 #[.int .i64 c,.string t,.int .i64 k] w fun e w'=>e=.returned (.agg #[.bool true,.int .i64 c,.string t,.bool false,.string ⟨#[]⟩,.int .i64 k])/\Below w.heap.size w w':=PI c t k w
theorem KD {T:List I3} (h:Yb T=true):T.all Aa=true:=by
 unfold Yb at h;simp only [Bool.and_eq_true] at h;exact h.2
theorem XD {T:List I3} (h:Yb T=true):T.length<=40:=by
 unfold Yb at h;simp only [Bool.and_eq_true,decide_eq_true_eq] at h;exact h.1.2
theorem dH (a:Option Addr) (cap:Nat) (T:List I3) (arg:ByteArray) (a2:Option Addr) (cap2:Nat) (EL:List R2) (w:World) (hs:∀ i,(T.getD i K9).tx.size<=1048700) (hl:T.length<=1048576) (hat:t_ w a T) (hok:Yb T=true) (hr:EL.length<=14) (ha:arg.size<=300) (nM:pg w a2 EL) (hs2:∀ i,(EL.getD i Oa).tx.size<=1048700):
 Calls prog 124 #[.agg #[.slice a T.length cap],.string arg,.slice a2 EL.length cap2] w fun e w'=>e=.returned (Z7 T arg EL).v/\Below w.heap.size w w':=by
 have RQ:=Q0 hat;clear hat;obtain ⟨rb,roff,hc⟩:=Fq nM;have HC:=Q0 hc;clear hc nM;go_enter func124,ntmps124
 go_wp2_with fail
 refine (oI a cap T (W0 a T.length cap w) hs hl (O_ RQ.out (Z4 _ _ _ _))).mono ?_;rintro e w1 ⟨rfl,hb1⟩;rw [hok];have hb:Below (w.heap.size+2) (W0 a T.length cap w) w1:=by rw [y_] at hb1;exact hb1
 obtain ⟨⟨t0,q0,q1,q2,q3,q4,q5⟩,hfz⟩:=Q5 hb
 go_wp2_with fail
 clear t0 q0 q1 q2 q3 q4 q5 hfz hb1;go_loopw [7] (fun i wr=>∃ k:Nat,k<=EL.length/\i=.int .i64 k/\Hid (Xk (EL.take k)=true)/\Below (w.heap.size+2) (W0 a T.length cap w) wr) (fun i _=>EL.length - (intOf i).toNat)
 case atStart=>exact ⟨0,Nat.zero_le _,rfl,rfl,hb⟩
 clear hb;obtain ⟨k,hk,rfl,hko,hb⟩:=hrel;have hBw:=(Z4 a T.length cap w).trans (hb.mono O0);obtain ⟨⟨t0,q0,q1,q2,q3,q4,q5⟩,hfz⟩:=Q5 hb;by_cases hlt:k<EL.length
 · rcases HC.out with hss | ⟨ha2,hrw,hcell⟩
   · rw [hss] at hlt;exact absurd hlt (Nat.not_lt_zero _)
   subst ha2;have x0:=(hBw.cell (p:=⟨rb,roff+k*2,none⟩) hrw).trans (hcell k hlt).1;have x1:=(hBw.cell (p:=⟨rb,roff+k*2+1,none⟩) hrw).trans (hcell k hlt).2;have hxs:=hs2 k;generalize hx:EL.getD k Oa=x at*;have HX:=Q0 hx;clear hx hcell
   go_wp2_with fail
   refine (c154 x.code x.tx wr hxs).mono ?_;rintro e w2 ⟨rfl,hb2⟩;have hb':=hb.trans (hb2.mono (by have:=hb.size;rw [y_] at this;exact this));by_cases hv:vr x.code x.tx.data.toList=true
   · have VW:=Q0 (Xn hlt hko.out (by rw [HX.out];exact hv))
     rw [hv];clear hv t0 q0 q1 q2 q3 q4 q5 hfz hb2;go_wp2;go_roundw
     case rel=>exact ⟨k+1,O0,by go_num,VW,hb'⟩
     case measure=>simp [intOf];omega
   have hv':vr x.code x.tx.data.toList=false:=by simpa using hv
   have HZ:Hid (Z7 T arg EL=R5):=ll (.inr (.inr (.inr (Iq hlt (by rw [HX.out];exact hv')))));rw [hv'];clear hv hv' t0 q0 q1 q2 q3 q4 q5 hfz hb2;obtain ⟨⟨t0,q0,q1,q2,q3,q4,q5⟩,hfz⟩:=Q5 hb';have S6:=K_ (O7 hb') (.bool false) (.int .i64 0) (.string ⟨#[]⟩) (.bool false) (.string ⟨#[]⟩) (.int .i64 0);obtain ⟨s0,s1,s2,s3,s4,s5⟩:=S6;go_wp2;refine bodyPost_ret (v:=R5.v) (by simp [results,Tryz.results124,go_sem,s0,s1,s2,s3,s4,s5,R5,TN.v]) rfl ⟨by rw [HZ.out],?_⟩;exact ((Z4 a T.length cap w).trans (hb'.mono O0)).trans (M4 O0 _ _ _ _ _ _)
 have hall:Hid (Xk EL=true):=by have:=hko.out;rw [List.take_of_length_le O0] at this;exact this
 clear t0 q0 q1 q2 q3 q4 q5 hfz hko
 go_wp2_with fail
 have TT:=Q0 (Nr hok ha hr hall.out);have GN:Hid (Xk EL=true):=hall;have OM:=Q0 (KD hok);have WW:=XD hok;have HB:=Q0 hb;clear hb hBw;go_loopw [8,9,10,11,12] (fun hd ot pl lk sp wq=>∃ s:ST,hd=.string s.hand/\ot=.string (K3 s.out)/\pl=.int .i64 s.pc/\lk=.int .i64 s.looks/\sp=.int .i64 s.steps/\Hid (Fit EL s)/\Hid (On T arg EL s)/\Below (w.heap.size+2) (W0 a T.length cap w) wq) (fun _ _ _ _ sp _=>201 - (intOf sp).toNat)
 case atStart=>exact ⟨s0,rfl,rfl,rfl,rfl,rfl,Pj EL,Mr T arg EL,HB.out⟩
 clear HB;obtain ⟨s,rfl,rfl,rfl,rfl,rfl,hf,ho,hb⟩:=hrel;obtain ⟨f1,f2,f3,f4,f5,f6⟩:=hf.out;have hos:(K3 s.out).size=s.out.length:=Y2 _;have hBw:=(Z4 a T.length cap w).trans (hb.mono O0);have hzz:w.heap.size+2<=wr.heap.size:=by have:=hb.size;rw [y_] at this;exact this
 obtain ⟨⟨t0,q0,q1,q2,q3,q4,q5⟩,hfz⟩:=Q5 hb;by_cases hpc:T.length<=s.pc
 · have HF:Hid (Z7 T arg EL=P5 2 (K3 (Lib.decDigits s.pc)) (s.steps:Int)):=TT.out.trans (Wz hpc hf.out ho.out)
   clear hf ho
   go_wp2_with fail
   refine (Np s.pc _ O0).mono ?_;rintro e wD ⟨rfl,hbD⟩;have hbd:=hb.trans (hbD.mono (hzz))
   go_wp2_with fail
   refine (Zc 2 (K3 (Lib.decDigits s.pc)) (s.steps:Int) _).mono ?_;rintro e wE ⟨rfl,sM⟩;have hb':=hbd.trans (sM.mono (by have:=hbd.size;rw [y_] at this;simp;omega));clear t0 q0 q1 q2 q3 q4 q5 hfz sM;obtain ⟨⟨t0,q0,q1,q2,q3,q4,q5⟩,hfz⟩:=Q5 hb';go_wp2;obtain ⟨s0,s1,s2,s3,s4,s5⟩:=K_ (O7 hb') (.bool true) (.int .i64 2) (.string (K3 (Lib.decDigits s.pc))) (.bool false) (.string ⟨#[]⟩) (.int .i64 (s.steps:Int));refine bodyPost_ret (v:=(P5 2 (K3 (Lib.decDigits s.pc)) (s.steps:Int)).v) (by simp [results,Tryz.results124,go_sem,s0,s1,s2,s3,s4,s5,P5,TN.v]) rfl ⟨by rw [HF.out] <;> rfl,?_⟩;exact ((Z4 a T.length cap w).trans (hb'.mono O0)).trans (M4 O0 _ _ _ _ _ _)
 by_cases hst:200<=s.steps
 · have HF:=Q0 (TT.out.trans (ko O0 O0 ho.out))
   clear hf ho
   go_wp2_with fail
   refine (Zc 3 ⟨#[]⟩ (s.steps:Int) _).mono ?_;rintro e wE ⟨rfl,sM⟩;have hb':=hb.trans (sM.mono (hzz));clear t0 q0 q1 q2 q3 q4 q5 hfz sM;obtain ⟨⟨t0,q0,q1,q2,q3,q4,q5⟩,hfz⟩:=Q5 hb';go_wp2;obtain ⟨s0,s1,s2,s3,s4,s5⟩:=K_ (O7 hb') (.bool true) (.int .i64 3) (.string ⟨#[]⟩) (.bool false) (.string ⟨#[]⟩) (.int .i64 (s.steps:Int));refine bodyPost_ret (v:=(P5 3 ⟨#[]⟩ (s.steps:Int)).v) (by simp [results,Tryz.results124,go_sem,s0,s1,s2,s3,s4,s5,P5,TN.v]) rfl ⟨by rw [HF.out] <;> rfl,?_⟩;exact ((Z4 a T.length cap w).trans (hb'.mono O0)).trans (M4 O0 _ _ _ _ _ _)
 have hlt:s.pc<T.length:=O0;have hst':s.steps<200:=O0;clear hst hpc;obtain ⟨ib,oM,hic⟩:=Ji RQ.out;rcases hic with hss | ⟨hia,hiw,hcell⟩
 · rw [hss] at hlt;exact absurd hlt (Nat.not_lt_zero _)
 subst hia;have x0:=(hBw.cell (p:=⟨ib,oM+s.pc*3,none⟩) hiw).trans (hcell s.pc hlt).1;have x1:=(hBw.cell (p:=⟨ib,oM+s.pc*3+1,none⟩) hiw).trans (hcell s.pc hlt).2.1;have x2:=(hBw.cell (p:=⟨ib,oM+s.pc*3+2,none⟩) hiw).trans (hcell s.pc hlt).2.2;have a3C:ib<wr.heap.size:=O0;obtain ⟨o1,_,_,o4,o5,o6⟩:=A9 (Dl OM.out hlt);have HX0:Hid (T.getD s.pc K9=T.getD s.pc K9):=rfl;generalize hx:T.getD s.pc K9=x at*;have HX:=Q0 hx;clear hx hcell HX0;obtain ⟨op,tx,to⟩:=x;simp only at x0 x1 x2 o1 o4 o5 o6;have HG:∀ s':ST,act arg EL ⟨op,tx,to⟩ s=.inl s'->Hid (Fit EL s'/\On T arg EL s'):=fun s' e=>mF HX.out hlt WW hst' OM.out ha GN.out hf.out ho.out e;have HE:∀ t:TN,act arg EL ⟨op,tx,to⟩ s=.inr t->Hid (Z7 T arg EL=t):=fun t e=>TT.out.trans (bB HX.out hlt hst' ho.out e);clear hf ho HX;obtain rfl | rfl | rfl | rfl | rfl | rfl | rfl | rfl | rfl | rfl | rfl:op=1\/op=2\/op=3\/op=4\/op=5\/op=6\/op=7\/op=8\/op=9\/op=10\/op=11:=O0
 · have HS:=HG ⟨tx,s.out,s.pc+1,s.looks,s.steps+1⟩ (gF)
   clear HG HE;go_wp2;go_roundw
   case rel=>
    refine ⟨⟨tx,s.out,s.pc+1,s.looks,s.steps+1⟩,rfl,rfl,by go_num,by go_num,by go_num,HS.out.1,HS.out.2,?_⟩;exact hb.alloc O0 _
   case measure=>simp [intOf];omega
 · have HS:=HG ⟨arg,s.out,s.pc+1,s.looks,s.steps+1⟩ (YE)
   clear HG HE;go_wp2;go_roundw
   case rel=>
    refine ⟨⟨arg,s.out,s.pc+1,s.looks,s.steps+1⟩,rfl,rfl,by go_num,by go_num,by go_num,HS.out.1,HS.out.2,?_⟩;exact hb.alloc O0 _
   case measure=>simp [intOf];omega
 · have RO:∀ t:TN,look ⟨3,tx,to⟩ EL s=.inr t->Hid (Z7 T arg EL=t):=HE
   have xR:∀ s':ST,look ⟨3,tx,to⟩ EL s=.inl s'->Hid (Fit EL s'/\On T arg EL s'):=HG;clear HE HG;by_cases hn0:Y1 s.hand.data.toList=false
   · have HF:=RO _ (Pd hn0)
     clear RO xR
     go_wp2_with fail
     refine (Um s.hand _ O0).mono ?_;rintro e wN ⟨rfl,WN⟩;obtain rfl:=WN.symm;rw [hn0]
     go_wp2_with fail
     refine (Zc 4 ⟨#[63]⟩ ((s.steps:Int)+1) _).mono ?_;rintro e wE ⟨rfl,sM⟩;have hb':=(hb.alloc O0 _).trans (sM.mono X3);clear t0 q0 q1 q2 q3 q4 q5 hfz sM;obtain ⟨⟨t0,q0,q1,q2,q3,q4,q5⟩,hfz⟩:=Q5 hb';go_wp2;obtain ⟨s0,s1,s2,s3,s4,s5⟩:=K_ (O7 hb') (.bool true) (.int .i64 4) (.string ⟨#[63]⟩) (.bool false) (.string ⟨#[]⟩) (.int .i64 ((s.steps:Int)+1));refine bodyPost_ret (v:=(P5 4 ⟨#[63]⟩ ((s.steps:Int)+1)).v) (by simp [results,Tryz.results124,go_sem,s0,s1,s2,s3,s4,s5,P5,TN.v]) rfl ⟨by rw [HF.out] <;> rfl,?_⟩;exact ((Z4 (some ⟨ib,oM,none⟩) T.length cap w).trans (hb'.mono O0)).trans (M4 O0 _ _ _ _ _ _)
   have hn:Y1 s.hand.data.toList=true:=by simpa using hn0
   clear hn0;by_cases pM:14<=s.looks
   · have HF:=RO _ (Af hn pM)
     clear RO xR
     go_wp2_with fail
     refine (Um s.hand _ O0).mono ?_;rintro e wN ⟨rfl,WN⟩;obtain rfl:=WN.symm;rw [hn]
     go_wp2_with fail
     refine (Zc 3 ⟨#[]⟩ ((s.steps:Int)+1) _).mono ?_;rintro e wE ⟨rfl,sM⟩;have hb':=(hb.alloc O0 _).trans (sM.mono X3);clear t0 q0 q1 q2 q3 q4 q5 hfz sM;obtain ⟨⟨t0,q0,q1,q2,q3,q4,q5⟩,hfz⟩:=Q5 hb';go_wp2;obtain ⟨s0,s1,s2,s3,s4,s5⟩:=K_ (O7 hb') (.bool true) (.int .i64 3) (.string ⟨#[]⟩) (.bool false) (.string ⟨#[]⟩) (.int .i64 ((s.steps:Int)+1));refine bodyPost_ret (v:=(P5 3 ⟨#[]⟩ ((s.steps:Int)+1)).v) (by simp [results,Tryz.results124,go_sem,s0,s1,s2,s3,s4,s5,P5,TN.v]) rfl ⟨by rw [HF.out] <;> rfl,?_⟩;exact ((Z4 (some ⟨ib,oM,none⟩) T.length cap w).trans (hb'.mono O0)).trans (M4 O0 _ _ _ _ _ _)
   by_cases hlr:EL.length<=s.looks
   · have HF:=RO _ (Gg hn pM hlr)
     clear RO xR
     go_wp2_with fail
     refine (Um s.hand _ O0).mono ?_;rintro e wN ⟨rfl,WN⟩;obtain rfl:=WN.symm;rw [hn];have hbx:Below (w.heap.size+2) (W0 (some ⟨ib,oM,none⟩) T.length cap w) (wr.alloc (.cells #[.int .i64 3,.string tx,.int .i64 to] 121)):=hb.alloc O0 _;have hxo:(wr.alloc (.cells #[.int .i64 3,.string tx,.int .i64 to] 121)).cell? ⟨wr.heap.size,0,none⟩=some (.int .i64 3):=U0;generalize (wr.alloc (.cells #[.int .i64 3,.string tx,.int .i64 to] 121))=wx at*;clear t0 q0 q1 q2 q3 q4 q5 hfz;obtain ⟨⟨t0,q0,q1,q2,q3,q4,q5⟩,hfz⟩:=Q5 hbx;go_wp2;obtain ⟨s0,s1,s2,s3,s4,s5⟩:=K_ (O7 hbx) (.bool false) (.int .i64 0) (.string ⟨#[]⟩) (.bool false) (.string s.hand) (.int .i64 ((s.steps:Int)+1));refine bodyPost_ret (v:=(TN.mk false 0 ⟨#[]⟩ false s.hand ((s.steps:Int)+1)).v) (by simp [results,Tryz.results124,go_sem,s0,s1,s2,s3,s4,s5,TN.v]) rfl ⟨by rw [HF.out] <;> rfl,?_⟩;exact ((Z4 (some ⟨ib,oM,none⟩) T.length cap w).trans (hbx.mono O0)).trans (M4 O0 _ _ _ _ _ _)
   have hlk:s.looks<EL.length:=O0;rcases HC.out with hss | ⟨ha2,hrw,hcell⟩
   · rw [hss] at hlk;exact absurd hlk (Nat.not_lt_zero _)
   subst ha2;have y0:=(hBw.cell (p:=⟨rb,roff+s.looks*2,none⟩) hrw).trans (hcell s.looks hlk).1;have y1:=(hBw.cell (p:=⟨rb,roff+s.looks*2+1,none⟩) hrw).trans (hcell s.looks hlk).2;have a0f:rb<wr.heap.size:=O0;have hys:(EL.getD s.looks Oa).tx.size<=300:=by have h:=Pf (Vt GN.out hlk);simpa using h
   have HM:=fun h4=>RO _ (Ov (tx:=tx) (to:=to) hn pM hlr h4);have HD:=fun h4 h5=>xR _ (Rv (tx:=tx) (to:=to) hn pM hlr h4 h5);have HB3:=fun h4 h5=>RO _ (Fw (tx:=tx) (to:=to) hn pM hlr h4 h5);generalize EL.getD s.looks Oa=y at*;clear hcell RO xR;by_cases h4:y.code=4
   · have HF:=HM h4
     clear HM HD HB3;rw [h4] at y0
     go_wp2_with fail
     refine (Um s.hand _ O0).mono ?_;rintro e wN ⟨rfl,WN⟩;obtain rfl:=WN.symm;rw [hn]
     go_wp2_with fail
     refine (Zc 4 s.hand ((s.steps:Int)+1) _).mono ?_;rintro e wE ⟨rfl,sM⟩;have hb':=((hb.alloc O0 _).alloc X3 _).trans (sM.mono X3);clear t0 q0 q1 q2 q3 q4 q5 hfz sM;obtain ⟨⟨t0,q0,q1,q2,q3,q4,q5⟩,hfz⟩:=Q5 hb';go_wp2;obtain ⟨s0,s1,s2,s3,s4,s5⟩:=K_ (O7 hb') (.bool true) (.int .i64 4) (.string s.hand) (.bool false) (.string ⟨#[]⟩) (.int .i64 ((s.steps:Int)+1));refine bodyPost_ret (v:=(P5 4 s.hand ((s.steps:Int)+1)).v) (by simp [results,Tryz.results124,go_sem,s0,s1,s2,s3,s4,s5,P5,TN.v]) rfl ⟨by rw [HF.out] <;> rfl,?_⟩;exact ((Z4 (some ⟨ib,oM,none⟩) T.length cap w).trans (hb'.mono O0)).trans (M4 O0 _ _ _ _ _ _)
   have hc4:(y.code==4)=false:=by simpa using h4
   by_cases h5:y.code=0
   · have HS:=HD h4 h5
     clear HM HD HB3 h4 hc4;rw [h5] at y0
     go_wp2_with fail
     refine (Um s.hand _ O0).mono ?_;rintro e wN ⟨rfl,WN⟩;obtain rfl:=WN.symm;rw [hn];go_wp2;go_roundw
     case rel=>
      refine ⟨⟨y.tx,s.out,s.pc+1,s.looks+1,s.steps+1⟩,rfl,rfl,by go_num,by go_num,by go_num,HS.out.1,HS.out.2,?_⟩;exact (hb.alloc O0 _).alloc X3 _
     case measure=>simp [intOf];omega
   have HF:=HB3 h4 h5;have rR:(y.code !=0)=true:=by simpa using h5
   clear HM HD HB3
   go_wp2_with fail
   refine (Um s.hand _ O0).mono ?_;rintro e wN ⟨rfl,WN⟩;obtain rfl:=WN.symm;rw [hn]
   go_wp2_with fail
   refine (Zc 5 s.hand ((s.steps:Int)+1) _).mono ?_;rintro e wE ⟨rfl,sM⟩;have hb':=((hb.alloc O0 _).alloc X3 _).trans (sM.mono X3);clear t0 q0 q1 q2 q3 q4 q5 hfz sM;obtain ⟨⟨t0,q0,q1,q2,q3,q4,q5⟩,hfz⟩:=Q5 hb';go_wp2;obtain ⟨s0,s1,s2,s3,s4,s5⟩:=K_ (O7 hb') (.bool true) (.int .i64 5) (.string s.hand) (.bool false) (.string ⟨#[]⟩) (.int .i64 ((s.steps:Int)+1));refine bodyPost_ret (v:=(P5 5 s.hand ((s.steps:Int)+1)).v) (by simp [results,Tryz.results124,go_sem,s0,s1,s2,s3,s4,s5,P5,TN.v]) rfl ⟨by rw [HF.out] <;> rfl,?_⟩;exact ((Z4 (some ⟨ib,oM,none⟩) T.length cap w).trans (hb'.mono O0)).trans (M4 O0 _ _ _ _ _ _)
 · have RO:∀ t:TN,look ⟨4,tx,to⟩ EL s=.inr t->Hid (Z7 T arg EL=t):=HE
   have xR:∀ s':ST,look ⟨4,tx,to⟩ EL s=.inl s'->Hid (Fit EL s'/\On T arg EL s'):=HG;clear HE HG;by_cases hn0:Y1 s.hand.data.toList=false
   · have HF:=RO _ (Pd hn0)
     clear RO xR
     go_wp2_with fail
     refine (Um s.hand _ O0).mono ?_;rintro e wN ⟨rfl,WN⟩;obtain rfl:=WN.symm;rw [hn0]
     go_wp2_with fail
     refine (Zc 4 ⟨#[63]⟩ ((s.steps:Int)+1) _).mono ?_;rintro e wE ⟨rfl,sM⟩;have hb':=(hb.alloc O0 _).trans (sM.mono X3);clear t0 q0 q1 q2 q3 q4 q5 hfz sM;obtain ⟨⟨t0,q0,q1,q2,q3,q4,q5⟩,hfz⟩:=Q5 hb';go_wp2;obtain ⟨s0,s1,s2,s3,s4,s5⟩:=K_ (O7 hb') (.bool true) (.int .i64 4) (.string ⟨#[63]⟩) (.bool false) (.string ⟨#[]⟩) (.int .i64 ((s.steps:Int)+1));refine bodyPost_ret (v:=(P5 4 ⟨#[63]⟩ ((s.steps:Int)+1)).v) (by simp [results,Tryz.results124,go_sem,s0,s1,s2,s3,s4,s5,P5,TN.v]) rfl ⟨by rw [HF.out] <;> rfl,?_⟩;exact ((Z4 (some ⟨ib,oM,none⟩) T.length cap w).trans (hb'.mono O0)).trans (M4 O0 _ _ _ _ _ _)
   have hn:Y1 s.hand.data.toList=true:=by simpa using hn0
   clear hn0;by_cases pM:14<=s.looks
   · have HF:=RO _ (Af hn pM)
     clear RO xR
     go_wp2_with fail
     refine (Um s.hand _ O0).mono ?_;rintro e wN ⟨rfl,WN⟩;obtain rfl:=WN.symm;rw [hn]
     go_wp2_with fail
     refine (Zc 3 ⟨#[]⟩ ((s.steps:Int)+1) _).mono ?_;rintro e wE ⟨rfl,sM⟩;have hb':=(hb.alloc O0 _).trans (sM.mono X3);clear t0 q0 q1 q2 q3 q4 q5 hfz sM;obtain ⟨⟨t0,q0,q1,q2,q3,q4,q5⟩,hfz⟩:=Q5 hb';go_wp2;obtain ⟨s0,s1,s2,s3,s4,s5⟩:=K_ (O7 hb') (.bool true) (.int .i64 3) (.string ⟨#[]⟩) (.bool false) (.string ⟨#[]⟩) (.int .i64 ((s.steps:Int)+1));refine bodyPost_ret (v:=(P5 3 ⟨#[]⟩ ((s.steps:Int)+1)).v) (by simp [results,Tryz.results124,go_sem,s0,s1,s2,s3,s4,s5,P5,TN.v]) rfl ⟨by rw [HF.out] <;> rfl,?_⟩;exact ((Z4 (some ⟨ib,oM,none⟩) T.length cap w).trans (hb'.mono O0)).trans (M4 O0 _ _ _ _ _ _)
   by_cases hlr:EL.length<=s.looks
   · have HF:=RO _ (Gg hn pM hlr)
     clear RO xR
     go_wp2_with fail
     refine (Um s.hand _ O0).mono ?_;rintro e wN ⟨rfl,WN⟩;obtain rfl:=WN.symm;rw [hn];have hbx:Below (w.heap.size+2) (W0 (some ⟨ib,oM,none⟩) T.length cap w) (wr.alloc (.cells #[.int .i64 4,.string tx,.int .i64 to] 121)):=hb.alloc O0 _;have hxo:(wr.alloc (.cells #[.int .i64 4,.string tx,.int .i64 to] 121)).cell? ⟨wr.heap.size,0,none⟩=some (.int .i64 4):=U0;generalize (wr.alloc (.cells #[.int .i64 4,.string tx,.int .i64 to] 121))=wx at*;clear t0 q0 q1 q2 q3 q4 q5 hfz;obtain ⟨⟨t0,q0,q1,q2,q3,q4,q5⟩,hfz⟩:=Q5 hbx;go_wp2;obtain ⟨s0,s1,s2,s3,s4,s5⟩:=K_ (O7 hbx) (.bool false) (.int .i64 0) (.string ⟨#[]⟩) (.bool true) (.string s.hand) (.int .i64 ((s.steps:Int)+1));refine bodyPost_ret (v:=(TN.mk false 0 ⟨#[]⟩ true s.hand ((s.steps:Int)+1)).v) (by simp [results,Tryz.results124,go_sem,s0,s1,s2,s3,s4,s5,TN.v]) rfl ⟨by rw [HF.out] <;> rfl,?_⟩;exact ((Z4 (some ⟨ib,oM,none⟩) T.length cap w).trans (hbx.mono O0)).trans (M4 O0 _ _ _ _ _ _)
   have hlk:s.looks<EL.length:=O0;rcases HC.out with hss | ⟨ha2,hrw,hcell⟩
   · rw [hss] at hlk;exact absurd hlk (Nat.not_lt_zero _)
   subst ha2;have y0:=(hBw.cell (p:=⟨rb,roff+s.looks*2,none⟩) hrw).trans (hcell s.looks hlk).1;have y1:=(hBw.cell (p:=⟨rb,roff+s.looks*2+1,none⟩) hrw).trans (hcell s.looks hlk).2;have a0f:rb<wr.heap.size:=O0;have hys:(EL.getD s.looks Oa).tx.size<=300:=by have h:=Pf (Vt GN.out hlk);simpa using h
   have HY:=fun h4=>xR _ (Wv (tx:=tx) (to:=to) hn pM hlr h4);have HN:=fun h4=>xR _ (Dw (tx:=tx) (to:=to) hn pM hlr h4);generalize EL.getD s.looks Oa=y at*;clear hcell RO xR;by_cases h4:y.code=4
   · have HS:=HY h4
     clear HY HN;rw [h4] at y0
     go_wp2_with fail
     refine (Um s.hand _ O0).mono ?_;rintro e wN ⟨rfl,WN⟩;obtain rfl:=WN.symm;rw [hn];go_wp2;go_roundw
     case rel=>
      refine ⟨⟨⟨#[48]⟩,s.out,s.pc+1,s.looks+1,s.steps+1⟩,rfl,rfl,by go_num,by go_num,by go_num,HS.out.1,HS.out.2,?_⟩;exact (hb.alloc O0 _).alloc X3 _
     case measure=>simp [intOf];omega
   have HS:=HN h4;have hc4:(y.code==4)=false:=by simpa using h4
   clear HY HN
   go_wp2_with fail
   refine (Um s.hand _ O0).mono ?_;rintro e wN ⟨rfl,WN⟩;obtain rfl:=WN.symm;rw [hn];go_wp2;go_roundw
   case rel=>
    refine ⟨⟨⟨#[49]⟩,s.out,s.pc+1,s.looks+1,s.steps+1⟩,rfl,rfl,by go_num,by go_num,by go_num,HS.out.1,HS.out.2,?_⟩;exact (hb.alloc O0 _).alloc X3 _
   case measure=>simp [intOf];omega
 · by_cases KL:300<s.out.length+s.hand.size
   rotate_left
   · have HS:=HG ⟨s.hand,s.out++s.hand.data.toList,s.pc+1,s.looks,s.steps+1⟩ (jA KL)
     clear HG HE;go_wp2;go_roundw
     case rel=>
      refine ⟨⟨s.hand,s.out++s.hand.data.toList,s.pc+1,s.looks,s.steps+1⟩,rfl,by rw [<- UD],by go_num,by go_num,by go_num,HS.out.1,HS.out.2,?_⟩;exact hb.alloc O0 _
     case measure=>simp [intOf];omega
   have HF:=HE _ (Qy KL);clear HG HE
   go_wp2_with fail
   refine (Np s.pc _ O0).mono ?_;rintro e wD ⟨rfl,hbD⟩;have hbd:=(hb.alloc O0 _).trans (hbD.mono X3)
   go_wp2_with fail
   refine (Zc 2 (K3 (Lib.decDigits s.pc)) ((s.steps:Int)+1) _).mono ?_;rintro e wE ⟨rfl,sM⟩;have hb':=hbd.trans (sM.mono (by have:=hbd.size;rw [y_] at this;simp;omega));clear t0 q0 q1 q2 q3 q4 q5 hfz sM;obtain ⟨⟨t0,q0,q1,q2,q3,q4,q5⟩,hfz⟩:=Q5 hb';go_wp2;obtain ⟨s0,s1,s2,s3,s4,s5⟩:=K_ (O7 hb') (.bool true) (.int .i64 2) (.string (K3 (Lib.decDigits s.pc))) (.bool false) (.string ⟨#[]⟩) (.int .i64 ((s.steps:Int)+1));refine bodyPost_ret (v:=(P5 2 (K3 (Lib.decDigits s.pc)) ((s.steps:Int)+1)).v) (by simp [results,Tryz.results124,go_sem,s0,s1,s2,s3,s4,s5,P5,TN.v]) rfl ⟨by rw [HF.out] <;> rfl,?_⟩;exact ((Z4 (some ⟨ib,oM,none⟩) T.length cap w).trans (hb'.mono O0)).trans (M4 O0 _ _ _ _ _ _)
 · by_cases KL:300<s.hand.size+tx.size
   rotate_left
   · have HS:=HG ⟨s.hand++tx,s.out,s.pc+1,s.looks,s.steps+1⟩ (iA KL)
     clear HG HE;go_wp2;go_roundw
     case rel=>
      refine ⟨⟨s.hand++tx,s.out,s.pc+1,s.looks,s.steps+1⟩,rfl,rfl,by go_num,by go_num,by go_num,HS.out.1,HS.out.2,?_⟩;exact hb.alloc O0 _
     case measure=>simp [intOf];omega
   have HF:=HE _ (Az KL);clear HG HE
   go_wp2_with fail
   refine (Np s.pc _ O0).mono ?_;rintro e wD ⟨rfl,hbD⟩;have hbd:=(hb.alloc O0 _).trans (hbD.mono X3)
   go_wp2_with fail
   refine (Zc 2 (K3 (Lib.decDigits s.pc)) ((s.steps:Int)+1) _).mono ?_;rintro e wE ⟨rfl,sM⟩;have hb':=hbd.trans (sM.mono (by have:=hbd.size;rw [y_] at this;simp;omega));clear t0 q0 q1 q2 q3 q4 q5 hfz sM;obtain ⟨⟨t0,q0,q1,q2,q3,q4,q5⟩,hfz⟩:=Q5 hb';go_wp2;obtain ⟨s0,s1,s2,s3,s4,s5⟩:=K_ (O7 hb') (.bool true) (.int .i64 2) (.string (K3 (Lib.decDigits s.pc))) (.bool false) (.string ⟨#[]⟩) (.int .i64 ((s.steps:Int)+1));refine bodyPost_ret (v:=(P5 2 (K3 (Lib.decDigits s.pc)) ((s.steps:Int)+1)).v) (by simp [results,Tryz.results124,go_sem,s0,s1,s2,s3,s4,s5,P5,TN.v]) rfl ⟨by rw [HF.out] <;> rfl,?_⟩;exact ((Z4 (some ⟨ib,oM,none⟩) T.length cap w).trans (hb'.mono O0)).trans (M4 O0 _ _ _ _ _ _)
 · have hls:=Jm s.hand to
   have HS:=HG ⟨Ea s.hand to,s.out,s.pc+1,s.looks,s.steps+1⟩ (Pz);clear HG HE
   go_wp2_with fail
   refine (bJ s.hand to _ O0 o4).mono ?_;rintro e wL ⟨rfl,hbL⟩;have hbl:=(hb.alloc O0 _).trans (hbL.mono X3);clear hbL;go_wp2;go_roundw
   case rel=>
    refine ⟨⟨Ea s.hand to,s.out,s.pc+1,s.looks,s.steps+1⟩,rfl,rfl,by go_num,by go_num,by go_num,HS.out.1,HS.out.2,?_⟩;exact hbl
   case measure=>simp [intOf];omega
 · by_cases heq:s.hand.data.toList=tx.data.toList
   · have heq':(s.hand.toList==tx.toList)=true:=by rw [ByteArray.toList_eq,ByteArray.toList_eq];simpa using heq
     have HS:=HG ⟨s.hand,s.out,to.toNat,s.looks,s.steps+1⟩ (pz heq);clear HG HE;go_wp2;go_roundw
     case rel=>
      refine ⟨⟨s.hand,s.out,to.toNat,s.looks,s.steps+1⟩,rfl,rfl,by go_num,by go_num,by go_num,HS.out.1,HS.out.2,?_⟩;exact hb.alloc O0 _
     case measure=>simp [intOf];omega
   have heq':(s.hand.toList==tx.toList)=false:=by rw [ByteArray.toList_eq,ByteArray.toList_eq];simpa using heq
   have HS:=HG ⟨s.hand,s.out,s.pc+1,s.looks,s.steps+1⟩ (Yy heq);clear HG HE;go_wp2;go_roundw
   case rel=>
    refine ⟨⟨s.hand,s.out,s.pc+1,s.looks,s.steps+1⟩,rfl,rfl,by go_num,by go_num,by go_num,HS.out.1,HS.out.2,?_⟩;exact hb.alloc O0 _
   case measure=>simp [intOf];omega
 · have HS:=HG ⟨s.hand,s.out,to.toNat,s.looks,s.steps+1⟩ (dF)
   clear HG HE;go_wp2;go_roundw
   case rel=>
    refine ⟨⟨s.hand,s.out,to.toNat,s.looks,s.steps+1⟩,rfl,rfl,by go_num,by go_num,by go_num,HS.out.1,HS.out.2,?_⟩;exact hb.alloc O0 _
   case measure=>simp [intOf];omega
 · have HF:=HE _ Oy
   clear HG HE
   go_wp2_with fail
   refine (Zc 0 (K3 s.out) ((s.steps:Int)+1) _).mono ?_;rintro e wE ⟨rfl,sM⟩;have hb':=(hb.alloc O0 _).trans (sM.mono X3);clear t0 q0 q1 q2 q3 q4 q5 hfz sM;obtain ⟨⟨t0,q0,q1,q2,q3,q4,q5⟩,hfz⟩:=Q5 hb';go_wp2;obtain ⟨s0,s1,s2,s3,s4,s5⟩:=K_ (O7 hb') (.bool true) (.int .i64 0) (.string (K3 s.out)) (.bool false) (.string ⟨#[]⟩) (.int .i64 ((s.steps:Int)+1));refine bodyPost_ret (v:=(P5 0 (K3 s.out) ((s.steps:Int)+1)).v) (by simp [results,Tryz.results124,go_sem,s0,s1,s2,s3,s4,s5,P5,TN.v]) rfl ⟨by rw [HF.out] <;> rfl,?_⟩;exact ((Z4 (some ⟨ib,oM,none⟩) T.length cap w).trans (hb'.mono O0)).trans (M4 O0 _ _ _ _ _ _)
 have HF:=HE _ XA;clear HG HE
 go_wp2_with fail
 refine (Zc 1 s.hand ((s.steps:Int)+1) _).mono ?_;rintro e wE ⟨rfl,sM⟩;have hb':=(hb.alloc O0 _).trans (sM.mono X3);clear t0 q0 q1 q2 q3 q4 q5 hfz sM;obtain ⟨⟨t0,q0,q1,q2,q3,q4,q5⟩,hfz⟩:=Q5 hb';go_wp2;obtain ⟨s0,s1,s2,s3,s4,s5⟩:=K_ (O7 hb') (.bool true) (.int .i64 1) (.string s.hand) (.bool false) (.string ⟨#[]⟩) (.int .i64 ((s.steps:Int)+1));refine bodyPost_ret (v:=(P5 1 s.hand ((s.steps:Int)+1)).v) (by simp [results,Tryz.results124,go_sem,s0,s1,s2,s3,s4,s5,P5,TN.v]) rfl ⟨by rw [HF.out] <;> rfl,?_⟩;exact ((Z4 (some ⟨ib,oM,none⟩) T.length cap w).trans (hb'.mono O0)).trans (M4 O0 _ _ _ _ _ _)
end Go.Proofs.YtdpoaadafcaffaaGreatDoor

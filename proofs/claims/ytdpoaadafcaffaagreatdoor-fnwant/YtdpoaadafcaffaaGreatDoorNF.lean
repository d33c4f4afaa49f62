import Derived.Test.YtdpoaadafcaffaaGreatDoorND
set_option linter.unusedVariables false
set_option maxHeartbeats 8000000
set_option maxRecDepth 100000
namespace Go.Proofs.YtdpoaadafcaffaaGreatDoor
open Proofs.Tryz
open Go.RowKit
variable {T:List I3} {b base base' k:Nat} {w w':World} {r:RC} {a:Option Addr} {rs:List R2}
theorem Uy (h:Yb T=true):T.all Aa=true:=by
 unfold Yb at h;simp only [Bool.and_eq_true] at h;exact h.2
theorem Bz (h:Yb T=true):T.length<=40:=by
 unfold Yb at h;simp only [Bool.and_eq_true,decide_eq_true_eq] at h;exact h.1.2
def acts (b:Nat):Array Value:=#[.nilFunc,met b 157,met b 158,met b 159,met b 160,met b 161,met b 162,met b 163,met b 164,met b 165,met b 166,met b 167]
def xB (b:Nat) (w:World):Nat:=match w.cell? ⟨b,8,none⟩,w.cell? ⟨b,14,none⟩ with
 | some (.bool false),some (.int _ n)=>1+(201 - n.toNat)
 | _,_=>0
theorem qy (h:Y4 w b r) (hh:r.halted=true):xB b w=0:=by
 have gy:w.cell? ⟨b,8,none⟩=some (.bool true):=by rw [V3 h 8,<- hh];rfl
 unfold xB;rw [gy]
theorem Bn (h:Y4 w b r) (hh:r.halted=false) (hk:r.steps=k):xB b w=1+(201 - k):=by
 have gy:w.cell? ⟨b,8,none⟩=some (.bool false):=by rw [V3 h 8,<- hh];rfl
 have a0g:w.cell? ⟨b,14,none⟩=some (.int .i64 k):=by rw [V3 h 14,<- hk];rfl
 unfold xB;rw [gy,a0g];simp
def jC (base b:Nat) (w:World) (a:Option Addr) (T:List I3):Prop:=T=[]\/∃ ib off,a=some ⟨ib,off,none⟩/\ib<base/\ib≠b/\∀ i,i<T.length->w.cell? ⟨ib,off+i*3,none⟩=some (.int .i64 (T.getD i K9).op)/\w.cell? ⟨ib,off+i*3+1,none⟩=some (.string (T.getD i K9).tx)/\w.cell? ⟨ib,off+i*3+2,none⟩=some (.int .i64 (T.getD i K9).to)
theorem IC (h:jC base b w a T) (hk:Kp base' b w w') (hle:base<=base'):jC base b w' a T:=by
 rcases h with h | ⟨ib,off,h1,h2,h3,h4⟩
 · exact .inl h
 refine .inr ⟨ib,off,h1,h2,h3,fun i hi=>?_⟩;rw [hk.cell (by show ib<base';omega) h3,hk.cell (by show ib<base';omega) h3,hk.cell (by show ib<base';omega) h3];exact h4 i hi
theorem OC (h:zl base b w a rs) (hk:Kp base' b w w') (hle:base<=base'):zl base b w' a rs:=by
 rcases h with h | ⟨ib,off,h1,h2,h3,h4⟩
 · exact .inl h
 refine .inr ⟨ib,off,h1,h2,h3,fun i hi=>?_⟩;rw [hk.cell (by show ib<base';omega) h3,hk.cell (by show ib<base';omega) h3];exact h4 i hi
theorem Yx (h:zl base b w a rs) (hle:base<=base'):zl base' b w a rs:=by
 rcases h with h | ⟨ib,off,h1,h2,h3,h4⟩
 · exact .inl h
 exact .inr ⟨ib,off,h1,O0,h3,h4⟩
theorem Cz (h:N8 w) (hk:Kp base b w w') (h1:0<base) (hb:b≠0):N8 w':=by
 obtain ⟨h2,m,h3⟩:=h;exact ⟨Nat.lt_of_lt_of_le h2 hk.size,m,by rw [hk.cell (by exact h1) (by exact hb.symm)];exact h3⟩
theorem uK (b:Nat) (a:Option Addr) (cap:Nat) (T:List I3) (arg:ByteArray) (a2:Option Addr) (cap2:Nat) (EL:List R2) (w:World)
 (hrun:Y4 w b (og (.pointer none) (.slice none 0 0) arg (.slice a2 EL.length cap2) 0 s0)) (hins:jC w.heap.size b w a T) (hrep:zl w.heap.size b w a2 EL) (hmax:N8 w) (hb1:b≠0) (hok:Yb T=true) (XW:arg.size<=300) (hrl:EL.length<=14) (hokr:Xk EL=true):
 Calls prog 90 #[.pointer (some ⟨b,0,none⟩),.slice a T.length cap] w fun e w'=>e=.returned (.tuple #[])/\Dead b w' (fin T arg EL)/\Kp w.heap.size b w w':=by
 have hsm:∀ (w:World) (a:Addr) (b f:Nat) (m:Mode),(store a (met b f) m).run prog w=stored prog w a (met b f) m:=fun w a b f m=>run_store _ _ _ _ _ rfl;have hsn:∀ (w:World) (a:Addr) (m:Mode),(store a .nilFunc m).run prog w=stored prog w a .nilFunc m:=fun w a m=>run_store _ _ _ _ _ rfl;have YW:=Q0 hrun;have NQ:=Q0 hins;have UO:=Q0 hrep;have a0h:=Q0 hmax;have hlt:=S9 hrun;have hone:=hmax.1;have OM:=Q0 (Uy hok);have WW:=Bz hok;have a0i:=Q0 hokr;clear hrun hins hrep hmax hok hokr;go_enter func90,ntmps90
 go_wp2_with fail
 refine (NI b w).mono ?_;rintro e w1 ⟨rfl,ZW⟩;have hz1:=ZW.size;have hBA:Below w.heap.size w (w1.alloc (.cells (acts b) 202)):=ZW.alloc hz1 _;have hA:∀ j,(w1.alloc (.cells (acts b) 202)).cell? ⟨w1.heap.size,j,none⟩=(acts b)[j]?:=fun j=>U0;have HA:=Q0 hA;have HB:=Q0 hBA;have HST:Hid (St (w1.heap.size+1) b (w1.alloc (.cells (acts b) 202)) (og (.pointer none) (.slice none 0 0) arg (.slice a2 EL.length cap2) 0 s0) []):=⟨O0,U0,Dn YW.out hBA,.inl rfl,World.ownsRow_nil _ _ _ _⟩;have hsz:(w1.alloc (.cells (acts b) 202)).heap.size=w1.heap.size+1:=U0
 go_wp2_with fail
 change Code.wp _ _ _ _ (w1.alloc (.cells (acts b) 202));clear hA hBA ZW hsm hsn;generalize (w1.alloc (.cells (acts b) 202))=wA at*;have hbase:=hz1;generalize w1.heap.size=B at*;go_loopw [8] (fun _ wr=>((∃ s,Hid (Fit EL s)/\Hid (On T arg EL s)/\Hid (Live (B+1) b arg (.slice a2 EL.length cap2) s.pc wr s))\/Hid (Dead b wr (fin T arg EL)))/\Hid (Kp (B+1) b wA wr)) (fun _ wr=>xB b wr)
 case atStart=>exact ⟨.inl ⟨s0,Pj EL,Mr T arg EL,⟨_,_,HST.out⟩⟩,Kp.refl _ _ _⟩
 obtain ⟨hrr,hkr⟩:=hrel;have ZY:=Q0 ((Kp.of_below HB.out Q8).trans (hkr.out.mono O0));rcases hrr with ⟨s,hf,ho,hL⟩ | hD;rotate_left
 · obtain ⟨r,hr,hh,ht⟩:=hD.out
   have gy:wr.cell? ⟨b,8,none⟩=some (.bool true):=by rw [V3 hr 8,<- hh];rfl
   clear hr hh ht;go_wp2
   go_end0
   exact ⟨rfl,hD.out,ZY.out⟩
 obtain ⟨p,v,hS⟩:=hL.out;have HS:=Q0 hS;have hM0:=Q0 (Bn hS.run rfl rfl);obtain ⟨f1,f2,f3,f4,f5,f6⟩:=hf.out;have gy:wr.cell? ⟨b,8,none⟩=some (.bool false):=V3 hS.run 8;have XM:wr.cell? ⟨b,6,none⟩=some (.int .i64 s.pc):=V3 hS.run 6;have YY:wr.cell? ⟨b,7,none⟩=some (.int .i64 s.pc):=V3 hS.run 7;have a0g:wr.cell? ⟨b,14,none⟩=some (.int .i64 s.steps):=V3 hS.run 14;have g6:=F6 hS.run 6;have g7:=F6 hS.run 7;have g14:=F6 hS.run 14;have a3D:=S9 hS.run;have a1Y:=hS.le;clear hS hL;by_cases hpc:T.length<=s.pc
 · have HF:=Q0 (Wz hpc hf.out ho.out)
   clear hf ho
   go_wp2_with fail
   refine (c130 (B+1) b _ s.pc _ HS.out.run rfl O0).mono ?_;rintro e w2 ⟨rfl,h2,hk⟩;have H2:Hid (Y4 w2 b _):=h2;have HK:=Q0 (ZY.out.trans (hk.mono O0));clear h2 hk;go_wp2;refine bodyPost_ret (results_none rfl _ _ _) rfl ?_;exact ⟨rfl,⟨_,H2.out,rfl,by rw [HF.out];rfl⟩,HK.out⟩
 by_cases hst:s.steps=200
 · have HF:=Q0 (ko O0 hst ho.out)
   have hst':((s.steps:Int)==200)=true:=by rw [hst];rfl
   clear hf ho hst
   go_wp2_with fail
   refine (c131 (B+1) b _ 3 ⟨#[]⟩ _ HS.out.run).mono ?_;rintro e w2 ⟨rfl,h2,hk⟩;have H2:Hid (Y4 w2 b _):=h2;have HK:=Q0 (ZY.out.trans (hk.mono O0));clear h2 hk;go_wp2;refine bodyPost_ret (results_none rfl _ _ _) rfl ?_;exact ⟨rfl,⟨_,H2.out,rfl,by rw [HF.out];rfl⟩,HK.out⟩
 have hpl:s.pc<T.length:=O0;have aX:s.steps<200:=O0;have hst':((s.steps:Int)==200)=false:=by simp only [beq_eq_false_iff_ne];omega
 clear hst hpc;rcases (IC NQ.out ZY.out Q8) with hss | ⟨ib,oM,ha,hib,a3E,hcell⟩
 · rw [hss] at hpl;exact absurd hpl (Nat.not_lt_zero _)
 subst ha;obtain ⟨x0,x1,x2⟩:=hcell s.pc hpl;have a3F:ib<wr.heap.size:=O0;obtain ⟨o1,_,_,o4,o5,o6⟩:=A9 (Dl OM.out hpl);generalize hx:T.getD s.pc K9=x at*;have HX:=Q0 hx;clear hx hcell;obtain ⟨op,tx,to⟩:=x;simp only at x0 x1 x2 o1 o4 o5 o6;obtain ⟨R,hR⟩:∃ R,R=act arg EL ⟨op,tx,to⟩ s:=⟨_,rfl⟩;have HG:∀ s':ST,R=.inl s'->s'.steps=s.steps+1/\Hid (Fit EL s'/\On T arg EL s'):=fun s' e=>⟨En (hR.symm.trans e),mF HX.out hpl WW aX OM.out XW a0i.out hf.out ho.out (hR.symm.trans e)⟩;have HE:∀ t:TN,R=.inr t->Hid (fin T arg EL=t):=fun t e=>bB HX.out hpl aX ho.out (hR.symm.trans e);have yR:Hid (∀ j,wr.cell? ⟨B,j,none⟩=(acts b)[j]?):=fun j=>by rw [hkr.out.cell U0 (by show B≠b;omega)];exact HA.out j
 have HU:Hid (∀ o:Obj,St (B+1) b (((wr.setCell ⟨b,14,none⟩ (.int .i64 ((s.steps:Int)+1))).setCell ⟨b,7,none⟩ (.int .i64 ((s.pc:Int)+1))).alloc o).drew (og p v arg (.slice a2 EL.length cap2) s.pc s.up) s.out):=fun o=>by
  have h1:St (B+1) b (wr.setCell ⟨b,14,none⟩ (.int .i64 ((s.steps:Int)+1))) (og p v arg (.slice a2 EL.length cap2) s.pc ⟨s.hand,s.out,s.pc,s.looks,s.steps+1⟩) s.out:=HS.out.set 14 _ rfl rfl rfl;have h2:St (B+1) b ((wr.setCell ⟨b,14,none⟩ (.int .i64 ((s.steps:Int)+1))).setCell ⟨b,7,none⟩ (.int .i64 ((s.pc:Int)+1))) (og p v arg (.slice a2 EL.length cap2) s.pc s.up) s.out:=h1.set 7 _ rfl rfl rfl;exact h2.below bA.drew
 have HKU:Hid (∀ o:Obj,Kp (B+1) b wr (((wr.setCell ⟨b,14,none⟩ (.int .i64 ((s.steps:Int)+1))).setCell ⟨b,7,none⟩ (.int .i64 ((s.pc:Int)+1))).alloc o).drew):=fun o=>((((Kp.refl _ _ _).set 14 _).set 7 _).alloc (by simpa using a1Y) _).drew;have aN:Hid (∀ o:Obj,Met (B+1) b arg EL a2 cap2 s tx to (((wr.setCell ⟨b,14,none⟩ (.int .i64 ((s.steps:Int)+1))).setCell ⟨b,7,none⟩ (.int .i64 ((s.pc:Int)+1))).alloc o).drew):=fun o=>
  ⟨hf.out,a0i.out,hrl,Yx (OC UO.out (ZY.out.trans ((HKU.out o).mono O0)) Q8) O0,⟨O0,hb1,Cz (Cz a0h.out ZY.out hone hb1) (HKU.out o) O0 hb1⟩,XW,O0,o4,o5,O0,aX,⟨p,v,HU.out o⟩⟩
 have hBb:B<wr.heap.size:=O0;have a3G:B≠b:=by have:=HS.out.lt;omega
 clear hf ho HX HU HB NQ UO a0h;obtain ⟨to,rfl⟩:=Int.eq_ofNat_of_zero_le o4;have q1:wr.cell? ⟨B,1,none⟩=some (.func (.func 157) #[.pointer (some ⟨b,0,none⟩)] #[]):=yR.out 1;have q2:wr.cell? ⟨B,2,none⟩=some (.func (.func 158) #[.pointer (some ⟨b,0,none⟩)] #[]):=yR.out 2;have q3:wr.cell? ⟨B,3,none⟩=some (.func (.func 159) #[.pointer (some ⟨b,0,none⟩)] #[]):=yR.out 3;have q4:wr.cell? ⟨B,4,none⟩=some (.func (.func 160) #[.pointer (some ⟨b,0,none⟩)] #[]):=yR.out 4;have q5:wr.cell? ⟨B,5,none⟩=some (.func (.func 161) #[.pointer (some ⟨b,0,none⟩)] #[]):=yR.out 5;have q6:wr.cell? ⟨B,6,none⟩=some (.func (.func 162) #[.pointer (some ⟨b,0,none⟩)] #[]):=yR.out 6;have q7:wr.cell? ⟨B,7,none⟩=some (.func (.func 163) #[.pointer (some ⟨b,0,none⟩)] #[]):=yR.out 7;have q8:wr.cell? ⟨B,8,none⟩=some (.func (.func 164) #[.pointer (some ⟨b,0,none⟩)] #[]):=yR.out 8;have q9:wr.cell? ⟨B,9,none⟩=some (.func (.func 165) #[.pointer (some ⟨b,0,none⟩)] #[]):=yR.out 9;have q10:wr.cell? ⟨B,10,none⟩=some (.func (.func 166) #[.pointer (some ⟨b,0,none⟩)] #[]):=yR.out 10;have q11:wr.cell? ⟨B,11,none⟩=some (.func (.func 167) #[.pointer (some ⟨b,0,none⟩)] #[]):=yR.out 11;have HR:=Q0 hR;clear hR;obtain rfl | rfl | rfl | rfl | rfl | rfl | rfl | rfl | rfl | rfl | rfl:op=1\/op=2\/op=3\/op=4\/op=5\/op=6\/op=7\/op=8\/op=9\/op=10\/op=11:=O0
 all_goals
  clear yR HA HST
  go_wp2_with fail
  go_region_with ((first | (go_at_call 157;refine (yK (B+1) b arg EL a2 cap2 s tx to _ (aN.out _)).mono ?_) | (go_at_call 158;refine (qL (B+1) b arg EL a2 cap2 s tx to _ (aN.out _)).mono ?_) | (go_at_call 159;refine (UK (B+1) b arg EL a2 cap2 s tx to _ (aN.out _)).mono ?_) | (go_at_call 160;refine (vL (B+1) b arg EL a2 cap2 s tx to _ (aN.out _)).mono ?_) | (go_at_call 161;refine (xK (B+1) b arg EL a2 cap2 s tx to _ (aN.out _)).mono ?_) | (go_at_call 162;refine (vK (B+1) b arg EL a2 cap2 s tx to _ (aN.out _)).mono ?_) | (go_at_call 163;refine (YK (B+1) b arg EL a2 cap2 s tx to _ (aN.out _)).mono ?_) | (go_at_call 164;refine (JK (B+1) b arg EL a2 cap2 s tx to _ (aN.out _)).mono ?_) | (go_at_call 165;refine (qK (B+1) b arg EL a2 cap2 s tx to _ (aN.out _)).mono ?_) | (go_at_call 166;refine (oK (B+1) b arg EL a2 cap2 s tx to _ (aN.out _)).mono ?_) | (go_at_call 167;refine (zJ (B+1) b arg EL a2 cap2 s tx to _ (aN.out _)).mono ?_));rintro e w3 ⟨rfl,h3,hk3⟩;rw [<- HR.out] at h3;have H3:=Q0 h3;have lS:=Q0 ((HKU.out _).trans hk3);clear h3 hk3)
 all_goals
  clear aN HKU HR;have hL3:=H3.out;rcases R with s' | t
  · obtain ⟨p3,v3,hS3⟩:=hL3
    obtain ⟨a3H,HF3⟩:=HG s' rfl;have gM:=Q0 hS3;have d7:w3.cell? ⟨b,7,none⟩=some (.int .i64 s'.pc):=V3 hS3.run 7;have d6:w3.cell? ⟨b,6,none⟩=some (.int .i64 s.pc):=V3 hS3.run 6;have e6:=F6 hS3.run 6;clear hS3 H3 HG HE;go_wp2;go_roundw
    case rel=>exact ⟨.inl ⟨s',HF3.out.1,HF3.out.2,⟨p3,v3,gM.out.set 6 _ rfl rfl rfl⟩⟩,hkr.out.trans (lS.out.set 6 _)⟩
    case measure=>
     have h1:Y4 (w3.setCell ⟨b,6,none⟩ (.int .i64 s'.pc)) b (og p3 v3 arg (.slice a2 EL.length cap2) s'.pc s'):=run_set gM.out.run 6 _ rfl;rw [hM0.out,Bn h1 rfl rfl];omega
  obtain ⟨r3,hr3,hh3,ht3⟩:=hL3;have HF3:=HE t rfl;have HR3:=Q0 hr3;have HH3:=Q0 hh3;have HT3:=Q0 ht3;have d7:w3.cell? ⟨b,7,none⟩=some (.int .i64 r3.next):=V3 hr3 7;have d6:w3.cell? ⟨b,6,none⟩=some (.int .i64 r3.place):=V3 hr3 6;have e6:=F6 hr3 6;clear hr3 hh3 ht3 H3 HG HE;go_wp2;go_roundw
  case rel=>
   refine ⟨.inr ⟨{ r3 with place:=r3.next },run_set HR3.out 6 _ rfl,HH3.out,?_⟩,hkr.out.trans (lS.out.set 6 _)⟩;rw [HF3.out,<- HT3.out];rfl
  case measure=>
   have h1:Y4 (w3.setCell ⟨b,6,none⟩ (.int .i64 r3.next)) b { r3 with place:=r3.next }:=run_set HR3.out 6 _ rfl;rw [hM0.out,qy h1 HH3.out];omega
end Go.Proofs.YtdpoaadafcaffaaGreatDoor

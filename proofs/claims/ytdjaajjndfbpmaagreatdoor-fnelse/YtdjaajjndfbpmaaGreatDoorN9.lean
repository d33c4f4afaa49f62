import Derived.Test.YtdjaajjndfbpmaaGreatDoorZ22
set_option linter.unusedVariables false
set_option maxHeartbeats 8000000
set_option maxRecDepth 100000
namespace Go.Proofs.YtdjaajjndfbpmaaGreatDoor
open Proofs.Tryz
open Go.RowKit
theorem Pf (c:Int) (t:ByteArray) (k:Int) (w:World):
 Calls prog 126 #[.int .i64 c,.string t,.int .i64 k] w fun e w'=>e=.returned (.agg #[.bool true,.int .i64 c,.string t,.bool false,.string ⟨#[]⟩,.int .i64 k])/\Below w.heap.size w w':=rO c t k w
theorem XH {T:List I3} (h:Zd T=true):T.all Zb=true:=by
 unfold Zd at h;simp only [V7] at h;exact h.2
theorem JI {T:List I3} (h:Zd T=true):T.length<=40:=by
 unfold Zd at h;simp only [V7,Q_] at h;exact h.1.2
theorem GN (a:Option Addr) (cap:Nat) (T:List I3) (arg:ByteArray) (a2:Option Addr) (cap2:Nat) (nR:List R2) (w:World) (hs:∀ i,(T.getD i A_).tx.size<=1048700) (hl:T.length<=1048576) (hat:Da w a T) (hok:Zd T=true) (hr:nR.length<=14) (ha:arg.size<=300) (a0r:ui w a2 nR) (hs2:∀ i,(nR.getD i Jc).tx.size<=1048700):
 Calls prog 124 #[.agg #[.slice a T.length cap],.string arg,.slice a2 nR.length cap2] w fun e w'=>e=.returned (l9 T arg nR).v/\Below w.heap.size w w':=by
 have HIA:=Q0 hat;clear hat;obtain ⟨Y,roff,hc⟩:=Ny a0r;have HC:=Q0 hc;clear hc a0r;go_enter func124,ntmps124
 go_wp2_with fail
 refine (mG a cap T (W0 a T.length cap w) hs hl (Va HIA.out (K5 _ _ _ _))).mono ?_;rintro e w1 ⟨rfl,hb1⟩;rw [hok];have c:Below (w.heap.size+2) (W0 a T.length cap w) w1:=by rw [Aa] at hb1;exact hb1
 obtain ⟨⟨d,n,m,l,j,g,f⟩,o⟩:=F6 c
 go_wp2_with fail
 clear d n m l j g f o hb1;go_loopw [7] (fun i wr=>∃ k:Nat,k<=nR.length/\i=.int .i64 k/\Hid (Tp (nR.take k)=true)/\Below (w.heap.size+2) (W0 a T.length cap w) wr) (fun i _=>nR.length - (intOf i).toNat)
 case atStart=>exact ⟨0,I5 _,rfl,rfl,c⟩
 clear c;obtain ⟨k,hk,rfl,hko,c⟩:=hrel;have U:=(K5 a T.length cap w).trans (c.mono O0);obtain ⟨⟨d,n,m,l,j,g,f⟩,o⟩:=F6 c;by_cases O:k<nR.length
 · rcases HC.out with hss | ⟨ha2,Z,N⟩
   · rw [hss] at O;exact absurd O (F5 _)
   subst ha2;have x0:=(U.cell (p:=⟨Y,roff+k*2,none⟩) Z).trans (N k O).1;have x1:=(U.cell (p:=⟨Y,roff+k*2+1,none⟩) Z).trans (N k O).2;have hxs:=hs2 k;generalize hx:nR.getD k Jc=x at*;have HX:=Q0 hx;clear hx N
   go_wp2_with fail
   refine (c148 x.code x.tx wr hxs).mono ?_;rintro e w2 ⟨rfl,hb2⟩;have b:=c.trans (hb2.mono (by have:=c.size;rw [Aa] at this;exact this));by_cases hv:vr x.code x.tx.data.toList=true
   · have rY:=Q0 (Nt O hko.out (by rw [HX.out];exact hv))
     rw [hv];clear hv d n m l j g f o hb2;go_wp2;go_roundw
     case rel=>exact ⟨k+1,O0,by go_num,rY,b⟩
     case measure=>simp [intOf];omega
   have hv':vr x.code x.tx.data.toList=false:=by simpa using hv
   have HZ:Hid (l9 T arg nR=L6):=Qp (.inr (.inr (.inr (Gw O (by rw [HX.out];exact hv')))));rw [hv'];clear hv hv' d n m l j g f o hb2;obtain ⟨⟨d,n,m,l,j,g,f⟩,o⟩:=F6 b;have S6:=Ua (K8 b) (.bool false) (.int .i64 0) (.string ⟨#[]⟩) (.bool false) (.string ⟨#[]⟩) (.int .i64 0);obtain ⟨s0,B,A,z,s4,u⟩:=S6;go_wp2;refine K4 (v:=L6.v) (by simp [results,results124,go_sem,s0,B,A,z,s4,u,L6,TN.v]) rfl ⟨by rw [HZ.out],?_⟩;exact ((K5 a T.length cap w).trans (b.mono O0)).trans (U4 O0 _ _ _ _ _ _)
 have hall:Hid (Tp nR=true):=by have:=hko.out;rw [E_ O0] at this;exact this
 clear d n m l j g f o hko
 go_wp2_with fail
 have CV:=Q0 (Ww hok ha hr hall.out);have AV:Hid (Tp nR=true):=hall;have uS:=Q0 (XH hok);have tY:=JI hok;have HB:=Q0 c;clear c U;go_loopw [8,9,10,11,12] (fun hd ot pl lk sp wq=>∃ s:ST,hd=.string s.hand/\ot=.string (Q3 s.out)/\pl=.int .i64 s.pc/\lk=.int .i64 s.looks/\sp=.int .i64 s.steps/\Hid (Fit nR s)/\Hid (On T arg nR s)/\Below (w.heap.size+2) (W0 a T.length cap w) wq) (fun _ _ _ _ sp _=>201 - (intOf sp).toNat)
 case atStart=>exact ⟨s0,rfl,rfl,rfl,rfl,rfl,jo nR,jy T arg nR,HB.out⟩
 clear HB;obtain ⟨s,rfl,rfl,rfl,rfl,rfl,hf,ho,c⟩:=hrel;obtain ⟨f1,f2,f3,f4,f5,f6⟩:=hf.out;have hos:(Q3 s.out).size=s.out.length:=J3 _;have U:=(K5 a T.length cap w).trans (c.mono O0);have hzz:w.heap.size+2<=wr.heap.size:=by have:=c.size;rw [Aa] at this;exact this
 obtain ⟨⟨d,n,m,l,j,g,f⟩,o⟩:=F6 c;by_cases hpc:T.length<=s.pc
 · have C:Hid (l9 T arg nR=l6 2 (Q3 (Lib.decDigits s.pc)) (s.steps:Int)):=CV.out.trans (oH hpc hf.out ho.out)
   clear hf ho
   go_wp2_with fail
   refine (Rs s.pc _ O0).mono ?_;rintro e wD ⟨rfl,hbD⟩;have hbd:=c.trans (hbD.mono (hzz))
   go_wp2_with fail
   refine (Pf 2 (Q3 (Lib.decDigits s.pc)) (s.steps:Int) _).mono ?_;rintro e R ⟨rfl,q⟩;have b:=hbd.trans (q.mono (by have:=hbd.size;rw [Aa] at this;simp;omega));clear d n m l j g f o q;obtain ⟨⟨d,n,m,l,j,g,f⟩,o⟩:=F6 b;go_wp2;obtain ⟨s0,B,A,z,s4,u⟩:=Ua (K8 b) (.bool true) (.int .i64 2) (.string (Q3 (Lib.decDigits s.pc))) (.bool false) (.string ⟨#[]⟩) (.int .i64 (s.steps:Int));refine K4 (v:=(l6 2 (Q3 (Lib.decDigits s.pc)) (s.steps:Int)).v) (by simp [results,results124,go_sem,s0,B,A,z,s4,u,l6,TN.v]) rfl ⟨by rw [C.out] <;> rfl,?_⟩;exact ((K5 a T.length cap w).trans (b.mono O0)).trans (U4 O0 _ _ _ _ _ _)
 by_cases hst:200<=s.steps
 · have C:=Q0 (CV.out.trans (zt O0 O0 ho.out))
   clear hf ho
   go_wp2_with fail
   refine (Pf 3 ⟨#[]⟩ (s.steps:Int) _).mono ?_;rintro e R ⟨rfl,q⟩;have b:=c.trans (q.mono (hzz));clear d n m l j g f o q;obtain ⟨⟨d,n,m,l,j,g,f⟩,o⟩:=F6 b;go_wp2;obtain ⟨s0,B,A,z,s4,u⟩:=Ua (K8 b) (.bool true) (.int .i64 3) (.string ⟨#[]⟩) (.bool false) (.string ⟨#[]⟩) (.int .i64 (s.steps:Int));refine K4 (v:=(l6 3 ⟨#[]⟩ (s.steps:Int)).v) (by simp [results,results124,go_sem,s0,B,A,z,s4,u,l6,TN.v]) rfl ⟨by rw [C.out] <;> rfl,?_⟩;exact ((K5 a T.length cap w).trans (b.mono O0)).trans (U4 O0 _ _ _ _ _ _)
 have O:s.pc<T.length:=O0;have hst':s.steps<200:=O0;clear hst hpc;obtain ⟨J,K,hic⟩:=Zk HIA.out;rcases hic with hss | ⟨hia,hiw,N⟩
 · rw [hss] at O;exact absurd O (F5 _)
 subst hia;have x0:=(U.cell (p:=⟨J,K+s.pc*3,none⟩) hiw).trans (N s.pc O).1;have x1:=(U.cell (p:=⟨J,K+s.pc*3+1,none⟩) hiw).trans (N s.pc O).2.1;have x2:=(U.cell (p:=⟨J,K+s.pc*3+2,none⟩) hiw).trans (N s.pc O).2.2;have a3S:J<wr.heap.size:=O0;obtain ⟨o1,_,_,o4,o5,o6⟩:=m_ (Vq uS.out O);have HX0:Hid (T.getD s.pc A_=T.getD s.pc A_):=rfl;generalize hx:T.getD s.pc A_=x at*;have HX:=Q0 hx;clear hx N HX0;obtain ⟨op,tx,to⟩:=x;simp only at x0 x1 x2 o1 o4 o5 o6;have D:∀ P:ST,act arg nR ⟨op,tx,to⟩ s=.inl P->Hid (Fit nR P/\On T arg nR P):=fun P e=>GJ HX.out O tY hst' uS.out ha AV.out hf.out ho.out e;have H:∀ t:TN,act arg nR ⟨op,tx,to⟩ s=.inr t->Hid (l9 T arg nR=t):=fun t e=>CV.out.trans (gF HX.out O hst' ho.out e);clear hf ho HX;obtain rfl | rfl | rfl | rfl | rfl | rfl | rfl | rfl | rfl | rfl | rfl:op=1\/op=2\/op=3\/op=4\/op=5\/op=6\/op=7\/op=8\/op=9\/op=10\/op=11:=O0
 · have r:=D ⟨tx,s.out,s.pc+1,s.looks,s.steps+1⟩ (aK)
   clear D H;go_wp2;go_roundw
   case rel=>
    refine ⟨⟨tx,s.out,s.pc+1,s.looks,s.steps+1⟩,rfl,rfl,by go_num,by go_num,by go_num,r.out.1,r.out.2,?_⟩;exact c.alloc O0 _
   case measure=>simp [intOf];omega
 · have r:=D ⟨arg,s.out,s.pc+1,s.looks,s.steps+1⟩ (cK)
   clear D H;go_wp2;go_roundw
   case rel=>
    refine ⟨⟨arg,s.out,s.pc+1,s.looks,s.steps+1⟩,rfl,rfl,by go_num,by go_num,by go_num,r.out.1,r.out.2,?_⟩;exact c.alloc O0 _
   case measure=>simp [intOf];omega
 · have L:∀ t:TN,look ⟨3,tx,to⟩ nR s=.inr t->Hid (l9 T arg nR=t):=H
   have Q:∀ P:ST,look ⟨3,tx,to⟩ nR s=.inl P->Hid (Fit nR P/\On T arg nR P):=D;clear H D;by_cases X:J2 s.hand.data.toList=false
   · have C:=L _ (Zf X)
     clear L Q
     go_wp2_with fail
     refine (c24 s.hand _ O0).mono ?_;rintro e V ⟨rfl,E⟩;obtain rfl:=E.symm;rw [X]
     go_wp2_with fail
     refine (Pf 4 ⟨#[63]⟩ ((s.steps:Int)+1) _).mono ?_;rintro e R ⟨rfl,q⟩;have b:=(c.alloc O0 _).trans (q.mono J4);clear d n m l j g f o q;obtain ⟨⟨d,n,m,l,j,g,f⟩,o⟩:=F6 b;go_wp2;obtain ⟨s0,B,A,z,s4,u⟩:=Ua (K8 b) (.bool true) (.int .i64 4) (.string ⟨#[63]⟩) (.bool false) (.string ⟨#[]⟩) (.int .i64 ((s.steps:Int)+1));refine K4 (v:=(l6 4 ⟨#[63]⟩ ((s.steps:Int)+1)).v) (by simp [results,results124,go_sem,s0,B,A,z,s4,u,l6,TN.v]) rfl ⟨by rw [C.out] <;> rfl,?_⟩;exact ((K5 (some ⟨J,K,none⟩) T.length cap w).trans (b.mono O0)).trans (U4 O0 _ _ _ _ _ _)
   have I:J2 s.hand.data.toList=true:=by simpa using X
   clear X;by_cases W:14<=s.looks
   · have C:=L _ (lh I W)
     clear L Q
     go_wp2_with fail
     refine (c24 s.hand _ O0).mono ?_;rintro e V ⟨rfl,E⟩;obtain rfl:=E.symm;rw [I]
     go_wp2_with fail
     refine (Pf 3 ⟨#[]⟩ ((s.steps:Int)+1) _).mono ?_;rintro e R ⟨rfl,q⟩;have b:=(c.alloc O0 _).trans (q.mono J4);clear d n m l j g f o q;obtain ⟨⟨d,n,m,l,j,g,f⟩,o⟩:=F6 b;go_wp2;obtain ⟨s0,B,A,z,s4,u⟩:=Ua (K8 b) (.bool true) (.int .i64 3) (.string ⟨#[]⟩) (.bool false) (.string ⟨#[]⟩) (.int .i64 ((s.steps:Int)+1));refine K4 (v:=(l6 3 ⟨#[]⟩ ((s.steps:Int)+1)).v) (by simp [results,results124,go_sem,s0,B,A,z,s4,u,l6,TN.v]) rfl ⟨by rw [C.out] <;> rfl,?_⟩;exact ((K5 (some ⟨J,K,none⟩) T.length cap w).trans (b.mono O0)).trans (U4 O0 _ _ _ _ _ _)
   by_cases hlr:nR.length<=s.looks
   · have C:=L _ (Cj I W hlr)
     clear L Q
     go_wp2_with fail
     refine (c24 s.hand _ O0).mono ?_;rintro e V ⟨rfl,E⟩;obtain rfl:=E.symm;rw [I];have hbx:Below (w.heap.size+2) (W0 (some ⟨J,K,none⟩) T.length cap w) (wr.alloc (.cells #[.int .i64 3,.string tx,.int .i64 to] 165)):=c.alloc O0 _;have hxo:(wr.alloc (.cells #[.int .i64 3,.string tx,.int .i64 to] 165)).cell? ⟨wr.heap.size,0,none⟩=some (.int .i64 3):=X0;generalize (wr.alloc (.cells #[.int .i64 3,.string tx,.int .i64 to] 165))=wx at*;clear d n m l j g f o;obtain ⟨⟨d,n,m,l,j,g,f⟩,o⟩:=F6 hbx;go_wp2;obtain ⟨s0,B,A,z,s4,u⟩:=Ua (K8 hbx) (.bool false) (.int .i64 0) (.string ⟨#[]⟩) (.bool false) (.string s.hand) (.int .i64 ((s.steps:Int)+1));refine K4 (v:=(TN.mk false 0 ⟨#[]⟩ false s.hand ((s.steps:Int)+1)).v) (by simp [results,results124,go_sem,s0,B,A,z,s4,u,TN.v]) rfl ⟨by rw [C.out] <;> rfl,?_⟩;exact ((K5 (some ⟨J,K,none⟩) T.length cap w).trans (hbx.mono O0)).trans (U4 O0 _ _ _ _ _ _)
   have S:s.looks<nR.length:=O0;rcases HC.out with hss | ⟨ha2,Z,N⟩
   · rw [hss] at S;exact absurd S (F5 _)
   subst ha2;have y0:=(U.cell (p:=⟨Y,roff+s.looks*2,none⟩) Z).trans (N s.looks S).1;have y1:=(U.cell (p:=⟨Y,roff+s.looks*2+1,none⟩) Z).trans (N s.looks S).2;have a0s:Y<wr.heap.size:=O0;have hys:(nR.getD s.looks Jc).tx.size<=300:=by have h:=Ai (OA AV.out S);simpa using h
   have HM:=fun F=>L _ (IB (tx:=tx) (to:=to) I W hlr F);have HD:=fun F h5=>Q _ (iB (tx:=tx) (to:=to) I W hlr F h5);have HB3:=fun F h5=>L _ (vC (tx:=tx) (to:=to) I W hlr F h5);generalize nR.getD s.looks Jc=y at*;clear N L Q;by_cases F:y.code=4
   · have C:=HM F
     clear HM HD HB3;rw [F] at y0
     go_wp2_with fail
     refine (c24 s.hand _ O0).mono ?_;rintro e V ⟨rfl,E⟩;obtain rfl:=E.symm;rw [I]
     go_wp2_with fail
     refine (Pf 4 s.hand ((s.steps:Int)+1) _).mono ?_;rintro e R ⟨rfl,q⟩;have b:=((c.alloc O0 _).alloc J4 _).trans (q.mono J4);clear d n m l j g f o q;obtain ⟨⟨d,n,m,l,j,g,f⟩,o⟩:=F6 b;go_wp2;obtain ⟨s0,B,A,z,s4,u⟩:=Ua (K8 b) (.bool true) (.int .i64 4) (.string s.hand) (.bool false) (.string ⟨#[]⟩) (.int .i64 ((s.steps:Int)+1));refine K4 (v:=(l6 4 s.hand ((s.steps:Int)+1)).v) (by simp [results,results124,go_sem,s0,B,A,z,s4,u,l6,TN.v]) rfl ⟨by rw [C.out] <;> rfl,?_⟩;exact ((K5 (some ⟨J,K,none⟩) T.length cap w).trans (b.mono O0)).trans (U4 O0 _ _ _ _ _ _)
   have hc4:(y.code==4)=false:=by simpa using F
   by_cases h5:y.code=0
   · have r:=HD F h5
     clear HM HD HB3 F hc4;rw [h5] at y0
     go_wp2_with fail
     refine (c24 s.hand _ O0).mono ?_;rintro e V ⟨rfl,E⟩;obtain rfl:=E.symm;rw [I];go_wp2;go_roundw
     case rel=>
      refine ⟨⟨y.tx,s.out,s.pc+1,s.looks+1,s.steps+1⟩,rfl,rfl,by go_num,by go_num,by go_num,r.out.1,r.out.2,?_⟩;exact (c.alloc O0 _).alloc J4 _
     case measure=>simp [intOf];omega
   have C:=HB3 F h5;have hc5:(y.code !=0)=true:=by simpa using h5
   clear HM HD HB3
   go_wp2_with fail
   refine (c24 s.hand _ O0).mono ?_;rintro e V ⟨rfl,E⟩;obtain rfl:=E.symm;rw [I]
   go_wp2_with fail
   refine (Pf 5 s.hand ((s.steps:Int)+1) _).mono ?_;rintro e R ⟨rfl,q⟩;have b:=((c.alloc O0 _).alloc J4 _).trans (q.mono J4);clear d n m l j g f o q;obtain ⟨⟨d,n,m,l,j,g,f⟩,o⟩:=F6 b;go_wp2;obtain ⟨s0,B,A,z,s4,u⟩:=Ua (K8 b) (.bool true) (.int .i64 5) (.string s.hand) (.bool false) (.string ⟨#[]⟩) (.int .i64 ((s.steps:Int)+1));refine K4 (v:=(l6 5 s.hand ((s.steps:Int)+1)).v) (by simp [results,results124,go_sem,s0,B,A,z,s4,u,l6,TN.v]) rfl ⟨by rw [C.out] <;> rfl,?_⟩;exact ((K5 (some ⟨J,K,none⟩) T.length cap w).trans (b.mono O0)).trans (U4 O0 _ _ _ _ _ _)
 · have L:∀ t:TN,look ⟨4,tx,to⟩ nR s=.inr t->Hid (l9 T arg nR=t):=H
   have Q:∀ P:ST,look ⟨4,tx,to⟩ nR s=.inl P->Hid (Fit nR P/\On T arg nR P):=D;clear H D;by_cases X:J2 s.hand.data.toList=false
   · have C:=L _ (Zf X)
     clear L Q
     go_wp2_with fail
     refine (c24 s.hand _ O0).mono ?_;rintro e V ⟨rfl,E⟩;obtain rfl:=E.symm;rw [X]
     go_wp2_with fail
     refine (Pf 4 ⟨#[63]⟩ ((s.steps:Int)+1) _).mono ?_;rintro e R ⟨rfl,q⟩;have b:=(c.alloc O0 _).trans (q.mono J4);clear d n m l j g f o q;obtain ⟨⟨d,n,m,l,j,g,f⟩,o⟩:=F6 b;go_wp2;obtain ⟨s0,B,A,z,s4,u⟩:=Ua (K8 b) (.bool true) (.int .i64 4) (.string ⟨#[63]⟩) (.bool false) (.string ⟨#[]⟩) (.int .i64 ((s.steps:Int)+1));refine K4 (v:=(l6 4 ⟨#[63]⟩ ((s.steps:Int)+1)).v) (by simp [results,results124,go_sem,s0,B,A,z,s4,u,l6,TN.v]) rfl ⟨by rw [C.out] <;> rfl,?_⟩;exact ((K5 (some ⟨J,K,none⟩) T.length cap w).trans (b.mono O0)).trans (U4 O0 _ _ _ _ _ _)
   have I:J2 s.hand.data.toList=true:=by simpa using X
   clear X;by_cases W:14<=s.looks
   · have C:=L _ (lh I W)
     clear L Q
     go_wp2_with fail
     refine (c24 s.hand _ O0).mono ?_;rintro e V ⟨rfl,E⟩;obtain rfl:=E.symm;rw [I]
     go_wp2_with fail
     refine (Pf 3 ⟨#[]⟩ ((s.steps:Int)+1) _).mono ?_;rintro e R ⟨rfl,q⟩;have b:=(c.alloc O0 _).trans (q.mono J4);clear d n m l j g f o q;obtain ⟨⟨d,n,m,l,j,g,f⟩,o⟩:=F6 b;go_wp2;obtain ⟨s0,B,A,z,s4,u⟩:=Ua (K8 b) (.bool true) (.int .i64 3) (.string ⟨#[]⟩) (.bool false) (.string ⟨#[]⟩) (.int .i64 ((s.steps:Int)+1));refine K4 (v:=(l6 3 ⟨#[]⟩ ((s.steps:Int)+1)).v) (by simp [results,results124,go_sem,s0,B,A,z,s4,u,l6,TN.v]) rfl ⟨by rw [C.out] <;> rfl,?_⟩;exact ((K5 (some ⟨J,K,none⟩) T.length cap w).trans (b.mono O0)).trans (U4 O0 _ _ _ _ _ _)
   by_cases hlr:nR.length<=s.looks
   · have C:=L _ (Cj I W hlr)
     clear L Q
     go_wp2_with fail
     refine (c24 s.hand _ O0).mono ?_;rintro e V ⟨rfl,E⟩;obtain rfl:=E.symm;rw [I];have hbx:Below (w.heap.size+2) (W0 (some ⟨J,K,none⟩) T.length cap w) (wr.alloc (.cells #[.int .i64 4,.string tx,.int .i64 to] 165)):=c.alloc O0 _;have hxo:(wr.alloc (.cells #[.int .i64 4,.string tx,.int .i64 to] 165)).cell? ⟨wr.heap.size,0,none⟩=some (.int .i64 4):=X0;generalize (wr.alloc (.cells #[.int .i64 4,.string tx,.int .i64 to] 165))=wx at*;clear d n m l j g f o;obtain ⟨⟨d,n,m,l,j,g,f⟩,o⟩:=F6 hbx;go_wp2;obtain ⟨s0,B,A,z,s4,u⟩:=Ua (K8 hbx) (.bool false) (.int .i64 0) (.string ⟨#[]⟩) (.bool true) (.string s.hand) (.int .i64 ((s.steps:Int)+1));refine K4 (v:=(TN.mk false 0 ⟨#[]⟩ true s.hand ((s.steps:Int)+1)).v) (by simp [results,results124,go_sem,s0,B,A,z,s4,u,TN.v]) rfl ⟨by rw [C.out] <;> rfl,?_⟩;exact ((K5 (some ⟨J,K,none⟩) T.length cap w).trans (hbx.mono O0)).trans (U4 O0 _ _ _ _ _ _)
   have S:s.looks<nR.length:=O0;rcases HC.out with hss | ⟨ha2,Z,N⟩
   · rw [hss] at S;exact absurd S (F5 _)
   subst ha2;have y0:=(U.cell (p:=⟨Y,roff+s.looks*2,none⟩) Z).trans (N s.looks S).1;have y1:=(U.cell (p:=⟨Y,roff+s.looks*2+1,none⟩) Z).trans (N s.looks S).2;have a0s:Y<wr.heap.size:=O0;have hys:(nR.getD s.looks Jc).tx.size<=300:=by have h:=Ai (OA AV.out S);simpa using h
   have HY:=fun F=>Q _ (uC (tx:=tx) (to:=to) I W hlr F);have HN:=fun F=>Q _ (vB (tx:=tx) (to:=to) I W hlr F);generalize nR.getD s.looks Jc=y at*;clear N L Q;by_cases F:y.code=4
   · have r:=HY F
     clear HY HN;rw [F] at y0
     go_wp2_with fail
     refine (c24 s.hand _ O0).mono ?_;rintro e V ⟨rfl,E⟩;obtain rfl:=E.symm;rw [I];go_wp2;go_roundw
     case rel=>
      refine ⟨⟨⟨#[48]⟩,s.out,s.pc+1,s.looks+1,s.steps+1⟩,rfl,rfl,by go_num,by go_num,by go_num,r.out.1,r.out.2,?_⟩;exact (c.alloc O0 _).alloc J4 _
     case measure=>simp [intOf];omega
   have r:=HN F;have hc4:(y.code==4)=false:=by simpa using F
   clear HY HN
   go_wp2_with fail
   refine (c24 s.hand _ O0).mono ?_;rintro e V ⟨rfl,E⟩;obtain rfl:=E.symm;rw [I];go_wp2;go_roundw
   case rel=>
    refine ⟨⟨⟨#[49]⟩,s.out,s.pc+1,s.looks+1,s.steps+1⟩,rfl,rfl,by go_num,by go_num,by go_num,r.out.1,r.out.2,?_⟩;exact (c.alloc O0 _).alloc J4 _
   case measure=>simp [intOf];omega
 · by_cases xR:300<s.out.length+s.hand.size
   rotate_left
   · have r:=D ⟨s.hand,s.out++s.hand.data.toList,s.pc+1,s.looks,s.steps+1⟩ (YF xR)
     clear D H;go_wp2;go_roundw
     case rel=>
      refine ⟨⟨s.hand,s.out++s.hand.data.toList,s.pc+1,s.looks,s.steps+1⟩,rfl,by rw [<- FI],by go_num,by go_num,by go_num,r.out.1,r.out.2,?_⟩;exact c.alloc O0 _
     case measure=>simp [intOf];omega
   have C:=H _ (wE xR);clear D H
   go_wp2_with fail
   refine (Rs s.pc _ O0).mono ?_;rintro e wD ⟨rfl,hbD⟩;have hbd:=(c.alloc O0 _).trans (hbD.mono J4)
   go_wp2_with fail
   refine (Pf 2 (Q3 (Lib.decDigits s.pc)) ((s.steps:Int)+1) _).mono ?_;rintro e R ⟨rfl,q⟩;have b:=hbd.trans (q.mono (by have:=hbd.size;rw [Aa] at this;simp;omega));clear d n m l j g f o q;obtain ⟨⟨d,n,m,l,j,g,f⟩,o⟩:=F6 b;go_wp2;obtain ⟨s0,B,A,z,s4,u⟩:=Ua (K8 b) (.bool true) (.int .i64 2) (.string (Q3 (Lib.decDigits s.pc))) (.bool false) (.string ⟨#[]⟩) (.int .i64 ((s.steps:Int)+1));refine K4 (v:=(l6 2 (Q3 (Lib.decDigits s.pc)) ((s.steps:Int)+1)).v) (by simp [results,results124,go_sem,s0,B,A,z,s4,u,l6,TN.v]) rfl ⟨by rw [C.out] <;> rfl,?_⟩;exact ((K5 (some ⟨J,K,none⟩) T.length cap w).trans (b.mono O0)).trans (U4 O0 _ _ _ _ _ _)
 · by_cases xR:300<s.hand.size+tx.size
   rotate_left
   · have r:=D ⟨s.hand++tx,s.out,s.pc+1,s.looks,s.steps+1⟩ (KF xR)
     clear D H;go_wp2;go_roundw
     case rel=>
      refine ⟨⟨s.hand++tx,s.out,s.pc+1,s.looks,s.steps+1⟩,rfl,rfl,by go_num,by go_num,by go_num,r.out.1,r.out.2,?_⟩;exact c.alloc O0 _
     case measure=>simp [intOf];omega
   have C:=H _ (FE xR);clear D H
   go_wp2_with fail
   refine (Rs s.pc _ O0).mono ?_;rintro e wD ⟨rfl,hbD⟩;have hbd:=(c.alloc O0 _).trans (hbD.mono J4)
   go_wp2_with fail
   refine (Pf 2 (Q3 (Lib.decDigits s.pc)) ((s.steps:Int)+1) _).mono ?_;rintro e R ⟨rfl,q⟩;have b:=hbd.trans (q.mono (by have:=hbd.size;rw [Aa] at this;simp;omega));clear d n m l j g f o q;obtain ⟨⟨d,n,m,l,j,g,f⟩,o⟩:=F6 b;go_wp2;obtain ⟨s0,B,A,z,s4,u⟩:=Ua (K8 b) (.bool true) (.int .i64 2) (.string (Q3 (Lib.decDigits s.pc))) (.bool false) (.string ⟨#[]⟩) (.int .i64 ((s.steps:Int)+1));refine K4 (v:=(l6 2 (Q3 (Lib.decDigits s.pc)) ((s.steps:Int)+1)).v) (by simp [results,results124,go_sem,s0,B,A,z,s4,u,l6,TN.v]) rfl ⟨by rw [C.out] <;> rfl,?_⟩;exact ((K5 (some ⟨J,K,none⟩) T.length cap w).trans (b.mono O0)).trans (U4 O0 _ _ _ _ _ _)
 · have hls:=Cq s.hand to
   have r:=D ⟨Vb s.hand to,s.out,s.pc+1,s.looks,s.steps+1⟩ (XE);clear D H
   go_wp2_with fail
   refine (pO s.hand to _ O0 o4).mono ?_;rintro e wL ⟨rfl,hbL⟩;have hbl:=(c.alloc O0 _).trans (hbL.mono J4);clear hbL;go_wp2;go_roundw
   case rel=>
    refine ⟨⟨Vb s.hand to,s.out,s.pc+1,s.looks,s.steps+1⟩,rfl,rfl,by go_num,by go_num,by go_num,r.out.1,r.out.2,?_⟩;exact hbl
   case measure=>simp [intOf];omega
 · by_cases heq:s.hand.data.toList=tx.data.toList
   · have heq':(s.hand.toList==tx.toList)=true:=by rw [I7,I7];simpa using heq
     have r:=D ⟨s.hand,s.out,to.toNat,s.looks,s.steps+1⟩ (yG heq);clear D H;go_wp2;go_roundw
     case rel=>
      refine ⟨⟨s.hand,s.out,to.toNat,s.looks,s.steps+1⟩,rfl,rfl,by go_num,by go_num,by go_num,r.out.1,r.out.2,?_⟩;exact c.alloc O0 _
     case measure=>simp [intOf];omega
   have heq':(s.hand.toList==tx.toList)=false:=by rw [I7,I7];simpa using heq
   have r:=D ⟨s.hand,s.out,s.pc+1,s.looks,s.steps+1⟩ (rE heq);clear D H;go_wp2;go_roundw
   case rel=>
    refine ⟨⟨s.hand,s.out,s.pc+1,s.looks,s.steps+1⟩,rfl,rfl,by go_num,by go_num,by go_num,r.out.1,r.out.2,?_⟩;exact c.alloc O0 _
   case measure=>simp [intOf];omega
 · have r:=D ⟨s.hand,s.out,to.toNat,s.looks,s.steps+1⟩ (nK)
   clear D H;go_wp2;go_roundw
   case rel=>
    refine ⟨⟨s.hand,s.out,to.toNat,s.looks,s.steps+1⟩,rfl,rfl,by go_num,by go_num,by go_num,r.out.1,r.out.2,?_⟩;exact c.alloc O0 _
   case measure=>simp [intOf];omega
 · have C:=H _ MF
   clear D H
   go_wp2_with fail
   refine (Pf 0 (Q3 s.out) ((s.steps:Int)+1) _).mono ?_;rintro e R ⟨rfl,q⟩;have b:=(c.alloc O0 _).trans (q.mono J4);clear d n m l j g f o q;obtain ⟨⟨d,n,m,l,j,g,f⟩,o⟩:=F6 b;go_wp2;obtain ⟨s0,B,A,z,s4,u⟩:=Ua (K8 b) (.bool true) (.int .i64 0) (.string (Q3 s.out)) (.bool false) (.string ⟨#[]⟩) (.int .i64 ((s.steps:Int)+1));refine K4 (v:=(l6 0 (Q3 s.out) ((s.steps:Int)+1)).v) (by simp [results,results124,go_sem,s0,B,A,z,s4,u,l6,TN.v]) rfl ⟨by rw [C.out] <;> rfl,?_⟩;exact ((K5 (some ⟨J,K,none⟩) T.length cap w).trans (b.mono O0)).trans (U4 O0 _ _ _ _ _ _)
 have C:=H _ IE;clear D H
 go_wp2_with fail
 refine (Pf 1 s.hand ((s.steps:Int)+1) _).mono ?_;rintro e R ⟨rfl,q⟩;have b:=(c.alloc O0 _).trans (q.mono J4);clear d n m l j g f o q;obtain ⟨⟨d,n,m,l,j,g,f⟩,o⟩:=F6 b;go_wp2;obtain ⟨s0,B,A,z,s4,u⟩:=Ua (K8 b) (.bool true) (.int .i64 1) (.string s.hand) (.bool false) (.string ⟨#[]⟩) (.int .i64 ((s.steps:Int)+1));refine K4 (v:=(l6 1 s.hand ((s.steps:Int)+1)).v) (by simp [results,results124,go_sem,s0,B,A,z,s4,u,l6,TN.v]) rfl ⟨by rw [C.out] <;> rfl,?_⟩;exact ((K5 (some ⟨J,K,none⟩) T.length cap w).trans (b.mono O0)).trans (U4 O0 _ _ _ _ _ _)
end Go.Proofs.YtdjaajjndfbpmaaGreatDoor

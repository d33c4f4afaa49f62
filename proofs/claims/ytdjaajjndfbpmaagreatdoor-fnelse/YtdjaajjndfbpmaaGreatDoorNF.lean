import Derived.Test.YtdjaajjndfbpmaaGreatDoorND
import Derived.Test.YtdjaajjndfbpmaaGreatDoorZ22
set_option linter.unusedVariables false
set_option maxHeartbeats 8000000
set_option maxRecDepth 100000
namespace Go.Proofs.YtdjaajjndfbpmaaGreatDoor
open Proofs.Tryz
open Go.RowKit
variable {T:List I3} {b base base' k:Nat} {w w':World} {r:RC} {a:Option Addr} {rs:List R2}
theorem JE (h:Zd T=true):T.all Zb=true:=by
 unfold Zd at h;simp only [V7] at h;exact h.2
theorem pE (h:Zd T=true):T.length<=40:=by
 unfold Zd at h;simp only [V7,Q_] at h;exact h.1.2
def acts (b:Nat):Array Value:=#[.nilFunc,met b 174,met b 175,met b 176,met b 177,met b 178,met b 179,met b 180,met b 181,met b 182,met b 183,met b 184]
def VE (b:Nat) (w:World):Nat:=match w.cell? ⟨b,8,none⟩,w.cell? ⟨b,14,none⟩ with
 | some (.bool false),some (.int _ n)=>1+(201 - n.toNat)
 | _,_=>0
theorem aD (h:E5 w b r) (a:r.halted=true):VE b w=0:=by
 have YB:w.cell? ⟨b,8,none⟩=some (.bool true):=by rw [U3 h 8,<- a];rfl
 unfold VE;rw [YB]
theorem Kt (h:E5 w b r) (c:r.halted=false) (a:r.steps=k):VE b w=1+(201 - k):=by
 have YB:w.cell? ⟨b,8,none⟩=some (.bool false):=by rw [U3 h 8,<- c];rfl
 have d:w.cell? ⟨b,14,none⟩=some (.int .i64 k):=by rw [U3 h 14,<- a];rfl
 unfold VE;rw [YB,d];simp
def UH (base b:Nat) (w:World) (a:Option Addr) (T:List I3):Prop:=T=[]\/∃ ib off,a=some ⟨ib,off,none⟩/\ib<base/\ib≠b/\∀ i,i<T.length->w.cell? ⟨ib,off+i*3,none⟩=some (.int .i64 (T.getD i A_).op)/\w.cell? ⟨ib,off+i*3+1,none⟩=some (.string (T.getD i A_).tx)/\w.cell? ⟨ib,off+i*3+2,none⟩=some (.int .i64 (T.getD i A_).to)
theorem yH (h:UH base b w a T) (d:Kp base' b w w') (hle:base<=base'):UH base b w' a T:=by
 rcases h with h | ⟨c,e,h1,h2,h3,g⟩
 · exact .inl h
 refine .inr ⟨c,e,h1,h2,h3,fun i f=>?_⟩;rw [d.cell (by show c<base';omega) h3,d.cell (by show c<base';omega) h3,d.cell (by show c<base';omega) h3];exact g i f
theorem MI (h:Er base b w a rs) (d:Kp base' b w w') (hle:base<=base'):Er base b w' a rs:=by
 rcases h with h | ⟨c,e,h1,h2,h3,g⟩
 · exact .inl h
 refine .inr ⟨c,e,h1,h2,h3,fun i f=>?_⟩;rw [d.cell (by show c<base';omega) h3,d.cell (by show c<base';omega) h3];exact g i f
theorem KD (h:Er base b w a rs) (hle:base<=base'):Er base' b w a rs:=by
 rcases h with h | ⟨d,c,h1,h2,h3,e⟩
 · exact .inl h
 exact .inr ⟨d,c,h1,O0,h3,e⟩
theorem oG (h:Z9 w) (a:Kp base b w w') (h1:1<base) (c:b≠1):Z9 w':=by
 obtain ⟨h2,m,h3⟩:=h;exact ⟨D7 h2 a.size,m,by rw [a.cell (by exact h1) (by exact c.symm)];exact h3⟩
theorem c145 (b:Nat) (a:Option Addr) (cap:Nat) (T:List I3) (arg:ByteArray) (a2:Option Addr) (cap2:Nat) (nR:List R2) (w:World)
 (L:E5 w b (Si (.pointer none) (.slice none 0 0) arg (.slice a2 nR.length cap2) 0 s0)) (hins:UH w.heap.size b w a T) (hrep:Er w.heap.size b w a2 nR) (O:Z9 w) (Q:b≠1) (N:Zd T=true) (uY:arg.size<=300) (hrl:nR.length<=14) (hokr:Tp nR=true):
 Calls prog 145 #[.pointer (some ⟨b,0,none⟩),.slice a T.length cap] w fun e w'=>e=.returned (.tuple #[])/\Dead b w' (fin T arg nR)/\Kp w.heap.size b w w':=by
 have hsm:∀ (w:World) (a:Addr) (b f:Nat) (m:Mode),(store a (met b f) m).run prog w=stored prog w a (met b f) m:=fun w a b f m=>run_store _ _ _ _ _ rfl;have hsn:∀ (w:World) (a:Addr) (m:Mode),(store a .nilFunc m).run prog w=stored prog w a .nilFunc m:=fun w a m=>run_store _ _ _ _ _ rfl;have a2j:=Q0 L;have iU:=Q0 hins;have a0t:=Q0 hrep;have a0u:=Q0 O;have hlt:=C_ L;have hone:=O.1;have uS:=Q0 (JE N);have tY:=pE N;have a0v:=Q0 hokr;clear L hins hrep O N hokr;go_enter func145,ntmps145
 go_wp2_with fail
 refine (c164 b w).mono ?_;rintro e w1 ⟨rfl,P⟩;have hz1:=P.size;have S:Below w.heap.size w (w1.alloc (.cells (acts b) 256)):=P.alloc hz1 _;have hA:∀ j,(w1.alloc (.cells (acts b) 256)).cell? ⟨w1.heap.size,j,none⟩=(acts b)[j]?:=fun j=>X0;have HA:=Q0 hA;have HB:=Q0 S;have HST:Hid (St (w1.heap.size+1) b (w1.alloc (.cells (acts b) 256)) (Si (.pointer none) (.slice none 0 0) arg (.slice a2 nR.length cap2) 0 s0) []):=⟨O0,X0,Tt a2j.out S,.inl rfl,F9 _ _ _ _⟩;have hsz:(w1.alloc (.cells (acts b) 256)).heap.size=w1.heap.size+1:=X0
 go_wp2_with fail
 change Code.wp _ _ _ _ (w1.alloc (.cells (acts b) 256));clear hA S P hsm hsn;generalize (w1.alloc (.cells (acts b) 256))=wA at*;have hbase:=hz1;generalize w1.heap.size=B at*;go_loopw [8] (fun _ wr=>((∃ s,Hid (Fit nR s)/\Hid (On T arg nR s)/\Hid (Live (B+1) b arg (.slice a2 nR.length cap2) s.pc wr s))\/Hid (Dead b wr (fin T arg nR)))/\Hid (Kp (B+1) b wA wr)) (fun _ wr=>VE b wr)
 case atStart=>exact ⟨.inl ⟨s0,jo nR,jy T arg nR,⟨_,_,HST.out⟩⟩,Kp.refl _ _ _⟩
 obtain ⟨hrr,D⟩:=hrel;have q:=Q0 ((Kp.of_below HB.out P9).trans (D.out.mono O0));rcases hrr with ⟨s,k,ho,hL⟩ | hD;rotate_left
 · obtain ⟨r,hr,hh,ht⟩:=hD.out
   have YB:wr.cell? ⟨b,8,none⟩=some (.bool true):=by rw [U3 hr 8,<- hh];rfl
   clear hr hh ht;go_wp2
   go_end0
   exact ⟨rfl,hD.out,q.out⟩
 obtain ⟨p,v,d⟩:=hL.out;have E:=Q0 d;have hM0:=Q0 (Kt d.run rfl rfl);obtain ⟨f1,f2,f3,f4,f5,f6⟩:=k.out;have YB:wr.cell? ⟨b,8,none⟩=some (.bool false):=U3 d.run 8;have cx6:wr.cell? ⟨b,6,none⟩=some (.int .i64 s.pc):=U3 d.run 6;have TZ:wr.cell? ⟨b,7,none⟩=some (.int .i64 s.pc):=U3 d.run 7;have a3T:wr.cell? ⟨b,14,none⟩=some (.int .i64 s.steps):=U3 d.run 14;have g6:=V6 d.run 6;have g7:=V6 d.run 7;have g14:=V6 d.run 14;have a3U:=C_ d.run;have a2k:=d.le;clear d hL;by_cases hpc:T.length<=s.pc
 · have X:=Q0 (oH hpc k.out ho.out)
   clear k ho
   go_wp2_with fail
   refine (uK (B+1) b _ s.pc _ E.out.run rfl O0).mono ?_;rintro e I ⟨rfl,h2,y⟩;have H2:Hid (E5 I b _):=h2;have V:=Q0 (q.out.trans (y.mono O0));clear h2 y;go_wp2;refine K4 (ig rfl _ _ _) rfl ?_;exact ⟨rfl,⟨_,H2.out,rfl,by rw [X.out];rfl⟩,V.out⟩
 by_cases C:s.steps=200
 · have X:=Q0 (zt O0 C ho.out)
   have hst':((s.steps:Int)==200)=true:=by rw [C];rfl
   clear k ho C
   go_wp2_with fail
   refine (Wx (B+1) b _ 3 ⟨#[]⟩ _ E.out.run).mono ?_;rintro e I ⟨rfl,h2,y⟩;have H2:Hid (E5 I b _):=h2;have V:=Q0 (q.out.trans (y.mono O0));clear h2 y;go_wp2;refine K4 (ig rfl _ _ _) rfl ?_;exact ⟨rfl,⟨_,H2.out,rfl,by rw [X.out];rfl⟩,V.out⟩
 have n:s.pc<T.length:=O0;have K:s.steps<200:=O0;have hst':((s.steps:Int)==200)=false:=by simp only [Gi];omega
 clear C hpc;rcases (yH iU.out q.out P9) with hss | ⟨ib,a3V,ha,hib,a3W,hcell⟩
 · rw [hss] at n;exact absurd n (F5 _)
 subst ha;obtain ⟨x0,x1,x2⟩:=hcell s.pc n;have a3X:ib<wr.heap.size:=O0;obtain ⟨o1,_,_,J,o5,o6⟩:=m_ (Vq uS.out n);generalize hx:T.getD s.pc A_=x at*;have U:=Q0 hx;clear hx hcell;obtain ⟨op,tx,to⟩:=x;simp only at x0 x1 x2 o1 J o5 o6;obtain ⟨R,A⟩:∃ R,R=act arg nR ⟨op,tx,to⟩ s:=⟨_,rfl⟩;have W:∀ c:ST,R=.inl c->c.steps=s.steps+1/\Hid (Fit nR c/\On T arg nR c):=fun c e=>⟨ut (A.symm.trans e),GJ U.out n tY K uS.out uY a0v.out k.out ho.out (A.symm.trans e)⟩;have Y:∀ t:TN,R=.inr t->Hid (fin T arg nR=t):=fun t e=>gF U.out n K ho.out (A.symm.trans e);have h:Hid (∀ j,wr.cell? ⟨B,j,none⟩=(acts b)[j]?):=fun j=>by rw [D.out.cell X0 (by show B≠b;omega)];exact HA.out j
 have HU:Hid (∀ o:Obj,St (B+1) b (((wr.setCell ⟨b,14,none⟩ (.int .i64 ((s.steps:Int)+1))).setCell ⟨b,7,none⟩ (.int .i64 ((s.pc:Int)+1))).alloc o).drew (Si p v arg (.slice a2 nR.length cap2) s.pc s.up) s.out):=fun o=>by
  have h1:St (B+1) b (wr.setCell ⟨b,14,none⟩ (.int .i64 ((s.steps:Int)+1))) (Si p v arg (.slice a2 nR.length cap2) s.pc ⟨s.hand,s.out,s.pc,s.looks,s.steps+1⟩) s.out:=E.out.set 14 _ rfl rfl rfl;have h2:St (B+1) b ((wr.setCell ⟨b,14,none⟩ (.int .i64 ((s.steps:Int)+1))).setCell ⟨b,7,none⟩ (.int .i64 ((s.pc:Int)+1))) (Si p v arg (.slice a2 nR.length cap2) s.pc s.up) s.out:=h1.set 7 _ rfl rfl rfl;exact h2.below bA.drew
 have F:Hid (∀ o:Obj,Kp (B+1) b wr (((wr.setCell ⟨b,14,none⟩ (.int .i64 ((s.steps:Int)+1))).setCell ⟨b,7,none⟩ (.int .i64 ((s.pc:Int)+1))).alloc o).drew):=fun o=>((((Kp.refl _ _ _).set 14 _).set 7 _).alloc (by simpa using a2k) _).drew;have g:Hid (∀ o:Obj,Met (B+1) b arg nR a2 cap2 s tx to (((wr.setCell ⟨b,14,none⟩ (.int .i64 ((s.steps:Int)+1))).setCell ⟨b,7,none⟩ (.int .i64 ((s.pc:Int)+1))).alloc o).drew):=fun o=>
  ⟨k.out,a0v.out,hrl,KD (MI a0t.out (q.out.trans ((F.out o).mono O0)) P9) O0,⟨O0,Q,oG (oG a0u.out q.out hone Q) (F.out o) O0 Q⟩,uY,O0,J,o5,O0,K,⟨p,v,HU.out o⟩⟩
 have hBb:B<wr.heap.size:=O0;have a3Y:B≠b:=by have:=E.out.lt;omega
 clear k ho U HU HB iU a0t a0u;obtain ⟨to,rfl⟩:=A8 J;have q1:wr.cell? ⟨B,1,none⟩=some (.func (.func 174) #[.pointer (some ⟨b,0,none⟩)] #[]):=h.out 1;have q2:wr.cell? ⟨B,2,none⟩=some (.func (.func 175) #[.pointer (some ⟨b,0,none⟩)] #[]):=h.out 2;have q3:wr.cell? ⟨B,3,none⟩=some (.func (.func 176) #[.pointer (some ⟨b,0,none⟩)] #[]):=h.out 3;have q4:wr.cell? ⟨B,4,none⟩=some (.func (.func 177) #[.pointer (some ⟨b,0,none⟩)] #[]):=h.out 4;have q5:wr.cell? ⟨B,5,none⟩=some (.func (.func 178) #[.pointer (some ⟨b,0,none⟩)] #[]):=h.out 5;have q6:wr.cell? ⟨B,6,none⟩=some (.func (.func 179) #[.pointer (some ⟨b,0,none⟩)] #[]):=h.out 6;have q7:wr.cell? ⟨B,7,none⟩=some (.func (.func 180) #[.pointer (some ⟨b,0,none⟩)] #[]):=h.out 7;have q8:wr.cell? ⟨B,8,none⟩=some (.func (.func 181) #[.pointer (some ⟨b,0,none⟩)] #[]):=h.out 8;have q9:wr.cell? ⟨B,9,none⟩=some (.func (.func 182) #[.pointer (some ⟨b,0,none⟩)] #[]):=h.out 9;have q10:wr.cell? ⟨B,10,none⟩=some (.func (.func 183) #[.pointer (some ⟨b,0,none⟩)] #[]):=h.out 10;have q11:wr.cell? ⟨B,11,none⟩=some (.func (.func 184) #[.pointer (some ⟨b,0,none⟩)] #[]):=h.out 11;have HR:=Q0 A;clear A;obtain rfl | rfl | rfl | rfl | rfl | rfl | rfl | rfl | rfl | rfl | rfl:op=1\/op=2\/op=3\/op=4\/op=5\/op=6\/op=7\/op=8\/op=9\/op=10\/op=11:=O0
 all_goals
  clear h HA HST
  go_wp2_with fail
  go_region_with ((first | (go_at_call 174;refine (tQ (B+1) b arg nR a2 cap2 s tx to _ (g.out _)).mono ?_) | (go_at_call 175;refine (WQ (B+1) b arg nR a2 cap2 s tx to _ (g.out _)).mono ?_) | (go_at_call 176;refine (oQ (B+1) b arg nR a2 cap2 s tx to _ (g.out _)).mono ?_) | (go_at_call 177;refine (mQ (B+1) b arg nR a2 cap2 s tx to _ (g.out _)).mono ?_) | (go_at_call 178;refine (BQ (B+1) b arg nR a2 cap2 s tx to _ (g.out _)).mono ?_) | (go_at_call 179;refine (JQ (B+1) b arg nR a2 cap2 s tx to _ (g.out _)).mono ?_) | (go_at_call 180;refine (CQ (B+1) b arg nR a2 cap2 s tx to _ (g.out _)).mono ?_) | (go_at_call 181;refine (aR (B+1) b arg nR a2 cap2 s tx to _ (g.out _)).mono ?_) | (go_at_call 182;refine (OQ (B+1) b arg nR a2 cap2 s tx to _ (g.out _)).mono ?_) | (go_at_call 183;refine (xQ (B+1) b arg nR a2 cap2 s tx to _ (g.out _)).mono ?_) | (go_at_call 184;refine (WO (B+1) b arg nR a2 cap2 s tx to _ (g.out _)).mono ?_));rintro e l ⟨rfl,h3,hk3⟩;rw [<- HR.out] at h3;have Z:=Q0 h3;have UU:=Q0 ((F.out _).trans hk3);clear h3 hk3)
 all_goals
  clear g F HR;have hL3:=Z.out;rcases R with c | t
  · obtain ⟨p3,v3,z⟩:=hL3
    obtain ⟨a3Z,H⟩:=W c rfl;have KR:=Q0 z;have d7:l.cell? ⟨b,7,none⟩=some (.int .i64 c.pc):=U3 z.run 7;have d6:l.cell? ⟨b,6,none⟩=some (.int .i64 s.pc):=U3 z.run 6;have e6:=V6 z.run 6;clear z Z W Y;go_wp2;go_roundw
    case rel=>exact ⟨.inl ⟨c,H.out.1,H.out.2,⟨p3,v3,KR.out.set 6 _ rfl rfl rfl⟩⟩,D.out.trans (UU.out.set 6 _)⟩
    case measure=>
     have h1:E5 (l.setCell ⟨b,6,none⟩ (.int .i64 c.pc)) b (Si p3 v3 arg (.slice a2 nR.length cap2) c.pc c):=run_set KR.out.run 6 _ rfl;rw [hM0.out,Kt h1 rfl rfl];omega
  obtain ⟨i,u,hh3,ht3⟩:=hL3;have H:=Y t rfl;have HR3:=Q0 u;have HH3:=Q0 hh3;have HT3:=Q0 ht3;have d7:l.cell? ⟨b,7,none⟩=some (.int .i64 i.next):=U3 u 7;have d6:l.cell? ⟨b,6,none⟩=some (.int .i64 i.place):=U3 u 6;have e6:=V6 u 6;clear u hh3 ht3 Z W Y;go_wp2;go_roundw
  case rel=>
   refine ⟨.inr ⟨{ i with place:=i.next },run_set HR3.out 6 _ rfl,HH3.out,?_⟩,D.out.trans (UU.out.set 6 _)⟩;rw [H.out,<- HT3.out];rfl
  case measure=>
   have h1:E5 (l.setCell ⟨b,6,none⟩ (.int .i64 i.next)) b { i with place:=i.next }:=run_set HR3.out 6 _ rfl;rw [hM0.out,aD h1 HH3.out];omega
end Go.Proofs.YtdjaajjndfbpmaaGreatDoor

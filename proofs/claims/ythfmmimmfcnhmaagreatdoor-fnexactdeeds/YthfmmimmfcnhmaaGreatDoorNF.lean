import Derived.Test.YthfmmimmfcnhmaaGreatDoorND
import Derived.Test.YthfmmimmfcnhmaaGreatDoorZ22
set_option maxHeartbeats 8000000
set_option maxRecDepth 100000
namespace Go.Proofs.YthfmmimmfcnhmaaGreatDoor
open Proofs.Tryz
open Go.RowKit
variable {T:List I3} {b base base' k:Nat} {w w':World} {r:RC} {a:Option Addr} {rs:List R2}
theorem okT_allF (h:okT T=true):T.all okI=true:=by
 unfold okT at h
 simp only [Bool.and_eq_true] at h
 exact h.2
theorem okT_lenF (h:okT T=true):T.length<=40:=by
 unfold okT at h
 simp only [Bool.and_eq_true,decide_eq_true_eq] at h
 exact h.1.2
def acts (b:Nat):Array Value:=#[.nilFunc,met b 165,met b 166,met b 167,met b 168,met b 169,met b 170,met b 171,met b 172,met b 173,met b 174,met b 175]
def mrun (b:Nat) (w:World):Nat:=match w.cell? ⟨b,8,none⟩,w.cell? ⟨b,14,none⟩ with
 | some (.bool false),some (.int _ n)=>1+(201 - n.toNat)
 | _,_=>0
theorem mrun_dead (h:RunAt w b r) (hh:r.halted=true):mrun b w=0:=by
 have c121:w.cell? ⟨b,8,none⟩=some (.bool true):=by rw [run_cell h 8,<- hh];rfl
 unfold mrun
 rw [c121]
theorem mrun_live (h:RunAt w b r) (hh:r.halted=false) (hk:r.steps=k):mrun b w=1+(201 - k):=by
 have c121:w.cell? ⟨b,8,none⟩=some (.bool false):=by rw [run_cell h 8,<- hh];rfl
 have cx14:w.cell? ⟨b,14,none⟩=some (.int .i64 k):=by rw [run_cell h 14,<- hk];rfl
 unfold mrun
 rw [c121,cx14]
 simp
def InsB (base b:Nat) (w:World) (a:Option Addr) (T:List I3):Prop:=T=[]\/∃ ib off,a=some ⟨ib,off,none⟩/\ib<base/\ib≠b/\∀ i,i<T.length->w.cell? ⟨ib,off+i*3,none⟩=some (.int .i64 (T.getD i i3z).op)/\w.cell? ⟨ib,off+i*3+1,none⟩=some (.string (T.getD i i3z).tx)/\w.cell? ⟨ib,off+i*3+2,none⟩=some (.int .i64 (T.getD i i3z).to)
theorem insB_kp (h:InsB base b w a T) (hk:Kp base' b w w') (hle:base<=base'):InsB base b w' a T:=by
 rcases h with h | ⟨ib,off,h1,h2,h3,h4⟩
 · exact .inl h
 refine .inr ⟨ib,off,h1,h2,h3,fun i hi=>?_⟩
 rw [hk.cell (by show ib<base';omega) h3,hk.cell (by show ib<base';omega) h3,hk.cell (by show ib<base';omega) h3]
 exact h4 i hi
theorem repB_kp (h:RepAt base b w a rs) (hk:Kp base' b w w') (hle:base<=base'):RepAt base b w' a rs:=by
 rcases h with h | ⟨ib,off,h1,h2,h3,h4⟩
 · exact .inl h
 refine .inr ⟨ib,off,h1,h2,h3,fun i hi=>?_⟩
 rw [hk.cell (by show ib<base';omega) h3,hk.cell (by show ib<base';omega) h3]
 exact h4 i hi
theorem repB_mono (h:RepAt base b w a rs) (hle:base<=base'):RepAt base' b w a rs:=by
 rcases h with h | ⟨ib,off,h1,h2,h3,h4⟩
 · exact .inl h
 exact .inr ⟨ib,off,h1,by omega,h3,h4⟩
theorem max_kp (h:MaxAt w) (hk:Kp base b w w') (h1:0<base) (hb:b≠0):MaxAt w':=by
 obtain ⟨h2,m,h3⟩:=h
 exact ⟨Nat.lt_of_lt_of_le h2 hk.size,m,by rw [hk.cell (by exact h1) (by exact hb.symm)];exact h3⟩
theorem c139 (b:Nat) (a:Option Addr) (cap:Nat) (T:List I3) (arg:ByteArray) (a2:Option Addr) (cap2:Nat) (reps:List R2) (w:World)
 (hrun:RunAt w b (rcL (.pointer none) (.slice none 0 0) arg (.slice a2 reps.length cap2) 0 s0)) (hins:InsB w.heap.size b w a T) (hrep:RepAt w.heap.size b w a2 reps) (hmax:MaxAt w) (hb1:b≠0) (hok:okT T=true) (harg:arg.size<=300) (hrl:reps.length<=14) (hokr:okR reps=true):
 Calls prog 139 #[.pointer (some ⟨b,0,none⟩),.slice a T.length cap] w fun e w'=>e=.returned (.tuple #[])/\Dead b w' (fin T arg reps)/\Kp w.heap.size b w w':=by
 have hsm:∀ (w:World) (a:Addr) (b f:Nat) (m:Mode),(store a (met b f) m).run prog w=stored prog w a (met b f) m:=fun w a b f m=>run_store _ _ _ _ _ rfl
 have hsn:∀ (w:World) (a:Addr) (m:Mode),(store a .nilFunc m).run prog w=stored prog w a .nilFunc m:=fun w a m=>run_store _ _ _ _ _ rfl
 have HRUN:Hid (RunAt w b (rcL (.pointer none) (.slice none 0 0) arg (.slice a2 reps.length cap2) 0 s0)):=hrun
 have HINS:Hid (InsB w.heap.size b w a T):=hins
 have HREP:Hid (RepAt w.heap.size b w a2 reps):=hrep
 have HMAX:Hid (MaxAt w):=hmax
 have hlt:=run_lt hrun
 have hone:0<w.heap.size:=hmax.1
 have HALL:Hid (T.all okI=true):=okT_allF hok
 have hT40:=okT_lenF hok
 have HOKR:Hid (okR reps=true):=hokr
 clear hrun hins hrep hmax hok hokr
 go_enter func139,ntmps139
 go_wp2_with fail
 refine (c155 b w).mono ?_
 rintro e w1 ⟨rfl,hbe1⟩
 have hz1:w.heap.size<=w1.heap.size:=hbe1.size
 have hBA:Below w.heap.size w (w1.alloc (.cells (acts b) 248)):=hbe1.alloc hz1 _
 have hA:∀ j,(w1.alloc (.cells (acts b) 248)).cell? ⟨w1.heap.size,j,none⟩=(acts b)[j]?:=fun j=>by simp
 have HA:Hid (∀ j,(w1.alloc (.cells (acts b) 248)).cell? ⟨w1.heap.size,j,none⟩=(acts b)[j]?):=hA
 have HB:Hid (Below w.heap.size w (w1.alloc (.cells (acts b) 248))):=hBA
 have HST:Hid (St (w1.heap.size+1) b (w1.alloc (.cells (acts b) 248)) (rcL (.pointer none) (.slice none 0 0) arg (.slice a2 reps.length cap2) 0 s0) []):=⟨by omega,by simp,run_below HRUN.out hBA,.inl rfl,World.ownsRow_nil _ _ _ _⟩
 have hsz:(w1.alloc (.cells (acts b) 248)).heap.size=w1.heap.size+1:=by simp
 go_wp2_with fail
 change Code.wp _ _ _ _ (w1.alloc (.cells (acts b) 248))
 clear hA hBA hbe1 hsm hsn
 generalize (w1.alloc (.cells (acts b) 248))=wA at*
 have hbase:w.heap.size<=w1.heap.size:=hz1
 generalize w1.heap.size=B at*
 go_loopw [8] (fun _ wr=>((∃ s,Hid (Fit reps s)/\Hid (On T arg reps s)/\Hid (Live (B+1) b arg (.slice a2 reps.length cap2) s.pc wr s))\/Hid (Dead b wr (fin T arg reps)))/\Hid (Kp (B+1) b wA wr)) (fun _ wr=>mrun b wr)
 case atStart=>exact ⟨.inl ⟨s0,fit_start reps,on_start T arg reps,⟨_,_,HST.out⟩⟩,Kp.refl _ _ _⟩
 obtain ⟨hrr,hkr⟩:=hrel
 have HKW:Hid (Kp w.heap.size b w wr):=(Kp.of_below HB.out (Nat.le_refl _)).trans (hkr.out.mono (by omega))
 rcases hrr with ⟨s,hf,ho,hL⟩ | hD
 rotate_left
 · obtain ⟨r,hr,hh,ht⟩:=hD.out
   have c121:wr.cell? ⟨b,8,none⟩=some (.bool true):=by rw [run_cell hr 8,<- hh];rfl
   clear hr hh ht
   go_wp2
   go_end0
   exact ⟨rfl,hD.out,HKW.out⟩
 obtain ⟨p,v,hS⟩:=hL.out
 have HS:Hid (St (B+1) b wr (rcL p v arg (.slice a2 reps.length cap2) s.pc s) s.out):=hS
 have hM0:Hid (mrun b wr=1+(201 - s.steps)):=mrun_live hS.run rfl rfl
 obtain ⟨f1,f2,f3,f4,f5,f6⟩:=hf.out
 have c121:wr.cell? ⟨b,8,none⟩=some (.bool false):=run_cell hS.run 8
 have cx6:wr.cell? ⟨b,6,none⟩=some (.int .i64 s.pc):=run_cell hS.run 6
 have cx7:wr.cell? ⟨b,7,none⟩=some (.int .i64 s.pc):=run_cell hS.run 7
 have cx14:wr.cell? ⟨b,14,none⟩=some (.int .i64 s.steps):=run_cell hS.run 14
 have g6:=run_free hS.run 6
 have g7:=run_free hS.run 7
 have g14:=run_free hS.run 14
 have hltr:=run_lt hS.run
 have hler:=hS.le
 clear hS hL
 by_cases hpc:T.length<=s.pc
 · have HF:Hid (fin T arg reps=brk s.pc s.steps):=end_pc hpc hf.out ho.out
   clear hf ho
   go_wp2_with fail
   refine (c156 (B+1) b _ s.pc _ HS.out.run rfl (by omega)).mono ?_
   rintro e w2 ⟨rfl,h2,hk⟩
   have H2:Hid (RunAt w2 b _):=h2
   have HK:Hid (Kp w.heap.size b w w2):=HKW.out.trans (hk.mono (by omega))
   clear h2 hk
   go_wp2
   refine bodyPost_ret (results_none rfl _ _ _) rfl ?_
   exact ⟨rfl,⟨_,H2.out,rfl,by rw [HF.out];rfl⟩,HK.out⟩
 by_cases hst:s.steps=200
 · have HF:Hid (fin T arg reps=overT 3 ⟨#[]⟩ s.steps):=end_steps (by omega) hst ho.out
   have hst':((s.steps:Int)==200)=true:=by rw [hst];rfl
   clear hf ho hst
   go_wp2_with fail
   refine (c157 (B+1) b _ 3 ⟨#[]⟩ _ HS.out.run).mono ?_
   rintro e w2 ⟨rfl,h2,hk⟩
   have H2:Hid (RunAt w2 b _):=h2
   have HK:Hid (Kp w.heap.size b w w2):=HKW.out.trans (hk.mono (by omega))
   clear h2 hk
   go_wp2
   refine bodyPost_ret (results_none rfl _ _ _) rfl ?_
   exact ⟨rfl,⟨_,H2.out,rfl,by rw [HF.out];rfl⟩,HK.out⟩
 have hpl:s.pc<T.length:=by omega
 have hst1:s.steps<200:=by omega
 have hst':((s.steps:Int)==200)=false:=by simp only [beq_eq_false_iff_ne];omega
 clear hst hpc
 rcases (insB_kp HINS.out HKW.out (Nat.le_refl _)) with hss | ⟨ib,ioff,ha,hib,hine,hcell⟩
 · rw [hss] at hpl;exact absurd hpl (Nat.not_lt_zero _)
 subst ha
 obtain ⟨x0,x1,x2⟩:=hcell s.pc hpl
 have hibr:ib<wr.heap.size:=by omega
 obtain ⟨o1,_,_,o4,o5,o6⟩:=okI_bad (get_ok HALL.out hpl)
 generalize hx:T.getD s.pc i3z=x at*
 have HX:Hid (T.getD s.pc i3z=x):=hx
 clear hx hcell
 obtain ⟨op,tx,to⟩:=x
 simp only at x0 x1 x2 o1 o4 o5 o6
 have HG:∀ s':ST,act arg reps ⟨op,tx,to⟩ s=.inl s'->Hid (Fit reps s'/\On T arg reps s'):=fun s' e=>go_on HX.out hpl hT40 hst1 HALL.out harg HOKR.out hf.out ho.out e
 have HE:∀ t:TN,act arg reps ⟨op,tx,to⟩ s=.inr t->Hid (fin T arg reps=t):=fun t e=>go_end HX.out hpl hst1 ho.out e
 have HAW:Hid (∀ j,wr.cell? ⟨B,j,none⟩=(acts b)[j]?):=fun j=>by rw [hkr.out.cell (by simp) (by show B≠b;omega)];exact HA.out j
 have HU:Hid (∀ o:Obj,St (B+1) b (((wr.setCell ⟨b,14,none⟩ (.int .i64 ((s.steps:Int)+1))).setCell ⟨b,7,none⟩ (.int .i64 ((s.pc:Int)+1))).alloc o).drew (rcL p v arg (.slice a2 reps.length cap2) s.pc s.up) s.out):=fun o=>by
  have h1:St (B+1) b (wr.setCell ⟨b,14,none⟩ (.int .i64 ((s.steps:Int)+1))) (rcL p v arg (.slice a2 reps.length cap2) s.pc ⟨s.hand,s.out,s.pc,s.looks,s.steps+1⟩) s.out:=HS.out.set 14 _ rfl rfl rfl
  have h2:St (B+1) b ((wr.setCell ⟨b,14,none⟩ (.int .i64 ((s.steps:Int)+1))).setCell ⟨b,7,none⟩ (.int .i64 ((s.pc:Int)+1))) (rcL p v arg (.slice a2 reps.length cap2) s.pc s.up) s.out:=h1.set 7 _ rfl rfl rfl
  exact h2.below ((Below.refl _ _).alloc (Nat.le_refl _) _).drew
 have HKU:Hid (∀ o:Obj,Kp (B+1) b wr (((wr.setCell ⟨b,14,none⟩ (.int .i64 ((s.steps:Int)+1))).setCell ⟨b,7,none⟩ (.int .i64 ((s.pc:Int)+1))).alloc o).drew):=fun o=>((((Kp.refl _ _ _).set 14 _).set 7 _).alloc (by simpa using hler) _).drew
 have HMET:Hid (∀ o:Obj,Met (B+1) b arg reps a2 cap2 s tx to (((wr.setCell ⟨b,14,none⟩ (.int .i64 ((s.steps:Int)+1))).setCell ⟨b,7,none⟩ (.int .i64 ((s.pc:Int)+1))).alloc o).drew):=fun o=>
  ⟨hf.out,HOKR.out,hrl,repB_mono (repB_kp HREP.out (HKW.out.trans ((HKU.out o).mono (by omega))) (Nat.le_refl _)) (by omega),⟨by omega,hb1,max_kp (max_kp HMAX.out HKW.out hone hb1) (HKU.out o) (by omega) hb1⟩,harg,by omega,o4,o5,by omega,hst1,⟨p,v,HU.out o⟩⟩
 have hBb:B<wr.heap.size:=by omega
 have hBne:B≠b:=by have:=HS.out.lt;omega
 clear hf ho HX HU HB HINS HREP HMAX
 obtain ⟨to,rfl⟩:=Int.eq_ofNat_of_zero_le o4
 obtain rfl | rfl | rfl | rfl | rfl | rfl | rfl | rfl | rfl | rfl | rfl:op=1\/op=2\/op=3\/op=4\/op=5\/op=6\/op=7\/op=8\/op=9\/op=10\/op=11:=by omega
 · have q1:wr.cell? ⟨B,1,none⟩=some (.func (.func 165) #[.pointer (some ⟨b,0,none⟩)] #[]):=HAW.out 1
   have HM:Hid (Met (B+1) b arg reps a2 cap2 s tx to (((wr.setCell ⟨b,14,none⟩ (.int .i64 ((s.steps:Int)+1))).setCell ⟨b,7,none⟩ (.int .i64 ((s.pc:Int)+1))).alloc (.cells #[.int .i64 1,.string tx,.int .i64 to] 183)).drew):=HMET.out _
   have HKV:Hid (Kp (B+1) b wr (((wr.setCell ⟨b,14,none⟩ (.int .i64 ((s.steps:Int)+1))).setCell ⟨b,7,none⟩ (.int .i64 ((s.pc:Int)+1))).alloc (.cells #[.int .i64 1,.string tx,.int .i64 to] 183)).drew):=HKU.out _
   clear HMET HKU HAW HA HST
   go_wp2_with fail
   go_region_with (go_at_call 165;refine (m90 (B+1) b arg reps a2 cap2 s tx to _ HM.out).mono ?_;rintro e w3 ⟨rfl,h3,hk3⟩;have H3:Hid (After (B+1) b arg (.slice a2 reps.length cap2) s.pc w3 (act arg reps ⟨1,tx,to⟩ s)):=h3;have HK3:Hid (Kp (B+1) b wr w3):=HKV.out.trans hk3;clear h3 hk3)
   all_goals
    cases hact:act arg reps ⟨1,tx,to⟩ s with
    | inl s'=>
     have hL3:=H3.out
     rw [hact] at hL3
     obtain ⟨p3,v3,hS3⟩:=hL3
     obtain ⟨hf3,ho3⟩:=(HG s' hact).out
     have hst3:s'.steps=s.steps+1:=act_steps hact
     have HS3:Hid (St (B+1) b w3 (rcL p3 v3 arg (.slice a2 reps.length cap2) s.pc s') s'.out):=hS3
     have HF3:Hid (Fit reps s'/\On T arg reps s'):=⟨hf3,ho3⟩
     have d7:w3.cell? ⟨b,7,none⟩=some (.int .i64 s'.pc):=run_cell hS3.run 7
     have d6:w3.cell? ⟨b,6,none⟩=some (.int .i64 s.pc):=run_cell hS3.run 6
     have e6:=run_free hS3.run 6
     clear hS3 hf3 ho3 H3 HG HE hact
     go_wp2
     go_roundw
     case rel=>
      refine ⟨.inl ⟨s',HF3.out.1,HF3.out.2,⟨p3,v3,?_⟩⟩,hkr.out.trans (HK3.out.set 6 _)⟩
      exact HS3.out.set 6 _ rfl rfl rfl
     case measure=>
      have h1:RunAt (w3.setCell ⟨b,6,none⟩ (.int .i64 s'.pc)) b (rcL p3 v3 arg (.slice a2 reps.length cap2) s'.pc s'):=run_set HS3.out.run 6 _ rfl
      rw [hM0.out,mrun_live h1 rfl rfl]
      omega
    | inr t=>
     have hL3:=H3.out
     rw [hact] at hL3
     obtain ⟨r3,hr3,hh3,ht3⟩:=hL3
     have HF3:=(HE t hact)
     have HR3:Hid (RunAt w3 b r3):=hr3
     have HH3:Hid (r3.halted=true):=hh3
     have HT3:Hid (r3.tn=t):=ht3
     have d7:w3.cell? ⟨b,7,none⟩=some (.int .i64 r3.next):=run_cell hr3 7
     have d6:w3.cell? ⟨b,6,none⟩=some (.int .i64 r3.place):=run_cell hr3 6
     have e6:=run_free hr3 6
     clear hr3 hh3 ht3 H3 HG HE hact
     go_wp2
     go_roundw
     case rel=>
      refine ⟨.inr ⟨{ r3 with place:=r3.next },run_set HR3.out 6 _ rfl,HH3.out,?_⟩,hkr.out.trans (HK3.out.set 6 _)⟩
      rw [HF3.out,<- HT3.out];rfl
     case measure=>
      have h1:RunAt (w3.setCell ⟨b,6,none⟩ (.int .i64 r3.next)) b { r3 with place:=r3.next }:=run_set HR3.out 6 _ rfl
      rw [hM0.out,mrun_dead h1 HH3.out]
      omega
 · have q2:wr.cell? ⟨B,2,none⟩=some (.func (.func 166) #[.pointer (some ⟨b,0,none⟩)] #[]):=HAW.out 2
   have HM:Hid (Met (B+1) b arg reps a2 cap2 s tx to (((wr.setCell ⟨b,14,none⟩ (.int .i64 ((s.steps:Int)+1))).setCell ⟨b,7,none⟩ (.int .i64 ((s.pc:Int)+1))).alloc (.cells #[.int .i64 2,.string tx,.int .i64 to] 183)).drew):=HMET.out _
   have HKV:Hid (Kp (B+1) b wr (((wr.setCell ⟨b,14,none⟩ (.int .i64 ((s.steps:Int)+1))).setCell ⟨b,7,none⟩ (.int .i64 ((s.pc:Int)+1))).alloc (.cells #[.int .i64 2,.string tx,.int .i64 to] 183)).drew):=HKU.out _
   clear HMET HKU HAW HA HST
   go_wp2_with fail
   go_region_with (go_at_call 166;refine (m91 (B+1) b arg reps a2 cap2 s tx to _ HM.out).mono ?_;rintro e w3 ⟨rfl,h3,hk3⟩;have H3:Hid (After (B+1) b arg (.slice a2 reps.length cap2) s.pc w3 (act arg reps ⟨2,tx,to⟩ s)):=h3;have HK3:Hid (Kp (B+1) b wr w3):=HKV.out.trans hk3;clear h3 hk3)
   all_goals
    cases hact:act arg reps ⟨2,tx,to⟩ s with
    | inl s'=>
     have hL3:=H3.out
     rw [hact] at hL3
     obtain ⟨p3,v3,hS3⟩:=hL3
     obtain ⟨hf3,ho3⟩:=(HG s' hact).out
     have hst3:s'.steps=s.steps+1:=act_steps hact
     have HS3:Hid (St (B+1) b w3 (rcL p3 v3 arg (.slice a2 reps.length cap2) s.pc s') s'.out):=hS3
     have HF3:Hid (Fit reps s'/\On T arg reps s'):=⟨hf3,ho3⟩
     have d7:w3.cell? ⟨b,7,none⟩=some (.int .i64 s'.pc):=run_cell hS3.run 7
     have d6:w3.cell? ⟨b,6,none⟩=some (.int .i64 s.pc):=run_cell hS3.run 6
     have e6:=run_free hS3.run 6
     clear hS3 hf3 ho3 H3 HG HE hact
     go_wp2
     go_roundw
     case rel=>
      refine ⟨.inl ⟨s',HF3.out.1,HF3.out.2,⟨p3,v3,?_⟩⟩,hkr.out.trans (HK3.out.set 6 _)⟩
      exact HS3.out.set 6 _ rfl rfl rfl
     case measure=>
      have h1:RunAt (w3.setCell ⟨b,6,none⟩ (.int .i64 s'.pc)) b (rcL p3 v3 arg (.slice a2 reps.length cap2) s'.pc s'):=run_set HS3.out.run 6 _ rfl
      rw [hM0.out,mrun_live h1 rfl rfl]
      omega
    | inr t=>
     have hL3:=H3.out
     rw [hact] at hL3
     obtain ⟨r3,hr3,hh3,ht3⟩:=hL3
     have HF3:=(HE t hact)
     have HR3:Hid (RunAt w3 b r3):=hr3
     have HH3:Hid (r3.halted=true):=hh3
     have HT3:Hid (r3.tn=t):=ht3
     have d7:w3.cell? ⟨b,7,none⟩=some (.int .i64 r3.next):=run_cell hr3 7
     have d6:w3.cell? ⟨b,6,none⟩=some (.int .i64 r3.place):=run_cell hr3 6
     have e6:=run_free hr3 6
     clear hr3 hh3 ht3 H3 HG HE hact
     go_wp2
     go_roundw
     case rel=>
      refine ⟨.inr ⟨{ r3 with place:=r3.next },run_set HR3.out 6 _ rfl,HH3.out,?_⟩,hkr.out.trans (HK3.out.set 6 _)⟩
      rw [HF3.out,<- HT3.out];rfl
     case measure=>
      have h1:RunAt (w3.setCell ⟨b,6,none⟩ (.int .i64 r3.next)) b { r3 with place:=r3.next }:=run_set HR3.out 6 _ rfl
      rw [hM0.out,mrun_dead h1 HH3.out]
      omega
 · have q3:wr.cell? ⟨B,3,none⟩=some (.func (.func 167) #[.pointer (some ⟨b,0,none⟩)] #[]):=HAW.out 3
   have HM:Hid (Met (B+1) b arg reps a2 cap2 s tx to (((wr.setCell ⟨b,14,none⟩ (.int .i64 ((s.steps:Int)+1))).setCell ⟨b,7,none⟩ (.int .i64 ((s.pc:Int)+1))).alloc (.cells #[.int .i64 3,.string tx,.int .i64 to] 183)).drew):=HMET.out _
   have HKV:Hid (Kp (B+1) b wr (((wr.setCell ⟨b,14,none⟩ (.int .i64 ((s.steps:Int)+1))).setCell ⟨b,7,none⟩ (.int .i64 ((s.pc:Int)+1))).alloc (.cells #[.int .i64 3,.string tx,.int .i64 to] 183)).drew):=HKU.out _
   clear HMET HKU HAW HA HST
   go_wp2_with fail
   go_region_with (go_at_call 167;refine (m92 (B+1) b arg reps a2 cap2 s tx to _ HM.out).mono ?_;rintro e w3 ⟨rfl,h3,hk3⟩;have H3:Hid (After (B+1) b arg (.slice a2 reps.length cap2) s.pc w3 (act arg reps ⟨3,tx,to⟩ s)):=h3;have HK3:Hid (Kp (B+1) b wr w3):=HKV.out.trans hk3;clear h3 hk3)
   all_goals
    cases hact:act arg reps ⟨3,tx,to⟩ s with
    | inl s'=>
     have hL3:=H3.out
     rw [hact] at hL3
     obtain ⟨p3,v3,hS3⟩:=hL3
     obtain ⟨hf3,ho3⟩:=(HG s' hact).out
     have hst3:s'.steps=s.steps+1:=act_steps hact
     have HS3:Hid (St (B+1) b w3 (rcL p3 v3 arg (.slice a2 reps.length cap2) s.pc s') s'.out):=hS3
     have HF3:Hid (Fit reps s'/\On T arg reps s'):=⟨hf3,ho3⟩
     have d7:w3.cell? ⟨b,7,none⟩=some (.int .i64 s'.pc):=run_cell hS3.run 7
     have d6:w3.cell? ⟨b,6,none⟩=some (.int .i64 s.pc):=run_cell hS3.run 6
     have e6:=run_free hS3.run 6
     clear hS3 hf3 ho3 H3 HG HE hact
     go_wp2
     go_roundw
     case rel=>
      refine ⟨.inl ⟨s',HF3.out.1,HF3.out.2,⟨p3,v3,?_⟩⟩,hkr.out.trans (HK3.out.set 6 _)⟩
      exact HS3.out.set 6 _ rfl rfl rfl
     case measure=>
      have h1:RunAt (w3.setCell ⟨b,6,none⟩ (.int .i64 s'.pc)) b (rcL p3 v3 arg (.slice a2 reps.length cap2) s'.pc s'):=run_set HS3.out.run 6 _ rfl
      rw [hM0.out,mrun_live h1 rfl rfl]
      omega
    | inr t=>
     have hL3:=H3.out
     rw [hact] at hL3
     obtain ⟨r3,hr3,hh3,ht3⟩:=hL3
     have HF3:=(HE t hact)
     have HR3:Hid (RunAt w3 b r3):=hr3
     have HH3:Hid (r3.halted=true):=hh3
     have HT3:Hid (r3.tn=t):=ht3
     have d7:w3.cell? ⟨b,7,none⟩=some (.int .i64 r3.next):=run_cell hr3 7
     have d6:w3.cell? ⟨b,6,none⟩=some (.int .i64 r3.place):=run_cell hr3 6
     have e6:=run_free hr3 6
     clear hr3 hh3 ht3 H3 HG HE hact
     go_wp2
     go_roundw
     case rel=>
      refine ⟨.inr ⟨{ r3 with place:=r3.next },run_set HR3.out 6 _ rfl,HH3.out,?_⟩,hkr.out.trans (HK3.out.set 6 _)⟩
      rw [HF3.out,<- HT3.out];rfl
     case measure=>
      have h1:RunAt (w3.setCell ⟨b,6,none⟩ (.int .i64 r3.next)) b { r3 with place:=r3.next }:=run_set HR3.out 6 _ rfl
      rw [hM0.out,mrun_dead h1 HH3.out]
      omega
 · have q4:wr.cell? ⟨B,4,none⟩=some (.func (.func 168) #[.pointer (some ⟨b,0,none⟩)] #[]):=HAW.out 4
   have HM:Hid (Met (B+1) b arg reps a2 cap2 s tx to (((wr.setCell ⟨b,14,none⟩ (.int .i64 ((s.steps:Int)+1))).setCell ⟨b,7,none⟩ (.int .i64 ((s.pc:Int)+1))).alloc (.cells #[.int .i64 4,.string tx,.int .i64 to] 183)).drew):=HMET.out _
   have HKV:Hid (Kp (B+1) b wr (((wr.setCell ⟨b,14,none⟩ (.int .i64 ((s.steps:Int)+1))).setCell ⟨b,7,none⟩ (.int .i64 ((s.pc:Int)+1))).alloc (.cells #[.int .i64 4,.string tx,.int .i64 to] 183)).drew):=HKU.out _
   clear HMET HKU HAW HA HST
   go_wp2_with fail
   go_region_with (go_at_call 168;refine (m93 (B+1) b arg reps a2 cap2 s tx to _ HM.out).mono ?_;rintro e w3 ⟨rfl,h3,hk3⟩;have H3:Hid (After (B+1) b arg (.slice a2 reps.length cap2) s.pc w3 (act arg reps ⟨4,tx,to⟩ s)):=h3;have HK3:Hid (Kp (B+1) b wr w3):=HKV.out.trans hk3;clear h3 hk3)
   all_goals
    cases hact:act arg reps ⟨4,tx,to⟩ s with
    | inl s'=>
     have hL3:=H3.out
     rw [hact] at hL3
     obtain ⟨p3,v3,hS3⟩:=hL3
     obtain ⟨hf3,ho3⟩:=(HG s' hact).out
     have hst3:s'.steps=s.steps+1:=act_steps hact
     have HS3:Hid (St (B+1) b w3 (rcL p3 v3 arg (.slice a2 reps.length cap2) s.pc s') s'.out):=hS3
     have HF3:Hid (Fit reps s'/\On T arg reps s'):=⟨hf3,ho3⟩
     have d7:w3.cell? ⟨b,7,none⟩=some (.int .i64 s'.pc):=run_cell hS3.run 7
     have d6:w3.cell? ⟨b,6,none⟩=some (.int .i64 s.pc):=run_cell hS3.run 6
     have e6:=run_free hS3.run 6
     clear hS3 hf3 ho3 H3 HG HE hact
     go_wp2
     go_roundw
     case rel=>
      refine ⟨.inl ⟨s',HF3.out.1,HF3.out.2,⟨p3,v3,?_⟩⟩,hkr.out.trans (HK3.out.set 6 _)⟩
      exact HS3.out.set 6 _ rfl rfl rfl
     case measure=>
      have h1:RunAt (w3.setCell ⟨b,6,none⟩ (.int .i64 s'.pc)) b (rcL p3 v3 arg (.slice a2 reps.length cap2) s'.pc s'):=run_set HS3.out.run 6 _ rfl
      rw [hM0.out,mrun_live h1 rfl rfl]
      omega
    | inr t=>
     have hL3:=H3.out
     rw [hact] at hL3
     obtain ⟨r3,hr3,hh3,ht3⟩:=hL3
     have HF3:=(HE t hact)
     have HR3:Hid (RunAt w3 b r3):=hr3
     have HH3:Hid (r3.halted=true):=hh3
     have HT3:Hid (r3.tn=t):=ht3
     have d7:w3.cell? ⟨b,7,none⟩=some (.int .i64 r3.next):=run_cell hr3 7
     have d6:w3.cell? ⟨b,6,none⟩=some (.int .i64 r3.place):=run_cell hr3 6
     have e6:=run_free hr3 6
     clear hr3 hh3 ht3 H3 HG HE hact
     go_wp2
     go_roundw
     case rel=>
      refine ⟨.inr ⟨{ r3 with place:=r3.next },run_set HR3.out 6 _ rfl,HH3.out,?_⟩,hkr.out.trans (HK3.out.set 6 _)⟩
      rw [HF3.out,<- HT3.out];rfl
     case measure=>
      have h1:RunAt (w3.setCell ⟨b,6,none⟩ (.int .i64 r3.next)) b { r3 with place:=r3.next }:=run_set HR3.out 6 _ rfl
      rw [hM0.out,mrun_dead h1 HH3.out]
      omega
 · have q5:wr.cell? ⟨B,5,none⟩=some (.func (.func 169) #[.pointer (some ⟨b,0,none⟩)] #[]):=HAW.out 5
   have HM:Hid (Met (B+1) b arg reps a2 cap2 s tx to (((wr.setCell ⟨b,14,none⟩ (.int .i64 ((s.steps:Int)+1))).setCell ⟨b,7,none⟩ (.int .i64 ((s.pc:Int)+1))).alloc (.cells #[.int .i64 5,.string tx,.int .i64 to] 183)).drew):=HMET.out _
   have HKV:Hid (Kp (B+1) b wr (((wr.setCell ⟨b,14,none⟩ (.int .i64 ((s.steps:Int)+1))).setCell ⟨b,7,none⟩ (.int .i64 ((s.pc:Int)+1))).alloc (.cells #[.int .i64 5,.string tx,.int .i64 to] 183)).drew):=HKU.out _
   clear HMET HKU HAW HA HST
   go_wp2_with fail
   go_region_with (go_at_call 169;refine (m94 (B+1) b arg reps a2 cap2 s tx to _ HM.out).mono ?_;rintro e w3 ⟨rfl,h3,hk3⟩;have H3:Hid (After (B+1) b arg (.slice a2 reps.length cap2) s.pc w3 (act arg reps ⟨5,tx,to⟩ s)):=h3;have HK3:Hid (Kp (B+1) b wr w3):=HKV.out.trans hk3;clear h3 hk3)
   all_goals
    cases hact:act arg reps ⟨5,tx,to⟩ s with
    | inl s'=>
     have hL3:=H3.out
     rw [hact] at hL3
     obtain ⟨p3,v3,hS3⟩:=hL3
     obtain ⟨hf3,ho3⟩:=(HG s' hact).out
     have hst3:s'.steps=s.steps+1:=act_steps hact
     have HS3:Hid (St (B+1) b w3 (rcL p3 v3 arg (.slice a2 reps.length cap2) s.pc s') s'.out):=hS3
     have HF3:Hid (Fit reps s'/\On T arg reps s'):=⟨hf3,ho3⟩
     have d7:w3.cell? ⟨b,7,none⟩=some (.int .i64 s'.pc):=run_cell hS3.run 7
     have d6:w3.cell? ⟨b,6,none⟩=some (.int .i64 s.pc):=run_cell hS3.run 6
     have e6:=run_free hS3.run 6
     clear hS3 hf3 ho3 H3 HG HE hact
     go_wp2
     go_roundw
     case rel=>
      refine ⟨.inl ⟨s',HF3.out.1,HF3.out.2,⟨p3,v3,?_⟩⟩,hkr.out.trans (HK3.out.set 6 _)⟩
      exact HS3.out.set 6 _ rfl rfl rfl
     case measure=>
      have h1:RunAt (w3.setCell ⟨b,6,none⟩ (.int .i64 s'.pc)) b (rcL p3 v3 arg (.slice a2 reps.length cap2) s'.pc s'):=run_set HS3.out.run 6 _ rfl
      rw [hM0.out,mrun_live h1 rfl rfl]
      omega
    | inr t=>
     have hL3:=H3.out
     rw [hact] at hL3
     obtain ⟨r3,hr3,hh3,ht3⟩:=hL3
     have HF3:=(HE t hact)
     have HR3:Hid (RunAt w3 b r3):=hr3
     have HH3:Hid (r3.halted=true):=hh3
     have HT3:Hid (r3.tn=t):=ht3
     have d7:w3.cell? ⟨b,7,none⟩=some (.int .i64 r3.next):=run_cell hr3 7
     have d6:w3.cell? ⟨b,6,none⟩=some (.int .i64 r3.place):=run_cell hr3 6
     have e6:=run_free hr3 6
     clear hr3 hh3 ht3 H3 HG HE hact
     go_wp2
     go_roundw
     case rel=>
      refine ⟨.inr ⟨{ r3 with place:=r3.next },run_set HR3.out 6 _ rfl,HH3.out,?_⟩,hkr.out.trans (HK3.out.set 6 _)⟩
      rw [HF3.out,<- HT3.out];rfl
     case measure=>
      have h1:RunAt (w3.setCell ⟨b,6,none⟩ (.int .i64 r3.next)) b { r3 with place:=r3.next }:=run_set HR3.out 6 _ rfl
      rw [hM0.out,mrun_dead h1 HH3.out]
      omega
 · have q6:wr.cell? ⟨B,6,none⟩=some (.func (.func 170) #[.pointer (some ⟨b,0,none⟩)] #[]):=HAW.out 6
   have HM:Hid (Met (B+1) b arg reps a2 cap2 s tx to (((wr.setCell ⟨b,14,none⟩ (.int .i64 ((s.steps:Int)+1))).setCell ⟨b,7,none⟩ (.int .i64 ((s.pc:Int)+1))).alloc (.cells #[.int .i64 6,.string tx,.int .i64 to] 183)).drew):=HMET.out _
   have HKV:Hid (Kp (B+1) b wr (((wr.setCell ⟨b,14,none⟩ (.int .i64 ((s.steps:Int)+1))).setCell ⟨b,7,none⟩ (.int .i64 ((s.pc:Int)+1))).alloc (.cells #[.int .i64 6,.string tx,.int .i64 to] 183)).drew):=HKU.out _
   clear HMET HKU HAW HA HST
   go_wp2_with fail
   go_region_with (go_at_call 170;refine (m95 (B+1) b arg reps a2 cap2 s tx to _ HM.out).mono ?_;rintro e w3 ⟨rfl,h3,hk3⟩;have H3:Hid (After (B+1) b arg (.slice a2 reps.length cap2) s.pc w3 (act arg reps ⟨6,tx,to⟩ s)):=h3;have HK3:Hid (Kp (B+1) b wr w3):=HKV.out.trans hk3;clear h3 hk3)
   all_goals
    cases hact:act arg reps ⟨6,tx,to⟩ s with
    | inl s'=>
     have hL3:=H3.out
     rw [hact] at hL3
     obtain ⟨p3,v3,hS3⟩:=hL3
     obtain ⟨hf3,ho3⟩:=(HG s' hact).out
     have hst3:s'.steps=s.steps+1:=act_steps hact
     have HS3:Hid (St (B+1) b w3 (rcL p3 v3 arg (.slice a2 reps.length cap2) s.pc s') s'.out):=hS3
     have HF3:Hid (Fit reps s'/\On T arg reps s'):=⟨hf3,ho3⟩
     have d7:w3.cell? ⟨b,7,none⟩=some (.int .i64 s'.pc):=run_cell hS3.run 7
     have d6:w3.cell? ⟨b,6,none⟩=some (.int .i64 s.pc):=run_cell hS3.run 6
     have e6:=run_free hS3.run 6
     clear hS3 hf3 ho3 H3 HG HE hact
     go_wp2
     go_roundw
     case rel=>
      refine ⟨.inl ⟨s',HF3.out.1,HF3.out.2,⟨p3,v3,?_⟩⟩,hkr.out.trans (HK3.out.set 6 _)⟩
      exact HS3.out.set 6 _ rfl rfl rfl
     case measure=>
      have h1:RunAt (w3.setCell ⟨b,6,none⟩ (.int .i64 s'.pc)) b (rcL p3 v3 arg (.slice a2 reps.length cap2) s'.pc s'):=run_set HS3.out.run 6 _ rfl
      rw [hM0.out,mrun_live h1 rfl rfl]
      omega
    | inr t=>
     have hL3:=H3.out
     rw [hact] at hL3
     obtain ⟨r3,hr3,hh3,ht3⟩:=hL3
     have HF3:=(HE t hact)
     have HR3:Hid (RunAt w3 b r3):=hr3
     have HH3:Hid (r3.halted=true):=hh3
     have HT3:Hid (r3.tn=t):=ht3
     have d7:w3.cell? ⟨b,7,none⟩=some (.int .i64 r3.next):=run_cell hr3 7
     have d6:w3.cell? ⟨b,6,none⟩=some (.int .i64 r3.place):=run_cell hr3 6
     have e6:=run_free hr3 6
     clear hr3 hh3 ht3 H3 HG HE hact
     go_wp2
     go_roundw
     case rel=>
      refine ⟨.inr ⟨{ r3 with place:=r3.next },run_set HR3.out 6 _ rfl,HH3.out,?_⟩,hkr.out.trans (HK3.out.set 6 _)⟩
      rw [HF3.out,<- HT3.out];rfl
     case measure=>
      have h1:RunAt (w3.setCell ⟨b,6,none⟩ (.int .i64 r3.next)) b { r3 with place:=r3.next }:=run_set HR3.out 6 _ rfl
      rw [hM0.out,mrun_dead h1 HH3.out]
      omega
 · have q7:wr.cell? ⟨B,7,none⟩=some (.func (.func 171) #[.pointer (some ⟨b,0,none⟩)] #[]):=HAW.out 7
   have HM:Hid (Met (B+1) b arg reps a2 cap2 s tx to (((wr.setCell ⟨b,14,none⟩ (.int .i64 ((s.steps:Int)+1))).setCell ⟨b,7,none⟩ (.int .i64 ((s.pc:Int)+1))).alloc (.cells #[.int .i64 7,.string tx,.int .i64 to] 183)).drew):=HMET.out _
   have HKV:Hid (Kp (B+1) b wr (((wr.setCell ⟨b,14,none⟩ (.int .i64 ((s.steps:Int)+1))).setCell ⟨b,7,none⟩ (.int .i64 ((s.pc:Int)+1))).alloc (.cells #[.int .i64 7,.string tx,.int .i64 to] 183)).drew):=HKU.out _
   clear HMET HKU HAW HA HST
   go_wp2_with fail
   go_region_with (go_at_call 171;refine (m96 (B+1) b arg reps a2 cap2 s tx to _ HM.out).mono ?_;rintro e w3 ⟨rfl,h3,hk3⟩;have H3:Hid (After (B+1) b arg (.slice a2 reps.length cap2) s.pc w3 (act arg reps ⟨7,tx,to⟩ s)):=h3;have HK3:Hid (Kp (B+1) b wr w3):=HKV.out.trans hk3;clear h3 hk3)
   all_goals
    cases hact:act arg reps ⟨7,tx,to⟩ s with
    | inl s'=>
     have hL3:=H3.out
     rw [hact] at hL3
     obtain ⟨p3,v3,hS3⟩:=hL3
     obtain ⟨hf3,ho3⟩:=(HG s' hact).out
     have hst3:s'.steps=s.steps+1:=act_steps hact
     have HS3:Hid (St (B+1) b w3 (rcL p3 v3 arg (.slice a2 reps.length cap2) s.pc s') s'.out):=hS3
     have HF3:Hid (Fit reps s'/\On T arg reps s'):=⟨hf3,ho3⟩
     have d7:w3.cell? ⟨b,7,none⟩=some (.int .i64 s'.pc):=run_cell hS3.run 7
     have d6:w3.cell? ⟨b,6,none⟩=some (.int .i64 s.pc):=run_cell hS3.run 6
     have e6:=run_free hS3.run 6
     clear hS3 hf3 ho3 H3 HG HE hact
     go_wp2
     go_roundw
     case rel=>
      refine ⟨.inl ⟨s',HF3.out.1,HF3.out.2,⟨p3,v3,?_⟩⟩,hkr.out.trans (HK3.out.set 6 _)⟩
      exact HS3.out.set 6 _ rfl rfl rfl
     case measure=>
      have h1:RunAt (w3.setCell ⟨b,6,none⟩ (.int .i64 s'.pc)) b (rcL p3 v3 arg (.slice a2 reps.length cap2) s'.pc s'):=run_set HS3.out.run 6 _ rfl
      rw [hM0.out,mrun_live h1 rfl rfl]
      omega
    | inr t=>
     have hL3:=H3.out
     rw [hact] at hL3
     obtain ⟨r3,hr3,hh3,ht3⟩:=hL3
     have HF3:=(HE t hact)
     have HR3:Hid (RunAt w3 b r3):=hr3
     have HH3:Hid (r3.halted=true):=hh3
     have HT3:Hid (r3.tn=t):=ht3
     have d7:w3.cell? ⟨b,7,none⟩=some (.int .i64 r3.next):=run_cell hr3 7
     have d6:w3.cell? ⟨b,6,none⟩=some (.int .i64 r3.place):=run_cell hr3 6
     have e6:=run_free hr3 6
     clear hr3 hh3 ht3 H3 HG HE hact
     go_wp2
     go_roundw
     case rel=>
      refine ⟨.inr ⟨{ r3 with place:=r3.next },run_set HR3.out 6 _ rfl,HH3.out,?_⟩,hkr.out.trans (HK3.out.set 6 _)⟩
      rw [HF3.out,<- HT3.out];rfl
     case measure=>
      have h1:RunAt (w3.setCell ⟨b,6,none⟩ (.int .i64 r3.next)) b { r3 with place:=r3.next }:=run_set HR3.out 6 _ rfl
      rw [hM0.out,mrun_dead h1 HH3.out]
      omega
 · have q8:wr.cell? ⟨B,8,none⟩=some (.func (.func 172) #[.pointer (some ⟨b,0,none⟩)] #[]):=HAW.out 8
   have HM:Hid (Met (B+1) b arg reps a2 cap2 s tx to (((wr.setCell ⟨b,14,none⟩ (.int .i64 ((s.steps:Int)+1))).setCell ⟨b,7,none⟩ (.int .i64 ((s.pc:Int)+1))).alloc (.cells #[.int .i64 8,.string tx,.int .i64 to] 183)).drew):=HMET.out _
   have HKV:Hid (Kp (B+1) b wr (((wr.setCell ⟨b,14,none⟩ (.int .i64 ((s.steps:Int)+1))).setCell ⟨b,7,none⟩ (.int .i64 ((s.pc:Int)+1))).alloc (.cells #[.int .i64 8,.string tx,.int .i64 to] 183)).drew):=HKU.out _
   clear HMET HKU HAW HA HST
   go_wp2_with fail
   go_region_with (go_at_call 172;refine (m97 (B+1) b arg reps a2 cap2 s tx to _ HM.out).mono ?_;rintro e w3 ⟨rfl,h3,hk3⟩;have H3:Hid (After (B+1) b arg (.slice a2 reps.length cap2) s.pc w3 (act arg reps ⟨8,tx,to⟩ s)):=h3;have HK3:Hid (Kp (B+1) b wr w3):=HKV.out.trans hk3;clear h3 hk3)
   all_goals
    cases hact:act arg reps ⟨8,tx,to⟩ s with
    | inl s'=>
     have hL3:=H3.out
     rw [hact] at hL3
     obtain ⟨p3,v3,hS3⟩:=hL3
     obtain ⟨hf3,ho3⟩:=(HG s' hact).out
     have hst3:s'.steps=s.steps+1:=act_steps hact
     have HS3:Hid (St (B+1) b w3 (rcL p3 v3 arg (.slice a2 reps.length cap2) s.pc s') s'.out):=hS3
     have HF3:Hid (Fit reps s'/\On T arg reps s'):=⟨hf3,ho3⟩
     have d7:w3.cell? ⟨b,7,none⟩=some (.int .i64 s'.pc):=run_cell hS3.run 7
     have d6:w3.cell? ⟨b,6,none⟩=some (.int .i64 s.pc):=run_cell hS3.run 6
     have e6:=run_free hS3.run 6
     clear hS3 hf3 ho3 H3 HG HE hact
     go_wp2
     go_roundw
     case rel=>
      refine ⟨.inl ⟨s',HF3.out.1,HF3.out.2,⟨p3,v3,?_⟩⟩,hkr.out.trans (HK3.out.set 6 _)⟩
      exact HS3.out.set 6 _ rfl rfl rfl
     case measure=>
      have h1:RunAt (w3.setCell ⟨b,6,none⟩ (.int .i64 s'.pc)) b (rcL p3 v3 arg (.slice a2 reps.length cap2) s'.pc s'):=run_set HS3.out.run 6 _ rfl
      rw [hM0.out,mrun_live h1 rfl rfl]
      omega
    | inr t=>
     have hL3:=H3.out
     rw [hact] at hL3
     obtain ⟨r3,hr3,hh3,ht3⟩:=hL3
     have HF3:=(HE t hact)
     have HR3:Hid (RunAt w3 b r3):=hr3
     have HH3:Hid (r3.halted=true):=hh3
     have HT3:Hid (r3.tn=t):=ht3
     have d7:w3.cell? ⟨b,7,none⟩=some (.int .i64 r3.next):=run_cell hr3 7
     have d6:w3.cell? ⟨b,6,none⟩=some (.int .i64 r3.place):=run_cell hr3 6
     have e6:=run_free hr3 6
     clear hr3 hh3 ht3 H3 HG HE hact
     go_wp2
     go_roundw
     case rel=>
      refine ⟨.inr ⟨{ r3 with place:=r3.next },run_set HR3.out 6 _ rfl,HH3.out,?_⟩,hkr.out.trans (HK3.out.set 6 _)⟩
      rw [HF3.out,<- HT3.out];rfl
     case measure=>
      have h1:RunAt (w3.setCell ⟨b,6,none⟩ (.int .i64 r3.next)) b { r3 with place:=r3.next }:=run_set HR3.out 6 _ rfl
      rw [hM0.out,mrun_dead h1 HH3.out]
      omega
 · have q9:wr.cell? ⟨B,9,none⟩=some (.func (.func 173) #[.pointer (some ⟨b,0,none⟩)] #[]):=HAW.out 9
   have HM:Hid (Met (B+1) b arg reps a2 cap2 s tx to (((wr.setCell ⟨b,14,none⟩ (.int .i64 ((s.steps:Int)+1))).setCell ⟨b,7,none⟩ (.int .i64 ((s.pc:Int)+1))).alloc (.cells #[.int .i64 9,.string tx,.int .i64 to] 183)).drew):=HMET.out _
   have HKV:Hid (Kp (B+1) b wr (((wr.setCell ⟨b,14,none⟩ (.int .i64 ((s.steps:Int)+1))).setCell ⟨b,7,none⟩ (.int .i64 ((s.pc:Int)+1))).alloc (.cells #[.int .i64 9,.string tx,.int .i64 to] 183)).drew):=HKU.out _
   clear HMET HKU HAW HA HST
   go_wp2_with fail
   go_region_with (go_at_call 173;refine (m98 (B+1) b arg reps a2 cap2 s tx to _ HM.out).mono ?_;rintro e w3 ⟨rfl,h3,hk3⟩;have H3:Hid (After (B+1) b arg (.slice a2 reps.length cap2) s.pc w3 (act arg reps ⟨9,tx,to⟩ s)):=h3;have HK3:Hid (Kp (B+1) b wr w3):=HKV.out.trans hk3;clear h3 hk3)
   all_goals
    cases hact:act arg reps ⟨9,tx,to⟩ s with
    | inl s'=>
     have hL3:=H3.out
     rw [hact] at hL3
     obtain ⟨p3,v3,hS3⟩:=hL3
     obtain ⟨hf3,ho3⟩:=(HG s' hact).out
     have hst3:s'.steps=s.steps+1:=act_steps hact
     have HS3:Hid (St (B+1) b w3 (rcL p3 v3 arg (.slice a2 reps.length cap2) s.pc s') s'.out):=hS3
     have HF3:Hid (Fit reps s'/\On T arg reps s'):=⟨hf3,ho3⟩
     have d7:w3.cell? ⟨b,7,none⟩=some (.int .i64 s'.pc):=run_cell hS3.run 7
     have d6:w3.cell? ⟨b,6,none⟩=some (.int .i64 s.pc):=run_cell hS3.run 6
     have e6:=run_free hS3.run 6
     clear hS3 hf3 ho3 H3 HG HE hact
     go_wp2
     go_roundw
     case rel=>
      refine ⟨.inl ⟨s',HF3.out.1,HF3.out.2,⟨p3,v3,?_⟩⟩,hkr.out.trans (HK3.out.set 6 _)⟩
      exact HS3.out.set 6 _ rfl rfl rfl
     case measure=>
      have h1:RunAt (w3.setCell ⟨b,6,none⟩ (.int .i64 s'.pc)) b (rcL p3 v3 arg (.slice a2 reps.length cap2) s'.pc s'):=run_set HS3.out.run 6 _ rfl
      rw [hM0.out,mrun_live h1 rfl rfl]
      omega
    | inr t=>
     have hL3:=H3.out
     rw [hact] at hL3
     obtain ⟨r3,hr3,hh3,ht3⟩:=hL3
     have HF3:=(HE t hact)
     have HR3:Hid (RunAt w3 b r3):=hr3
     have HH3:Hid (r3.halted=true):=hh3
     have HT3:Hid (r3.tn=t):=ht3
     have d7:w3.cell? ⟨b,7,none⟩=some (.int .i64 r3.next):=run_cell hr3 7
     have d6:w3.cell? ⟨b,6,none⟩=some (.int .i64 r3.place):=run_cell hr3 6
     have e6:=run_free hr3 6
     clear hr3 hh3 ht3 H3 HG HE hact
     go_wp2
     go_roundw
     case rel=>
      refine ⟨.inr ⟨{ r3 with place:=r3.next },run_set HR3.out 6 _ rfl,HH3.out,?_⟩,hkr.out.trans (HK3.out.set 6 _)⟩
      rw [HF3.out,<- HT3.out];rfl
     case measure=>
      have h1:RunAt (w3.setCell ⟨b,6,none⟩ (.int .i64 r3.next)) b { r3 with place:=r3.next }:=run_set HR3.out 6 _ rfl
      rw [hM0.out,mrun_dead h1 HH3.out]
      omega
 · have q10:wr.cell? ⟨B,10,none⟩=some (.func (.func 174) #[.pointer (some ⟨b,0,none⟩)] #[]):=HAW.out 10
   have HM:Hid (Met (B+1) b arg reps a2 cap2 s tx to (((wr.setCell ⟨b,14,none⟩ (.int .i64 ((s.steps:Int)+1))).setCell ⟨b,7,none⟩ (.int .i64 ((s.pc:Int)+1))).alloc (.cells #[.int .i64 10,.string tx,.int .i64 to] 183)).drew):=HMET.out _
   have HKV:Hid (Kp (B+1) b wr (((wr.setCell ⟨b,14,none⟩ (.int .i64 ((s.steps:Int)+1))).setCell ⟨b,7,none⟩ (.int .i64 ((s.pc:Int)+1))).alloc (.cells #[.int .i64 10,.string tx,.int .i64 to] 183)).drew):=HKU.out _
   clear HMET HKU HAW HA HST
   go_wp2_with fail
   go_region_with (go_at_call 174;refine (m99 (B+1) b arg reps a2 cap2 s tx to _ HM.out).mono ?_;rintro e w3 ⟨rfl,h3,hk3⟩;have H3:Hid (After (B+1) b arg (.slice a2 reps.length cap2) s.pc w3 (act arg reps ⟨10,tx,to⟩ s)):=h3;have HK3:Hid (Kp (B+1) b wr w3):=HKV.out.trans hk3;clear h3 hk3)
   all_goals
    cases hact:act arg reps ⟨10,tx,to⟩ s with
    | inl s'=>
     have hL3:=H3.out
     rw [hact] at hL3
     obtain ⟨p3,v3,hS3⟩:=hL3
     obtain ⟨hf3,ho3⟩:=(HG s' hact).out
     have hst3:s'.steps=s.steps+1:=act_steps hact
     have HS3:Hid (St (B+1) b w3 (rcL p3 v3 arg (.slice a2 reps.length cap2) s.pc s') s'.out):=hS3
     have HF3:Hid (Fit reps s'/\On T arg reps s'):=⟨hf3,ho3⟩
     have d7:w3.cell? ⟨b,7,none⟩=some (.int .i64 s'.pc):=run_cell hS3.run 7
     have d6:w3.cell? ⟨b,6,none⟩=some (.int .i64 s.pc):=run_cell hS3.run 6
     have e6:=run_free hS3.run 6
     clear hS3 hf3 ho3 H3 HG HE hact
     go_wp2
     go_roundw
     case rel=>
      refine ⟨.inl ⟨s',HF3.out.1,HF3.out.2,⟨p3,v3,?_⟩⟩,hkr.out.trans (HK3.out.set 6 _)⟩
      exact HS3.out.set 6 _ rfl rfl rfl
     case measure=>
      have h1:RunAt (w3.setCell ⟨b,6,none⟩ (.int .i64 s'.pc)) b (rcL p3 v3 arg (.slice a2 reps.length cap2) s'.pc s'):=run_set HS3.out.run 6 _ rfl
      rw [hM0.out,mrun_live h1 rfl rfl]
      omega
    | inr t=>
     have hL3:=H3.out
     rw [hact] at hL3
     obtain ⟨r3,hr3,hh3,ht3⟩:=hL3
     have HF3:=(HE t hact)
     have HR3:Hid (RunAt w3 b r3):=hr3
     have HH3:Hid (r3.halted=true):=hh3
     have HT3:Hid (r3.tn=t):=ht3
     have d7:w3.cell? ⟨b,7,none⟩=some (.int .i64 r3.next):=run_cell hr3 7
     have d6:w3.cell? ⟨b,6,none⟩=some (.int .i64 r3.place):=run_cell hr3 6
     have e6:=run_free hr3 6
     clear hr3 hh3 ht3 H3 HG HE hact
     go_wp2
     go_roundw
     case rel=>
      refine ⟨.inr ⟨{ r3 with place:=r3.next },run_set HR3.out 6 _ rfl,HH3.out,?_⟩,hkr.out.trans (HK3.out.set 6 _)⟩
      rw [HF3.out,<- HT3.out];rfl
     case measure=>
      have h1:RunAt (w3.setCell ⟨b,6,none⟩ (.int .i64 r3.next)) b { r3 with place:=r3.next }:=run_set HR3.out 6 _ rfl
      rw [hM0.out,mrun_dead h1 HH3.out]
      omega
 have q11:wr.cell? ⟨B,11,none⟩=some (.func (.func 175) #[.pointer (some ⟨b,0,none⟩)] #[]):=HAW.out 11
 have HM:Hid (Met (B+1) b arg reps a2 cap2 s tx to (((wr.setCell ⟨b,14,none⟩ (.int .i64 ((s.steps:Int)+1))).setCell ⟨b,7,none⟩ (.int .i64 ((s.pc:Int)+1))).alloc (.cells #[.int .i64 11,.string tx,.int .i64 to] 183)).drew):=HMET.out _
 have HKV:Hid (Kp (B+1) b wr (((wr.setCell ⟨b,14,none⟩ (.int .i64 ((s.steps:Int)+1))).setCell ⟨b,7,none⟩ (.int .i64 ((s.pc:Int)+1))).alloc (.cells #[.int .i64 11,.string tx,.int .i64 to] 183)).drew):=HKU.out _
 clear HMET HKU HAW HA HST
 go_wp2_with fail
 go_region_with (go_at_call 175;refine (m100 (B+1) b arg reps a2 cap2 s tx to _ HM.out).mono ?_;rintro e w3 ⟨rfl,h3,hk3⟩;have H3:Hid (After (B+1) b arg (.slice a2 reps.length cap2) s.pc w3 (act arg reps ⟨11,tx,to⟩ s)):=h3;have HK3:Hid (Kp (B+1) b wr w3):=HKV.out.trans hk3;clear h3 hk3)
 all_goals
  cases hact:act arg reps ⟨11,tx,to⟩ s with
  | inl s'=>
   have hL3:=H3.out
   rw [hact] at hL3
   obtain ⟨p3,v3,hS3⟩:=hL3
   obtain ⟨hf3,ho3⟩:=(HG s' hact).out
   have hst3:s'.steps=s.steps+1:=act_steps hact
   have HS3:Hid (St (B+1) b w3 (rcL p3 v3 arg (.slice a2 reps.length cap2) s.pc s') s'.out):=hS3
   have HF3:Hid (Fit reps s'/\On T arg reps s'):=⟨hf3,ho3⟩
   have d7:w3.cell? ⟨b,7,none⟩=some (.int .i64 s'.pc):=run_cell hS3.run 7
   have d6:w3.cell? ⟨b,6,none⟩=some (.int .i64 s.pc):=run_cell hS3.run 6
   have e6:=run_free hS3.run 6
   clear hS3 hf3 ho3 H3 HG HE hact
   go_wp2
   go_roundw
   case rel=>
    refine ⟨.inl ⟨s',HF3.out.1,HF3.out.2,⟨p3,v3,?_⟩⟩,hkr.out.trans (HK3.out.set 6 _)⟩
    exact HS3.out.set 6 _ rfl rfl rfl
   case measure=>
    have h1:RunAt (w3.setCell ⟨b,6,none⟩ (.int .i64 s'.pc)) b (rcL p3 v3 arg (.slice a2 reps.length cap2) s'.pc s'):=run_set HS3.out.run 6 _ rfl
    rw [hM0.out,mrun_live h1 rfl rfl]
    omega
  | inr t=>
   have hL3:=H3.out
   rw [hact] at hL3
   obtain ⟨r3,hr3,hh3,ht3⟩:=hL3
   have HF3:=(HE t hact)
   have HR3:Hid (RunAt w3 b r3):=hr3
   have HH3:Hid (r3.halted=true):=hh3
   have HT3:Hid (r3.tn=t):=ht3
   have d7:w3.cell? ⟨b,7,none⟩=some (.int .i64 r3.next):=run_cell hr3 7
   have d6:w3.cell? ⟨b,6,none⟩=some (.int .i64 r3.place):=run_cell hr3 6
   have e6:=run_free hr3 6
   clear hr3 hh3 ht3 H3 HG HE hact
   go_wp2
   go_roundw
   case rel=>
    refine ⟨.inr ⟨{ r3 with place:=r3.next },run_set HR3.out 6 _ rfl,HH3.out,?_⟩,hkr.out.trans (HK3.out.set 6 _)⟩
    rw [HF3.out,<- HT3.out];rfl
   case measure=>
    have h1:RunAt (w3.setCell ⟨b,6,none⟩ (.int .i64 r3.next)) b { r3 with place:=r3.next }:=run_set HR3.out 6 _ rfl
    rw [hM0.out,mrun_dead h1 HH3.out]
    omega

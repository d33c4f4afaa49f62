import Derived.Test.YthfmmimmfcnhmaaGreatDoorZ22
set_option maxHeartbeats 8000000
set_option maxRecDepth 100000
namespace Go.Proofs.YthfmmimmfcnhmaaGreatDoor
open Proofs.Tryz
open Go.RowKit
theorem c87x (c:Int) (t:ByteArray) (k:Int) (w:World):
 Calls prog 87 #[.int .i64 c,.string t,.int .i64 k] w fun e w'=>e=.returned (.agg #[.bool true,.int .i64 c,.string t,.bool false,.string ⟨#[]⟩,.int .i64 k])/\Below w.heap.size w w':=c87 c t k w
theorem okT_all {T:List I3} (h:okT T=true):T.all okI=true:=by
 unfold okT at h
 simp only [Bool.and_eq_true] at h
 exact h.2
theorem okT_len {T:List I3} (h:okT T=true):T.length<=40:=by
 unfold okT at h
 simp only [Bool.and_eq_true,decide_eq_true_eq] at h
 exact h.1.2
theorem c85y (a:Option Addr) (cap:Nat) (T:List I3) (arg:ByteArray) (a2:Option Addr) (cap2:Nat) (reps:List R2) (w:World) (hs:∀ i,(T.getD i i3z).tx.size<=1048700) (hl:T.length<=1048576) (hat:InsAt w a T) (hok:okT T=true) (hr:reps.length<=14) (ha:arg.size<=300) (hat2:ResAt w a2 reps) (hs2:∀ i,(reps.getD i r2z).tx.size<=1048700):
 Calls prog 85 #[.agg #[.slice a T.length cap],.string arg,.slice a2 reps.length cap2] w fun e w'=>e=.returned (nextT T arg reps).v/\Below w.heap.size w w':=by
 have HIA:Hid (InsAt w a T):=hat
 clear hat
 obtain ⟨rb,roff,hc⟩:=res_some hat2
 have HC:Hid (reps=[]\/(a2=some ⟨rb,roff,none⟩/\rb<w.heap.size/\∀ i,i<reps.length->w.cell? ⟨rb,roff+i*2,none⟩=some (.int .i64 (reps.getD i r2z).code)/\w.cell? ⟨rb,roff+i*2+1,none⟩=some (.string (reps.getD i r2z).tx))):=hc
 clear hc hat2
 go_enter func85,ntmps85
 go_wp2_with fail
 refine (c114 a cap T (W0 a T.length cap w) hs hl (ins_below HIA.out (W0_below _ _ _ _))).mono ?_
 rintro e w1 ⟨rfl,hb1⟩
 rw [hok]
 have hb:Below (w.heap.size+2) (W0 a T.length cap w) w1:=by rw [W0_size] at hb1;exact hb1
 obtain ⟨⟨t0,q0,q1,q2,q3,q4,q5⟩,hfz⟩:=W0_cells hb
 go_wp2_with fail
 clear t0 q0 q1 q2 q3 q4 q5 hfz hb1
 go_loopw [7] (fun i wr=>∃ k:Nat,k<=reps.length/\i=.int .i64 k/\Hid (okR (reps.take k)=true)/\Below (w.heap.size+2) (W0 a T.length cap w) wr) (fun i _=>reps.length - (intOf i).toNat)
 case atStart=>exact ⟨0,Nat.zero_le _,rfl,rfl,hb⟩
 clear hb
 obtain ⟨k,hk,rfl,hko,hb⟩:=hrel
 have hBw:Below w.heap.size w wr:=(W0_below a T.length cap w).trans (hb.mono (by omega))
 obtain ⟨⟨t0,q0,q1,q2,q3,q4,q5⟩,hfz⟩:=W0_cells hb
 by_cases hlt:k<reps.length
 · rcases HC.out with hss | ⟨ha2,hrw,hcell⟩
   · rw [hss] at hlt;exact absurd hlt (Nat.not_lt_zero _)
   subst ha2
   have x0:=(hBw.cell (p:=⟨rb,roff+k*2,none⟩) hrw).trans (hcell k hlt).1
   have x1:=(hBw.cell (p:=⟨rb,roff+k*2+1,none⟩) hrw).trans (hcell k hlt).2
   have hxs:=hs2 k
   generalize hx:reps.getD k r2z=x at*
   have HX:Hid (reps.getD k r2z=x):=hx
   clear hx hcell
   go_wp2_with fail
   refine (c115 x.code x.tx wr hxs).mono ?_
   rintro e w2 ⟨rfl,hb2⟩
   have hb':Below (w.heap.size+2) (W0 a T.length cap w) w2:=hb.trans (hb2.mono (by have:=hb.size;rw [W0_size] at this;exact this))
   by_cases hv:vr x.code x.tx.data.toList=true
   · have hko':Hid (okR (reps.take (k+1))=true):=all_snocR hlt hko.out (by rw [HX.out];exact hv)
     rw [hv]
     clear hv t0 q0 q1 q2 q3 q4 q5 hfz hb2
     go_wp2
     go_roundw
     case rel=>exact ⟨k+1,by omega,by go_num,hko',hb'⟩
     case measure=>simp [intOf];omega
   have hv':vr x.code x.tx.data.toList=false:=by simpa using hv
   have HZ:Hid (nextT T arg reps=zeroT):=next_no (.inr (.inr (.inr (all_notR hlt (by rw [HX.out];exact hv')))))
   rw [hv']
   clear hv hv' t0 q0 q1 q2 q3 q4 q5 hfz hb2
   obtain ⟨⟨t0,q0,q1,q2,q3,q4,q5⟩,hfz⟩:=W0_cells hb'
   have S6:=set6 (z6_heap hb') (.bool false) (.int .i64 0) (.string ⟨#[]⟩) (.bool false) (.string ⟨#[]⟩) (.int .i64 0)
   obtain ⟨s0,s1,s2,s3,s4,s5⟩:=S6
   go_wp2
   refine bodyPost_ret (v:=zeroT.v) (by simp [results,Tryz.results85,go_sem,s0,s1,s2,s3,s4,s5,zeroT,TN.v]) rfl ⟨by rw [HZ.out],?_⟩
   exact ((W0_below a T.length cap w).trans (hb'.mono (by omega))).trans (set6_below (by omega) _ _ _ _ _ _)
 have hall:Hid (okR reps=true):=by have:=hko.out;rw [List.take_of_length_le (by omega)] at this;exact this
 clear t0 q0 q1 q2 q3 q4 q5 hfz hko
 go_wp2_with fail
 have HNX:Hid (nextT T arg reps=fin T arg reps):=next_yes hok ha hr hall.out
 have HOK:Hid (okR reps=true):=hall
 have HALL:Hid (T.all okI=true):=okT_all hok
 have hT40:T.length<=40:=okT_len hok
 have HB:Hid (Below (w.heap.size+2) (W0 a T.length cap w) wr):=hb
 clear hb hBw
 go_loopw [8,9,10,11,12] (fun hd ot pl lk sp wq=>∃ s:ST,hd=.string s.hand/\ot=.string (ofL s.out)/\pl=.int .i64 s.pc/\lk=.int .i64 s.looks/\sp=.int .i64 s.steps/\Hid (Fit reps s)/\Hid (On T arg reps s)/\Below (w.heap.size+2) (W0 a T.length cap w) wq) (fun _ _ _ _ sp _=>201 - (intOf sp).toNat)
 case atStart=>exact ⟨s0,rfl,rfl,rfl,rfl,rfl,fit_start reps,on_start T arg reps,HB.out⟩
 clear HB
 obtain ⟨s,rfl,rfl,rfl,rfl,rfl,hf,ho,hb⟩:=hrel
 obtain ⟨f1,f2,f3,f4,f5,f6⟩:=hf.out
 have hos:(ofL s.out).size=s.out.length:=ofL_size _
 have hBw:Below w.heap.size w wr:=(W0_below a T.length cap w).trans (hb.mono (by omega))
 have hzz:w.heap.size+2<=wr.heap.size:=by have:=hb.size;rw [W0_size] at this;exact this
 obtain ⟨⟨t0,q0,q1,q2,q3,q4,q5⟩,hfz⟩:=W0_cells hb
 by_cases hpc:T.length<=s.pc
 · have HF:Hid (nextT T arg reps=overT 2 (ofL (Lib.decDigits s.pc)) (s.steps:Int)):=HNX.out.trans (end_pc hpc hf.out ho.out)
   clear hf ho
   go_wp2_with fail
   refine (c116 s.pc _ (by omega)).mono ?_
   rintro e wD ⟨rfl,hbD⟩
   have hbd:Below (w.heap.size+2) (W0 a T.length cap w) wD:=hb.trans (hbD.mono (hzz))
   go_wp2_with fail
   refine (c87x 2 (ofL (Lib.decDigits s.pc)) (s.steps:Int) _).mono ?_
   rintro e wE ⟨rfl,hbE⟩
   have hb':Below (w.heap.size+2) (W0 a T.length cap w) wE:=hbd.trans (hbE.mono (by have:=hbd.size;rw [W0_size] at this;simp;omega))
   clear t0 q0 q1 q2 q3 q4 q5 hfz hbE
   obtain ⟨⟨t0,q0,q1,q2,q3,q4,q5⟩,hfz⟩:=W0_cells hb'
   go_wp2
   obtain ⟨s0,s1,s2,s3,s4,s5⟩:=set6 (z6_heap hb') (.bool true) (.int .i64 2) (.string (ofL (Lib.decDigits s.pc))) (.bool false) (.string ⟨#[]⟩) (.int .i64 (s.steps:Int))
   refine bodyPost_ret (v:=(overT 2 (ofL (Lib.decDigits s.pc)) (s.steps:Int)).v) (by simp [results,Tryz.results85,go_sem,s0,s1,s2,s3,s4,s5,overT,TN.v]) rfl ⟨by rw [HF.out] <;> rfl,?_⟩
   exact ((W0_below a T.length cap w).trans (hb'.mono (by omega))).trans (set6_below (by omega) _ _ _ _ _ _)
 by_cases hst:200<=s.steps
 · have HF:Hid (nextT T arg reps=overT 3 ⟨#[]⟩ (s.steps:Int)):=HNX.out.trans (end_steps (by omega) (by omega) ho.out)
   clear hf ho
   go_wp2_with fail
   refine (c87x 3 ⟨#[]⟩ (s.steps:Int) _).mono ?_
   rintro e wE ⟨rfl,hbE⟩
   have hb':Below (w.heap.size+2) (W0 a T.length cap w) wE:=hb.trans (hbE.mono (hzz))
   clear t0 q0 q1 q2 q3 q4 q5 hfz hbE
   obtain ⟨⟨t0,q0,q1,q2,q3,q4,q5⟩,hfz⟩:=W0_cells hb'
   go_wp2
   obtain ⟨s0,s1,s2,s3,s4,s5⟩:=set6 (z6_heap hb') (.bool true) (.int .i64 3) (.string ⟨#[]⟩) (.bool false) (.string ⟨#[]⟩) (.int .i64 (s.steps:Int))
   refine bodyPost_ret (v:=(overT 3 ⟨#[]⟩ (s.steps:Int)).v) (by simp [results,Tryz.results85,go_sem,s0,s1,s2,s3,s4,s5,overT,TN.v]) rfl ⟨by rw [HF.out] <;> rfl,?_⟩
   exact ((W0_below a T.length cap w).trans (hb'.mono (by omega))).trans (set6_below (by omega) _ _ _ _ _ _)
 have hlt:s.pc<T.length:=by omega
 have hst':s.steps<200:=by omega
 clear hst hpc
 obtain ⟨ib,ioff,hic⟩:=ins_some HIA.out
 rcases hic with hss | ⟨hia,hiw,hcell⟩
 · rw [hss] at hlt;exact absurd hlt (Nat.not_lt_zero _)
 subst hia
 have x0:=(hBw.cell (p:=⟨ib,ioff+s.pc*3,none⟩) hiw).trans (hcell s.pc hlt).1
 have x1:=(hBw.cell (p:=⟨ib,ioff+s.pc*3+1,none⟩) hiw).trans (hcell s.pc hlt).2.1
 have x2:=(hBw.cell (p:=⟨ib,ioff+s.pc*3+2,none⟩) hiw).trans (hcell s.pc hlt).2.2
 have hiw':ib<wr.heap.size:=by omega
 obtain ⟨o1,_,_,o4,o5,o6⟩:=okI_bad (get_ok HALL.out hlt)
 have HX0:Hid (T.getD s.pc i3z=T.getD s.pc i3z):=rfl
 generalize hx:T.getD s.pc i3z=x at*
 have HX:Hid (T.getD s.pc i3z=x):=hx
 clear hx hcell HX0
 obtain ⟨op,tx,to⟩:=x
 simp only at x0 x1 x2 o1 o4 o5 o6
 have HG:∀ s':ST,act arg reps ⟨op,tx,to⟩ s=.inl s'->Hid (Fit reps s'/\On T arg reps s'):=fun s' e=>go_on HX.out hlt hT40 hst' HALL.out ha HOK.out hf.out ho.out e
 have HE:∀ t:TN,act arg reps ⟨op,tx,to⟩ s=.inr t->Hid (nextT T arg reps=t):=fun t e=>HNX.out.trans (go_end HX.out hlt hst' ho.out e)
 clear hf ho HX
 obtain rfl | rfl | rfl | rfl | rfl | rfl | rfl | rfl | rfl | rfl | rfl:op=1\/op=2\/op=3\/op=4\/op=5\/op=6\/op=7\/op=8\/op=9\/op=10\/op=11:=by omega
 · have HS:=HG ⟨tx,s.out,s.pc+1,s.looks,s.steps+1⟩ (act_1)
   clear HG HE
   go_wp2
   go_roundw
   case rel=>
    refine ⟨⟨tx,s.out,s.pc+1,s.looks,s.steps+1⟩,rfl,rfl,by go_num,by go_num,by go_num,HS.out.1,HS.out.2,?_⟩
    exact hb.alloc (by omega) _
   case measure=>simp [intOf];omega
 · have HS:=HG ⟨arg,s.out,s.pc+1,s.looks,s.steps+1⟩ (act_2)
   clear HG HE
   go_wp2
   go_roundw
   case rel=>
    refine ⟨⟨arg,s.out,s.pc+1,s.looks,s.steps+1⟩,rfl,rfl,by go_num,by go_num,by go_num,HS.out.1,HS.out.2,?_⟩
    exact hb.alloc (by omega) _
   case measure=>simp [intOf];omega
 · have HEL:∀ t:TN,look ⟨3,tx,to⟩ reps s=.inr t->Hid (nextT T arg reps=t):=HE
   have HGL:∀ s':ST,look ⟨3,tx,to⟩ reps s=.inl s'->Hid (Fit reps s'/\On T arg reps s'):=HG
   clear HE HG
   by_cases hn0:nameOk s.hand.data.toList=false
   · have HF:=HEL _ (look_noname hn0)
     clear HEL HGL
     go_wp2_with fail
     refine (c15 s.hand _ (by omega)).mono ?_
     rintro e wN ⟨rfl,hwN⟩
     obtain rfl:=hwN.symm
     rw [hn0]
     go_wp2_with fail
     refine (c87x 4 ⟨#[63]⟩ ((s.steps:Int)+1) _).mono ?_
     rintro e wE ⟨rfl,hbE⟩
     have hb':Below (w.heap.size+2) (W0 (some ⟨ib,ioff,none⟩) T.length cap w) wE:=(hb.alloc (by omega) _).trans (hbE.mono (by simp;omega))
     clear t0 q0 q1 q2 q3 q4 q5 hfz hbE
     obtain ⟨⟨t0,q0,q1,q2,q3,q4,q5⟩,hfz⟩:=W0_cells hb'
     go_wp2
     obtain ⟨s0,s1,s2,s3,s4,s5⟩:=set6 (z6_heap hb') (.bool true) (.int .i64 4) (.string ⟨#[63]⟩) (.bool false) (.string ⟨#[]⟩) (.int .i64 ((s.steps:Int)+1))
     refine bodyPost_ret (v:=(overT 4 ⟨#[63]⟩ ((s.steps:Int)+1)).v) (by simp [results,Tryz.results85,go_sem,s0,s1,s2,s3,s4,s5,overT,TN.v]) rfl ⟨by rw [HF.out] <;> rfl,?_⟩
     exact ((W0_below (some ⟨ib,ioff,none⟩) T.length cap w).trans (hb'.mono (by omega))).trans (set6_below (by omega) _ _ _ _ _ _)
   have hn:nameOk s.hand.data.toList=true:=by simpa using hn0
   clear hn0
   by_cases hl14:14<=s.looks
   · have HF:=HEL _ (look_spent hn hl14)
     clear HEL HGL
     go_wp2_with fail
     refine (c15 s.hand _ (by omega)).mono ?_
     rintro e wN ⟨rfl,hwN⟩
     obtain rfl:=hwN.symm
     rw [hn]
     go_wp2_with fail
     refine (c87x 3 ⟨#[]⟩ ((s.steps:Int)+1) _).mono ?_
     rintro e wE ⟨rfl,hbE⟩
     have hb':Below (w.heap.size+2) (W0 (some ⟨ib,ioff,none⟩) T.length cap w) wE:=(hb.alloc (by omega) _).trans (hbE.mono (by simp;omega))
     clear t0 q0 q1 q2 q3 q4 q5 hfz hbE
     obtain ⟨⟨t0,q0,q1,q2,q3,q4,q5⟩,hfz⟩:=W0_cells hb'
     go_wp2
     obtain ⟨s0,s1,s2,s3,s4,s5⟩:=set6 (z6_heap hb') (.bool true) (.int .i64 3) (.string ⟨#[]⟩) (.bool false) (.string ⟨#[]⟩) (.int .i64 ((s.steps:Int)+1))
     refine bodyPost_ret (v:=(overT 3 ⟨#[]⟩ ((s.steps:Int)+1)).v) (by simp [results,Tryz.results85,go_sem,s0,s1,s2,s3,s4,s5,overT,TN.v]) rfl ⟨by rw [HF.out] <;> rfl,?_⟩
     exact ((W0_below (some ⟨ib,ioff,none⟩) T.length cap w).trans (hb'.mono (by omega))).trans (set6_below (by omega) _ _ _ _ _ _)
   by_cases hlr:reps.length<=s.looks
   · have HF:=HEL _ (look_stop hn hl14 hlr)
     clear HEL HGL
     go_wp2_with fail
     refine (c15 s.hand _ (by omega)).mono ?_
     rintro e wN ⟨rfl,hwN⟩
     obtain rfl:=hwN.symm
     rw [hn]
     have hbx:Below (w.heap.size+2) (W0 (some ⟨ib,ioff,none⟩) T.length cap w) (wr.alloc (.cells #[.int .i64 3,.string tx,.int .i64 to] 183)):=hb.alloc (by omega) _
     have hxo:(wr.alloc (.cells #[.int .i64 3,.string tx,.int .i64 to] 183)).cell? ⟨wr.heap.size,0,none⟩=some (.int .i64 3):=by simp
     generalize (wr.alloc (.cells #[.int .i64 3,.string tx,.int .i64 to] 183))=wx at*
     clear t0 q0 q1 q2 q3 q4 q5 hfz
     obtain ⟨⟨t0,q0,q1,q2,q3,q4,q5⟩,hfz⟩:=W0_cells hbx
     go_wp2
     obtain ⟨s0,s1,s2,s3,s4,s5⟩:=set6 (z6_heap hbx) (.bool false) (.int .i64 0) (.string ⟨#[]⟩) (.bool false) (.string s.hand) (.int .i64 ((s.steps:Int)+1))
     refine bodyPost_ret (v:=(TN.mk false 0 ⟨#[]⟩ false s.hand ((s.steps:Int)+1)).v) (by simp [results,Tryz.results85,go_sem,s0,s1,s2,s3,s4,s5,TN.v]) rfl ⟨by rw [HF.out] <;> rfl,?_⟩
     exact ((W0_below (some ⟨ib,ioff,none⟩) T.length cap w).trans (hbx.mono (by omega))).trans (set6_below (by omega) _ _ _ _ _ _)
   have hlk:s.looks<reps.length:=by omega
   rcases HC.out with hss | ⟨ha2,hrw,hcell⟩
   · rw [hss] at hlk;exact absurd hlk (Nat.not_lt_zero _)
   subst ha2
   have y0:=(hBw.cell (p:=⟨rb,roff+s.looks*2,none⟩) hrw).trans (hcell s.looks hlk).1
   have y1:=(hBw.cell (p:=⟨rb,roff+s.looks*2+1,none⟩) hrw).trans (hcell s.looks hlk).2
   have hrw':rb<wr.heap.size:=by omega
   have hys:(reps.getD s.looks r2z).tx.size<=300:=by have h:=vr_small (okR_at HOK.out hlk);simpa using h
   have HM:=fun h4=>HEL _ (look_3m (tx:=tx) (to:=to) hn hl14 hlr h4)
   have HD:=fun h4 h5=>HGL _ (look_3d (tx:=tx) (to:=to) hn hl14 hlr h4 h5)
   have HB3:=fun h4 h5=>HEL _ (look_3b (tx:=tx) (to:=to) hn hl14 hlr h4 h5)
   generalize reps.getD s.looks r2z=y at*
   clear hcell HEL HGL
   by_cases h4:y.code=4
   · have HF:=HM h4
     clear HM HD HB3
     rw [h4] at y0
     go_wp2_with fail
     refine (c15 s.hand _ (by omega)).mono ?_
     rintro e wN ⟨rfl,hwN⟩
     obtain rfl:=hwN.symm
     rw [hn]
     go_wp2_with fail
     refine (c87x 4 s.hand ((s.steps:Int)+1) _).mono ?_
     rintro e wE ⟨rfl,hbE⟩
     have hb':Below (w.heap.size+2) (W0 (some ⟨ib,ioff,none⟩) T.length cap w) wE:=((hb.alloc (by omega) _).alloc (by simp;omega) _).trans (hbE.mono (by simp;omega))
     clear t0 q0 q1 q2 q3 q4 q5 hfz hbE
     obtain ⟨⟨t0,q0,q1,q2,q3,q4,q5⟩,hfz⟩:=W0_cells hb'
     go_wp2
     obtain ⟨s0,s1,s2,s3,s4,s5⟩:=set6 (z6_heap hb') (.bool true) (.int .i64 4) (.string s.hand) (.bool false) (.string ⟨#[]⟩) (.int .i64 ((s.steps:Int)+1))
     refine bodyPost_ret (v:=(overT 4 s.hand ((s.steps:Int)+1)).v) (by simp [results,Tryz.results85,go_sem,s0,s1,s2,s3,s4,s5,overT,TN.v]) rfl ⟨by rw [HF.out] <;> rfl,?_⟩
     exact ((W0_below (some ⟨ib,ioff,none⟩) T.length cap w).trans (hb'.mono (by omega))).trans (set6_below (by omega) _ _ _ _ _ _)
   have hc4:(y.code==4)=false:=by simpa using h4
   by_cases h5:y.code=0
   · have HS:=HD h4 h5
     clear HM HD HB3 h4 hc4
     rw [h5] at y0
     go_wp2_with fail
     refine (c15 s.hand _ (by omega)).mono ?_
     rintro e wN ⟨rfl,hwN⟩
     obtain rfl:=hwN.symm
     rw [hn]
     go_wp2
     go_roundw
     case rel=>
      refine ⟨⟨y.tx,s.out,s.pc+1,s.looks+1,s.steps+1⟩,rfl,rfl,by go_num,by go_num,by go_num,HS.out.1,HS.out.2,?_⟩
      exact (hb.alloc (by omega) _).alloc (by simp;omega) _
     case measure=>simp [intOf];omega
   have HF:=HB3 h4 h5
   have hc5:(y.code !=0)=true:=by simpa using h5
   clear HM HD HB3
   go_wp2_with fail
   refine (c15 s.hand _ (by omega)).mono ?_
   rintro e wN ⟨rfl,hwN⟩
   obtain rfl:=hwN.symm
   rw [hn]
   go_wp2_with fail
   refine (c87x 5 s.hand ((s.steps:Int)+1) _).mono ?_
   rintro e wE ⟨rfl,hbE⟩
   have hb':Below (w.heap.size+2) (W0 (some ⟨ib,ioff,none⟩) T.length cap w) wE:=((hb.alloc (by omega) _).alloc (by simp;omega) _).trans (hbE.mono (by simp;omega))
   clear t0 q0 q1 q2 q3 q4 q5 hfz hbE
   obtain ⟨⟨t0,q0,q1,q2,q3,q4,q5⟩,hfz⟩:=W0_cells hb'
   go_wp2
   obtain ⟨s0,s1,s2,s3,s4,s5⟩:=set6 (z6_heap hb') (.bool true) (.int .i64 5) (.string s.hand) (.bool false) (.string ⟨#[]⟩) (.int .i64 ((s.steps:Int)+1))
   refine bodyPost_ret (v:=(overT 5 s.hand ((s.steps:Int)+1)).v) (by simp [results,Tryz.results85,go_sem,s0,s1,s2,s3,s4,s5,overT,TN.v]) rfl ⟨by rw [HF.out] <;> rfl,?_⟩
   exact ((W0_below (some ⟨ib,ioff,none⟩) T.length cap w).trans (hb'.mono (by omega))).trans (set6_below (by omega) _ _ _ _ _ _)
 · have HEL:∀ t:TN,look ⟨4,tx,to⟩ reps s=.inr t->Hid (nextT T arg reps=t):=HE
   have HGL:∀ s':ST,look ⟨4,tx,to⟩ reps s=.inl s'->Hid (Fit reps s'/\On T arg reps s'):=HG
   clear HE HG
   by_cases hn0:nameOk s.hand.data.toList=false
   · have HF:=HEL _ (look_noname hn0)
     clear HEL HGL
     go_wp2_with fail
     refine (c15 s.hand _ (by omega)).mono ?_
     rintro e wN ⟨rfl,hwN⟩
     obtain rfl:=hwN.symm
     rw [hn0]
     go_wp2_with fail
     refine (c87x 4 ⟨#[63]⟩ ((s.steps:Int)+1) _).mono ?_
     rintro e wE ⟨rfl,hbE⟩
     have hb':Below (w.heap.size+2) (W0 (some ⟨ib,ioff,none⟩) T.length cap w) wE:=(hb.alloc (by omega) _).trans (hbE.mono (by simp;omega))
     clear t0 q0 q1 q2 q3 q4 q5 hfz hbE
     obtain ⟨⟨t0,q0,q1,q2,q3,q4,q5⟩,hfz⟩:=W0_cells hb'
     go_wp2
     obtain ⟨s0,s1,s2,s3,s4,s5⟩:=set6 (z6_heap hb') (.bool true) (.int .i64 4) (.string ⟨#[63]⟩) (.bool false) (.string ⟨#[]⟩) (.int .i64 ((s.steps:Int)+1))
     refine bodyPost_ret (v:=(overT 4 ⟨#[63]⟩ ((s.steps:Int)+1)).v) (by simp [results,Tryz.results85,go_sem,s0,s1,s2,s3,s4,s5,overT,TN.v]) rfl ⟨by rw [HF.out] <;> rfl,?_⟩
     exact ((W0_below (some ⟨ib,ioff,none⟩) T.length cap w).trans (hb'.mono (by omega))).trans (set6_below (by omega) _ _ _ _ _ _)
   have hn:nameOk s.hand.data.toList=true:=by simpa using hn0
   clear hn0
   by_cases hl14:14<=s.looks
   · have HF:=HEL _ (look_spent hn hl14)
     clear HEL HGL
     go_wp2_with fail
     refine (c15 s.hand _ (by omega)).mono ?_
     rintro e wN ⟨rfl,hwN⟩
     obtain rfl:=hwN.symm
     rw [hn]
     go_wp2_with fail
     refine (c87x 3 ⟨#[]⟩ ((s.steps:Int)+1) _).mono ?_
     rintro e wE ⟨rfl,hbE⟩
     have hb':Below (w.heap.size+2) (W0 (some ⟨ib,ioff,none⟩) T.length cap w) wE:=(hb.alloc (by omega) _).trans (hbE.mono (by simp;omega))
     clear t0 q0 q1 q2 q3 q4 q5 hfz hbE
     obtain ⟨⟨t0,q0,q1,q2,q3,q4,q5⟩,hfz⟩:=W0_cells hb'
     go_wp2
     obtain ⟨s0,s1,s2,s3,s4,s5⟩:=set6 (z6_heap hb') (.bool true) (.int .i64 3) (.string ⟨#[]⟩) (.bool false) (.string ⟨#[]⟩) (.int .i64 ((s.steps:Int)+1))
     refine bodyPost_ret (v:=(overT 3 ⟨#[]⟩ ((s.steps:Int)+1)).v) (by simp [results,Tryz.results85,go_sem,s0,s1,s2,s3,s4,s5,overT,TN.v]) rfl ⟨by rw [HF.out] <;> rfl,?_⟩
     exact ((W0_below (some ⟨ib,ioff,none⟩) T.length cap w).trans (hb'.mono (by omega))).trans (set6_below (by omega) _ _ _ _ _ _)
   by_cases hlr:reps.length<=s.looks
   · have HF:=HEL _ (look_stop hn hl14 hlr)
     clear HEL HGL
     go_wp2_with fail
     refine (c15 s.hand _ (by omega)).mono ?_
     rintro e wN ⟨rfl,hwN⟩
     obtain rfl:=hwN.symm
     rw [hn]
     have hbx:Below (w.heap.size+2) (W0 (some ⟨ib,ioff,none⟩) T.length cap w) (wr.alloc (.cells #[.int .i64 4,.string tx,.int .i64 to] 183)):=hb.alloc (by omega) _
     have hxo:(wr.alloc (.cells #[.int .i64 4,.string tx,.int .i64 to] 183)).cell? ⟨wr.heap.size,0,none⟩=some (.int .i64 4):=by simp
     generalize (wr.alloc (.cells #[.int .i64 4,.string tx,.int .i64 to] 183))=wx at*
     clear t0 q0 q1 q2 q3 q4 q5 hfz
     obtain ⟨⟨t0,q0,q1,q2,q3,q4,q5⟩,hfz⟩:=W0_cells hbx
     go_wp2
     obtain ⟨s0,s1,s2,s3,s4,s5⟩:=set6 (z6_heap hbx) (.bool false) (.int .i64 0) (.string ⟨#[]⟩) (.bool true) (.string s.hand) (.int .i64 ((s.steps:Int)+1))
     refine bodyPost_ret (v:=(TN.mk false 0 ⟨#[]⟩ true s.hand ((s.steps:Int)+1)).v) (by simp [results,Tryz.results85,go_sem,s0,s1,s2,s3,s4,s5,TN.v]) rfl ⟨by rw [HF.out] <;> rfl,?_⟩
     exact ((W0_below (some ⟨ib,ioff,none⟩) T.length cap w).trans (hbx.mono (by omega))).trans (set6_below (by omega) _ _ _ _ _ _)
   have hlk:s.looks<reps.length:=by omega
   rcases HC.out with hss | ⟨ha2,hrw,hcell⟩
   · rw [hss] at hlk;exact absurd hlk (Nat.not_lt_zero _)
   subst ha2
   have y0:=(hBw.cell (p:=⟨rb,roff+s.looks*2,none⟩) hrw).trans (hcell s.looks hlk).1
   have y1:=(hBw.cell (p:=⟨rb,roff+s.looks*2+1,none⟩) hrw).trans (hcell s.looks hlk).2
   have hrw':rb<wr.heap.size:=by omega
   have hys:(reps.getD s.looks r2z).tx.size<=300:=by have h:=vr_small (okR_at HOK.out hlk);simpa using h
   have HY:=fun h4=>HGL _ (look_4y (tx:=tx) (to:=to) hn hl14 hlr h4)
   have HN:=fun h4=>HGL _ (look_4n (tx:=tx) (to:=to) hn hl14 hlr h4)
   generalize reps.getD s.looks r2z=y at*
   clear hcell HEL HGL
   by_cases h4:y.code=4
   · have HS:=HY h4
     clear HY HN
     rw [h4] at y0
     go_wp2_with fail
     refine (c15 s.hand _ (by omega)).mono ?_
     rintro e wN ⟨rfl,hwN⟩
     obtain rfl:=hwN.symm
     rw [hn]
     go_wp2
     go_roundw
     case rel=>
      refine ⟨⟨⟨#[48]⟩,s.out,s.pc+1,s.looks+1,s.steps+1⟩,rfl,rfl,by go_num,by go_num,by go_num,HS.out.1,HS.out.2,?_⟩
      exact (hb.alloc (by omega) _).alloc (by simp;omega) _
     case measure=>simp [intOf];omega
   have HS:=HN h4
   have hc4:(y.code==4)=false:=by simpa using h4
   clear HY HN
   go_wp2_with fail
   refine (c15 s.hand _ (by omega)).mono ?_
   rintro e wN ⟨rfl,hwN⟩
   obtain rfl:=hwN.symm
   rw [hn]
   go_wp2
   go_roundw
   case rel=>
    refine ⟨⟨⟨#[49]⟩,s.out,s.pc+1,s.looks+1,s.steps+1⟩,rfl,rfl,by go_num,by go_num,by go_num,HS.out.1,HS.out.2,?_⟩
    exact (hb.alloc (by omega) _).alloc (by simp;omega) _
   case measure=>simp [intOf];omega
 · by_cases h300:300<s.out.length+s.hand.size
   rotate_left
   · have HS:=HG ⟨s.hand,s.out++s.hand.data.toList,s.pc+1,s.looks,s.steps+1⟩ (act_5n h300)
     clear HG HE
     go_wp2
     go_roundw
     case rel=>
      refine ⟨⟨s.hand,s.out++s.hand.data.toList,s.pc+1,s.looks,s.steps+1⟩,rfl,by rw [<- ofL_cat],by go_num,by go_num,by go_num,HS.out.1,HS.out.2,?_⟩
      exact hb.alloc (by omega) _
     case measure=>simp [intOf];omega
   have HF:=HE _ (act_5y h300)
   clear HG HE
   go_wp2_with fail
   refine (c116 s.pc _ (by omega)).mono ?_
   rintro e wD ⟨rfl,hbD⟩
   have hbd:Below (w.heap.size+2) (W0 (some ⟨ib,ioff,none⟩) T.length cap w) wD:=(hb.alloc (by omega) _).trans (hbD.mono (by simp;omega))
   go_wp2_with fail
   refine (c87x 2 (ofL (Lib.decDigits s.pc)) ((s.steps:Int)+1) _).mono ?_
   rintro e wE ⟨rfl,hbE⟩
   have hb':Below (w.heap.size+2) (W0 (some ⟨ib,ioff,none⟩) T.length cap w) wE:=hbd.trans (hbE.mono (by have:=hbd.size;rw [W0_size] at this;simp;omega))
   clear t0 q0 q1 q2 q3 q4 q5 hfz hbE
   obtain ⟨⟨t0,q0,q1,q2,q3,q4,q5⟩,hfz⟩:=W0_cells hb'
   go_wp2
   obtain ⟨s0,s1,s2,s3,s4,s5⟩:=set6 (z6_heap hb') (.bool true) (.int .i64 2) (.string (ofL (Lib.decDigits s.pc))) (.bool false) (.string ⟨#[]⟩) (.int .i64 ((s.steps:Int)+1))
   refine bodyPost_ret (v:=(overT 2 (ofL (Lib.decDigits s.pc)) ((s.steps:Int)+1)).v) (by simp [results,Tryz.results85,go_sem,s0,s1,s2,s3,s4,s5,overT,TN.v]) rfl ⟨by rw [HF.out] <;> rfl,?_⟩
   exact ((W0_below (some ⟨ib,ioff,none⟩) T.length cap w).trans (hb'.mono (by omega))).trans (set6_below (by omega) _ _ _ _ _ _)
 · by_cases h300:300<s.hand.size+tx.size
   rotate_left
   · have HS:=HG ⟨s.hand++tx,s.out,s.pc+1,s.looks,s.steps+1⟩ (act_6n h300)
     clear HG HE
     go_wp2
     go_roundw
     case rel=>
      refine ⟨⟨s.hand++tx,s.out,s.pc+1,s.looks,s.steps+1⟩,rfl,rfl,by go_num,by go_num,by go_num,HS.out.1,HS.out.2,?_⟩
      exact hb.alloc (by omega) _
     case measure=>simp [intOf];omega
   have HF:=HE _ (act_6y h300)
   clear HG HE
   go_wp2_with fail
   refine (c116 s.pc _ (by omega)).mono ?_
   rintro e wD ⟨rfl,hbD⟩
   have hbd:Below (w.heap.size+2) (W0 (some ⟨ib,ioff,none⟩) T.length cap w) wD:=(hb.alloc (by omega) _).trans (hbD.mono (by simp;omega))
   go_wp2_with fail
   refine (c87x 2 (ofL (Lib.decDigits s.pc)) ((s.steps:Int)+1) _).mono ?_
   rintro e wE ⟨rfl,hbE⟩
   have hb':Below (w.heap.size+2) (W0 (some ⟨ib,ioff,none⟩) T.length cap w) wE:=hbd.trans (hbE.mono (by have:=hbd.size;rw [W0_size] at this;simp;omega))
   clear t0 q0 q1 q2 q3 q4 q5 hfz hbE
   obtain ⟨⟨t0,q0,q1,q2,q3,q4,q5⟩,hfz⟩:=W0_cells hb'
   go_wp2
   obtain ⟨s0,s1,s2,s3,s4,s5⟩:=set6 (z6_heap hb') (.bool true) (.int .i64 2) (.string (ofL (Lib.decDigits s.pc))) (.bool false) (.string ⟨#[]⟩) (.int .i64 ((s.steps:Int)+1))
   refine bodyPost_ret (v:=(overT 2 (ofL (Lib.decDigits s.pc)) ((s.steps:Int)+1)).v) (by simp [results,Tryz.results85,go_sem,s0,s1,s2,s3,s4,s5,overT,TN.v]) rfl ⟨by rw [HF.out] <;> rfl,?_⟩
   exact ((W0_below (some ⟨ib,ioff,none⟩) T.length cap w).trans (hb'.mono (by omega))).trans (set6_below (by omega) _ _ _ _ _ _)
 · have hls:=line_small s.hand to
   have HS:=HG ⟨lineAt s.hand to,s.out,s.pc+1,s.looks,s.steps+1⟩ (act_7)
   clear HG HE
   go_wp2_with fail
   refine (c117 s.hand to _ (by omega) o4).mono ?_
   rintro e wL ⟨rfl,hbL⟩
   have hbl:Below (w.heap.size+2) (W0 (some ⟨ib,ioff,none⟩) T.length cap w) wL:=(hb.alloc (by omega) _).trans (hbL.mono (by simp;omega))
   clear hbL
   go_wp2
   go_roundw
   case rel=>
    refine ⟨⟨lineAt s.hand to,s.out,s.pc+1,s.looks,s.steps+1⟩,rfl,rfl,by go_num,by go_num,by go_num,HS.out.1,HS.out.2,?_⟩
    exact hbl
   case measure=>simp [intOf];omega
 · by_cases heq:s.hand.data.toList=tx.data.toList
   · have heq':(s.hand.toList==tx.toList)=true:=by rw [ByteArray.toList_eq,ByteArray.toList_eq];simpa using heq
     have HS:=HG ⟨s.hand,s.out,to.toNat,s.looks,s.steps+1⟩ (act_8y heq)
     clear HG HE
     go_wp2
     go_roundw
     case rel=>
      refine ⟨⟨s.hand,s.out,to.toNat,s.looks,s.steps+1⟩,rfl,rfl,by go_num,by go_num,by go_num,HS.out.1,HS.out.2,?_⟩
      exact hb.alloc (by omega) _
     case measure=>simp [intOf];omega
   have heq':(s.hand.toList==tx.toList)=false:=by rw [ByteArray.toList_eq,ByteArray.toList_eq];simpa using heq
   have HS:=HG ⟨s.hand,s.out,s.pc+1,s.looks,s.steps+1⟩ (act_8n heq)
   clear HG HE
   go_wp2
   go_roundw
   case rel=>
    refine ⟨⟨s.hand,s.out,s.pc+1,s.looks,s.steps+1⟩,rfl,rfl,by go_num,by go_num,by go_num,HS.out.1,HS.out.2,?_⟩
    exact hb.alloc (by omega) _
   case measure=>simp [intOf];omega
 · have HS:=HG ⟨s.hand,s.out,to.toNat,s.looks,s.steps+1⟩ (act_9)
   clear HG HE
   go_wp2
   go_roundw
   case rel=>
    refine ⟨⟨s.hand,s.out,to.toNat,s.looks,s.steps+1⟩,rfl,rfl,by go_num,by go_num,by go_num,HS.out.1,HS.out.2,?_⟩
    exact hb.alloc (by omega) _
   case measure=>simp [intOf];omega
 · have HF:=HE _ act_10
   clear HG HE
   go_wp2_with fail
   refine (c87x 0 (ofL s.out) ((s.steps:Int)+1) _).mono ?_
   rintro e wE ⟨rfl,hbE⟩
   have hb':Below (w.heap.size+2) (W0 (some ⟨ib,ioff,none⟩) T.length cap w) wE:=(hb.alloc (by omega) _).trans (hbE.mono (by simp;omega))
   clear t0 q0 q1 q2 q3 q4 q5 hfz hbE
   obtain ⟨⟨t0,q0,q1,q2,q3,q4,q5⟩,hfz⟩:=W0_cells hb'
   go_wp2
   obtain ⟨s0,s1,s2,s3,s4,s5⟩:=set6 (z6_heap hb') (.bool true) (.int .i64 0) (.string (ofL s.out)) (.bool false) (.string ⟨#[]⟩) (.int .i64 ((s.steps:Int)+1))
   refine bodyPost_ret (v:=(overT 0 (ofL s.out) ((s.steps:Int)+1)).v) (by simp [results,Tryz.results85,go_sem,s0,s1,s2,s3,s4,s5,overT,TN.v]) rfl ⟨by rw [HF.out] <;> rfl,?_⟩
   exact ((W0_below (some ⟨ib,ioff,none⟩) T.length cap w).trans (hb'.mono (by omega))).trans (set6_below (by omega) _ _ _ _ _ _)
 have HF:=HE _ act_11
 clear HG HE
 go_wp2_with fail
 refine (c87x 1 s.hand ((s.steps:Int)+1) _).mono ?_
 rintro e wE ⟨rfl,hbE⟩
 have hb':Below (w.heap.size+2) (W0 (some ⟨ib,ioff,none⟩) T.length cap w) wE:=(hb.alloc (by omega) _).trans (hbE.mono (by simp;omega))
 clear t0 q0 q1 q2 q3 q4 q5 hfz hbE
 obtain ⟨⟨t0,q0,q1,q2,q3,q4,q5⟩,hfz⟩:=W0_cells hb'
 go_wp2
 obtain ⟨s0,s1,s2,s3,s4,s5⟩:=set6 (z6_heap hb') (.bool true) (.int .i64 1) (.string s.hand) (.bool false) (.string ⟨#[]⟩) (.int .i64 ((s.steps:Int)+1))
 refine bodyPost_ret (v:=(overT 1 s.hand ((s.steps:Int)+1)).v) (by simp [results,Tryz.results85,go_sem,s0,s1,s2,s3,s4,s5,overT,TN.v]) rfl ⟨by rw [HF.out] <;> rfl,?_⟩
 exact ((W0_below (some ⟨ib,ioff,none⟩) T.length cap w).trans (hb'.mono (by omega))).trans (set6_below (by omega) _ _ _ _ _ _)

import Derived.Test.YtmalddmgdjkgaaaGreatDoorZ10
import Derived.Test.YtmalddmgdjkgaaaGreatDoorZ21
import Derived.Test.YtmalddmgdjkgaaaGreatDoorZ28
namespace Go.Proofs.YtmalddmgdjkgaaaGreatDoor
open Go.RowKit
def RC.tn (r:RC):TN:=⟨r.over,r.code,r.text,r.has,r.name,r.steps⟩
def ST.up (s:ST):ST:=⟨s.hand,s.out,s.pc+1,s.looks,s.steps+1⟩
def rcL (p v:Value) (arg:ByteArray) (rv:Value) (pl:Nat) (s:ST):RC:=⟨p,v,s.hand,arg,rv,s.looks,pl,s.pc,false,false,0,⟨#[]⟩,false,⟨#[]⟩,s.steps⟩
def Live (base b:Nat) (arg:ByteArray) (rv:Value) (pl:Nat) (w:World) (s:ST):Prop:=∃ p v,St base b w (rcL p v arg rv pl s) s.out
def Dead (b:Nat) (w:World) (t:TN):Prop:=∃ r:RC,RunAt w b r∧r.halted=true∧r.tn=t
def After (base b:Nat) (arg:ByteArray) (rv:Value) (pl:Nat) (w:World):ST ⊕ TN→Prop
 | .inl s=>Live base b arg rv pl w s
 | .inr t=>Dead b w t
theorem after_l {base b:Nat} {arg:ByteArray} {rv:Value} {pl:Nat} {w:World} {x:ST ⊕ TN} {s:ST} (e:x=.inl s) (h:Live base b arg rv pl w s):After base b arg rv pl w x:=by rw [e];exact h
theorem after_r {base b:Nat} {arg:ByteArray} {rv:Value} {pl:Nat} {w:World} {x:ST ⊕ TN} {t:TN} (e:x=.inr t) (h:Dead b w t):After base b arg rv pl w x:=by rw [e];exact h
def RepAt (base b:Nat) (w:World) (a:Option Addr) (rs:List R2):Prop:=rs=[]∨∃ rb off,a=some ⟨rb,off,none⟩∧rb<base∧rb≠b∧∀ i,i<rs.length→w.cell? ⟨rb,off+i*2,none⟩=some (.int .i64 (rs.getD i r2z).code)∧w.cell? ⟨rb,off+i*2+1,none⟩=some (.string (rs.getD i r2z).tx)
structure Met (base b:Nat) (arg:ByteArray) (reps:List R2) (a2:Option Addr) (cap2:Nat) (s:ST) (tx:ByteArray) (to:Int) (w:World):Prop where
 fit:Fit reps s
 ok:okR reps=true
 len:reps.length≤14
 rep:RepAt base b w a2 reps
 max:1<base∧b≠5∧MaxAt w
 harg:arg.size≤300
 htx:tx.size≤300
 to0:0≤to
 to1:to≤40
 pc:s.pc≤40
 steps:s.steps<200
 live:Live base b arg (.slice a2 reps.length cap2) s.pc w s.up
def MOk (f:Nat) (op:Int):Prop:=∀ (base b:Nat) (arg:ByteArray) (reps:List R2) (a2:Option Addr) (cap2:Nat) (s:ST) (tx:ByteArray) (to:Int) (w:World),Met base b arg reps a2 cap2 s tx to w→
 Calls Tryz.prog f #[.pointer (some ⟨b,0,none⟩),.agg #[.int .i64 op,.string tx,.int .i64 to]] w fun e w'=>e=.returned (.tuple #[])∧After base b arg (.slice a2 reps.length cap2) s.pc w' (act arg reps ⟨op,tx,to⟩ s)∧Kp base b w w'
set_option maxHeartbeats 1000000 in
theorem m90:MOk 129 1:=by
 intro base b arg reps a2 cap2 s tx to w hm
 obtain ⟨p,v,hS⟩:=hm.live
 have HS:Hid (St base b w (rcL p v arg (.slice a2 reps.length cap2) s.pc s.up) s.out):=hS
 have c2:w.cell? ⟨b,2,none⟩=some (.string s.hand):=run_cell hS.run 2
 have f2:=run_free hS.run 2
 have hlt:=run_lt hS.run
 have hle:=hS.le
 obtain ⟨n,rfl⟩:=Int.eq_ofNat_of_zero_le hm.to0
 have hto:=hm.to1
 have htx:=hm.htx
 have hpc:=hm.pc
 obtain ⟨g1,g2,g3,g4,g5,g6⟩:=hm.fit
 clear hS hm
 go_enter Tryz.func129,Tryz.ntmps129
 go_wp2
 go_end0
 refine ⟨rfl,after_l act_1 ⟨p,v,?_⟩,(((Kp.refl base b w).set 2 _).alloc (by simpa using hle) _)⟩
 refine St.below ?_ (((Below.refl _ _).alloc (Nat.le_refl _) _))
 exact HS.out.set 2 _ rfl rfl rfl
set_option maxHeartbeats 1000000 in
theorem m91:MOk 130 2:=by
 intro base b arg reps a2 cap2 s tx to w hm
 obtain ⟨p,v,hS⟩:=hm.live
 have HS:Hid (St base b w (rcL p v arg (.slice a2 reps.length cap2) s.pc s.up) s.out):=hS
 have c2:w.cell? ⟨b,2,none⟩=some (.string s.hand):=run_cell hS.run 2
 have cx3:w.cell? ⟨b,3,none⟩=some (.string arg):=run_cell hS.run 3
 have f2:=run_free hS.run 2
 have hlt:=run_lt hS.run
 have hle:=hS.le
 obtain ⟨n,rfl⟩:=Int.eq_ofNat_of_zero_le hm.to0
 have hto:=hm.to1
 have htx:=hm.htx
 have hpc:=hm.pc
 obtain ⟨g1,g2,g3,g4,g5,g6⟩:=hm.fit
 clear hS hm
 go_enter Tryz.func130,Tryz.ntmps130
 go_wp2
 go_end0
 refine ⟨rfl,after_l act_2 ⟨p,v,?_⟩,(((Kp.refl base b w).set 2 _).alloc (by simpa using hle) _)⟩
 refine St.below ?_ (((Below.refl _ _).alloc (Nat.le_refl _) _))
 exact HS.out.set 2 _ rfl rfl rfl
set_option maxHeartbeats 1000000 in
theorem m92:MOk 131 3:=by
 intro base b arg reps a2 cap2 s tx to w hm
 obtain ⟨p,v,hS⟩:=hm.live
 have HS:Hid (St base b w (rcL p v arg (.slice a2 reps.length cap2) s.pc s.up) s.out):=hS
 have c2:w.cell? ⟨b,2,none⟩=some (.string s.hand):=run_cell hS.run 2
 have f2:=run_free hS.run 2
 have hlt:=run_lt hS.run
 have hle:=hS.le
 obtain ⟨n,rfl⟩:=Int.eq_ofNat_of_zero_le hm.to0
 have hto:=hm.to1
 have htx:=hm.htx
 have hpc:=hm.pc
 obtain ⟨g1,g2,g3,g4,g5,g6⟩:=hm.fit
 have HREP:Hid (RepAt base b w a2 reps):=hm.rep
 have hlen:=hm.len
 clear hS hm
 by_cases hn0:nameOk s.hand.data.toList=false
 · have HN:Hid (nameOk s.hand.data.toList=false):=hn0
   clear hn0
   have HRW:RunAt (w.alloc (.cells #[.int .i64 3,.string tx,.int .i64 n] 149)) b (rcL p v arg (.slice a2 reps.length cap2) s.pc s.up):=run_alloc HS.out.run _
   go_enter Tryz.func131,Tryz.ntmps131
   go_wp2_with fail
   refine (c148a b _ false _ HRW g1 HN.out).mono ?_
   rintro e w1 ⟨rfl,h1,hk1⟩
   have H1:Hid (RunAt w1 b _):=h1
   have HK1:Hid (Kp base b w w1):=((Kp.refl base b w).alloc hle _).trans (hk1.mono (by simp;omega))
   have hle1:base≤w1.heap.size:=Nat.le_trans hle HK1.out.size
   clear h1 hk1 HRW
   go_wp2
   refine bodyPost_ret (results_none rfl _ _ _) rfl ?_
   exact ⟨rfl,after_r (act_3.trans (look_noname HN.out)) ⟨_,run_alloc H1.out _,rfl,rfl⟩,HK1.out.alloc hle1 _⟩
 have HN:Hid (nameOk s.hand.data.toList=true):=by simpa [Hid] using hn0
 clear hn0
 by_cases hl14:14≤s.looks
 · have HQ:Hid (14≤s.looks):=hl14
   have HRW:RunAt (w.alloc (.cells #[.int .i64 3,.string tx,.int .i64 n] 149)) b (rcL p v arg (.slice a2 reps.length cap2) s.pc s.up):=run_alloc HS.out.run _
   go_enter Tryz.func131,Tryz.ntmps131
   go_wp2_with fail
   refine (c148b b _ false _ HRW g1 HN.out (by show ((s.looks:Nat):Int)=14;omega)).mono ?_
   rintro e w1 ⟨rfl,h1,hk1⟩
   have H1:Hid (RunAt w1 b _):=h1
   have HK1:Hid (Kp base b w w1):=((Kp.refl base b w).alloc hle _).trans (hk1.mono (by simp;omega))
   have hle1:base≤w1.heap.size:=Nat.le_trans hle HK1.out.size
   clear h1 hk1 HRW
   go_wp2
   refine bodyPost_ret (results_none rfl _ _ _) rfl ?_
   exact ⟨rfl,after_r (act_3.trans (look_spent HN.out HQ.out)) ⟨_,run_alloc H1.out _,rfl,rfl⟩,HK1.out.alloc hle1 _⟩
 have H14:Hid (¬ 14≤s.looks):=hl14
 by_cases hlr:reps.length≤s.looks
 · have HQ:Hid (reps.length≤s.looks):=hlr
   have heq:s.looks=reps.length:=by omega
   have HRW:RunAt (w.alloc (.cells #[.int .i64 3,.string tx,.int .i64 n] 149)) b (rcL p v arg (.slice a2 reps.length cap2) s.pc s.up):=run_alloc HS.out.run _
   go_enter Tryz.func131,Tryz.ntmps131
   go_wp2_with fail
   refine (c148c b _ false _ HRW g1 HN.out a2 reps.length cap2 (by show ((s.looks:Nat):Int)=_;rw [heq]) (by omega) rfl).mono ?_
   rintro e w1 ⟨rfl,h1,hk1⟩
   have H1:Hid (RunAt w1 b _):=h1
   have HK1:Hid (Kp base b w w1):=((Kp.refl base b w).alloc hle _).trans (hk1.mono (by simp;omega))
   have hle1:base≤w1.heap.size:=Nat.le_trans hle HK1.out.size
   clear h1 hk1 HRW
   go_wp2
   refine bodyPost_ret (results_none rfl _ _ _) rfl ?_
   exact ⟨rfl,after_r (act_3.trans (look_stop HN.out H14.out HQ.out)) ⟨_,run_alloc H1.out _,rfl,rfl⟩,HK1.out.alloc hle1 _⟩
 have HLR:Hid (¬ reps.length≤s.looks):=hlr
 have hlk:s.looks<reps.length:=by omega
 rcases HREP.out with hss | ⟨rb,roff,ha2,hrb,hrne,hcell⟩
 · rw [hss] at hlk;exact absurd hlk (Nat.not_lt_zero _)
 subst ha2
 obtain ⟨x0,x1⟩:=hcell s.looks hlk
 have hrb':rb<w.heap.size:=by omega
 have y0:=past (p:=⟨rb,roff+s.looks*2,none⟩) hrb' x0
 have y1:=past (p:=⟨rb,roff+s.looks*2+1,none⟩) hrb' x1
 generalize hy:reps.getD s.looks r2z=y at*
 have HY:Hid (reps.getD s.looks r2z=y):=hy
 clear hy hcell HREP hl14 hlr
 have HRW:RunAt (w.alloc (.cells #[.int .i64 3,.string tx,.int .i64 n] 149)) b (rcL p v arg (.slice (some ⟨rb,roff,none⟩) reps.length cap2) s.pc s.up):=run_alloc HS.out.run _
 go_enter Tryz.func131,Tryz.ntmps131
 go_wp2_with fail
 refine (c148d b _ false _ HRW g1 HN.out rb roff reps.length cap2 s.looks y rfl (by omega) hlk rfl hlen (by simp;omega) (y0 _) (y1 _)).mono ?_
 rintro e w1 ⟨rfl,h1,hk1⟩
 have HS1:Hid (St base b w1 (rcL p v arg (.slice (some ⟨rb,roff,none⟩) reps.length cap2) s.pc ⟨s.hand,s.out,s.pc+1,s.looks+1,s.steps+1⟩) s.out):=(HS.out.below ((Below.refl _ _).alloc (Nat.le_refl _) (.cells #[.int .i64 3,.string tx,.int .i64 n] 149))).kp hk1 h1 rfl rfl
 have HK1:Hid (Kp base b w w1):=((Kp.refl base b w).alloc hle _).trans (hk1.mono (by simp;omega))
 have d2:w1.cell? ⟨b,2,none⟩=some (.string s.hand):=run_cell HS1.out.run 2
 have e2:=run_free HS1.out.run 2
 have hz1:w.heap.size+1≤w1.heap.size:=by have:=hk1.size;simpa using this
 have hle1:base≤w1.heap.size:=by omega
 have hlt1:b<w1.heap.size:=by omega
 clear h1 hk1 HRW x0 x1 y0 y1 c2 f2
 by_cases h4:y.code=4
 · have HQ:Hid (y.code=4):=h4
   have hcc:(y.code==0)=false:=by rw [h4];rfl
   have hc4:(y.code==4)=true:=by rw [h4];rfl
   go_wp2_with fail
   refine (c121 base b _ 4 s.hand _ (run_alloc HS1.out.run _)).mono ?_
   rintro e w2 ⟨rfl,h2,hk⟩
   have H2:Hid (RunAt w2 b _):=h2
   have HK:Hid (Kp base b w w2):=(HK1.out.alloc hle1 _).trans hk
   clear h2 hk
   go_wp2
   go_end0
   exact ⟨rfl,after_r (act_3.trans (look_3m HN.out H14.out HLR.out (by rw [HY.out];exact HQ.out))) ⟨_,H2.out,rfl,rfl⟩,HK.out⟩
 have H4:Hid (¬ y.code=4):=h4
 by_cases h5:y.code=0
 · have HQ:Hid (y.code=0):=h5
   have hcc:(y.code==0)=true:=by rw [h5];rfl
   go_wp2
   go_end0
   refine ⟨rfl,after_l (act_3.trans (look_3d HN.out H14.out HLR.out (by rw [HY.out];exact H4.out) (by rw [HY.out];exact HQ.out))) ⟨p,v,?_⟩,(HK1.out.set 2 _).alloc (by simpa using hle1) _⟩
   rw [HY.out]
   refine St.below ?_ ((Below.refl _ _).alloc (Nat.le_refl _) _)
   exact HS1.out.set 2 _ rfl rfl rfl
 have HQ:Hid (¬ y.code=0):=h5
 have hcc:(y.code==0)=false:=by simpa using h5
 have hc4:(y.code==4)=false:=by simpa using h4
 go_wp2_with fail
 refine (c121 base b _ 5 s.hand _ (run_alloc HS1.out.run _)).mono ?_
 rintro e w2 ⟨rfl,h2,hk⟩
 have H2:Hid (RunAt w2 b _):=h2
 have HK:Hid (Kp base b w w2):=(HK1.out.alloc hle1 _).trans hk
 clear h2 hk
 go_wp2
 go_end0
 exact ⟨rfl,after_r (act_3.trans (look_3b HN.out H14.out HLR.out (by rw [HY.out];exact H4.out) (by rw [HY.out];exact HQ.out))) ⟨_,H2.out,rfl,rfl⟩,HK.out⟩
set_option maxHeartbeats 1000000 in
theorem m93:MOk 132 4:=by
 intro base b arg reps a2 cap2 s tx to w hm
 obtain ⟨p,v,hS⟩:=hm.live
 have HS:Hid (St base b w (rcL p v arg (.slice a2 reps.length cap2) s.pc s.up) s.out):=hS
 have c2:w.cell? ⟨b,2,none⟩=some (.string s.hand):=run_cell hS.run 2
 have f2:=run_free hS.run 2
 have hlt:=run_lt hS.run
 have hle:=hS.le
 obtain ⟨n,rfl⟩:=Int.eq_ofNat_of_zero_le hm.to0
 have hto:=hm.to1
 have htx:=hm.htx
 have hpc:=hm.pc
 obtain ⟨g1,g2,g3,g4,g5,g6⟩:=hm.fit
 have HREP:Hid (RepAt base b w a2 reps):=hm.rep
 have hlen:=hm.len
 clear hS hm
 by_cases hn0:nameOk s.hand.data.toList=false
 · have HN:Hid (nameOk s.hand.data.toList=false):=hn0
   clear hn0
   have HRW:RunAt (w.alloc (.cells #[.int .i64 4,.string tx,.int .i64 n] 149)) b (rcL p v arg (.slice a2 reps.length cap2) s.pc s.up):=run_alloc HS.out.run _
   go_enter Tryz.func132,Tryz.ntmps132
   go_wp2_with fail
   refine (c148a b _ true _ HRW g1 HN.out).mono ?_
   rintro e w1 ⟨rfl,h1,hk1⟩
   have H1:Hid (RunAt w1 b _):=h1
   have HK1:Hid (Kp base b w w1):=((Kp.refl base b w).alloc hle _).trans (hk1.mono (by simp;omega))
   have hle1:base≤w1.heap.size:=Nat.le_trans hle HK1.out.size
   clear h1 hk1 HRW
   go_wp2
   refine bodyPost_ret (results_none rfl _ _ _) rfl ?_
   exact ⟨rfl,after_r (act_4.trans (look_noname HN.out)) ⟨_,run_alloc H1.out _,rfl,rfl⟩,HK1.out.alloc hle1 _⟩
 have HN:Hid (nameOk s.hand.data.toList=true):=by simpa [Hid] using hn0
 clear hn0
 by_cases hl14:14≤s.looks
 · have HQ:Hid (14≤s.looks):=hl14
   have HRW:RunAt (w.alloc (.cells #[.int .i64 4,.string tx,.int .i64 n] 149)) b (rcL p v arg (.slice a2 reps.length cap2) s.pc s.up):=run_alloc HS.out.run _
   go_enter Tryz.func132,Tryz.ntmps132
   go_wp2_with fail
   refine (c148b b _ true _ HRW g1 HN.out (by show ((s.looks:Nat):Int)=14;omega)).mono ?_
   rintro e w1 ⟨rfl,h1,hk1⟩
   have H1:Hid (RunAt w1 b _):=h1
   have HK1:Hid (Kp base b w w1):=((Kp.refl base b w).alloc hle _).trans (hk1.mono (by simp;omega))
   have hle1:base≤w1.heap.size:=Nat.le_trans hle HK1.out.size
   clear h1 hk1 HRW
   go_wp2
   refine bodyPost_ret (results_none rfl _ _ _) rfl ?_
   exact ⟨rfl,after_r (act_4.trans (look_spent HN.out HQ.out)) ⟨_,run_alloc H1.out _,rfl,rfl⟩,HK1.out.alloc hle1 _⟩
 have H14:Hid (¬ 14≤s.looks):=hl14
 by_cases hlr:reps.length≤s.looks
 · have HQ:Hid (reps.length≤s.looks):=hlr
   have heq:s.looks=reps.length:=by omega
   have HRW:RunAt (w.alloc (.cells #[.int .i64 4,.string tx,.int .i64 n] 149)) b (rcL p v arg (.slice a2 reps.length cap2) s.pc s.up):=run_alloc HS.out.run _
   go_enter Tryz.func132,Tryz.ntmps132
   go_wp2_with fail
   refine (c148c b _ true _ HRW g1 HN.out a2 reps.length cap2 (by show ((s.looks:Nat):Int)=_;rw [heq]) (by omega) rfl).mono ?_
   rintro e w1 ⟨rfl,h1,hk1⟩
   have H1:Hid (RunAt w1 b _):=h1
   have HK1:Hid (Kp base b w w1):=((Kp.refl base b w).alloc hle _).trans (hk1.mono (by simp;omega))
   have hle1:base≤w1.heap.size:=Nat.le_trans hle HK1.out.size
   clear h1 hk1 HRW
   go_wp2
   refine bodyPost_ret (results_none rfl _ _ _) rfl ?_
   exact ⟨rfl,after_r (act_4.trans (look_stop HN.out H14.out HQ.out)) ⟨_,run_alloc H1.out _,rfl,rfl⟩,HK1.out.alloc hle1 _⟩
 have HLR:Hid (¬ reps.length≤s.looks):=hlr
 have hlk:s.looks<reps.length:=by omega
 rcases HREP.out with hss | ⟨rb,roff,ha2,hrb,hrne,hcell⟩
 · rw [hss] at hlk;exact absurd hlk (Nat.not_lt_zero _)
 subst ha2
 obtain ⟨x0,x1⟩:=hcell s.looks hlk
 have hrb':rb<w.heap.size:=by omega
 have y0:=past (p:=⟨rb,roff+s.looks*2,none⟩) hrb' x0
 have y1:=past (p:=⟨rb,roff+s.looks*2+1,none⟩) hrb' x1
 generalize hy:reps.getD s.looks r2z=y at*
 have HY:Hid (reps.getD s.looks r2z=y):=hy
 clear hy hcell HREP hl14 hlr
 have HRW:RunAt (w.alloc (.cells #[.int .i64 4,.string tx,.int .i64 n] 149)) b (rcL p v arg (.slice (some ⟨rb,roff,none⟩) reps.length cap2) s.pc s.up):=run_alloc HS.out.run _
 go_enter Tryz.func132,Tryz.ntmps132
 go_wp2_with fail
 refine (c148d b _ true _ HRW g1 HN.out rb roff reps.length cap2 s.looks y rfl (by omega) hlk rfl hlen (by simp;omega) (y0 _) (y1 _)).mono ?_
 rintro e w1 ⟨rfl,h1,hk1⟩
 have HS1:Hid (St base b w1 (rcL p v arg (.slice (some ⟨rb,roff,none⟩) reps.length cap2) s.pc ⟨s.hand,s.out,s.pc+1,s.looks+1,s.steps+1⟩) s.out):=(HS.out.below ((Below.refl _ _).alloc (Nat.le_refl _) (.cells #[.int .i64 4,.string tx,.int .i64 n] 149))).kp hk1 h1 rfl rfl
 have HK1:Hid (Kp base b w w1):=((Kp.refl base b w).alloc hle _).trans (hk1.mono (by simp;omega))
 have d2:w1.cell? ⟨b,2,none⟩=some (.string s.hand):=run_cell HS1.out.run 2
 have e2:=run_free HS1.out.run 2
 have hz1:w.heap.size+1≤w1.heap.size:=by have:=hk1.size;simpa using this
 have hle1:base≤w1.heap.size:=by omega
 have hlt1:b<w1.heap.size:=by omega
 clear h1 hk1 HRW x0 x1 y0 y1 c2 f2
 by_cases h4:y.code=4
 · have HQ:Hid (y.code=4):=h4
   have hc4:(y.code==4)=true:=by rw [h4];rfl
   go_wp2
   go_end0
   refine ⟨rfl,after_l (act_4.trans (look_4y HN.out H14.out HLR.out (by rw [HY.out];exact HQ.out))) ⟨p,v,?_⟩,((HK1.out.set 2 _).set 2 _).alloc (by simpa using hle1) _⟩
   refine St.below ?_ ((Below.refl _ _).alloc (Nat.le_refl _) _)
   have h1:St base b (w1.setCell ⟨b,2,none⟩ (.string ⟨#[49]⟩)) (rcL p v arg (.slice (some ⟨rb,roff,none⟩) reps.length cap2) s.pc ⟨⟨#[49]⟩,s.out,s.pc+1,s.looks+1,s.steps+1⟩) s.out:=HS1.out.set 2 _ rfl rfl rfl
   exact h1.set 2 _ rfl rfl rfl
 have HQ:Hid (¬ y.code=4):=h4
 have hc4:(y.code==4)=false:=by simpa using h4
 go_wp2
 go_end0
 refine ⟨rfl,after_l (act_4.trans (look_4n HN.out H14.out HLR.out (by rw [HY.out];exact HQ.out))) ⟨p,v,?_⟩,(HK1.out.set 2 _).alloc (by simpa using hle1) _⟩
 refine St.below ?_ ((Below.refl _ _).alloc (Nat.le_refl _) _)
 exact HS1.out.set 2 _ rfl rfl rfl
set_option maxHeartbeats 1000000 in
theorem m94:MOk 133 5:=by
 intro base b arg reps a2 cap2 s tx to w hm
 obtain ⟨p,v,hS⟩:=hm.live
 have HS:Hid (St base b w (rcL p v arg (.slice a2 reps.length cap2) s.pc s.up) s.out):=hS
 have c2:w.cell? ⟨b,2,none⟩=some (.string s.hand):=run_cell hS.run 2
 have hlt:=run_lt hS.run
 have hle:=hS.le
 obtain ⟨n,rfl⟩:=Int.eq_ofNat_of_zero_le hm.to0
 have hto:=hm.to1
 have htx:=hm.htx
 have hpc:=hm.pc
 obtain ⟨g1,g2,g3,g4,g5,g6⟩:=hm.fit
 clear hS hm
 have HSA:=HS.out.below ((Below.refl _ w).alloc (Nat.le_refl _) (.cells #[.int .i64 5,.string tx,.int .i64 n] 149)).drew
 have HA:Hid (St base b _ _ s.out):=HSA
 clear HSA
 have hwr:IntKind.i64.wrap ((s.out.length:Int)+(s.hand.size:Int))=(s.out.length:Int)+(s.hand.size:Int):=by simp [IntKind.wrap,IntKind.signed,IntKind.bits];omega
 by_cases h300:300<s.out.length+s.hand.size
 · have HQ:Hid (300<s.out.length+s.hand.size):=h300
   go_enter Tryz.func133,Tryz.ntmps133
   go_wp2_with fail
   go_region_with (go_at_call 149;refine (c149e base b _ s.out _ HA.out).mono ?_;rintro e w1 ⟨rfl,hw⟩;obtain rfl:=hw.symm)
   all_goals
    go_wp2_with fail
    have HRW:RunAt (w.alloc (.cells #[.int .i64 5,.string tx,.int .i64 n] 149)).drew b (rcL p v arg (.slice a2 reps.length cap2) s.pc s.up):=run_alloc HS.out.run _
    refine (c120 base b _ s.pc _ HRW rfl (by omega)).mono ?_
    rintro e w2 ⟨rfl,h2,hk⟩
    have H2:Hid (RunAt w2 b _):=h2
    have HK:Hid (Kp base b w w2):=(((Kp.refl base b w).alloc hle _).drew).trans hk
    clear h2 hk HRW
    go_wp2
    refine bodyPost_ret (results_none rfl _ _ _) rfl ?_
    exact ⟨rfl,after_r (act_5y HQ.out) ⟨_,H2.out,rfl,rfl⟩,HK.out⟩
 have HQ:Hid (¬ 300<s.out.length+s.hand.size):=h300
 have hcmp:(s.out.length:Int)+(s.hand.size:Int)≤300:=by omega
 go_enter Tryz.func133,Tryz.ntmps133
 go_wp2_with fail
 go_region_with (go_at_call 149;refine (c149e base b _ s.out _ HA.out).mono ?_;rintro e w1 ⟨rfl,hw⟩;obtain rfl:=hw.symm)
 all_goals
  have HA2:Hid (St base b (w.alloc (.cells #[.int .i64 5,.string tx,.int .i64 n] 149)).drew.drew _ s.out):=HA.out.below (Below.refl _ _).drew
  go_wp2_with fail
  go_region_with (go_at_call 150;refine (c150e base b _ s.out s.hand _ HA2.out (by omega)).mono ?_;rintro e w2 ⟨rfl,⟨v2,h2⟩,hk⟩;have H2:Hid (St base b w2 _ _):=h2;have HK:Hid (Kp base b w w2):=((Kp.refl base b w).alloc hle _).drew.drew.trans hk;clear h2 hk)
  all_goals
   go_wp2
   go_end0
   exact ⟨rfl,after_l (act_5n HQ.out) ⟨_,v2,H2.out⟩,HK.out⟩
set_option maxHeartbeats 1000000 in
theorem m95:MOk 134 6:=by
 intro base b arg reps a2 cap2 s tx to w hm
 obtain ⟨p,v,hS⟩:=hm.live
 have HS:Hid (St base b w (rcL p v arg (.slice a2 reps.length cap2) s.pc s.up) s.out):=hS
 have c2:w.cell? ⟨b,2,none⟩=some (.string s.hand):=run_cell hS.run 2
 have f2:=run_free hS.run 2
 have hlt:=run_lt hS.run
 have hle:=hS.le
 obtain ⟨n,rfl⟩:=Int.eq_ofNat_of_zero_le hm.to0
 have hto:=hm.to1
 have htx:=hm.htx
 have hpc:=hm.pc
 obtain ⟨g1,g2,g3,g4,g5,g6⟩:=hm.fit
 clear hS hm
 by_cases h300:300<s.hand.size+tx.size
 · have HQ:Hid (300<s.hand.size+tx.size):=h300
   go_enter Tryz.func134,Tryz.ntmps134
   go_wp2_with fail
   go_region
   go_wp2_with fail
   have HRW:RunAt (w.alloc (.cells #[.int .i64 6,.string tx,.int .i64 n] 149)).drew b (rcL p v arg (.slice a2 reps.length cap2) s.pc s.up):=run_alloc HS.out.run _
   refine (c120 base b _ s.pc _ HRW rfl (by omega)).mono ?_
   rintro e w2 ⟨rfl,h2,hk⟩
   have H2:Hid (RunAt w2 b _):=h2
   have HK:Hid (Kp base b w w2):=(((Kp.refl base b w).alloc hle _).drew).trans hk
   clear h2 hk HRW
   go_wp2
   refine bodyPost_ret (results_none rfl _ _ _) rfl ?_
   exact ⟨rfl,after_r (act_6y HQ.out) ⟨_,H2.out,rfl,rfl⟩,HK.out⟩
 have HQ:Hid (¬ 300<s.hand.size+tx.size):=h300
 go_enter Tryz.func134,Tryz.ntmps134
 go_wp2_with fail
 go_region
 go_wp2_with fail
 go_region
 go_wp2
 go_end0
 refine ⟨rfl,after_l (act_6n HQ.out) ⟨p,v,?_⟩,(((Kp.refl base b w).set 2 _).alloc (by simpa using hle) _).drew.drew⟩
 refine St.below ?_ (((Below.refl _ _).alloc (Nat.le_refl _) _).drew.drew)
 exact HS.out.set 2 _ rfl rfl rfl
set_option maxHeartbeats 1000000 in
theorem m96:MOk 135 7:=by
 intro base b arg reps a2 cap2 s tx to w hm
 obtain ⟨p,v,hS⟩:=hm.live
 have HS:Hid (St base b w (rcL p v arg (.slice a2 reps.length cap2) s.pc s.up) s.out):=hS
 have c2:w.cell? ⟨b,2,none⟩=some (.string s.hand):=run_cell hS.run 2
 have f2:=run_free hS.run 2
 have hlt:=run_lt hS.run
 have hle:=hS.le
 obtain ⟨n,rfl⟩:=Int.eq_ofNat_of_zero_le hm.to0
 have hto:=hm.to1
 have htx:=hm.htx
 have hpc:=hm.pc
 obtain ⟨g1,g2,g3,g4,g5,g6⟩:=hm.fit
 have HMX:Hid (MaxAt w):=hm.max.2.2
 clear hS hm
 obtain ⟨hc1,hc2⟩:=cut_len 10 s.hand.data.toList
 have hln:s.hand.data.toList.length=s.hand.size:=by simp
 have hc3:(cutS 10 s.hand.data.toList).length≤400:=by omega
 have HTY:Hid (n<(cutS 10 s.hand.data.toList).length→lineAt s.hand (n:Int)=ofL ((cutS 10 s.hand.data.toList).getD n [])):=fun h=>by unfold lineAt;rw [if_pos (by omega)];rfl
 have HTN:Hid (¬ n<(cutS 10 s.hand.data.toList).length→lineAt s.hand (n:Int)=⟨#[]⟩):=fun h=>by unfold lineAt;rw [if_neg (by omega)]
 clear hc2 hln
 go_enter Tryz.func135,Tryz.ntmps135
 go_wp2_with fail
 refine (c151 s.hand _ (by omega) (max_below HMX.out ((Below.refl _ _).alloc (Nat.le_refl _) _))).mono ?_
 rintro e w1 ⟨⟨rfl,hl⟩,hb1⟩
 have hBx:Below w.heap.size w w1:=((Below.refl _ _).alloc (Nat.le_refl _) _).trans (hb1.mono (by simp))
 have HL:Hid (LinesAt w1 _ (cutS 10 s.hand.data.toList)):=hl
 have HS1:Hid (St base b w1 (rcL p v arg (.slice a2 reps.length cap2) s.pc s.up) s.out):=HS.out.below hBx
 have d2:w1.cell? ⟨b,2,none⟩=some (.string s.hand):=run_cell HS1.out.run 2
 have e2:=run_free HS1.out.run 2
 have i2:w1.cell? ⟨w.heap.size,2,none⟩=some (.int .i64 n):=by rw [hb1.cell (by simp)];simp
 have hz1:w.heap.size+1≤w1.heap.size:=by have:=hb1.size;simpa using this
 have HK1:Hid (Kp base b w w1):=Kp.of_below hBx hle
 have hlg:=hl.1
 have hne:b≠w.heap.size+1:=by omega
 clear hl hb1 hBx c2 f2
 generalize hLL:cutS 10 s.hand.data.toList=L at*
 clear hLL
 by_cases hin:n<L.length
 · have l0:w1.cell? ⟨w.heap.size+1,n,none⟩=some (.string (ofL (L.getD n []))):=by have:=HL.out.2 n hin;simpa using this
   have HT':Hid (lineAt s.hand (n:Int)=ofL (L.getD n [])):=HTY.out hin
   clear HTY HTN
   generalize L.getD n []=ln at*
   go_wp2
   go_end0
   refine ⟨rfl,after_l act_7 ⟨p,v,?_⟩,(HK1.out.set 2 _).set 2 _⟩
   rw [HT'.out]
   have h1:St base b (w1.setCell ⟨b,2,none⟩ (.string ⟨#[]⟩)) (rcL p v arg (.slice a2 reps.length cap2) s.pc ⟨⟨#[]⟩,s.out,s.pc+1,s.looks,s.steps+1⟩) s.out:=HS1.out.set 2 _ rfl rfl rfl
   exact h1.set 2 _ rfl rfl rfl
 have HT':Hid (lineAt s.hand (n:Int)=⟨#[]⟩):=HTN.out hin
 clear HTY HTN
 go_wp2
 go_end0
 refine ⟨rfl,after_l act_7 ⟨p,v,?_⟩,HK1.out.set 2 _⟩
 rw [HT'.out]
 exact HS1.out.set 2 _ rfl rfl rfl
set_option maxHeartbeats 1000000 in
theorem m97:MOk 136 8:=by
 intro base b arg reps a2 cap2 s tx to w hm
 obtain ⟨p,v,hS⟩:=hm.live
 have HS:Hid (St base b w (rcL p v arg (.slice a2 reps.length cap2) s.pc s.up) s.out):=hS
 have c2:w.cell? ⟨b,2,none⟩=some (.string s.hand):=run_cell hS.run 2
 have cx7:w.cell? ⟨b,7,none⟩=some (.int .i64 (s.pc+1:Nat)):=run_cell hS.run 7
 have f7:=run_free hS.run 7
 have hlt:=run_lt hS.run
 have hle:=hS.le
 obtain ⟨n,rfl⟩:=Int.eq_ofNat_of_zero_le hm.to0
 have hto:=hm.to1
 have htx:=hm.htx
 have hpc:=hm.pc
 obtain ⟨g1,g2,g3,g4,g5,g6⟩:=hm.fit
 clear hS hm
 by_cases heq:s.hand.data.toList=tx.data.toList
 · have HQ:Hid (s.hand.data.toList=tx.data.toList):=heq
   have heq':(s.hand.toList==tx.toList)=true:=by rw [ByteArray.toList_eq,ByteArray.toList_eq];simpa using heq
   clear heq
   go_enter Tryz.func136,Tryz.ntmps136
   go_wp2_with fail
   go_region
   go_wp2
   go_end0
   refine ⟨rfl,after_l (act_8y HQ.out) ⟨p,v,?_⟩,(((Kp.refl base b w).set 7 _).alloc (by simpa using hle) _).drew⟩
   refine St.below ?_ (((Below.refl _ _).alloc (Nat.le_refl _) _).drew)
   exact HS.out.set 7 _ rfl rfl rfl
 have HQ:Hid (¬ s.hand.data.toList=tx.data.toList):=heq
 have heq':(s.hand.toList==tx.toList)=false:=by rw [ByteArray.toList_eq,ByteArray.toList_eq];simpa using heq
 clear heq
 go_enter Tryz.func136,Tryz.ntmps136
 go_wp2_with fail
 go_region
 go_wp2
 go_end0
 refine ⟨rfl,after_l (act_8n HQ.out) ⟨p,v,?_⟩,((Kp.refl base b w).alloc hle _).drew⟩
 exact HS.out.below ((Below.refl _ _).alloc (Nat.le_refl _) _).drew
set_option maxHeartbeats 1000000 in
theorem m98:MOk 137 9:=by
 intro base b arg reps a2 cap2 s tx to w hm
 obtain ⟨p,v,hS⟩:=hm.live
 have HS:Hid (St base b w (rcL p v arg (.slice a2 reps.length cap2) s.pc s.up) s.out):=hS
 have cx7:w.cell? ⟨b,7,none⟩=some (.int .i64 (s.pc+1:Nat)):=run_cell hS.run 7
 have f7:=run_free hS.run 7
 have hlt:=run_lt hS.run
 have hle:=hS.le
 obtain ⟨n,rfl⟩:=Int.eq_ofNat_of_zero_le hm.to0
 have hto:=hm.to1
 have htx:=hm.htx
 have hpc:=hm.pc
 obtain ⟨g1,g2,g3,g4,g5,g6⟩:=hm.fit
 clear hS hm
 go_enter Tryz.func137,Tryz.ntmps137
 go_wp2
 go_end0
 refine ⟨rfl,after_l act_9 ⟨p,v,?_⟩,(((Kp.refl base b w).set 7 _).alloc (by simpa using hle) _)⟩
 refine St.below ?_ (((Below.refl _ _).alloc (Nat.le_refl _) _))
 exact HS.out.set 7 _ rfl rfl rfl
set_option maxHeartbeats 1000000 in
theorem m99:MOk 138 10:=by
 intro base b arg reps a2 cap2 s tx to w hm
 obtain ⟨p,v,hS⟩:=hm.live
 have HS:Hid (St base b w (rcL p v arg (.slice a2 reps.length cap2) s.pc s.up) s.out):=hS
 have hlt:=run_lt hS.run
 have hle:=hS.le
 obtain ⟨n,rfl⟩:=Int.eq_ofNat_of_zero_le hm.to0
 have hto:=hm.to1
 have htx:=hm.htx
 have hpc:=hm.pc
 obtain ⟨g1,g2,g3,g4,g5,g6⟩:=hm.fit
 clear hS hm
 go_enter Tryz.func138,Tryz.ntmps138
 go_wp2_with fail
 refine (c128e base b _ s.out _ (HS.out.below ((Below.refl _ _).alloc (Nat.le_refl _) _))).mono ?_
 rintro e w1 ⟨rfl,h1,hk1⟩
 have H1:Hid (RunAt w1 b _):=h1
 have HK1:Hid (Kp base b w w1):=((Kp.refl base b w).alloc hle _).trans hk1
 clear h1 hk1
 go_wp2_with fail
 refine (c121 base b _ 0 (ofL s.out) _ H1.out).mono ?_
 rintro e w2 ⟨rfl,h2,hk⟩
 have H2:Hid (RunAt w2 b _):=h2
 have HK:Hid (Kp base b w w2):=HK1.out.trans hk
 clear h2 hk
 go_wp2
 go_end0
 exact ⟨rfl,after_r act_10 ⟨_,H2.out,rfl,rfl⟩,HK.out⟩
set_option maxHeartbeats 1000000 in
theorem m100:MOk 139 11:=by
 intro base b arg reps a2 cap2 s tx to w hm
 obtain ⟨p,v,hS⟩:=hm.live
 have HS:Hid (St base b w (rcL p v arg (.slice a2 reps.length cap2) s.pc s.up) s.out):=hS
 have c2:w.cell? ⟨b,2,none⟩=some (.string s.hand):=run_cell hS.run 2
 have hlt:=run_lt hS.run
 have hle:=hS.le
 obtain ⟨n,rfl⟩:=Int.eq_ofNat_of_zero_le hm.to0
 have hto:=hm.to1
 have htx:=hm.htx
 have hpc:=hm.pc
 obtain ⟨g1,g2,g3,g4,g5,g6⟩:=hm.fit
 clear hS hm
 go_enter Tryz.func139,Tryz.ntmps139
 go_wp2_with fail
 have HRW:=run_alloc HS.out.run (.cells #[.int .i64 11,.string tx,.int .i64 n] 149)
 refine (c121 base b _ 1 s.hand _ HRW).mono ?_
 rintro e w2 ⟨rfl,h2,hk⟩
 have H2:Hid (RunAt w2 b _):=h2
 have HK:Hid (Kp base b w w2):=((Kp.refl base b w).alloc hle _).trans hk
 clear h2 hk HRW
 go_wp2
 go_end0
 exact ⟨rfl,after_r act_11 ⟨_,H2.out,rfl,rfl⟩,HK.out⟩
end Go.Proofs.YtmalddmgdjkgaaaGreatDoor

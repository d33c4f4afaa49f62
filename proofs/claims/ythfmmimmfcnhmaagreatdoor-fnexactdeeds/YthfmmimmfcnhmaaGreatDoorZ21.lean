import Derived.Test.YthfmmimmfcnhmaaGreatDoorZ10
import Derived.Test.YthfmmimmfcnhmaaGreatDoorZ20
namespace Go.Proofs.YthfmmimmfcnhmaaGreatDoor
open Go.RowKit
structure ST where
 hand:ByteArray
 out:List UInt8
 pc:Nat
 looks:Nat
 steps:Nat
structure TN where
 over:Bool
 code:Int
 text:ByteArray
 has:Bool
 name:ByteArray
 steps:Int
def TN.v (t:TN):Value:=.agg #[.bool t.over,.int .i64 t.code,.string t.text,.bool t.has,.string t.name,.int .i64 t.steps]
def zeroT:TN:=⟨false,0,⟨#[]⟩,false,⟨#[]⟩,0⟩
def overT (c:Int) (t:ByteArray) (k:Int):TN:=⟨true,c,t,false,⟨#[]⟩,k⟩
def lineAt (h:ByteArray) (n:Int):ByteArray:=if n<((cutS 10 h.data.toList).length:Int) then ofL ((cutS 10 h.data.toList).getD n.toNat []) else ⟨#[]⟩
def look (x:I3) (reps:List R2) (s:ST):ST ⊕ TN:=
 if nameOk s.hand.data.toList=false then .inr (overT 4 ⟨#[63]⟩ (s.steps+1))
 else if 14<=s.looks then .inr (overT 3 ⟨#[]⟩ (s.steps+1))
 else if reps.length<=s.looks then .inr ⟨false,0,⟨#[]⟩,x.op==4,s.hand,s.steps+1⟩
 else if x.op=4 then .inl ⟨if (reps.getD s.looks r2z).code=4 then ⟨#[48]⟩ else ⟨#[49]⟩,s.out,s.pc+1,s.looks+1,s.steps+1⟩
 else if (reps.getD s.looks r2z).code=4 then .inr (overT 4 s.hand (s.steps+1))
 else if (reps.getD s.looks r2z).code=0 then .inl ⟨(reps.getD s.looks r2z).tx,s.out,s.pc+1,s.looks+1,s.steps+1⟩
 else .inr (overT 5 s.hand (s.steps+1))
def brk (p:Nat) (k:Int):TN:=overT 2 (ofL (Lib.decDigits p)) k
def act (arg:ByteArray) (reps:List R2) (x:I3) (s:ST):ST ⊕ TN:=
 if x.op=1 then .inl ⟨x.tx,s.out,s.pc+1,s.looks,s.steps+1⟩
 else if x.op=2 then .inl ⟨arg,s.out,s.pc+1,s.looks,s.steps+1⟩
 else if x.op=5 then (if 300<s.out.length+s.hand.size then .inr (brk s.pc (s.steps+1)) else .inl ⟨s.hand,s.out++s.hand.data.toList,s.pc+1,s.looks,s.steps+1⟩)
 else if x.op=6 then (if 300<s.hand.size+x.tx.size then .inr (brk s.pc (s.steps+1)) else .inl ⟨s.hand++x.tx,s.out,s.pc+1,s.looks,s.steps+1⟩)
 else if x.op=7 then .inl ⟨lineAt s.hand x.to,s.out,s.pc+1,s.looks,s.steps+1⟩
 else if x.op=8 then .inl ⟨s.hand,s.out,if s.hand.data.toList=x.tx.data.toList then x.to.toNat else s.pc+1,s.looks,s.steps+1⟩
 else if x.op=9 then .inl ⟨s.hand,s.out,x.to.toNat,s.looks,s.steps+1⟩
 else if x.op=10 then .inr (overT 0 (ofL s.out) (s.steps+1))
 else if x.op=11 then .inr (overT 1 s.hand (s.steps+1))
 else look x reps s
def step (T:List I3) (arg:ByteArray) (reps:List R2) (s:ST):ST ⊕ TN:=
 if T.length<=s.pc then .inr (brk s.pc s.steps) else if 200<=s.steps then .inr (overT 3 ⟨#[]⟩ s.steps) else act arg reps (T.getD s.pc i3z) s
def runF (T:List I3) (arg:ByteArray) (reps:List R2):Nat->ST->TN
 | 0,_=>zeroT
 | n+1,s=>match step T arg reps s with
  | .inl s'=>runF T arg reps n s'
  | .inr r=>r
def s0:ST:=⟨⟨#[]⟩,[],0,0,0⟩
def fin (T:List I3) (arg:ByteArray) (reps:List R2):TN:=runF T arg reps 202 s0
def On (T:List I3) (arg:ByteArray) (reps:List R2) (s:ST):Prop:=fin T arg reps=runF T arg reps (202 - s.steps) s
def okR (reps:List R2):Bool:=reps.all fun r=>vr r.code r.tx.data.toList
structure Fit (reps:List R2) (s:ST):Prop where
 hand:s.hand.size<=300
 out:s.out.length<=300
 pc:s.pc<=41
 looks:s.looks<=14
 most:s.looks<=reps.length
 steps:s.steps<=200
theorem on_start (T:List I3) (arg:ByteArray) (reps:List R2):On T arg reps s0:=rfl
theorem fit_start (reps:List R2):Fit reps s0:=⟨by simp [s0,ByteArray.size],by simp [s0],by simp [s0],by simp [s0],by simp [s0],by simp [s0]⟩
theorem on_inr {T:List I3} {arg:ByteArray} {reps:List R2} {s:ST} {r:TN} (h:On T arg reps s) (hs:s.steps<=200) (e:step T arg reps s=.inr r):fin T arg reps=r:=by
 unfold On at h
 obtain ⟨m,hm⟩:∃ m,202 - s.steps=m+1:=⟨201 - s.steps,by omega⟩
 rw [h,hm,runF,e]
theorem act_steps {arg:ByteArray} {reps:List R2} {x:I3} {s s':ST} (e:act arg reps x s=.inl s'):s'.steps=s.steps+1:=by
 unfold act look at e
 by_cases h1:x.op=1
 · rw [if_pos h1] at e
   injection e with e
   subst e
   rfl
 rw [if_neg h1] at e
 by_cases h2:x.op=2
 · rw [if_pos h2] at e
   injection e with e
   subst e
   rfl
 rw [if_neg h2] at e
 by_cases h5:x.op=5
 · rw [if_pos h5] at e
   by_cases hc:300<s.out.length+s.hand.size
   · rw [if_pos hc] at e
     injection e
   rw [if_neg hc] at e
   injection e with e
   subst e
   rfl
 rw [if_neg h5] at e
 by_cases h6:x.op=6
 · rw [if_pos h6] at e
   by_cases hc:300<s.hand.size+x.tx.size
   · rw [if_pos hc] at e
     injection e
   rw [if_neg hc] at e
   injection e with e
   subst e
   rfl
 rw [if_neg h6] at e
 by_cases h7:x.op=7
 · rw [if_pos h7] at e
   injection e with e
   subst e
   rfl
 rw [if_neg h7] at e
 by_cases h8:x.op=8
 · rw [if_pos h8] at e
   injection e with e
   subst e
   rfl
 rw [if_neg h8] at e
 by_cases h9:x.op=9
 · rw [if_pos h9] at e
   injection e with e
   subst e
   rfl
 rw [if_neg h9] at e
 by_cases h10:x.op=10
 · rw [if_pos h10] at e
   injection e
 rw [if_neg h10] at e
 by_cases h11:x.op=11
 · rw [if_pos h11] at e
   injection e
 rw [if_neg h11] at e
 by_cases ga:nameOk s.hand.data.toList=false
 · rw [if_pos ga] at e
   injection e
 rw [if_neg ga] at e
 by_cases gb:14<=s.looks
 · rw [if_pos gb] at e
   injection e
 rw [if_neg gb] at e
 by_cases gc:reps.length<=s.looks
 · rw [if_pos gc] at e
   injection e
 rw [if_neg gc] at e
 by_cases h4:x.op=4
 · rw [if_pos h4] at e
   injection e with e
   subst e
   rfl
 rw [if_neg h4] at e
 by_cases gd:(reps.getD s.looks r2z).code=4
 · rw [if_pos gd] at e
   injection e
 rw [if_neg gd] at e
 by_cases ge:(reps.getD s.looks r2z).code=0
 · rw [if_pos ge] at e
   injection e with e
   subst e
   rfl
 rw [if_neg ge] at e
 injection e
theorem step_inl {T:List I3} {arg:ByteArray} {reps:List R2} {s s':ST} (e:step T arg reps s=.inl s'):s.steps<200/\s'.steps=s.steps+1:=by
 unfold step at e
 split at e
 · injection e
 split at e
 · injection e
 exact ⟨by omega,act_steps e⟩
theorem on_inl {T:List I3} {arg:ByteArray} {reps:List R2} {s s':ST} (h:On T arg reps s) (e:step T arg reps s=.inl s'):On T arg reps s':=by
 obtain ⟨h1,h2⟩:=step_inl e
 unfold On at h ⊢
 obtain ⟨m,hm⟩:∃ m,202 - s.steps=m+1:=⟨201 - s.steps,by omega⟩
 rw [h,hm,runF,e]
 simp only
 congr 1
 omega
theorem step_act {T:List I3} {arg:ByteArray} {reps:List R2} {s:ST} (h1:s.pc<T.length) (h2:s.steps<200):step T arg reps s=act arg reps (T.getD s.pc i3z) s:=by
 unfold step
 rw [if_neg (by omega),if_neg (by omega)]
theorem okR_at {reps:List R2} (h:okR reps=true) {k:Nat} (hk:k<reps.length):vr (reps.getD k r2z).code (reps.getD k r2z).tx.data.toList=true:=by
 have e:reps.getD k r2z=reps[k]:=by simp [hk]
 rw [e]
 unfold okR at h
 rw [List.all_eq_true] at h
 exact h _ (List.getElem_mem hk)
theorem vr_small {c:Int} {l:List UInt8} (h:vr c l=true):l.length<=300:=by
 rcases Nat.lt_or_ge 300 l.length with h' | h'
 · rw [vr_long h'] at h;cases h
 exact h'
theorem line_small (h:ByteArray) (n:Int):(lineAt h n).size<=h.size:=by
 unfold lineAt
 split
 · rw [ofL_size]
   have:=cut_small 10 h.data.toList n.toNat
   simpa using this
 exact Nat.zero_le _
theorem act_fit {arg:ByteArray} {reps:List R2} {x:I3} {s s':ST} (hx:okI x=true) (ha:arg.size<=300) (hr:okR reps=true) (h:Fit reps s) (hpc:s.pc<=40) (hst:s.steps<200) (e:act arg reps x s=.inl s'):Fit reps s':=by
 obtain ⟨f1,f2,f3,f4,f5,f6⟩:=h
 obtain ⟨_,_,_,x4,x5,x6⟩:=okI_bad hx
 have hl:=line_small s.hand x.to
 unfold act look at e
 by_cases h1:x.op=1
 · rw [if_pos h1] at e
   injection e with e
   subst e
   exact ⟨by show x.tx.size<=300;omega,f2,by show s.pc+1<=41;omega,f4,f5,by show s.steps+1<=200;omega⟩
 rw [if_neg h1] at e
 by_cases h2:x.op=2
 · rw [if_pos h2] at e
   injection e with e
   subst e
   exact ⟨ha,f2,by show s.pc+1<=41;omega,f4,f5,by show s.steps+1<=200;omega⟩
 rw [if_neg h2] at e
 by_cases h5:x.op=5
 · rw [if_pos h5] at e
   by_cases hc:300<s.out.length+s.hand.size
   · rw [if_pos hc] at e
     injection e
   rw [if_neg hc] at e
   injection e with e
   subst e
   exact ⟨f1,by show (s.out++s.hand.data.toList).length<=300;rw [List.length_append];simp;omega,by show s.pc+1<=41;omega,f4,f5,by show s.steps+1<=200;omega⟩
 rw [if_neg h5] at e
 by_cases h6:x.op=6
 · rw [if_pos h6] at e
   by_cases hc:300<s.hand.size+x.tx.size
   · rw [if_pos hc] at e
     injection e
   rw [if_neg hc] at e
   injection e with e
   subst e
   exact ⟨by show (s.hand++x.tx).size<=300;rw [ByteArray.size_append];omega,f2,by show s.pc+1<=41;omega,f4,f5,by show s.steps+1<=200;omega⟩
 rw [if_neg h6] at e
 by_cases h7:x.op=7
 · rw [if_pos h7] at e
   injection e with e
   subst e
   exact ⟨by show (lineAt s.hand x.to).size<=300;omega,f2,by show s.pc+1<=41;omega,f4,f5,by show s.steps+1<=200;omega⟩
 rw [if_neg h7] at e
 by_cases h8:x.op=8
 · rw [if_pos h8] at e
   injection e with e
   subst e
   exact ⟨f1,f2,by show (if s.hand.data.toList=x.tx.data.toList then x.to.toNat else s.pc+1)<=41;split <;> omega,f4,f5,by show s.steps+1<=200;omega⟩
 rw [if_neg h8] at e
 by_cases h9:x.op=9
 · rw [if_pos h9] at e
   injection e with e
   subst e
   exact ⟨f1,f2,by show x.to.toNat<=41;omega,f4,f5,by show s.steps+1<=200;omega⟩
 rw [if_neg h9] at e
 by_cases h10:x.op=10
 · rw [if_pos h10] at e
   injection e
 rw [if_neg h10] at e
 by_cases h11:x.op=11
 · rw [if_pos h11] at e
   injection e
 rw [if_neg h11] at e
 by_cases ga:nameOk s.hand.data.toList=false
 · rw [if_pos ga] at e
   injection e
 rw [if_neg ga] at e
 by_cases gb:14<=s.looks
 · rw [if_pos gb] at e
   injection e
 rw [if_neg gb] at e
 by_cases gc:reps.length<=s.looks
 · rw [if_pos gc] at e
   injection e
 rw [if_neg gc] at e
 by_cases h4:x.op=4
 · rw [if_pos h4] at e
   injection e with e
   subst e
   exact ⟨by show ByteArray.size (if _ then _ else _)<=300;split <;> decide,f2,by show s.pc+1<=41;omega,by show s.looks+1<=14;omega,by show s.looks+1<=reps.length;omega,by show s.steps+1<=200;omega⟩
 rw [if_neg h4] at e
 by_cases gd:(reps.getD s.looks r2z).code=4
 · rw [if_pos gd] at e
   injection e
 rw [if_neg gd] at e
 by_cases ge:(reps.getD s.looks r2z).code=0
 · rw [if_pos ge] at e
   injection e with e
   subst e
   exact ⟨by have h:=vr_small (okR_at hr (k:=s.looks) (by omega));show (reps.getD s.looks r2z).tx.size<=300;simpa using h,f2,by show s.pc+1<=41;omega,by show s.looks+1<=14;omega,by show s.looks+1<=reps.length;omega,by show s.steps+1<=200;omega⟩
 rw [if_neg ge] at e
 injection e
def nextT (T:List I3) (arg:ByteArray) (reps:List R2):TN:=if okT T=true/\arg.size<=300/\reps.length<=14/\okR reps=true then fin T arg reps else zeroT
section
variable {arg:ByteArray} {reps:List R2} {tx:ByteArray} {to:Int} {s:ST}
theorem act_1:act arg reps ⟨1,tx,to⟩ s=.inl ⟨tx,s.out,s.pc+1,s.looks,s.steps+1⟩:=rfl
theorem act_2:act arg reps ⟨2,tx,to⟩ s=.inl ⟨arg,s.out,s.pc+1,s.looks,s.steps+1⟩:=rfl
theorem act_5y (h:300<s.out.length+s.hand.size):act arg reps ⟨5,tx,to⟩ s=.inr (brk s.pc (s.steps+1)):=if_pos h
theorem act_5n (h:¬ 300<s.out.length+s.hand.size):act arg reps ⟨5,tx,to⟩ s=.inl ⟨s.hand,s.out++s.hand.data.toList,s.pc+1,s.looks,s.steps+1⟩:=if_neg h
theorem act_6y (h:300<s.hand.size+tx.size):act arg reps ⟨6,tx,to⟩ s=.inr (brk s.pc (s.steps+1)):=if_pos h
theorem act_6n (h:¬ 300<s.hand.size+tx.size):act arg reps ⟨6,tx,to⟩ s=.inl ⟨s.hand++tx,s.out,s.pc+1,s.looks,s.steps+1⟩:=if_neg h
theorem act_7:act arg reps ⟨7,tx,to⟩ s=.inl ⟨lineAt s.hand to,s.out,s.pc+1,s.looks,s.steps+1⟩:=rfl
theorem act_8y (h:s.hand.data.toList=tx.data.toList):act arg reps ⟨8,tx,to⟩ s=.inl ⟨s.hand,s.out,to.toNat,s.looks,s.steps+1⟩:=by
 show Sum.inl (ST.mk s.hand s.out (if s.hand.data.toList=tx.data.toList then to.toNat else s.pc+1) s.looks (s.steps+1))=_
 rw [if_pos h]
theorem act_8n (h:¬ s.hand.data.toList=tx.data.toList):act arg reps ⟨8,tx,to⟩ s=.inl ⟨s.hand,s.out,s.pc+1,s.looks,s.steps+1⟩:=by
 show Sum.inl (ST.mk s.hand s.out (if s.hand.data.toList=tx.data.toList then to.toNat else s.pc+1) s.looks (s.steps+1))=_
 rw [if_neg h]
theorem act_9:act arg reps ⟨9,tx,to⟩ s=.inl ⟨s.hand,s.out,to.toNat,s.looks,s.steps+1⟩:=rfl
theorem act_10:act arg reps ⟨10,tx,to⟩ s=.inr (overT 0 (ofL s.out) (s.steps+1)):=rfl
theorem act_11:act arg reps ⟨11,tx,to⟩ s=.inr (overT 1 s.hand (s.steps+1)):=rfl
theorem act_3:act arg reps ⟨3,tx,to⟩ s=look ⟨3,tx,to⟩ reps s:=rfl
theorem act_4:act arg reps ⟨4,tx,to⟩ s=look ⟨4,tx,to⟩ reps s:=rfl
theorem look_noname {x:I3} (h:nameOk s.hand.data.toList=false):look x reps s=.inr (overT 4 ⟨#[63]⟩ (s.steps+1)):=if_pos h
theorem look_spent {x:I3} (h:nameOk s.hand.data.toList=true) (h2:14<=s.looks):look x reps s=.inr (overT 3 ⟨#[]⟩ (s.steps+1)):=by
 unfold look;rw [if_neg (by simp [h]),if_pos h2]
theorem look_stop {x:I3} (h:nameOk s.hand.data.toList=true) (h2:¬ 14<=s.looks) (h3:reps.length<=s.looks):look x reps s=.inr ⟨false,0,⟨#[]⟩,x.op==4,s.hand,s.steps+1⟩:=by
 unfold look;rw [if_neg (by simp [h]),if_neg h2,if_pos h3]
theorem look_go {x:I3} (h:nameOk s.hand.data.toList=true) (h2:¬ 14<=s.looks) (h3:¬ reps.length<=s.looks):look x reps s=if x.op=4 then .inl ⟨if (reps.getD s.looks r2z).code=4 then ⟨#[48]⟩ else ⟨#[49]⟩,s.out,s.pc+1,s.looks+1,s.steps+1⟩
 else if (reps.getD s.looks r2z).code=4 then .inr (overT 4 s.hand (s.steps+1))
 else if (reps.getD s.looks r2z).code=0 then .inl ⟨(reps.getD s.looks r2z).tx,s.out,s.pc+1,s.looks+1,s.steps+1⟩
 else .inr (overT 5 s.hand (s.steps+1)):=by
 unfold look;rw [if_neg (by simp [h]),if_neg h2,if_neg h3]
theorem look_4y (h:nameOk s.hand.data.toList=true) (h2:¬ 14<=s.looks) (h3:¬ reps.length<=s.looks) (h4:(reps.getD s.looks r2z).code=4):look ⟨4,tx,to⟩ reps s=.inl ⟨⟨#[48]⟩,s.out,s.pc+1,s.looks+1,s.steps+1⟩:=by
 rw [look_go h h2 h3,if_pos rfl,if_pos h4]
theorem look_4n (h:nameOk s.hand.data.toList=true) (h2:¬ 14<=s.looks) (h3:¬ reps.length<=s.looks) (h4:¬ (reps.getD s.looks r2z).code=4):look ⟨4,tx,to⟩ reps s=.inl ⟨⟨#[49]⟩,s.out,s.pc+1,s.looks+1,s.steps+1⟩:=by
 rw [look_go h h2 h3,if_pos rfl,if_neg h4]
theorem look_3m (h:nameOk s.hand.data.toList=true) (h2:¬ 14<=s.looks) (h3:¬ reps.length<=s.looks) (h4:(reps.getD s.looks r2z).code=4):look ⟨3,tx,to⟩ reps s=.inr (overT 4 s.hand (s.steps+1)):=by
 rw [look_go h h2 h3,if_neg (by simp),if_pos h4]
theorem look_3d (h:nameOk s.hand.data.toList=true) (h2:¬ 14<=s.looks) (h3:¬ reps.length<=s.looks) (h4:¬ (reps.getD s.looks r2z).code=4) (h5:(reps.getD s.looks r2z).code=0):look ⟨3,tx,to⟩ reps s=.inl ⟨(reps.getD s.looks r2z).tx,s.out,s.pc+1,s.looks+1,s.steps+1⟩:=by
 rw [look_go h h2 h3,if_neg (by simp),if_neg h4,if_pos h5]
theorem look_3b (h:nameOk s.hand.data.toList=true) (h2:¬ 14<=s.looks) (h3:¬ reps.length<=s.looks) (h4:¬ (reps.getD s.looks r2z).code=4) (h5:¬ (reps.getD s.looks r2z).code=0):look ⟨3,tx,to⟩ reps s=.inr (overT 5 s.hand (s.steps+1)):=by
 rw [look_go h h2 h3,if_neg (by simp),if_neg h4,if_neg h5]
end
theorem go_on {T:List I3} {arg:ByteArray} {reps:List R2} {x:I3} {s s':ST} (hx:T.getD s.pc i3z=x) (hpc:s.pc<T.length) (hT:T.length<=40) (hst:s.steps<200) (hall:T.all okI=true) (ha:arg.size<=300) (hr:okR reps=true) (hf:Fit reps s) (ho:On T arg reps s) (e:act arg reps x s=.inl s'):Fit reps s'/\On T arg reps s':=by
 have hok:okI x=true:=by rw [<- hx];exact get_ok hall hpc
 exact ⟨act_fit hok ha hr hf (by omega) hst e,on_inl ho (by rw [step_act hpc hst,hx];exact e)⟩
theorem go_end {T:List I3} {arg:ByteArray} {reps:List R2} {x:I3} {s:ST} {r:TN} (hx:T.getD s.pc i3z=x) (hpc:s.pc<T.length) (hst:s.steps<200) (ho:On T arg reps s) (e:act arg reps x s=.inr r):fin T arg reps=r:=
 on_inr ho (by omega) (by rw [step_act hpc hst,hx];exact e)
theorem end_pc {T:List I3} {arg:ByteArray} {reps:List R2} {s:ST} (h:T.length<=s.pc) (hf:Fit reps s) (ho:On T arg reps s):fin T arg reps=brk s.pc s.steps:=
 on_inr ho hf.steps (by unfold step;rw [if_pos h])
theorem end_steps {T:List I3} {arg:ByteArray} {reps:List R2} {s:ST} (h:s.pc<T.length) (h2:s.steps=200) (ho:On T arg reps s):fin T arg reps=overT 3 ⟨#[]⟩ s.steps:=
 on_inr ho (by omega) (by unfold step;rw [if_neg (by omega),if_pos (by omega)])
theorem ofL_cat (l:List UInt8) (s:ByteArray):ofL l++s=ofL (l++s.data.toList):=by
 apply ByteArray.ext
 simp [ofL]
end Go.Proofs.YthfmmimmfcnhmaaGreatDoor

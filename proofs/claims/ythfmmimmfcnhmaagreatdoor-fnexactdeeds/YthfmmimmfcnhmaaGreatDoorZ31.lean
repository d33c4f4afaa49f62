import Derived.Test.YthfmmimmfcnhmaaGreatDoorNF
import Derived.Test.YthfmmimmfcnhmaaGreatDoorN9
import Derived.Maps.AppendAt
set_option maxHeartbeats 8000000
set_option maxRecDepth 100000
namespace Go.Proofs.YthfmmimmfcnhmaaGreatDoor
open Proofs.Tryz
open Go.RowKit
variable {B N b0 b1 b2 b3 base g size:Nat} {a b u w w':World} {T:List I3} {reps rs:List R2} {h o:Bool} {c k:Int} {ar n nm t tl:ByteArray} {v v1 v2:Value} {e:TypeId} {xs:List Value} {s:RS}
theorem ins_toB {b:Nat} {a:Option Addr} (h:InsAt w a T) (hb:Below w.heap.size w w') (hz:w.heap.size<=base) (hbb:w.heap.size<=b):InsB base b w' a T:=by
 rcases h with h | ⟨ib,off,h1,h2,h3⟩
 · exact .inl h
 exact .inr ⟨ib,off,h1,by omega,by omega,fun i hi=>by rw [hb.cell (by exact h2),hb.cell (by exact h2),hb.cell (by exact h2)];exact h3 i hi⟩
theorem res_toB {b:Nat} {a:Option Addr} (h:ResAt w a rs) (hb:Below w.heap.size w w') (hz:w.heap.size<=base) (hbb:w.heap.size<=b):RepAt base b w' a rs:=by
 rcases h with h | ⟨ib,off,h1,h2,h3⟩
 · exact .inl h
 exact .inr ⟨ib,off,h1,by omega,by omega,fun i hi=>by rw [hb.cell (by exact h2),hb.cell (by exact h2)];exact h3 i hi⟩
theorem c105y (a:Option Addr) (cap:Nat) (T:List I3) (arg:ByteArray) (a2:Option Addr) (cap2:Nat) (reps:List R2) (w:World) (hs:∀ i,(T.getD i i3z).tx.size<=1048700) (hl:T.length<=1048576) (hat:InsAt w a T) (hok:okT T=true) (hr:reps.length<=14) (ha:arg.size<=300) (hat2:ResAt w a2 reps) (hs2:∀ i,(reps.getD i r2z).tx.size<=1048700) (hsh:ShapesAt w) (hmax:MaxAt w):
 Calls prog 105 #[.agg #[.slice a T.length cap],.string arg,.slice a2 reps.length cap2] w fun e w'=>e=.returned (nextT T arg reps).v/\Below w.heap.size w w':=by
 have HIA:Hid (InsAt w a T):=hat
 have HSH:Hid (ShapesAt w):=hsh
 have HRA:Hid (ResAt w a2 reps):=hat2
 have HMX:Hid (MaxAt w):=hmax
 have hone:0<w.heap.size:=hmax.1
 obtain ⟨rb,roff,hc⟩:=res_some hat2
 have HC:Hid (reps=[]\/(a2=some ⟨rb,roff,none⟩/\rb<w.heap.size/\∀ i,i<reps.length->w.cell? ⟨rb,roff+i*2,none⟩=some (.int .i64 (reps.getD i r2z).code)/\w.cell? ⟨rb,roff+i*2+1,none⟩=some (.string (reps.getD i r2z).tx))):=hc
 clear hat hsh hat2 hmax hc
 go_enter func105,ntmps105
 go_wp2_with fail
 refine (c137 a cap T (W0 a T.length cap w) hs hl (ins_below HIA.out (W0_below _ _ _ _)) (shapes_below HSH.out (W0_below _ _ _ _))).mono ?_
 rintro e w1 ⟨rfl,hb1⟩
 rw [hok]
 have hb:Below (w.heap.size+2) (W0 a T.length cap w) w1:=by rw [W0_size] at hb1;exact hb1
 obtain ⟨⟨t0,q0,q1,q2,q3,q4,q5⟩,hfz⟩:=W0_cells hb
 go_wp2_with fail
 clear t0 q0 q1 q2 q3 q4 q5 hfz hb1
 go_loopw [26] (fun i wr=>∃ k:Nat,k<=reps.length/\i=.int .i64 k/\Hid (okR (reps.take k)=true)/\Below (w.heap.size+2) (W0 a T.length cap w) wr) (fun i _=>reps.length - (intOf i).toNat)
 case atStart=>exact ⟨0,Nat.zero_le _,rfl,rfl,hb⟩
 clear hb
 obtain ⟨k,hk,rfl,hko,hb⟩:=hrel
 have hBw:Below w.heap.size w wr:=(W0_below a T.length cap w).trans (hb.mono (by omega))
 have hzz:w.heap.size+2<=wr.heap.size:=by have:=hb.size;rw [W0_size] at this;exact this
 by_cases hlt:k<reps.length
 · rcases HC.out with hss | ⟨ha2,hrw,hcell⟩
   · rw [hss] at hlt;exact absurd hlt (Nat.not_lt_zero _)
   subst ha2
   have x0:=(hBw.cell (p:=⟨rb,roff+k*2,none⟩) hrw).trans (hcell k hlt).1
   have x1:=(hBw.cell (p:=⟨rb,roff+k*2+1,none⟩) hrw).trans (hcell k hlt).2
   have hxs:=hs2 k
   have hrw':rb<wr.heap.size:=by omega
   generalize hx:reps.getD k r2z=x at*
   have HX:Hid (reps.getD k r2z=x):=hx
   clear hx hcell
   go_wp2_with fail
   refine (c138 x.code x.tx _ hxs).mono ?_
   rintro e w2 ⟨rfl,hb2⟩
   have hb':Below (w.heap.size+2) (W0 a T.length cap w) w2:=(hb.alloc hzz _).trans (hb2.mono (by simp;omega))
   by_cases hv:vr x.code x.tx.data.toList=true
   · have hko':Hid (okR (reps.take (k+1))=true):=all_snocR hlt hko.out (by rw [HX.out];exact hv)
     rw [hv]
     clear hv hb2
     go_wp2
     go_roundw
     case rel=>exact ⟨k+1,by omega,by go_num,hko',hb'⟩
     case measure=>simp [intOf];omega
   have hv':vr x.code x.tx.data.toList=false:=by simpa using hv
   have HZ:Hid (nextT T arg reps=zeroT):=next_no (.inr (.inr (.inr (all_notR hlt (by rw [HX.out];exact hv')))))
   rw [hv']
   clear hv hv' hb2
   obtain ⟨⟨t0,q0,q1,q2,q3,q4,q5⟩,hfz⟩:=W0_cells hb'
   go_wp2
   obtain ⟨s0,s1,s2,s3,s4,s5⟩:=set6 (z6_heap hb') (.bool false) (.int .i64 0) (.string ⟨#[]⟩) (.bool false) (.string ⟨#[]⟩) (.int .i64 0)
   refine bodyPost_ret (v:=zeroT.v) (by simp [results,Tryz.results105,go_sem,s0,s1,s2,s3,s4,s5,zeroT,TN.v]) rfl ⟨by rw [HZ.out],?_⟩
   exact ((W0_below a T.length cap w).trans (hb'.mono (by omega))).trans (set6_below (by omega) _ _ _ _ _ _)
 have hall:Hid (okR reps=true):=by have:=hko.out;rw [List.take_of_length_le (by omega)] at this;exact this
 have HNX:Hid (nextT T arg reps=fin T arg reps):=next_yes hok ha hr hall.out
 obtain ⟨⟨t0,q0,q1,q2,q3,q4,q5⟩,hfz⟩:=W0_cells hb
 clear q0 q1 q2 q3 q4 q5 hfz hko
 have hBx:∀ o,Below w.heap.size w (wr.alloc o):=fun o=>hBw.alloc (by omega) o
 have HBx:Hid (∀ o,Below w.heap.size w (wr.alloc o)):=hBx
 have HRN:Hid (RunAt (wr.alloc (.cells (rcL (.pointer none) (.slice none 0 0) arg (.slice a2 reps.length cap2) 0 s0).cells 218)) wr.heap.size (rcL (.pointer none) (.slice none 0 0) arg (.slice a2 reps.length cap2) 0 s0)):=alloc_new rfl _
 have hwlt:w.heap.size<wr.heap.size:=by omega
 clear hBx
 go_wp2_with fail
 refine (c139 wr.heap.size a cap T arg a2 cap2 reps (wr.alloc (.cells (rcL (.pointer none) (.slice none 0 0) arg (.slice a2 reps.length cap2) 0 s0).cells 218)) HRN.out (ins_toB HIA.out (HBx.out _) (by simp;omega) (by omega)) (res_toB HRA.out (HBx.out _) (by simp;omega) (by omega)) (max_below HMX.out (HBx.out _)) (by omega) hok ha hr hall.out).mono ?_
 rintro e w2 ⟨rfl,⟨r,hrn,hrh,hrt⟩,hk2⟩
 have hb2:Below (w.heap.size+2) (W0 a T.length cap w) w2:=(hb.alloc hzz _).trans (hk2.below hzz (by simp;omega))
 obtain ⟨⟨t2,q0,q1,q2,q3,q4,q5⟩,hfz⟩:=W0_cells hb2
 have d9:w2.cell? ⟨wr.heap.size,9,none⟩=some (.bool r.over):=run_cell hrn 9
 have d10:w2.cell? ⟨wr.heap.size,10,none⟩=some (.int .i64 r.code):=run_cell hrn 10
 have d11:w2.cell? ⟨wr.heap.size,11,none⟩=some (.string r.text):=run_cell hrn 11
 have d12:w2.cell? ⟨wr.heap.size,12,none⟩=some (.bool r.has):=run_cell hrn 12
 have d13:w2.cell? ⟨wr.heap.size,13,none⟩=some (.string r.name):=run_cell hrn 13
 have d14:w2.cell? ⟨wr.heap.size,14,none⟩=some (.int .i64 r.steps):=run_cell hrn 14
 have HT:Hid (nextT T arg reps=r.tn):=HNX.out.trans hrt.symm
 clear hrn hrt hk2 t0
 go_wp2
 obtain ⟨s0,s1,s2,s3,s4,s5⟩:=set6 (z6_heap hb2) (.bool r.over) (.int .i64 r.code) (.string r.text) (.bool r.has) (.string r.name) (.int .i64 r.steps)
 refine bodyPost_ret (v:=r.tn.v) (by simp [results,Tryz.results105,go_sem,s0,s1,s2,s3,s4,s5,RC.tn,TN.v]) rfl ⟨by rw [HT.out],?_⟩
 exact ((W0_below a T.length cap w).trans (hb2.mono (by omega))).trans (set6_below (by omega) _ _ _ _ _ _)
structure Three (T:List I3) (arg:ByteArray) (reps:List R2):Prop where
 tl:T.length<=1048576
 ts:∀ i,(T.getD i i3z).tx.size<=1048576
 al:arg.size<=1048576
 rl:reps.length<=1048576
 rs:∀ i,(reps.getD i r2z).tx.size<=1048576
theorem c85 (a:Option Addr) (cap:Nat) (T:List I3) (arg:ByteArray) (a2:Option Addr) (cap2:Nat) (reps:List R2) (w:World) (h3:Three T arg reps) (hat:InsAt w a T) (hat2:ResAt w a2 reps):
 Calls prog 85 #[.agg #[.slice a T.length cap],.string arg,.slice a2 reps.length cap2] w fun e w'=>e=.returned (nextT T arg reps).v/\Below w.heap.size w w':=by
 have hs:∀ i,(T.getD i i3z).tx.size<=1048700:=fun i=>Nat.le_trans (h3.ts i) (by omega)
 by_cases h:okT T=true/\arg.size<=300/\reps.length<=14
 · exact c85y a cap T arg a2 cap2 reps w hs h3.tl hat h.1 h.2.2 h.2.1 hat2 (fun i=>Nat.le_trans (h3.rs i) (by omega))
 refine c85n a cap T arg a2 cap2 reps w hs h3.tl hat ?_ h3.al h3.rl
 by_cases h1:okT T=true
 · by_cases h2:arg.size<=300
   · exact .inr (.inr (by have h4:¬ reps.length<=14:=fun h4=>h ⟨h1,h2,h4⟩;omega))
   exact .inr (.inl (by omega))
 exact .inl (by simpa using h1)
theorem c105 (a:Option Addr) (cap:Nat) (T:List I3) (arg:ByteArray) (a2:Option Addr) (cap2:Nat) (reps:List R2) (w:World) (h3:Three T arg reps) (hat:InsAt w a T) (hat2:ResAt w a2 reps) (hsh:ShapesAt w) (hmx:MaxAt w):
 Calls prog 105 #[.agg #[.slice a T.length cap],.string arg,.slice a2 reps.length cap2] w fun e w'=>e=.returned (nextT T arg reps).v/\Below w.heap.size w w':=by
 have hs:∀ i,(T.getD i i3z).tx.size<=1048700:=fun i=>Nat.le_trans (h3.ts i) (by omega)
 by_cases h:okT T=true/\arg.size<=300/\reps.length<=14
 · exact c105y a cap T arg a2 cap2 reps w hs h3.tl hat h.1 h.2.2 h.2.1 hat2 (fun i=>Nat.le_trans (h3.rs i) (by omega)) hsh hmx
 refine c105n a cap T arg a2 cap2 reps w hs h3.tl hat ?_ hsh h3.al h3.rl
 by_cases h1:okT T=true
 · by_cases h2:arg.size<=300
   · exact .inr (.inr (by have h4:¬ reps.length<=14:=fun h4=>h ⟨h1,h2,h4⟩;omega))
   exact .inr (.inl (by omega))
 exact .inl (by simpa using h1)
theorem c85t (a:Option Addr) (cap:Nat) (T:List I3) (arg:ByteArray) (a2:Option Addr) (cap2:Nat) (reps:List R2) (w:World) (h3:Three T arg reps) (hat:InsAt w a T) (hat2:ResAt w a2 reps) (e:nextT T arg reps=⟨o,c,t,h,n,k⟩):
 Calls prog 85 #[.agg #[.slice a T.length cap],.string arg,.slice a2 reps.length cap2] w fun e w'=>e=.returned (.agg #[.bool o,.int .i64 c,.string t,.bool h,.string n,.int .i64 k])/\Below w.heap.size w w':=by
 have:=c85 a cap T arg a2 cap2 reps w h3 hat hat2
 rw [e] at this
 exact this
theorem c105t (a:Option Addr) (cap:Nat) (T:List I3) (arg:ByteArray) (a2:Option Addr) (cap2:Nat) (reps:List R2) (w:World) (h3:Three T arg reps) (hat:InsAt w a T) (hat2:ResAt w a2 reps) (hsh:ShapesAt w) (hmx:MaxAt w) (e:nextT T arg reps=⟨o,c,t,h,n,k⟩):
 Calls prog 105 #[.agg #[.slice a T.length cap],.string arg,.slice a2 reps.length cap2] w fun e w'=>e=.returned (.agg #[.bool o,.int .i64 c,.string t,.bool h,.string n,.int .i64 k])/\Below w.heap.size w w':=by
 have:=c105 a cap T arg a2 cap2 reps w h3 hat hat2 hsh hmx
 rw [e] at this
 exact this
structure Ex (S:Nat->Prop) (w w':World):Prop where
 os:w'.os=w.os
 tape:w'.tape=w.tape
 output:w'.output=w.output
 size:w.heap.size<=w'.heap.size
 block:∀ k,k<w.heap.size->¬ S k->w'.heap[k]?=w.heap[k]?
theorem Ex.refl (S:Nat->Prop) (w:World):Ex S w w:=⟨rfl,rfl,rfl,Nat.le_refl _,fun _ _ _=>rfl⟩
theorem Ex.trans {S:Nat->Prop} {c:World} (h:Ex S a b) (k:Ex S b c):Ex S a c:=
 ⟨k.os.trans h.os,k.tape.trans h.tape,k.output.trans h.output,Nat.le_trans h.size k.size,fun i hi hn=>(k.block i (Nat.lt_of_lt_of_le hi h.size) hn).trans (h.block i hi hn)⟩
theorem Ex.mono {S S':Nat->Prop} (h:Ex S a b) (hS:∀ k,k<a.heap.size->S k->S' k):Ex S' a b:=
 ⟨h.os,h.tape,h.output,h.size,fun k hk hn=>h.block k hk (fun e=>hn (hS k hk e))⟩
theorem Ex.andB {S:Nat->Prop} {c:World} (h:Ex S a b) (k:Below a.heap.size b c):Ex S a c:=
 ⟨k.os.trans h.os,k.tape.trans h.tape,k.output.trans h.output,Nat.le_trans h.size k.size,fun i hi hn=>(k.block i hi).trans (h.block i hi hn)⟩
theorem Ex.ofB {S:Nat->Prop} (k:Below a.heap.size a b):Ex S a b:=(Ex.refl S a).andB k
theorem Ex.setCell {S:Nat->Prop} (h:Ex S a w) {p:Addr} (hp:p.block<a.heap.size->S p.block) (u:Value):Ex S a (w.setCell p u):=
 ⟨h.os,h.tape,h.output,by simpa using h.size,fun k hk hn=>(Below.heap_setCell _ _ _ _ (fun e=>hn (by subst e;exact hp hk))).trans (h.block k hk hn)⟩
theorem Ex.alloc {S:Nat->Prop} (h:Ex S a w) (o:Obj):Ex S a (w.alloc o):=h.andB ((Below.refl _ _).alloc h.size o)
theorem Ex.grown {S:Nat->Prop} {row:Option Nat} (h:Ex S a w) (hg:w.grownBy w' row) (hr:∀ k,row=some k->k<a.heap.size->S k):Ex S a w':=
 ⟨hg.os.trans h.os,hg.tape.trans h.tape,hg.output.trans h.output,Nat.le_trans h.size hg.size,fun k hk hn=>(hg.block k (Nat.lt_of_lt_of_le hk h.size) (fun e=>hn (hr k e.symm hk))).trans (h.block k hk hn)⟩
theorem Ex.below {S:Nat->Prop} (h:Ex S a b) (hS:∀ k,S k->N<=k) (hN:N<=a.heap.size):Below N a b:=
 ⟨h.os,h.tape,h.output,h.size,fun k hk=>h.block k (by omega) (fun e=>by have:=hS k e;omega)⟩
def FP (b0 b1 b2:Nat) (v1:Value) (k:Nat):Prop:=k=b0\/k=b1\/k=b2\/v1.ownBlock=some k
def Nw (w:World) (v v':Value):Prop:=∀ k,v'.ownBlock=some k->v.ownBlock=some k\/w.heap.size<=k
theorem nw_at {w0:World} {v':Value} (h:v'.ownBlock=v.ownBlock\/v'.ownBlock=some w0.heap.size) (hs:w.heap.size<=w0.heap.size):Nw w v v':=fun k e=>by
 rcases h with h | h
 · exact .inl (h.symm.trans e)
 rw [h] at e
 cases e
 exact .inr hs
theorem nw_refl (w:World) (v:Value):Nw w v v:=fun _ h=>.inl h
theorem own_block {n:Nat} (h:w.ownsRow base e size v n xs) {k:Nat} (hk:v.ownBlock=some k):base<=k/\∃ cur,w.heap[k]?=some (.cells cur e (0,0)):=by
 rcases h.2 with ⟨hv,_⟩ | ⟨g,cap,cur,hv,hg,hh,_⟩
 · subst hv;cases hk
 subst hv
 obtain rfl:g=k:=by injection hk
 exact ⟨hg,cur,hh⟩
theorem ownsRow_keep {n:Nat} (h:w.ownsRow base e size v n xs) (hk:∀ k,v.ownBlock=some k->w'.heap[k]?=w.heap[k]?):w'.ownsRow base e size v n xs:=by
 refine ⟨h.1,?_⟩
 rcases h.2 with h2 | ⟨g,cap,cur,hv,hg,hh,r⟩
 · exact .inl h2
 exact .inr ⟨g,cap,cur,hv,hg,(hk g (by rw [hv];rfl)).trans hh,r⟩
theorem row2n (hg:g=w.heap.size) (x y:Value) (t:TypeId):∀ j u,[x,y][j]?=some u->(w.alloc (.cells #[x,y] t)).cell? ((⟨g,0,none⟩:Addr).add j)=some u:=by
 subst hg
 intro j u h
 match j,h with
 | 0,h=>simp at h;subst h;simp [Addr.add]
 | 1,h=>simp at h;subst h;simp [Addr.add]
theorem row_form2 {n:Nat} (h:w.ownsRow B e 2 v n xs):∃ ao c,v=.slice ao n c:=by
 rcases h.2 with ⟨hv,h0⟩ | ⟨g,cap,cur,hv,_⟩
 · exact ⟨none,0,by rw [hv,h0]⟩
 exact ⟨_,_,hv⟩
theorem RunW.app {w3:World} (h:RunW base b0 b1 b2 b3 u nm tl ar ⟨true,T,reps⟩ v1 v2) (hg:u.grownBy w3 v1.ownBlock) (r:R2) (v':Value) (ho:w3.ownsRow base 53 2 v' (reps.length+1) (resCells reps++[.int .i64 r.code,.string r.tx])):
 RunW base b0 b1 b2 b3 (w3.setCell ⟨b1,0,none⟩ v') nm tl ar ⟨true,T,reps++[r]⟩ v' v2:=by
 have ne:∀ (k:Nat) (x:Array Value) (t:TypeId),u.heap[k]?=some (.cells x t (0,0))->t≠53->some k≠v1.ownBlock:=fun k x t hk ht e=>by
  obtain ⟨_,cur,hc⟩:=own_block h.o1 e.symm
  exact blk_ne hk hc ht rfl
 have g3:∀ (k:Nat) (x:Array Value) (t:TypeId),u.heap[k]?=some (.cells x t (0,0))->t≠53->w3.heap[k]?=some (.cells x t (0,0)):=fun k x t hk ht=>(hg.block k (blk_lt hk) (ne k x t hk ht)).trans hk
 have s3:∀ (k:Nat) (x:Array Value) (t:TypeId),u.heap[k]?=some (.cells x t (0,0))->t≠53->t≠147->(w3.setCell ⟨b1,0,none⟩ v').heap[k]?=some (.cells x t (0,0)):=fun k x t hk ht hu=>(heap_setCell_other _ _ _ _ (blk_ne hk h.h1 hu)).trans (g3 k x t hk ht)
 have hn:v'.ownBlock≠some b1:=fun e=>by
  obtain ⟨_,cur,hc⟩:=own_block ho e
  exact blk_ne (g3 _ _ _ h.h1 (by decide)) hc (by decide) rfl
 refine ⟨h.le0,h.le1,h.le2,h.le3,s3 _ _ _ h.h0 (by decide) (by decide),heap_setCell_same w3 b1 0 _ _ _ (g3 _ _ _ h.h1 (by decide)),s3 _ _ _ h.h2 (by decide) (by decide),s3 _ _ _ h.h3 (by decide) (by decide),?_,?_⟩
 · rw [resCells_snoc,List.length_append]
   exact ownsRow_keep ho fun k hk=>heap_setCell_other _ _ _ _ (fun e=>hn (by rw [hk,e]))
 refine ownsRow_keep h.o2 fun k hk=>?_
 obtain ⟨_,cur,hc⟩:=own_block h.o2 hk
 rw [s3 _ _ _ hc (by decide) (by decide),hc]
theorem RunW.set (h:RunW base b0 b1 b2 b3 u nm tl ar s v1 v2) {j:Nat} {x:Array Value} (hB:u.heap[B]?=some (.cells x 112 (0,0))) (v:Value):RunW base b0 b1 b2 b3 (u.setCell ⟨B,j,none⟩ v) nm tl ar s v1 v2:=by
 have s3:∀ (k:Nat) (x:Array Value) (t:TypeId),u.heap[k]?=some (.cells x t (0,0))->t≠112->(u.setCell ⟨B,j,none⟩ v).heap[k]?=some (.cells x t (0,0)):=fun k x t hk ht=>(heap_setCell_other _ _ _ _ (blk_ne hk hB ht)).trans hk
 refine ⟨h.le0,h.le1,h.le2,h.le3,s3 _ _ _ h.h0 (by decide),s3 _ _ _ h.h1 (by decide),s3 _ _ _ h.h2 (by decide),s3 _ _ _ h.h3 (by decide),?_,?_⟩
 · refine ownsRow_keep h.o1 fun k hk=>?_
   obtain ⟨_,cur,hc⟩:=own_block h.o1 hk
   rw [s3 _ _ _ hc (by decide),hc]
 refine ownsRow_keep h.o2 fun k hk=>?_
 obtain ⟨_,cur,hc⟩:=own_block h.o2 hk
 rw [s3 _ _ _ hc (by decide),hc]
theorem RunW.set6 (h:RunW base b0 b1 b2 b3 u nm tl ar s v1 v2) (hB:u.heap[B]?=some (.cells z6 112 (0,0))) (x0 x1 x2 x3 x4 x5:Value):RunW base b0 b1 b2 b3 ((((((u.setCell ⟨B,0,none⟩ x0).setCell ⟨B,1,none⟩ x1).setCell ⟨B,2,none⟩ x2).setCell ⟨B,3,none⟩ x3).setCell ⟨B,4,none⟩ x4).setCell ⟨B,5,none⟩ x5) nm tl ar s v1 v2:=by
 have h0:=heap_setCell_same u B 0 _ 112 x0 hB
 have h1:=heap_setCell_same _ B 1 _ 112 x1 h0
 have h2:=heap_setCell_same _ B 2 _ 112 x2 h1
 have h3:=heap_setCell_same _ B 3 _ 112 x3 h2
 have h4:=heap_setCell_same _ B 4 _ 112 x4 h3
 exact (((((h.set hB x0).set h0 x1).set h1 x2).set h2 x3).set h3 x4).set h4 x5
theorem max_base (h:MaxAt w) (hb:Below base w w') (h2:10<=base):MaxAt w':=by
 obtain ⟨h1,m,hm⟩:=h
 exact ⟨Nat.lt_of_lt_of_le h1 hb.size,m,by rw [hb.cell (by show 0<base;omega)];exact hm⟩
theorem shapes_base (h:ShapesAt w) (hb:Below base w w') (h2:10<=base):ShapesAt w':=by
 intro op h1 h2
 have hp:9<base:=by omega
 obtain ⟨a,b,c⟩:=h op h1 h2
 exact ⟨(hb.cell (p:=⟨9,op*3,none⟩) hp).trans a,(hb.cell (p:=⟨9,op*3+1,none⟩) hp).trans b,(hb.cell (p:=⟨9,op*3+2,none⟩) hp).trans c⟩
theorem c105s (a:Option Addr) (cap n:Nat) (T:List I3) (arg:ByteArray) (a2:Option Addr) (cap2 n2:Nat) (reps:List R2) (w:World) (hn:n=T.length) (hn2:n2=reps.length) (h3:Three T arg reps) (hat:InsAt w a T) (hat2:ResAt w a2 reps) (hsh:ShapesAt w) (hmx:MaxAt w) (e:nextT T arg reps=⟨o,c,t,h,nm,k⟩):
 Calls prog 105 #[.agg #[.slice a n cap],.string arg,.slice a2 n2 cap2] w fun e w'=>e=.returned (.agg #[.bool o,.int .i64 c,.string t,.bool h,.string nm,.int .i64 k])/\Below w.heap.size w w':=by
 subst hn hn2
 exact c105t a cap T arg a2 cap2 reps w h3 hat hat2 hsh hmx e
end Go.Proofs.YthfmmimmfcnhmaaGreatDoor

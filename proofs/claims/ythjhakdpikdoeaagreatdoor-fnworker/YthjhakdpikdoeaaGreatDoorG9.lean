import Derived.Test.YthjhakdpikdoeaaGreatDoorNF
import Derived.Test.YthjhakdpikdoeaaGreatDoorN9
import Derived.Test.YthjhakdpikdoeaaGreatDoorZ39
set_option linter.unusedVariables false
set_option maxHeartbeats 8000000
set_option maxRecDepth 100000
namespace Go.Proofs.YthjhakdpikdoeaaGreatDoor
open Proofs.Tryz
open Go.RowKit
variable {B N b0 b1 b2 b3 base g size:Nat} {a b u w w':World} {T:List I3} {reps rs:List R2} {h o:Bool} {c k:Int} {ar n nm t tl:ByteArray} {v v1 v2:Value} {e:TypeId} {xs:List Value} {s:RS}
theorem ins_toB {b:Nat} {a:Option Addr} (h:InsAt w a T) (hb:Below w.heap.size w w') (hz:w.heap.size<=base) (hbb:w.heap.size<=b):InsB base b w' a T:=by
 rcases h with h | ⟨ib,off,h1,h2,h3⟩
 · exact .inl h
 exact .inr ⟨ib,off,h1,om_,om_,fun i hi=>by rw [hb.cell (by exact h2),hb.cell (by exact h2),hb.cell (by exact h2)];exact h3 i hi⟩
theorem res_toB {b:Nat} {a:Option Addr} (h:ResAt w a rs) (hb:Below w.heap.size w w') (hz:w.heap.size<=base) (hbb:w.heap.size<=b):RepAt base b w' a rs:=by
 rcases h with h | ⟨ib,off,h1,h2,h3⟩
 · exact .inl h
 exact .inr ⟨ib,off,h1,om_,om_,fun i hi=>by rw [hb.cell (by exact h2),hb.cell (by exact h2)];exact h3 i hi⟩
theorem c71y (a:Option Addr) (cap:Nat) (T:List I3) (arg:ByteArray) (a2:Option Addr) (cap2:Nat) (reps:List R2) (w:World) (hs:∀ i,(T.getD i i3z).tx.size<=1048700) (hl:T.length<=1048576) (hat:InsAt w a T) (hok:okT T=true) (hr:reps.length<=14) (ha:arg.size<=300) (hat2:ResAt w a2 reps) (hs2:∀ i,(reps.getD i r2z).tx.size<=1048700) (hsh:ShapesAt w) (hmax:MaxAt w):
 Calls prog 71 #[.agg #[.slice a T.length cap],.string arg,.slice a2 reps.length cap2] w fun e w'=>e=.returned (nextT T arg reps).v/\Below w.heap.size w w':=by
 have HIA:Hid (InsAt w a T):=hat;have HSH:Hid (ShapesAt w):=hsh;have HRA:Hid (ResAt w a2 reps):=hat2;have HMX:Hid (MaxAt w):=hmax;have hone:1<w.heap.size:=hmax.1;obtain ⟨rb,roff,hc⟩:=res_some hat2;have HC:Hid (reps=[]\/(a2=some ⟨rb,roff,none⟩/\rb<w.heap.size/\∀ i,i<reps.length->w.cell? ⟨rb,roff+i*2,none⟩=some (.int .i64 (reps.getD i r2z).code)/\w.cell? ⟨rb,roff+i*2+1,none⟩=some (.string (reps.getD i r2z).tx))):=hc;clear hat hsh hat2 hmax hc;go_enter func71,ntmps71
 go_wp2_with fail
 refine (c92 a cap T (W0 a T.length cap w) hs hl (ins_below HIA.out (W0_below _ _ _ _)) (shapes_below HSH.out (W0_below _ _ _ _))).mono ?_;rintro e w1 ⟨rfl,hb1⟩;rw [hok];have hb:Below (w.heap.size+2) (W0 a T.length cap w) w1:=by rw [W0_size] at hb1;exact hb1
 obtain ⟨⟨t0,q0,q1,q2,q3,q4,q5⟩,hfz⟩:=W0_cells hb
 go_wp2_with fail
 clear t0 q0 q1 q2 q3 q4 q5 hfz hb1;go_loopw [26] (fun i wr=>∃ k:Nat,k<=reps.length/\i=.int .i64 k/\Hid (okR (reps.take k)=true)/\Below (w.heap.size+2) (W0 a T.length cap w) wr) (fun i _=>reps.length - (intOf i).toNat)
 case atStart=>exact ⟨0,Nat.zero_le _,rfl,rfl,hb⟩
 clear hb;obtain ⟨k,hk,rfl,hko,hb⟩:=hrel;have hBw:Below w.heap.size w wr:=(W0_below a T.length cap w).trans (hb.mono om_);have hzz:w.heap.size+2<=wr.heap.size:=by have:=hb.size;rw [W0_size] at this;exact this
 by_cases hlt:k<reps.length
 · rcases HC.out with hss | ⟨ha2,hrw,hcell⟩
   · rw [hss] at hlt;exact absurd hlt (Nat.not_lt_zero _)
   subst ha2;have x0:=(hBw.cell (p:=⟨rb,roff+k*2,none⟩) hrw).trans (hcell k hlt).1;have x1:=(hBw.cell (p:=⟨rb,roff+k*2+1,none⟩) hrw).trans (hcell k hlt).2;have hxs:=hs2 k;have hrw':rb<wr.heap.size:=om_;generalize hx:reps.getD k r2z=x at*;have HX:Hid (reps.getD k r2z=x):=hx;clear hx hcell
   go_wp2_with fail
   refine (c74 x.code x.tx _ hxs).mono ?_;rintro e w2 ⟨rfl,hb2⟩;have hb':Below (w.heap.size+2) (W0 a T.length cap w) w2:=(hb.alloc hzz _).trans (hb2.mono so_);by_cases hv:vr x.code x.tx.data.toList=true
   · have hko':Hid (okR (reps.take (k+1))=true):=all_snocR hlt hko.out (by rw [HX.out];exact hv)
     rw [hv];clear hv hb2;go_wp2;go_roundw
     case rel=>exact ⟨k+1,om_,by go_num,hko',hb'⟩
     case measure=>simp [intOf];omega
   have hv':vr x.code x.tx.data.toList=false:=by simpa using hv
   have HZ:Hid (nextT T arg reps=zeroT):=next_no (.inr (.inr (.inr (all_notR hlt (by rw [HX.out];exact hv')))));rw [hv'];clear hv hv' hb2;obtain ⟨⟨t0,q0,q1,q2,q3,q4,q5⟩,hfz⟩:=W0_cells hb';go_wp2;obtain ⟨s0,s1,s2,s3,s4,s5⟩:=set6 (z6_heap hb') (.bool false) (.int .i64 0) (.string ⟨#[]⟩) (.bool false) (.string ⟨#[]⟩) (.int .i64 0);refine bodyPost_ret (v:=zeroT.v) (by simp [results,Tryz.results71,go_sem,s0,s1,s2,s3,s4,s5,zeroT,TN.v]) rfl ⟨by rw [HZ.out],?_⟩;exact ((W0_below a T.length cap w).trans (hb'.mono om_)).trans (set6_below om_ _ _ _ _ _ _)
 have hall:Hid (okR reps=true):=by have:=hko.out;rw [List.take_of_length_le om_] at this;exact this
 have HNX:Hid (nextT T arg reps=fin T arg reps):=next_yes hok ha hr hall.out;obtain ⟨⟨t0,q0,q1,q2,q3,q4,q5⟩,hfz⟩:=W0_cells hb;clear q0 q1 q2 q3 q4 q5 hfz hko;have hBx:∀ o,Below w.heap.size w (wr.alloc o):=fun o=>hBw.alloc om_ o;have HBx:Hid (∀ o,Below w.heap.size w (wr.alloc o)):=hBx;have HRN:Hid (RunAt (wr.alloc (.cells (rcL (.pointer none) (.slice none 0 0) arg (.slice a2 reps.length cap2) 0 s0).cells 144)) wr.heap.size (rcL (.pointer none) (.slice none 0 0) arg (.slice a2 reps.length cap2) 0 s0)):=alloc_new rfl _;have hwlt:w.heap.size<wr.heap.size:=om_;clear hBx
 go_wp2_with fail
 refine (c93 wr.heap.size a cap T arg a2 cap2 reps (wr.alloc (.cells (rcL (.pointer none) (.slice none 0 0) arg (.slice a2 reps.length cap2) 0 s0).cells 144)) HRN.out (ins_toB HIA.out (HBx.out _) so_ om_) (res_toB HRA.out (HBx.out _) so_ om_) (max_below HMX.out (HBx.out _)) om_ hok ha hr hall.out).mono ?_;rintro e w2 ⟨rfl,⟨r,hrn,hrh,hrt⟩,hk2⟩;have hb2:Below (w.heap.size+2) (W0 a T.length cap w) w2:=(hb.alloc hzz _).trans (hk2.below hzz so_);obtain ⟨⟨t2,q0,q1,q2,q3,q4,q5⟩,hfz⟩:=W0_cells hb2;have d9:w2.cell? ⟨wr.heap.size,9,none⟩=some (.bool r.over):=run_cell hrn 9;have d10:w2.cell? ⟨wr.heap.size,10,none⟩=some (.int .i64 r.code):=run_cell hrn 10;have d11:w2.cell? ⟨wr.heap.size,11,none⟩=some (.string r.text):=run_cell hrn 11;have d12:w2.cell? ⟨wr.heap.size,12,none⟩=some (.bool r.has):=run_cell hrn 12;have d13:w2.cell? ⟨wr.heap.size,13,none⟩=some (.string r.name):=run_cell hrn 13;have d14:w2.cell? ⟨wr.heap.size,14,none⟩=some (.int .i64 r.steps):=run_cell hrn 14;have HT:Hid (nextT T arg reps=r.tn):=HNX.out.trans hrt.symm;clear hrn hrt hk2 t0;go_wp2;obtain ⟨s0,s1,s2,s3,s4,s5⟩:=set6 (z6_heap hb2) (.bool r.over) (.int .i64 r.code) (.string r.text) (.bool r.has) (.string r.name) (.int .i64 r.steps);refine bodyPost_ret (v:=r.tn.v) (by simp [results,Tryz.results71,go_sem,s0,s1,s2,s3,s4,s5,RC.tn,TN.v]) rfl ⟨by rw [HT.out],?_⟩;exact ((W0_below a T.length cap w).trans (hb2.mono om_)).trans (set6_below om_ _ _ _ _ _ _)
structure Three (T:List I3) (arg:ByteArray) (reps:List R2):Prop where
 tl:T.length<=1048576
 ts:∀ i,(T.getD i i3z).tx.size<=1048576
 al:arg.size<=1048576
 rl:reps.length<=1048576
 rs:∀ i,(reps.getD i r2z).tx.size<=1048576
theorem c57 (a:Option Addr) (cap:Nat) (T:List I3) (arg:ByteArray) (a2:Option Addr) (cap2:Nat) (reps:List R2) (w:World) (h3:Three T arg reps) (hat:InsAt w a T) (hat2:ResAt w a2 reps):
 Calls prog 57 #[.agg #[.slice a T.length cap],.string arg,.slice a2 reps.length cap2] w fun e w'=>e=.returned (nextT T arg reps).v/\Below w.heap.size w w':=by
 have hs:∀ i,(T.getD i i3z).tx.size<=1048700:=fun i=>Nat.le_trans (h3.ts i) om_;by_cases h:okT T=true/\arg.size<=300/\reps.length<=14
 · exact c57y a cap T arg a2 cap2 reps w hs h3.tl hat h.1 h.2.2 h.2.1 hat2 (fun i=>Nat.le_trans (h3.rs i) om_)
 refine c57n a cap T arg a2 cap2 reps w hs h3.tl hat ?_ h3.al h3.rl;by_cases h1:okT T=true
 · by_cases h2:arg.size<=300
   · exact .inr (.inr (by have h4:¬ reps.length<=14:=fun h4=>h ⟨h1,h2,h4⟩;omega))
   exact .inr (.inl om_)
 exact .inl (by simpa using h1)
theorem c71 (a:Option Addr) (cap:Nat) (T:List I3) (arg:ByteArray) (a2:Option Addr) (cap2:Nat) (reps:List R2) (w:World) (h3:Three T arg reps) (hat:InsAt w a T) (hat2:ResAt w a2 reps) (hsh:ShapesAt w) (hmx:MaxAt w):
 Calls prog 71 #[.agg #[.slice a T.length cap],.string arg,.slice a2 reps.length cap2] w fun e w'=>e=.returned (nextT T arg reps).v/\Below w.heap.size w w':=by
 have hs:∀ i,(T.getD i i3z).tx.size<=1048700:=fun i=>Nat.le_trans (h3.ts i) om_;by_cases h:okT T=true/\arg.size<=300/\reps.length<=14
 · exact c71y a cap T arg a2 cap2 reps w hs h3.tl hat h.1 h.2.2 h.2.1 hat2 (fun i=>Nat.le_trans (h3.rs i) om_) hsh hmx
 refine c71n a cap T arg a2 cap2 reps w hs h3.tl hat ?_ hsh h3.al h3.rl;by_cases h1:okT T=true
 · by_cases h2:arg.size<=300
   · exact .inr (.inr (by have h4:¬ reps.length<=14:=fun h4=>h ⟨h1,h2,h4⟩;omega))
   exact .inr (.inl om_)
 exact .inl (by simpa using h1)
theorem c57t (a:Option Addr) (cap:Nat) (T:List I3) (arg:ByteArray) (a2:Option Addr) (cap2:Nat) (reps:List R2) (w:World) (h3:Three T arg reps) (hat:InsAt w a T) (hat2:ResAt w a2 reps) (e:nextT T arg reps=⟨o,c,t,h,n,k⟩):
 Calls prog 57 #[.agg #[.slice a T.length cap],.string arg,.slice a2 reps.length cap2] w fun e w'=>e=.returned (.agg #[.bool o,.int .i64 c,.string t,.bool h,.string n,.int .i64 k])/\Below w.heap.size w w':=by
 have:=c57 a cap T arg a2 cap2 reps w h3 hat hat2;rw [e] at this;exact this
theorem c71t (a:Option Addr) (cap:Nat) (T:List I3) (arg:ByteArray) (a2:Option Addr) (cap2:Nat) (reps:List R2) (w:World) (h3:Three T arg reps) (hat:InsAt w a T) (hat2:ResAt w a2 reps) (hsh:ShapesAt w) (hmx:MaxAt w) (e:nextT T arg reps=⟨o,c,t,h,n,k⟩):
 Calls prog 71 #[.agg #[.slice a T.length cap],.string arg,.slice a2 reps.length cap2] w fun e w'=>e=.returned (.agg #[.bool o,.int .i64 c,.string t,.bool h,.string n,.int .i64 k])/\Below w.heap.size w w':=by
 have:=c71 a cap T arg a2 cap2 reps w h3 hat hat2 hsh hmx;rw [e] at this;exact this
structure Ex (S:Nat->Prop) (w w':World):Prop where
 os:w'.os=w.os
 tape:w'.tape=w.tape
 output:w'.output=w.output
 size:w.heap.size<=w'.heap.size
 block:∀ k,k<w.heap.size->¬ S k->w'.heap[k]?=w.heap[k]?
theorem Ex.refl (S:Nat->Prop) (w:World):Ex S w w:=⟨rfl,rfl,rfl,Nat.le_refl _,fun _ _ _=>rfl⟩
theorem Ex.trans {S:Nat->Prop} {c:World} (h:Ex S a b) (k:Ex S b c):Ex S a c:=
 ⟨k.os.trans h.os,k.tape.trans h.tape,k.output.trans h.output,Nat.le_trans h.size k.size,fun i hi hn=>(k.block i (Nat.lt_of_lt_of_le hi h.size) hn).trans (h.block i hi hn)⟩
theorem Ex.mono {S S':Nat->Prop} (h:Ex S a b) (hS:∀ k,k<a.heap.size->S k->S' k):Ex S' a b:=
 ⟨h.os,h.tape,h.output,h.size,fun k hk hn=>h.block k hk (fun e=>hn (hS k hk e))⟩
theorem Ex.andB {S:Nat->Prop} {c:World} (h:Ex S a b) (k:Below a.heap.size b c):Ex S a c:=
 ⟨k.os.trans h.os,k.tape.trans h.tape,k.output.trans h.output,Nat.le_trans h.size k.size,fun i hi hn=>(k.block i hi).trans (h.block i hi hn)⟩
theorem Ex.ofB {S:Nat->Prop} (k:Below a.heap.size a b):Ex S a b:=(Ex.refl S a).andB k
theorem Ex.setCell {S:Nat->Prop} (h:Ex S a w) {p:Addr} (hp:p.block<a.heap.size->S p.block) (u:Value):Ex S a (w.setCell p u):=
 ⟨h.os,h.tape,h.output,by simpa using h.size,fun k hk hn=>(Below.heap_setCell _ _ _ _ (fun e=>hn (by subst e;exact hp hk))).trans (h.block k hk hn)⟩
theorem Ex.alloc {S:Nat->Prop} (h:Ex S a w) (o:Obj):Ex S a (w.alloc o):=h.andB ((Below.refl _ _).alloc h.size o)
theorem Ex.grown {S:Nat->Prop} {row:Option Nat} (h:Ex S a w) (hg:w.grownBy w' row) (hr:∀ k,row=some k->k<a.heap.size->S k):Ex S a w':=
 ⟨hg.os.trans h.os,hg.tape.trans h.tape,hg.output.trans h.output,Nat.le_trans h.size hg.size,fun k hk hn=>(hg.block k (Nat.lt_of_lt_of_le hk h.size) (fun e=>hn (hr k e.symm hk))).trans (h.block k hk hn)⟩
theorem Ex.below {S:Nat->Prop} (h:Ex S a b) (hS:∀ k,S k->N<=k) (hN:N<=a.heap.size):Below N a b:=
 ⟨h.os,h.tape,h.output,h.size,fun k hk=>h.block k om_ (fun e=>by have:=hS k e;omega)⟩
def FP (b0 b1 b2:Nat) (v1:Value) (k:Nat):Prop:=k=b0\/k=b1\/k=b2\/v1.ownBlock=some k
def Nw (w:World) (v v':Value):Prop:=∀ k,v'.ownBlock=some k->v.ownBlock=some k\/w.heap.size<=k
theorem nw_at {w0:World} {v':Value} (h:v'.ownBlock=v.ownBlock\/v'.ownBlock=some w0.heap.size) (hs:w.heap.size<=w0.heap.size):Nw w v v':=fun k e=>by
 rcases h with h | h
 · exact .inl (h.symm.trans e)
 rw [h] at e;cases e;exact .inr hs
theorem nw_refl (w:World) (v:Value):Nw w v v:=fun _ h=>.inl h
theorem own_block {n:Nat} (h:w.ownsRow base e size v n xs) {k:Nat} (hk:v.ownBlock=some k):base<=k/\∃ cur,w.heap[k]?=some (.cells cur e (0,0)):=by
 rcases h.2 with ⟨hv,_⟩ | ⟨g,cap,cur,hv,hg,hh,_⟩
 · subst hv;cases hk
 subst hv;obtain rfl:g=k:=by injection hk
 exact ⟨hg,cur,hh⟩
theorem ownsRow_keep {n:Nat} (h:w.ownsRow base e size v n xs) (hk:∀ k,v.ownBlock=some k->w'.heap[k]?=w.heap[k]?):w'.ownsRow base e size v n xs:=by
 refine ⟨h.1,?_⟩;rcases h.2 with h2 | ⟨g,cap,cur,hv,hg,hh,r⟩
 · exact .inl h2
 exact .inr ⟨g,cap,cur,hv,hg,(hk g (by rw [hv];rfl)).trans hh,r⟩
theorem row2n (hg:g=w.heap.size) (x y:Value) (t:TypeId):∀ j u,[x,y][j]?=some u->(w.alloc (.cells #[x,y] t)).cell? ((⟨g,0,none⟩:Addr).add j)=some u:=by
 subst hg;intro j u h
 match j,h with
 | 0,h=>simp at h;subst h;simp [Addr.add]
 | 1,h=>simp at h;subst h;simp [Addr.add]
theorem row_form2 {n:Nat} (h:w.ownsRow B e 2 v n xs):∃ ao c,v=.slice ao n c:=by
 rcases h.2 with ⟨hv,h0⟩ | ⟨g,cap,cur,hv,_⟩
 · exact ⟨none,0,by rw [hv,h0]⟩
 exact ⟨_,_,hv⟩
theorem RunW.app {w3:World} (h:RunW base b0 b1 b2 b3 u nm tl ar ⟨true,T,reps⟩ v1 v2) (hg:u.grownBy w3 v1.ownBlock) (r:R2) (v':Value) (ho:w3.ownsRow base 27 2 v' (reps.length+1) (resCells reps++[.int .i64 r.code,.string r.tx])):
 RunW base b0 b1 b2 b3 (w3.setCell ⟨b1,0,none⟩ v') nm tl ar ⟨true,T,reps++[r]⟩ v' v2:=by
 have ne:∀ (k:Nat) (x:Array Value) (t:TypeId),u.heap[k]?=some (.cells x t (0,0))->t≠27->some k≠v1.ownBlock:=fun k x t hk ht e=>by
  obtain ⟨_,cur,hc⟩:=own_block h.o1 e.symm;exact blk_ne hk hc ht rfl
 have g3:∀ (k:Nat) (x:Array Value) (t:TypeId),u.heap[k]?=some (.cells x t (0,0))->t≠27->w3.heap[k]?=some (.cells x t (0,0)):=fun k x t hk ht=>(hg.block k (blk_lt hk) (ne k x t hk ht)).trans hk;have s3:∀ (k:Nat) (x:Array Value) (t:TypeId),u.heap[k]?=some (.cells x t (0,0))->t≠27->t≠104->(w3.setCell ⟨b1,0,none⟩ v').heap[k]?=some (.cells x t (0,0)):=fun k x t hk ht hu=>(heap_setCell_other _ _ _ _ (blk_ne hk h.h1 hu)).trans (g3 k x t hk ht);have hn:v'.ownBlock≠some b1:=fun e=>by
  obtain ⟨_,cur,hc⟩:=own_block ho e;exact blk_ne (g3 _ _ _ h.h1 dc_) hc dc_ rfl
 refine ⟨h.le0,h.le1,h.le2,h.le3,s3 _ _ _ h.h0 dc_ dc_,heap_setCell_same w3 b1 0 _ _ _ (g3 _ _ _ h.h1 dc_),s3 _ _ _ h.h2 dc_ dc_,s3 _ _ _ h.h3 dc_ dc_,?_,?_⟩
 · rw [resCells_snoc,List.length_append]
   exact ownsRow_keep ho fun k hk=>heap_setCell_other _ _ _ _ (fun e=>hn (by rw [hk,e]))
 refine ownsRow_keep h.o2 fun k hk=>?_;obtain ⟨_,cur,hc⟩:=own_block h.o2 hk;rw [s3 _ _ _ hc dc_ dc_,hc]
theorem RunW.set (h:RunW base b0 b1 b2 b3 u nm tl ar s v1 v2) {j:Nat} {x:Array Value} (hB:u.heap[B]?=some (.cells x 29 (0,0))) (v:Value):RunW base b0 b1 b2 b3 (u.setCell ⟨B,j,none⟩ v) nm tl ar s v1 v2:=by
 have s3:∀ (k:Nat) (x:Array Value) (t:TypeId),u.heap[k]?=some (.cells x t (0,0))->t≠29->(u.setCell ⟨B,j,none⟩ v).heap[k]?=some (.cells x t (0,0)):=fun k x t hk ht=>(heap_setCell_other _ _ _ _ (blk_ne hk hB ht)).trans hk;refine ⟨h.le0,h.le1,h.le2,h.le3,s3 _ _ _ h.h0 dc_,s3 _ _ _ h.h1 dc_,s3 _ _ _ h.h2 dc_,s3 _ _ _ h.h3 dc_,?_,?_⟩
 · refine ownsRow_keep h.o1 fun k hk=>?_
   obtain ⟨_,cur,hc⟩:=own_block h.o1 hk;rw [s3 _ _ _ hc dc_,hc]
 refine ownsRow_keep h.o2 fun k hk=>?_;obtain ⟨_,cur,hc⟩:=own_block h.o2 hk;rw [s3 _ _ _ hc dc_,hc]
theorem RunW.set6 (h:RunW base b0 b1 b2 b3 u nm tl ar s v1 v2) (hB:u.heap[B]?=some (.cells z6 29 (0,0))) (x0 x1 x2 x3 x4 x5:Value):RunW base b0 b1 b2 b3 ((((((u.setCell ⟨B,0,none⟩ x0).setCell ⟨B,1,none⟩ x1).setCell ⟨B,2,none⟩ x2).setCell ⟨B,3,none⟩ x3).setCell ⟨B,4,none⟩ x4).setCell ⟨B,5,none⟩ x5) nm tl ar s v1 v2:=by
 have h0:=heap_setCell_same u B 0 _ 29 x0 hB;have h1:=heap_setCell_same _ B 1 _ 29 x1 h0;have h2:=heap_setCell_same _ B 2 _ 29 x2 h1;have h3:=heap_setCell_same _ B 3 _ 29 x3 h2;have h4:=heap_setCell_same _ B 4 _ 29 x4 h3;exact (((((h.set hB x0).set h0 x1).set h1 x2).set h2 x3).set h3 x4).set h4 x5
theorem max_base (h:MaxAt w) (hb:Below base w w') (h2:2<=base):MaxAt w':=by
 obtain ⟨h1,m,hm⟩:=h;exact ⟨Nat.lt_of_lt_of_le h1 hb.size,m,by rw [hb.cell (by show 1<base;omega)];exact hm⟩
theorem shapes_base (h:ShapesAt w) (hb:Below base w w') (h2:2<=base):ShapesAt w':=by
 intro op h1 h2;have hp:0<base:=om_;obtain ⟨a,b,c⟩:=h op h1 h2;exact ⟨(hb.cell (p:=⟨0,op*3,none⟩) hp).trans a,(hb.cell (p:=⟨0,op*3+1,none⟩) hp).trans b,(hb.cell (p:=⟨0,op*3+2,none⟩) hp).trans c⟩
theorem c71s (a:Option Addr) (cap n:Nat) (T:List I3) (arg:ByteArray) (a2:Option Addr) (cap2 n2:Nat) (reps:List R2) (w:World) (hn:n=T.length) (hn2:n2=reps.length) (h3:Three T arg reps) (hat:InsAt w a T) (hat2:ResAt w a2 reps) (hsh:ShapesAt w) (hmx:MaxAt w) (e:nextT T arg reps=⟨o,c,t,h,nm,k⟩):
 Calls prog 71 #[.agg #[.slice a n cap],.string arg,.slice a2 n2 cap2] w fun e w'=>e=.returned (.agg #[.bool o,.int .i64 c,.string t,.bool h,.string nm,.int .i64 k])/\Below w.heap.size w w':=by
 subst hn hn2;exact c71t a cap T arg a2 cap2 reps w h3 hat hat2 hsh hmx e
end Go.Proofs.YthjhakdpikdoeaaGreatDoor
namespace Go.Proofs.YthjhakdpikdoeaaGreatDoor
open Proofs.Tryz
open Go.RowKit
theorem c70h (base b0 b1 b2 b3:Nat) (nm tl ar:ByteArray) (T:List I3) (reps:List R2) (v1 v2:Value) (r:R2) (w:World) (h:RunW base b0 b1 b2 b3 w nm tl ar ⟨true,T,reps⟩ v1 v2) (hrn:reps.length<=300) (h3:Three T ar (reps++[r])) (hsh:ShapesAt w) (hmx:MaxAt w) (hba:2<=base):
 Calls prog 70 #[.agg #[.int .i64 r.code,.string r.tx],.pointer (some ⟨b0,0,none⟩),.pointer (some ⟨b1,0,none⟩),.pointer (some ⟨b2,0,none⟩),.pointer (some ⟨b3,0,none⟩)] w fun e w'=>e=.returned (nextT T ar (reps++[r])).v/\(∃ v1' v2',RunW base b0 b1 b2 b3 w' nm tl ar ⟨true,T,reps++[r]⟩ v1' v2'/\Nw w v1 v1'/\Nw w v2 v2')/\Ex (FP b0 b1 b2 v1) w w':=by
 have H:Hid (RunW base b0 b1 b2 b3 w nm tl ar ⟨true,T,reps⟩ v1 v2):=h;have HS:Hid (ShapesAt w):=hsh;have HM:Hid (MaxAt w):=hmx;have H3:Hid (Three T ar (reps++[r])):=h3;have l0:=blk_lt h.h0;have l1:=blk_lt h.h1;have l2:=blk_lt h.h2;have l3:=blk_lt h.h3;have le1:=h.le1;have c0:w.cell? ⟨b0,0,none⟩=some (.bool true):=by rw [Lib.cell_of_heap h.h0];rfl
 have c1:w.cell? ⟨b1,0,none⟩=some v1:=by rw [Lib.cell_of_heap h.h1];rfl
 have f1:w.frozen? ⟨b1,0,none⟩=false:=Lib.frozen_of_heap h.h1 0;obtain ⟨i0,hi,hz0,hz1,hz2⟩:=info_parts info27;have hown:w.ownsRow base 27 2 v1 reps.length (resCells reps):=h.o1;clear h hsh hmx h3;have k0:=past (show b0<w.heap.size from l0) c0;have k1:=past (show b1<w.heap.size from l1) c1;have g1:=pastf (show b1<w.heap.size from l1) f1;obtain ⟨w0,hw0⟩:∃ w0,w0=((w.alloc (.cells #[.int .i64 r.code,.string r.tx] 27)).alloc (.cells #[.bool false,.int .i64 0,.string ⟨#[]⟩,.bool false,.string ⟨#[]⟩,.int .i64 0] 29)).alloc (.cells #[.int .i64 r.code,.string r.tx] 27):=⟨_,rfl⟩;have HW0:Hid (w0=((w.alloc (.cells #[.int .i64 r.code,.string r.tx] 27)).alloc (.cells #[.bool false,.int .i64 0,.string ⟨#[]⟩,.bool false,.string ⟨#[]⟩,.int .i64 0] 29)).alloc (.cells #[.int .i64 r.code,.string r.tx] 27)):=hw0;have hbw:Below w.heap.size w w0:=by rw [hw0];exact (bA.alloc sm_ _).alloc so_ _
 have HB:Hid (Below w.heap.size w w0):=hbw;have hz0':w0.heap.size=w.heap.size+3:=by rw [hw0];simp
 have hres:w0.heap[w.heap.size+1]?=some (.cells #[.bool false,.int .i64 0,.string ⟨#[]⟩,.bool false,.string ⟨#[]⟩,.int .i64 0] 29 (0,0)):=by
  rw [hw0,Lib.alloc_old _ _ _ sm_];exact alloc_new sm_ _
 have HRES:Hid (w0.heap[w.heap.size+1]?=some (.cells #[.bool false,.int .i64 0,.string ⟨#[]⟩,.bool false,.string ⟨#[]⟩,.int .i64 0] 29 (0,0))):=hres;clear hw0 hbw hres;go_enter func70,ntmps70
 go_wp2_with (at_builtin;refine wpList_append_own_at _ rfl _ _ 104 rfl base 27 i0 (.agg #[.int .i64 0,.string ⟨#[]⟩]) 2 24 underlying104 hi hz0 hz1 hz2 rfl dc_ _ _ _ rfl (((hown.alloc _).alloc _).alloc _) ⟨w.heap.size+1+1,0,none⟩ 1 1 [_,_] rfl rfl (row2n sm_ _ _ _) (by intro u hu;simp at hu;rcases hu with rfl | rfl <;> rfl) (by unfold maxLen;omega) om_ so_ ?_;rw [<- HW0.out];intro v' w3 hown3 (hgrow:w0.grownBy w3 v1.ownBlock) _ (hat:v'.ownBlock=v1.ownBlock\/v'.ownBlock=some w0.heap.size);have HNW:Hid (Nw w v1 v'):=nw_at hat om_;have HEX:Hid (Ex (FP b0 b1 b2 v1) w w3):=(Ex.ofB HB.out).grown hgrow (fun k e _=>.inr (.inr (.inr e)));clear hat;have X:Hid (RunW base b0 b1 b2 b3 (w3.setCell ⟨b1,0,none⟩ v') nm tl ar ⟨true,T,reps++[r]⟩ v' v2):=(H.out.below HB.out).app hgrow r v' hown3;have hrow:∀ k,v1.ownBlock=some k->base<=k/\∃ cur,w0.heap[k]?=some (.cells cur 27 (0,0)):=(fun k hk=>own_block (H.out.below HB.out).o1 hk);have HR3:Hid (w3.heap[w.heap.size+1]?=some (.cells z6 29 (0,0))):=(hgrow.block _ om_ (fun e=>by obtain ⟨_,cur,hc⟩:=hrow _ e.symm;exact blk_ne HRES.out hc dc_ rfl)).trans HRES.out;have H1:Hid (w3.heap[b1]?=some (.cells #[v1] 104 (0,0))):=(hgrow.block _ om_ (fun e=>by obtain ⟨_,cur,hc⟩:=hrow _ e.symm;exact blk_ne (H.out.below HB.out).h1 hc dc_ rfl)).trans (H.out.below HB.out).h1;have HBB:Hid (Below base w w3):=((HB.out.mono om_).grown hgrow om_ (fun k hk=>(hrow k hk).1));have hz3:w0.heap.size<=w3.heap.size:=hgrow.size;obtain ⟨ao,cp,rfl⟩:=row_form2 hown3;have d1:w3.cell? ⟨b1,0,none⟩=some v1:=(by rw [Lib.cell_of_heap H1.out];rfl);have e1:w3.frozen? ⟨b1,0,none⟩=false:=Lib.frozen_of_heap H1.out 0;obtain ⟨a2,cp2,hv2,HI⟩:=own3_form X.out.o2;have m2:(w3.setCell ⟨b1,0,none⟩ (.slice ao (reps.length+1) cp)).cell? ⟨b2,0,none⟩=some (.slice a2 T.length cp2):=(by rw [Lib.cell_of_heap X.out.h2,<- hv2];rfl);have m3:(w3.setCell ⟨b1,0,none⟩ (.slice ao (reps.length+1) cp)).cell? ⟨b3,2,none⟩=some (.string ar):=(by rw [Lib.cell_of_heap X.out.h3];rfl);have m1:(w3.setCell ⟨b1,0,none⟩ (.slice ao (reps.length+1) cp)).cell? ⟨b1,0,none⟩=some (.slice ao (reps.length+1) cp):=(by rw [Lib.cell_of_heap X.out.h1];rfl);have HINS:Hid (InsAt (w3.setCell ⟨b1,0,none⟩ (.slice ao (reps.length+1) cp)) a2 T):=HI;clear hgrow hown3 hrow HI hv2)
 obtain ⟨a3,cp3,hv3,HRS⟩:=own2_form X.out.o1;have ha3:ao=a3:=by injection hv3
 subst ha3;have hB4:Below base w (w3.setCell ⟨b1,0,none⟩ (.slice ao (reps.length+1) cp)):=HBB.out.setCell (by exact le1) _;have HR4:(w3.setCell ⟨b1,0,none⟩ (.slice ao (reps.length+1) cp)).heap[w.heap.size+1]?=some (.cells z6 29 (0,0)):=(heap_setCell_other _ _ _ _ (by show w.heap.size+1≠b1;omega)).trans HR3.out;rcases hN:nextT T ar (reps++[r]) with ⟨o,c,t,hh,n,k⟩;refine (c71s a2 cp2 _ T ar ao cp _ (reps++[r]) _ rfl sm_ H3.out HINS.out HRS (shapes_base HS.out hB4 hba) (max_base HM.out hB4 hba) hN).mono ?_;rintro e w5 ⟨rfl,hb5⟩;have HR5:w5.heap[w.heap.size+1]?=some (.cells z6 29 (0,0)):=(hb5.block _ (blk_lt HR4)).trans HR4;have HX5:Hid (RunW base b0 b1 b2 b3 w5 nm tl ar ⟨true,T,reps++[r]⟩ (.slice ao (reps.length+1) cp) v2):=X.out.below hb5;have HB5:Hid (Ex (FP b0 b1 b2 v1) w w5):=(HEX.out.setCell (fun _=>.inr (.inl rfl)) _).andB (hb5.mono hB4.size);have q0:=Lib.cell_of_heap HR5 0;have q1:=Lib.cell_of_heap HR5 1;have q2:=Lib.cell_of_heap HR5 2;have q3:=Lib.cell_of_heap HR5 3;have q4:=Lib.cell_of_heap HR5 4;have q5:=Lib.cell_of_heap HR5 5;have hfz:∀ j,w5.frozen? ⟨w.heap.size+1,j,none⟩=false:=fun j=>Lib.frozen_of_heap HR5 j;have HR6:Hid (w5.heap[w.heap.size+1]?=some (.cells z6 29 (0,0))):=HR5;clear HR5 hb5 HR4 hB4 hv3 HRS;change w5.cell? _=some (.bool false) at q0;change w5.cell? _=some (.int .i64 0) at q1;change w5.cell? _=some (.string ⟨#[]⟩) at q2;change w5.cell? _=some (.bool false) at q3;change w5.cell? _=some (.string ⟨#[]⟩) at q4;change w5.cell? _=some (.int .i64 0) at q5;go_wp2;obtain ⟨s0,s1,s2,s3,s4,s5⟩:=set6 HR6.out (.bool o) (.int .i64 c) (.string t) (.bool hh) (.string n) (.int .i64 k);refine bodyPost_ret (v:=.agg #[.bool o,.int .i64 c,.string t,.bool hh,.string n,.int .i64 k]) (by simp [results,Tryz.results70,go_sem,s0,s1,s2,s3,s4,s5]) rfl ⟨by rw [hN];rfl,⟨_,_,HX5.out.set6 HR6.out _ _ _ _ _ _,HNW.out,nw_refl _ _⟩,?_⟩;exact HB5.out.andB (set6_below om_ _ _ _ _ _ _)
theorem c70m (base b0 b1 b2 b3:Nat) (nm tl ar:ByteArray) (T:List I3) (reps:List R2) (v1 v2:Value)  (tx:ByteArray) (w:World) (h:RunW base b0 b1 b2 b3 w nm tl ar ⟨false,T,reps⟩ v1 v2):
 Calls prog 70 #[.agg #[.int .i64 4,.string tx],.pointer (some ⟨b0,0,none⟩),.pointer (some ⟨b1,0,none⟩),.pointer (some ⟨b2,0,none⟩),.pointer (some ⟨b3,0,none⟩)] w fun e w'=>e=.returned (overT 4 tl 0).v/\RunW base b0 b1 b2 b3 w' nm tl ar ⟨false,T,reps⟩ v1 v2/\Below w.heap.size w w':=by
 have H:Hid (RunW base b0 b1 b2 b3 w nm tl ar ⟨false,T,reps⟩ v1 v2):=h;have l0:=blk_lt h.h0;have l1:=blk_lt h.h1;have l2:=blk_lt h.h2;have l3:=blk_lt h.h3;have le1:=h.le1;have c0:w.cell? ⟨b0,0,none⟩=some (.bool false):=by rw [Lib.cell_of_heap h.h0];rfl
 have cx3:w.cell? ⟨b3,1,none⟩=some (.string tl):=by rw [Lib.cell_of_heap h.h3];rfl
 clear h;have k0:=past (show b0<w.heap.size from l0) c0;have k3:=past (show b3<w.heap.size from l3) cx3;obtain ⟨w0,hw0⟩:∃ w0,w0=(w.alloc (.cells #[.int .i64 4,.string tx] 27)).alloc (.cells #[.bool false,.int .i64 0,.string ⟨#[]⟩,.bool false,.string ⟨#[]⟩,.int .i64 0] 29):=⟨_,rfl⟩;have HW0:Hid (w0=(w.alloc (.cells #[.int .i64 4,.string tx] 27)).alloc (.cells #[.bool false,.int .i64 0,.string ⟨#[]⟩,.bool false,.string ⟨#[]⟩,.int .i64 0] 29)):=hw0;have hbw:Below w.heap.size w w0:=by rw [hw0];exact bA.alloc sm_ _
 have HB:Hid (Below w.heap.size w w0):=hbw;have hz0':w0.heap.size=w.heap.size+2:=by rw [hw0];simp
 have hres:w0.heap[w.heap.size+1]?=some (.cells z6 29 (0,0)):=by
  rw [hw0];exact alloc_new sm_ _
 have HRES:Hid (w0.heap[w.heap.size+1]?=some (.cells z6 29 (0,0))):=hres;clear hw0 hbw hres;go_enter func70,ntmps70
 go_wp2_with fail
 rw [<- HW0.out];refine (c73 4 tl w0).mono ?_;rintro e w5 ⟨rfl,hb5⟩;have HR5:w5.heap[w.heap.size+1]?=some (.cells z6 29 (0,0)):=(hb5.block _ (blk_lt HRES.out)).trans HRES.out;have HX5:Hid (RunW base b0 b1 b2 b3 w5 nm tl ar ⟨false,T,reps⟩ v1 v2):=(H.out.below HB.out).below hb5;have HB5:Hid (Below w.heap.size w w5):=HB.out.trans (hb5.mono om_);have q0:=Lib.cell_of_heap HR5 0;have q1:=Lib.cell_of_heap HR5 1;have q2:=Lib.cell_of_heap HR5 2;have q3:=Lib.cell_of_heap HR5 3;have q4:=Lib.cell_of_heap HR5 4;have q5:=Lib.cell_of_heap HR5 5;have hfz:∀ j,w5.frozen? ⟨w.heap.size+1,j,none⟩=false:=fun j=>Lib.frozen_of_heap HR5 j;have HR6:Hid (w5.heap[w.heap.size+1]?=some (.cells z6 29 (0,0))):=HR5;clear HR5 hb5;change w5.cell? _=some (.bool false) at q0;change w5.cell? _=some (.int .i64 0) at q1;change w5.cell? _=some (.string ⟨#[]⟩) at q2;change w5.cell? _=some (.bool false) at q3;change w5.cell? _=some (.string ⟨#[]⟩) at q4;change w5.cell? _=some (.int .i64 0) at q5;go_wp2;obtain ⟨s0,s1,s2,s3,s4,s5⟩:=set6 HR6.out (.bool true) (.int .i64 4) (.string tl) (.bool false) (.string ⟨#[]⟩) (.int .i64 0);refine bodyPost_ret (v:=.agg #[.bool true,.int .i64 4,.string tl,.bool false,.string ⟨#[]⟩,.int .i64 0]) (by simp [results,Tryz.results70,go_sem,s0,s1,s2,s3,s4,s5]) rfl ⟨rfl,HX5.out.set6 HR6.out _ _ _ _ _ _,?_⟩;exact HB5.out.trans (set6_below om_ _ _ _ _ _ _)
theorem c70b (base b0 b1 b2 b3:Nat) (nm tl ar:ByteArray) (T:List I3) (reps:List R2) (v1 v2:Value) (cd:Int) (hc0:cd≠0) (hc4:cd≠4) (tx:ByteArray) (w:World) (h:RunW base b0 b1 b2 b3 w nm tl ar ⟨false,T,reps⟩ v1 v2):
 Calls prog 70 #[.agg #[.int .i64 cd,.string tx],.pointer (some ⟨b0,0,none⟩),.pointer (some ⟨b1,0,none⟩),.pointer (some ⟨b2,0,none⟩),.pointer (some ⟨b3,0,none⟩)] w fun e w'=>e=.returned (overT 5 tl 0).v/\RunW base b0 b1 b2 b3 w' nm tl ar ⟨false,T,reps⟩ v1 v2/\Below w.heap.size w w':=by
 have H:Hid (RunW base b0 b1 b2 b3 w nm tl ar ⟨false,T,reps⟩ v1 v2):=h;have l0:=blk_lt h.h0;have l1:=blk_lt h.h1;have l2:=blk_lt h.h2;have l3:=blk_lt h.h3;have le1:=h.le1;have c0:w.cell? ⟨b0,0,none⟩=some (.bool false):=by rw [Lib.cell_of_heap h.h0];rfl
 have cx3:w.cell? ⟨b3,1,none⟩=some (.string tl):=by rw [Lib.cell_of_heap h.h3];rfl
 clear h;have k0:=past (show b0<w.heap.size from l0) c0;have k3:=past (show b3<w.heap.size from l3) cx3;obtain ⟨w0,hw0⟩:∃ w0,w0=(w.alloc (.cells #[.int .i64 cd,.string tx] 27)).alloc (.cells #[.bool false,.int .i64 0,.string ⟨#[]⟩,.bool false,.string ⟨#[]⟩,.int .i64 0] 29):=⟨_,rfl⟩;have HW0:Hid (w0=(w.alloc (.cells #[.int .i64 cd,.string tx] 27)).alloc (.cells #[.bool false,.int .i64 0,.string ⟨#[]⟩,.bool false,.string ⟨#[]⟩,.int .i64 0] 29)):=hw0;have hbw:Below w.heap.size w w0:=by rw [hw0];exact bA.alloc sm_ _
 have HB:Hid (Below w.heap.size w w0):=hbw;have hz0':w0.heap.size=w.heap.size+2:=by rw [hw0];simp
 have hres:w0.heap[w.heap.size+1]?=some (.cells z6 29 (0,0)):=by
  rw [hw0];exact alloc_new sm_ _
 have HRES:Hid (w0.heap[w.heap.size+1]?=some (.cells z6 29 (0,0))):=hres;clear hw0 hbw hres;go_enter func70,ntmps70
 go_wp2_with fail
 rw [<- HW0.out];refine (c73 5 tl w0).mono ?_;rintro e w5 ⟨rfl,hb5⟩;have HR5:w5.heap[w.heap.size+1]?=some (.cells z6 29 (0,0)):=(hb5.block _ (blk_lt HRES.out)).trans HRES.out;have HX5:Hid (RunW base b0 b1 b2 b3 w5 nm tl ar ⟨false,T,reps⟩ v1 v2):=(H.out.below HB.out).below hb5;have HB5:Hid (Below w.heap.size w w5):=HB.out.trans (hb5.mono om_);have q0:=Lib.cell_of_heap HR5 0;have q1:=Lib.cell_of_heap HR5 1;have q2:=Lib.cell_of_heap HR5 2;have q3:=Lib.cell_of_heap HR5 3;have q4:=Lib.cell_of_heap HR5 4;have q5:=Lib.cell_of_heap HR5 5;have hfz:∀ j,w5.frozen? ⟨w.heap.size+1,j,none⟩=false:=fun j=>Lib.frozen_of_heap HR5 j;have HR6:Hid (w5.heap[w.heap.size+1]?=some (.cells z6 29 (0,0))):=HR5;clear HR5 hb5;change w5.cell? _=some (.bool false) at q0;change w5.cell? _=some (.int .i64 0) at q1;change w5.cell? _=some (.string ⟨#[]⟩) at q2;change w5.cell? _=some (.bool false) at q3;change w5.cell? _=some (.string ⟨#[]⟩) at q4;change w5.cell? _=some (.int .i64 0) at q5;go_wp2;obtain ⟨s0,s1,s2,s3,s4,s5⟩:=set6 HR6.out (.bool true) (.int .i64 5) (.string tl) (.bool false) (.string ⟨#[]⟩) (.int .i64 0);refine bodyPost_ret (v:=.agg #[.bool true,.int .i64 5,.string tl,.bool false,.string ⟨#[]⟩,.int .i64 0]) (by simp [results,Tryz.results70,go_sem,s0,s1,s2,s3,s4,s5]) rfl ⟨rfl,HX5.out.set6 HR6.out _ _ _ _ _ _,?_⟩;exact HB5.out.trans (set6_below om_ _ _ _ _ _ _)
theorem RunW.take {base b0 b1 b2 b3:Nat} {u:World} {nm tl ar:ByteArray} {T is:List I3} {reps:List R2} {v1 v2:Value} (h:RunW base b0 b1 b2 b3 u nm tl ar ⟨false,T,reps⟩ v1 v2) (ok:Bool) (v:Value) (ho:u.ownsRow base 92 3 v is.length (insCells is)):
 RunW base b0 b1 b2 b3 ((u.setCell ⟨b2,0,none⟩ v).setCell ⟨b0,0,none⟩ (.bool ok)) nm tl ar ⟨ok,is,reps⟩ v1 v:=by
 have s2:∀ (k:Nat) (x:Array Value) (t:TypeId),u.heap[k]?=some (.cells x t (0,0))->t≠87->(u.setCell ⟨b2,0,none⟩ v).heap[k]?=some (.cells x t (0,0)):=fun k x t hk ht=>(heap_setCell_other _ _ _ _ (blk_ne hk h.h2 ht)).trans hk;have n0:=s2 _ _ _ h.h0 dc_;have s3:∀ (k:Nat) (x:Array Value) (t:TypeId),(u.setCell ⟨b2,0,none⟩ v).heap[k]?=some (.cells x t (0,0))->t≠4->((u.setCell ⟨b2,0,none⟩ v).setCell ⟨b0,0,none⟩ (.bool ok)).heap[k]?=some (.cells x t (0,0)):=fun k x t hk ht=>(heap_setCell_other _ _ _ _ (blk_ne hk n0 ht)).trans hk;refine ⟨h.le0,h.le1,h.le2,h.le3,heap_setCell_same _ b0 0 _ _ _ n0,s3 _ _ _ (s2 _ _ _ h.h1 dc_) dc_,s3 _ _ _ (heap_setCell_same _ b2 0 _ _ _ h.h2) dc_,s3 _ _ _ (s2 _ _ _ h.h3 dc_) dc_,?_,?_⟩
 · refine ownsRow_keep h.o1 fun k hk=>?_
   obtain ⟨_,cur,hc⟩:=own_block h.o1 hk;rw [s3 _ _ _ (s2 _ _ _ hc dc_) dc_,hc]
 refine ownsRow_keep ho fun k hk=>?_;obtain ⟨_,cur,hc⟩:=own_block ho hk;rw [s3 _ _ _ (s2 _ _ _ hc dc_) dc_,hc]
theorem c70r (base b0 b1 b2 b3:Nat) (nm tl ar:ByteArray) (T:List I3) (reps:List R2) (v1 v2:Value) (tx:ByteArray) (w:World) (h:RunW base b0 b1 b2 b3 w nm tl ar ⟨false,T,reps⟩ v1 v2) (hts:tx.size<=1048576) (har:ar.size<=1048576) (hsh:ShapesAt w) (hmx:MaxAt w) (hba:2<=base):
 Calls Tryz.prog 70 #[.agg #[.int .i64 0,.string tx],.pointer (some ⟨b0,0,none⟩),.pointer (some ⟨b1,0,none⟩),.pointer (some ⟨b2,0,none⟩),.pointer (some ⟨b3,0,none⟩)] w fun e w'=>e=.returned (firstR tl ar tx.data.toList).v/\(∃ v2',RunW base b0 b1 b2 b3 w' nm tl ar ⟨(readT tx.data.toList).2,(readT tx.data.toList).1,reps⟩ v1 v2'/\Nw w v2 v2')/\Ex (FP b0 b1 b2 v1) w w':=by
 have HS:Hid (ShapesAt w):=hsh;have HM:Hid (MaxAt w):=hmx;clear hsh hmx;have H:Hid (RunW base b0 b1 b2 b3 w nm tl ar ⟨false,T,reps⟩ v1 v2):=h;have l0:=blk_lt h.h0;have l1:=blk_lt h.h1;have l2:=blk_lt h.h2;have l3:=blk_lt h.h3;have le1:=h.le1;have c0:w.cell? ⟨b0,0,none⟩=some (.bool false):=by rw [Lib.cell_of_heap h.h0];rfl
 have cx3:w.cell? ⟨b3,1,none⟩=some (.string tl):=by rw [Lib.cell_of_heap h.h3];rfl
 clear h;have k0:=past (show b0<w.heap.size from l0) c0;have k3:=past (show b3<w.heap.size from l3) cx3;obtain ⟨w0,hw0⟩:∃ w0,w0=(w.alloc (.cells #[.int .i64 0,.string tx] 27)).alloc (.cells #[.bool false,.int .i64 0,.string ⟨#[]⟩,.bool false,.string ⟨#[]⟩,.int .i64 0] 29):=⟨_,rfl⟩;have HW0:Hid (w0=(w.alloc (.cells #[.int .i64 0,.string tx] 27)).alloc (.cells #[.bool false,.int .i64 0,.string ⟨#[]⟩,.bool false,.string ⟨#[]⟩,.int .i64 0] 29)):=hw0;have hbw:Below w.heap.size w w0:=by rw [hw0];exact bA.alloc sm_ _
 have HB:Hid (Below w.heap.size w w0):=hbw;have hz0':w0.heap.size=w.heap.size+2:=by rw [hw0];simp
 have hres:w0.heap[w.heap.size+1]?=some (.cells z6 29 (0,0)):=by
  rw [hw0];exact alloc_new sm_ _
 have HRES:Hid (w0.heap[w.heap.size+1]?=some (.cells z6 29 (0,0))):=hres;clear hw0 hbw hres;go_enter Tryz.func70,Tryz.ntmps70
 go_wp2_with fail
 rw [<- HW0.out];have hB0:Below base w w0:=HB.out.mono om_;refine (c72 tx w0 hts (shapes_base HS.out hB0 hba) (max_base HM.out hB0 hba)).mono ?_;rintro e w1 ⟨⟨is,ok,v,rfl,hown,hread⟩,hb1⟩;have HRD:Hid (readT tx.data.toList=(is,ok)):=readT_of hread;have hB1:Below base w w1:=hB0.trans (hb1.mono om_);have hown':w1.ownsRow base 92 3 v is.length (insCells is):=owns_mono hown om_;have HNW:Hid (Nw w v2 v):=fun k e=>.inr (by have:=(hown.lt k e).1;omega);have hE1:Ex (FP b0 b1 b2 v1) w w1:=(Ex.ofB HB.out).andB (hb1.mono om_);have X1:=(H.out.below HB.out).below hb1;have X2:Hid (RunW base b0 b1 b2 b3 ((w1.setCell ⟨b2,0,none⟩ v).setCell ⟨b0,0,none⟩ (.bool ok)) nm tl ar ⟨ok,is,reps⟩ v1 v):=X1.take ok v hown';obtain ⟨a,cp,hv,HI⟩:=own3_form X2.out.o2;have hv':v=.slice a is.length cp:=hv;subst hv';have hss:∀ i,(is.getD i i3z).tx.size<=1048576:=fun i=>Nat.le_trans ((read_small hread).2 i) om_;have hil:is.length<=40:=(read_small hread).1;have HINS:Hid (InsAt ((w1.setCell ⟨b2,0,none⟩ (.slice a is.length cp)).setCell ⟨b0,0,none⟩ (.bool ok)) a is):=HI;have n2:w1.cell? ⟨b2,0,none⟩=some v2:=by rw [Lib.cell_of_heap X1.h2];rfl
 have n2f:w1.frozen? ⟨b2,0,none⟩=false:=Lib.frozen_of_heap X1.h2 0;have n0f:∀ u,(w1.setCell ⟨b2,0,none⟩ u).frozen? ⟨b0,0,none⟩=false:=fun u=>by simpa using Lib.frozen_of_heap X1.h0 0
 have hne:b0≠b2:=blk_ne X1.h0 X1.h2 dc_;have n0:∀ u,(w1.setCell ⟨b2,0,none⟩ u).cell? ⟨b0,0,none⟩=some (.bool false):=fun u=>by
  rw [World.cell?_setCell_other _ _ _ _ (fun e=>hne (by injection e with e _;exact e.symm)),Lib.cell_of_heap X1.h0];rfl
 have m0:((w1.setCell ⟨b2,0,none⟩ (.slice a is.length cp)).setCell ⟨b0,0,none⟩ (.bool ok)).cell? ⟨b0,0,none⟩=some (.bool ok):=by rw [Lib.cell_of_heap X2.out.h0];rfl
 have m2:((w1.setCell ⟨b2,0,none⟩ (.slice a is.length cp)).setCell ⟨b0,0,none⟩ (.bool ok)).cell? ⟨b2,0,none⟩=some (.slice a is.length cp):=by rw [Lib.cell_of_heap X2.out.h2];rfl
 have m31:((w1.setCell ⟨b2,0,none⟩ (.slice a is.length cp)).setCell ⟨b0,0,none⟩ (.bool ok)).cell? ⟨b3,1,none⟩=some (.string tl):=by rw [Lib.cell_of_heap X2.out.h3];rfl
 have m32:((w1.setCell ⟨b2,0,none⟩ (.slice a is.length cp)).setCell ⟨b0,0,none⟩ (.bool ok)).cell? ⟨b3,2,none⟩=some (.string ar):=by rw [Lib.cell_of_heap X2.out.h3];rfl
 have HR1:w1.heap[w.heap.size+1]?=some (.cells z6 29 (0,0)):=(hb1.block _ (blk_lt HRES.out)).trans HRES.out;have HR2:((w1.setCell ⟨b2,0,none⟩ (.slice a is.length cp)).setCell ⟨b0,0,none⟩ (.bool ok)).heap[w.heap.size+1]?=some (.cells z6 29 (0,0)):=by
  rw [heap_setCell_other _ _ _ _ (by show w.heap.size+1≠b0;omega),heap_setCell_other _ _ _ _ (by show w.heap.size+1≠b2;omega)];exact HR1
 have HR2':Hid (((w1.setCell ⟨b2,0,none⟩ (.slice a is.length cp)).setCell ⟨b0,0,none⟩ (.bool ok)).heap[w.heap.size+1]?=some (.cells z6 29 (0,0))):=HR2;have hle0:=X1.le0;have hle2:=X1.le2;have hB2:Below base w ((w1.setCell ⟨b2,0,none⟩ (.slice a is.length cp)).setCell ⟨b0,0,none⟩ (.bool ok)):=(hB1.setCell (by exact hle2) _).setCell (by exact hle0) _;have HE2:Hid (Ex (FP b0 b1 b2 v1) w ((w1.setCell ⟨b2,0,none⟩ (.slice a is.length cp)).setCell ⟨b0,0,none⟩ (.bool ok))):=(hE1.setCell (fun _=>.inr (.inr (.inl rfl))) _).setCell (fun _=>.inl rfl) _;have HB2:Hid (Below base w ((w1.setCell ⟨b2,0,none⟩ (.slice a is.length cp)).setCell ⟨b0,0,none⟩ (.bool ok))):=hB2;have hz1':w0.heap.size<=w1.heap.size:=hb1.size;clear hE1 X1 hown hown' hread hv HI HR1 HR2 hB1 hb1 hB0 hB2;cases ok
 · go_wp2_with fail
   refine (c73 7 tl _).mono ?_;rintro e w5 ⟨rfl,hb5⟩;have HR5:w5.heap[w.heap.size+1]?=some (.cells z6 29 (0,0)):=(hb5.block _ (blk_lt HR2'.out)).trans HR2'.out;have HX5:Hid (RunW base b0 b1 b2 b3 w5 nm tl ar ⟨false,is,reps⟩ v1 (.slice a is.length cp)):=X2.out.below hb5;have HB5:Hid (Ex (FP b0 b1 b2 v1) w w5):=HE2.out.andB (hb5.mono so_);have q0:=Lib.cell_of_heap HR5 0;have q1:=Lib.cell_of_heap HR5 1;have q2:=Lib.cell_of_heap HR5 2;have q3:=Lib.cell_of_heap HR5 3;have q4:=Lib.cell_of_heap HR5 4;have q5:=Lib.cell_of_heap HR5 5;have hfz:∀ j,w5.frozen? ⟨w.heap.size+1,j,none⟩=false:=fun j=>Lib.frozen_of_heap HR5 j;have HR6:Hid (w5.heap[w.heap.size+1]?=some (.cells z6 29 (0,0))):=HR5;clear HR5 hb5;change w5.cell? _=some (.bool false) at q0;change w5.cell? _=some (.int .i64 0) at q1;change w5.cell? _=some (.string ⟨#[]⟩) at q2;change w5.cell? _=some (.bool false) at q3;change w5.cell? _=some (.string ⟨#[]⟩) at q4;change w5.cell? _=some (.int .i64 0) at q5;go_wp2;obtain ⟨s0,s1,s2,s3,s4,s5⟩:=set6 HR6.out (.bool true) (.int .i64 7) (.string tl) (.bool false) (.string ⟨#[]⟩) (.int .i64 0);refine bodyPost_ret (v:=.agg #[.bool true,.int .i64 7,.string tl,.bool false,.string ⟨#[]⟩,.int .i64 0]) (by simp [results,Tryz.results70,go_sem,s0,s1,s2,s3,s4,s5]) rfl ⟨by unfold firstR;rw [HRD.out];rfl,⟨.slice a is.length cp,?_,HNW.out⟩,?_⟩
   · rw [HRD.out];exact HX5.out.set6 HR6.out _ _ _ _ _ _
   exact HB5.out.andB (set6_below om_ _ _ _ _ _ _)
 rcases hN:nextT is ar [] with ⟨o,c,t,hh,n,k⟩;have HN:Hid (nextT is ar []=⟨o,c,t,hh,n,k⟩):=hN;clear hN
 go_wp2_with fail
 refine (c71s a cp _ is ar none 0 0 [] _ rfl rfl ⟨om_,hss,har,Nat.zero_le _,fun i=>by simp [r2z,ByteArray.size]⟩ HINS.out (.inl rfl) (shapes_base HS.out HB2.out hba) (max_base HM.out HB2.out hba) HN.out).mono ?_;rintro e w5 ⟨rfl,hb5⟩;have HR5:w5.heap[w.heap.size+1]?=some (.cells z6 29 (0,0)):=(hb5.block _ (blk_lt HR2'.out)).trans HR2'.out;have HX5:Hid (RunW base b0 b1 b2 b3 w5 nm tl ar ⟨true,is,reps⟩ v1 (.slice a is.length cp)):=X2.out.below hb5;have HB5:Hid (Ex (FP b0 b1 b2 v1) w w5):=HE2.out.andB (hb5.mono so_);have q0:=Lib.cell_of_heap HR5 0;have q1:=Lib.cell_of_heap HR5 1;have q2:=Lib.cell_of_heap HR5 2;have q3:=Lib.cell_of_heap HR5 3;have q4:=Lib.cell_of_heap HR5 4;have q5:=Lib.cell_of_heap HR5 5;have hfz:∀ j,w5.frozen? ⟨w.heap.size+1,j,none⟩=false:=fun j=>Lib.frozen_of_heap HR5 j;have HR6:Hid (w5.heap[w.heap.size+1]?=some (.cells z6 29 (0,0))):=HR5;clear HR5 hb5;change w5.cell? _=some (.bool false) at q0;change w5.cell? _=some (.int .i64 0) at q1;change w5.cell? _=some (.string ⟨#[]⟩) at q2;change w5.cell? _=some (.bool false) at q3;change w5.cell? _=some (.string ⟨#[]⟩) at q4;change w5.cell? _=some (.int .i64 0) at q5;go_wp2;obtain ⟨s0,s1,s2,s3,s4,s5⟩:=set6 HR6.out (.bool o) (.int .i64 c) (.string t) (.bool hh) (.string n) (.int .i64 k);refine bodyPost_ret (v:=.agg #[.bool o,.int .i64 c,.string t,.bool hh,.string n,.int .i64 k]) (by simp [results,Tryz.results70,go_sem,s0,s1,s2,s3,s4,s5]) rfl ⟨by unfold firstR;rw [HRD.out];show _=Ending.returned (nextT is ar []).v;rw [HN.out];rfl,⟨.slice a is.length cp,?_,HNW.out⟩,?_⟩
 · rw [HRD.out];exact HX5.out.set6 HR6.out _ _ _ _ _ _
 exact HB5.out.andB (set6_below om_ _ _ _ _ _ _)
variable {ar tl:ByteArray} {t:TN} {s:RS} {x:M.L4} {ls xs:List M.L4} {m:M3} {u w:World}
theorem c70 (base b0 b1 b2 b3:Nat) (nm tl ar:ByteArray) (s:RS) (v1 v2:Value) (r:R2) (w:World) (h:RunW base b0 b1 b2 b3 w nm tl ar s v1 v2) (hok:RSOk s) (hrn:s.reps.length<=300) (hts:r.tx.size<=1048576) (har:ar.size<=1048576) (hsh:ShapesAt w) (hmx:MaxAt w) (hba:2<=base):
 Calls Tryz.prog 70 #[.agg #[.int .i64 r.code,.string r.tx],.pointer (some ⟨b0,0,none⟩),.pointer (some ⟨b1,0,none⟩),.pointer (some ⟨b2,0,none⟩),.pointer (some ⟨b3,0,none⟩)] w fun e w'=>e=.returned (nextR tl ar s r).1.v/\(∃ v1' v2',RunW base b0 b1 b2 b3 w' nm tl ar (nextR tl ar s r).2 v1' v2'/\Nw w v1 v1'/\Nw w v2 v2')/\Ex (FP b0 b1 b2 v1) w w':=by
 obtain ⟨hs,T,reps⟩:=s;cases hs;rotate_left
 · have e:nextR tl ar ⟨true,T,reps⟩ r=(nextT T ar (reps++[r]),⟨true,T,reps++[r]⟩):=by simp [nextR]
   rw [e];exact c70h base b0 b1 b2 b3 nm tl ar T reps v1 v2 r w h hrn ⟨by have:=hok.tl;show T.length<=_;exact Nat.le_trans this om_,fun i=>Nat.le_trans (hok.ts i) om_,har,by simp;have:reps.length<=300:=hrn;omega,snoc_small hok.rs hts⟩ hsh hmx hba
 obtain ⟨c,tx⟩:=r;by_cases h0:c=0
 · subst h0
   have e:nextR tl ar ⟨false,T,reps⟩ ⟨0,tx⟩=(firstR tl ar tx.data.toList,⟨(readT tx.data.toList).2,(readT tx.data.toList).1,reps⟩):=by simp [nextR]
   rw [e];refine (c70r base b0 b1 b2 b3 nm tl ar T reps v1 v2 tx w h hts har hsh hmx hba).mono ?_;rintro e w' ⟨rfl,⟨v,hx,hn⟩,hb⟩;exact ⟨rfl,⟨v1,v,hx,nw_refl _ _,hn⟩,hb⟩
 by_cases h4:c=4
 · subst h4
   have e:nextR tl ar ⟨false,T,reps⟩ ⟨4,tx⟩=(overT 4 tl 0,⟨false,T,reps⟩):=by simp [nextR]
   rw [e];refine (c70m base b0 b1 b2 b3 nm tl ar T reps v1 v2 tx w h).mono ?_;rintro e w' ⟨rfl,hx,hb⟩;exact ⟨rfl,⟨v1,v2,hx,nw_refl _ _,nw_refl _ _⟩,.ofB hb⟩
 have e:nextR tl ar ⟨false,T,reps⟩ ⟨c,tx⟩=(overT 5 tl 0,⟨false,T,reps⟩):=by simp [nextR,h0,h4]
 rw [e];refine (c70b base b0 b1 b2 b3 nm tl ar T reps v1 v2 c h0 h4 tx w h).mono ?_;rintro e w' ⟨rfl,hx,hb⟩;exact ⟨rfl,⟨v1,v2,hx,nw_refl _ _,nw_refl _ _⟩,.ofB hb⟩
def Halt (t:TN) (x:M.L4):Prop:=t.over=true\/x.has≠t.has\/x.nm≠t.name\/¬ M.LkOk x
open Classical in
noncomputable def goL (tl ar:ByteArray):TN->RS->List M.L4->TN
 | t,_,[]=>t
 | t,s,x::xs=>if Halt t x then zeroT else goL tl ar (nextR tl ar s ⟨x.cd,x.tx⟩).1 (nextR tl ar s ⟨x.cd,x.tx⟩).2 xs
open Classical in
theorem goL_halt (h:Halt t x):goL tl ar t s (x::xs)=zeroT:=by
 show (if _ then _ else _)=_;exact if_pos h
open Classical in
theorem goL_go (h:¬ Halt t x):goL tl ar t s (x::xs)=goL tl ar (nextR tl ar s ⟨x.cd,x.tx⟩).1 (nextR tl ar s ⟨x.cd,x.tx⟩).2 xs:=by
 show (if _ then _ else _)=_;exact if_neg h
def turn0 (tl:ByteArray):TN:=⟨false,0,⟨#[]⟩,false,tl,0⟩
open Classical in
noncomputable def goT (m:M3) (ls:List M.L4):TN:=if okM m=true/\ls.length<=15 then goL m.tl m.ar (turn0 m.tl) rs0 ls else zeroT
theorem goT_no (h:okM m=false\/15<ls.length):goT m ls=zeroT:=by
 unfold goT;refine if_neg fun h'=>?_;rcases h with h | h
 · rw [h'.1] at h;cases h
 omega
theorem goT_yes (h:okM m=true) (h2:ls.length<=15):goT m ls=goL m.tl m.ar (turn0 m.tl) rs0 ls:=if_pos ⟨h,h2⟩
theorem drop_get {k:Nat} (h:k<ls.length):ls.drop k=ls.getD k M.l4z::ls.drop (k+1):=by
 rw [List.drop_eq_getElem_cons h]
 congr 1
 simp [List.getD,h]
def WG (m:M3) (w:World):World:=(w.alloc (.cells #[.string m.nm,.string m.tl,.string m.ar] 24)).alloc (.cells #[.bool false,.int .i64 0,.string ⟨#[]⟩,.bool false,.string ⟨#[]⟩,.int .i64 0] 29)
theorem WG_size (m:M3) (w:World):(WG m w).heap.size=w.heap.size+2:=by simp [WG]
theorem WG_below (m:M3) (w:World):Below w.heap.size w (WG m w):=bA.alloc sm_ _
theorem WG_z (h:Below (w.heap.size+2) (WG m w) u):u.heap[w.heap.size+1]?=some (.cells z6 29 (0,0)):=by
 rw [h.block _ om_];exact alloc_new sm_ _
theorem WG_m (h:Below (w.heap.size+2) (WG m w) u):u.cell? ⟨w.heap.size,0,none⟩=some (.string m.nm)/\u.cell? ⟨w.heap.size,1,none⟩=some (.string m.tl)/\u.cell? ⟨w.heap.size,2,none⟩=some (.string m.ar):=by
 have e:u.heap[w.heap.size]?=some (.cells #[.string m.nm,.string m.tl,.string m.ar] 24 (0,0)):=by
  rw [h.block _ om_,WG,Lib.alloc_old _ _ _ sm_];exact alloc_new rfl _
 exact ⟨Lib.cell_of_heap e 0,Lib.cell_of_heap e 1,Lib.cell_of_heap e 2⟩
end Go.Proofs.YthjhakdpikdoeaaGreatDoor
namespace Go.Proofs.YthjhakdpikdoeaaGreatDoor
open Go.RowKit
variable {u:World} {B k:Nat} {t:TN}
def T6At (u:World) (B:Nat) (t:TN):Prop:=u.heap[B]?=some (.cells #[.bool t.over,.int .i64 t.code,.string t.text,.bool t.has,.string t.name,.int .i64 t.steps] 29 (0,0))
theorem T6At.set (h:T6At u B t) (t':TN):T6At ((((((u.setCell ⟨B,0,none⟩ (.bool t'.over)).setCell ⟨B,1,none⟩ (.int .i64 t'.code)).setCell ⟨B,2,none⟩ (.string t'.text)).setCell ⟨B,3,none⟩ (.bool t'.has)).setCell ⟨B,4,none⟩ (.string t'.name)).setCell ⟨B,5,none⟩ (.int .i64 t'.steps)) B t':=by
 have h0:=heap_setCell_same u B 0 _ 29 (.bool t'.over) h;have h1:=heap_setCell_same _ B 1 _ 29 (.int .i64 t'.code) h0;have h2:=heap_setCell_same _ B 2 _ 29 (.string t'.text) h1;have h3:=heap_setCell_same _ B 3 _ 29 (.bool t'.has) h2;have h4:=heap_setCell_same _ B 4 _ 29 (.string t'.name) h3;exact heap_setCell_same _ B 5 _ 29 (.int .i64 t'.steps) h4
theorem T6At.cells (h:T6At u B t):u.cell? ⟨B,0,none⟩=some (.bool t.over)/\u.cell? ⟨B,1,none⟩=some (.int .i64 t.code)/\u.cell? ⟨B,2,none⟩=some (.string t.text)/\u.cell? ⟨B,3,none⟩=some (.bool t.has)/\u.cell? ⟨B,4,none⟩=some (.string t.name)/\u.cell? ⟨B,5,none⟩=some (.int .i64 t.steps)/\∀ j,u.frozen? ⟨B,j,none⟩=false:=
 ⟨Lib.cell_of_heap h 0,Lib.cell_of_heap h 1,Lib.cell_of_heap h 2,Lib.cell_of_heap h 3,Lib.cell_of_heap h 4,Lib.cell_of_heap h 5,fun j=>Lib.frozen_of_heap h j⟩
theorem T6At.blk (h:T6At u B t):M.BlkAt u B [.bool t.over,.int .i64 t.code,.string t.text,.bool t.has,.string t.name,.int .i64 t.steps]:=fun j v e=>by
 rw [Lib.cell_of_heap h j];simpa using e
theorem T6At.below {u':World} {N:Nat} (h:T6At u B t) (hb:Below N u u') (hN:B<N):T6At u' B t:=(hb.block B hN).trans h
theorem wp_turn {ops:Array Oper} {rest:List Oper} {o:Oper} {a:Act} {Q:Exit->Act->World->Prop} (hgd:o.guard=none) (x y:Operand) (ho:o.op=.store 29 x y) (B:Nat) (hx:a.eval x=.pointer (some ⟨B,0,none⟩)) (t t0:TN) (hy:a.eval y=t.v) (hT:T6At u B t0) (hdst:o.dst=none)
 (h:∀ u',T6At u' B t->(∀ m,m<=B->Below m u u')->(∀ k,k≠B->u'.heap[k]?=u.heap[k]?)->wpList Tryz.prog ops Q rest a u'):wpList Tryz.prog ops Q (o::rest) a u:=by
 refine M.wpList_store_blk (P:=Tryz.prog) hgd 29 x y ho B 0 hx [.bool t.over,.int .i64 t.code,.string t.text,.bool t.has,.string t.name,.int .i64 t.steps] hy (fun i hi=>?_) (fun j=>Lib.frozen_of_heap hT j) (by intro v hv;simp at hv;rcases hv with rfl | rfl | rfl | rfl | rfl | rfl <;> rfl) kr_ hdst ?_
 · rw [Nat.zero_add,Lib.cell_of_heap hT i]
   have hi':i<6:=hi;simp [hi']
 refine h _ (hT.set t) (fun m hm=>set6_below hm _ _ _ _ _ _) fun k hk=>?_;show ((((((u.setCell ⟨B,0,none⟩ _).setCell ⟨B,1,none⟩ _).setCell ⟨B,2,none⟩ _).setCell ⟨B,3,none⟩ _).setCell ⟨B,4,none⟩ _).setCell ⟨B,5,none⟩ _).heap[k]?=_;simp only [heap_setCell_other _ _ _ _ (show k≠(⟨B,0,none⟩:Addr).block from hk),heap_setCell_other _ _ _ _ (show k≠(⟨B,1,none⟩:Addr).block from hk),heap_setCell_other _ _ _ _ (show k≠(⟨B,2,none⟩:Addr).block from hk),heap_setCell_other _ _ _ _ (show k≠(⟨B,3,none⟩:Addr).block from hk),heap_setCell_other _ _ _ _ (show k≠(⟨B,4,none⟩:Addr).block from hk),heap_setCell_other _ _ _ _ (show k≠(⟨B,5,none⟩:Addr).block from hk)]
theorem lks_cells {w:World} {a:Option Addr} {ls:List M.L4} (h:M.LksAt w a ls) (hb:Below w.heap.size w u) (hk:k<ls.length):∃ b off,a=some ⟨b,off,none⟩/\b<w.heap.size/\u.cell? ⟨b,off+k*4,none⟩=some (.bool (ls.getD k M.l4z).has)/\u.cell? ⟨b,off+k*4+1,none⟩=some (.string (ls.getD k M.l4z).nm)/\u.cell? ⟨b,off+k*4+2,none⟩=some (.int .i64 (ls.getD k M.l4z).cd)/\u.cell? ⟨b,off+k*4+3,none⟩=some (.string (ls.getD k M.l4z).tx):=by
 rcases h with h | ⟨b,off,h1,h2,h3⟩
 · rw [h] at hk;exact absurd hk (Nat.not_lt_zero _)
 obtain ⟨x0,x1,x2,x3⟩:=h3 k hk;exact ⟨b,off,h1,h2,(hb.cell (p:=⟨b,off+k*4,none⟩) h2).trans x0,(hb.cell (p:=⟨b,off+k*4+1,none⟩) h2).trans x1,(hb.cell (p:=⟨b,off+k*4+2,none⟩) h2).trans x2,(hb.cell (p:=⟨b,off+k*4+3,none⟩) h2).trans x3⟩
end Go.Proofs.YthjhakdpikdoeaaGreatDoor

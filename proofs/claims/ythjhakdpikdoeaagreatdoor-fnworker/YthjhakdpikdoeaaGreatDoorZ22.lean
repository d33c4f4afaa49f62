import Derived.Test.YthjhakdpikdoeaaGreatDoorZ21
set_option linter.unusedVariables false
set_option maxHeartbeats 8000000
set_option maxRecDepth 100000
namespace Go.Proofs.YthjhakdpikdoeaaGreatDoor
open Proofs.Tryz
open Go.RowKit
open Classical in
noncomputable def readT (l:List UInt8):List I3×Bool:=if h:∃ p:List I3×Bool,IsRead l p.1 p.2 then h.choose else ([],false)
theorem readT_of {l:List UInt8} {is:List I3} {ok:Bool} (h:IsRead l is ok):readT l=(is,ok):=by
 have hx:∃ p:List I3×Bool,IsRead l p.1 p.2:=⟨(is,ok),h⟩;have e:readT l=hx.choose:=by unfold readT;exact dif_pos hx
 obtain ⟨e1,e2⟩:=isRead_one hx.choose_spec h;rw [e];exact Prod.ext e1 e2
structure RS where
 has:Bool
 T:List I3
 reps:List R2
def rs0:RS:=⟨false,[],[]⟩
noncomputable def firstR (tl ar:ByteArray) (l:List UInt8):TN:=if (readT l).2=true then nextT (readT l).1 ar [] else overT 7 tl 0
noncomputable def nextR (tl ar:ByteArray) (s:RS) (r:R2):TN×RS:=
 if s.has=true then (nextT s.T ar (s.reps++[r]),⟨true,s.T,s.reps++[r]⟩)
 else if r.code=0 then (firstR tl ar r.tx.data.toList,⟨(readT r.tx.data.toList).2,(readT r.tx.data.toList).1,s.reps⟩)
 else if r.code=4 then (overT 4 tl 0,s) else (overT 5 tl 0,s)
theorem read_small {l:List UInt8} {is:List I3} {ok:Bool} (h:IsRead l is ok):is.length<=40/\∀ i,(is.getD i i3z).tx.size<=300:=by
 cases ok
 · rw [(h.2 rfl).1];exact ⟨sm_,fun i=>by simp [i3z,ByteArray.size]⟩
 have hk:=(h.1 rfl).1;unfold okT at hk;simp only [Bool.and_eq_true,decide_eq_true_eq] at hk;refine ⟨hk.1.2,fun i=>?_⟩;rcases Nat.lt_or_ge i is.length with h' | h'
 · have:=List.all_eq_true.1 hk.2 (is.getD i i3z) (by simp [List.getD,h'])
   unfold okI at this;simp only [Bool.and_eq_true,decide_eq_true_eq] at this;omega
 have e:is.getD i i3z=i3z:=by simp [List.getD,List.getElem?_eq_none h']
 rw [e];simp [i3z,ByteArray.size]
theorem readT_is (l:List UInt8):readT l=([],false)\/IsRead l (readT l).1 (readT l).2:=by
 unfold readT;split
 · rename_i h;exact .inr h.choose_spec
 exact .inl rfl
theorem readT_small (l:List UInt8):(readT l).1.length<=40/\∀ i,((readT l).1.getD i i3z).tx.size<=300:=by
 rcases readT_is l with h | h
 · rw [h];exact ⟨sm_,fun i=>by simp [i3z,ByteArray.size]⟩
 exact read_small h
structure RSOk (s:RS):Prop where
 tl:s.T.length<=40
 ts:∀ i,(s.T.getD i i3z).tx.size<=300
 rs:∀ i,(s.reps.getD i r2z).tx.size<=1048576
theorem rs0_ok:RSOk rs0:=⟨by simp [rs0],fun i=>by simp [rs0,i3z,ByteArray.size],fun i=>by simp [rs0,r2z,ByteArray.size]⟩
theorem snoc_small {rs:List R2} {x:R2} {M:Nat} (h:∀ i,(rs.getD i r2z).tx.size<=M) (hx:x.tx.size<=M) (i:Nat):((rs++[x]).getD i r2z).tx.size<=M:=by
 rcases Nat.lt_trichotomy i rs.length with h' | h' | h'
 · have e:(rs++[x]).getD i r2z=rs.getD i r2z:=by simp [List.getD,List.getElem?_append_left h']
   rw [e];exact h i
 · have e:(rs++[x]).getD i r2z=x:=by subst h';simp [List.getD]
   rw [e];exact hx
 have e:(rs++[x]).getD i r2z=r2z:=by simp [List.getD,List.getElem?_eq_none (show (rs++[x]).length<=i by simp;omega)]
 rw [e];exact Nat.zero_le _
theorem next_ok {tl ar:ByteArray} {s:RS} {r:R2} (h:RSOk s) (hr:r.tx.size<=1048576):RSOk (nextR tl ar s r).2:=by
 unfold nextR;split
 · exact ⟨h.tl,h.ts,snoc_small h.rs hr⟩
 split
 · exact ⟨(readT_small _).1,(readT_small _).2,h.rs⟩
 split <;> exact h
theorem next_len {tl ar:ByteArray} {s:RS} {r:R2}:(nextR tl ar s r).2.reps.length<=s.reps.length+1:=by
 unfold nextR;split
 · simp
 split
 · simp
 split <;> simp
def resCells (rs:List R2):List Value:=rs.flatMap fun x=>[.int .i64 x.code,.string x.tx]
theorem resCells_snoc (rs:List R2) (x:R2):resCells (rs++[x])=resCells rs++[.int .i64 x.code,.string x.tx]:=by simp [resCells]
theorem resCells_get (rs:List R2) (i:Nat) (h:i<rs.length):(resCells rs)[i*2]?=some (.int .i64 (rs.getD i r2z).code)/\(resCells rs)[i*2+1]?=some (.string (rs.getD i r2z).tx):=by
 induction rs generalizing i with
 | nil=>simp at h
 | cons x r ih=>
  cases i with
  | zero=>exact ⟨rfl,rfl⟩
  | succ i=>
   have:=ih i (by simpa using h);have e:∀ j,(resCells (x::r))[(i+1)*2+j]?=(resCells r)[i*2+j]?:=fun j=>by
    show ([Value.int .i64 x.code,.string x.tx]++resCells r)[(i+1)*2+j]?=_;rw [List.getElem?_append_right so_]
    congr 1
    simp;omega
   have e0:=e 0;simp only [Nat.add_zero] at e0;rw [e0,e 1];exact this
theorem own2_form {w:World} {base:Nat} {v:Value} {rs:List R2} (h:w.ownsRow base 27 2 v rs.length (resCells rs)):∃ a cap,v=.slice a rs.length cap/\ResAt w a rs:=by
 have h':=h;rcases h.2 with ⟨hv,h0⟩ | ⟨g,cap,cur,hv,hg,hh,_⟩
 · exact ⟨none,0,by rw [hv,h0],.inl (List.length_eq_zero_iff.1 h0)⟩
 refine ⟨some ⟨g,0,none⟩,cap,hv,?_⟩;subst hv;refine .inr ⟨g,0,rfl,blk_lt hh,fun i hi=>?_⟩;obtain ⟨e0,e1⟩:=resCells_get rs i hi;rw [Nat.zero_add,h'.cellAt _ om_,h'.cellAt _ om_];exact ⟨e0,e1⟩
structure RunW (base b0 b1 b2 b3:Nat) (u:World) (nm tl ar:ByteArray) (s:RS) (v1 v2:Value):Prop where
 le0:base<=b0
 le1:base<=b1
 le2:base<=b2
 le3:base<=b3
 h0:u.heap[b0]?=some (.cells #[.bool s.has] 4 (0,0))
 h1:u.heap[b1]?=some (.cells #[v1] 104 (0,0))
 h2:u.heap[b2]?=some (.cells #[v2] 87 (0,0))
 h3:u.heap[b3]?=some (.cells #[.string nm,.string tl,.string ar] 24 (0,0))
 o1:u.ownsRow base 27 2 v1 s.reps.length (resCells s.reps)
 o2:u.ownsRow base 92 3 v2 s.T.length (insCells s.T)
theorem blk_ne {u:World} {a b:Nat} {x y:Array Value} {t t':TypeId} {p q:Nat×Nat} (h:u.heap[a]?=some (.cells x t p)) (k:u.heap[b]?=some (.cells y t' q)) (hne:t≠t'):a≠b:=fun e=>by
 subst e;rw [h] at k;injection k with k;injection k with _ k _;exact hne k
theorem RunW.below {base b0 b1 b2 b3:Nat} {u u':World} {nm tl ar:ByteArray} {s:RS} {v1 v2:Value} (h:RunW base b0 b1 b2 b3 u nm tl ar s v1 v2) (hb:Below u.heap.size u u'):RunW base b0 b1 b2 b3 u' nm tl ar s v1 v2:=
 ⟨h.le0,h.le1,h.le2,h.le3,(hb.block _ (blk_lt h.h0)).trans h.h0,(hb.block _ (blk_lt h.h1)).trans h.h1,(hb.block _ (blk_lt h.h2)).trans h.h2,(hb.block _ (blk_lt h.h3)).trans h.h3,ownsRow_below h.o1 hb,ownsRow_below h.o2 hb⟩
theorem all_snocR {rs:List R2} {k:Nat} (h:k<rs.length) (ha:okR (rs.take k)=true) (hx:vr (rs.getD k r2z).code (rs.getD k r2z).tx.data.toList=true):okR (rs.take (k+1))=true:=by
 have e:rs.getD k r2z=rs[k]:=by simp [h]
 rw [e] at hx;unfold okR at ha ⊢;rw [List.take_succ_eq_append_getElem h,List.all_append,ha];simp [hx]
theorem all_notR {rs:List R2} {k:Nat} (h:k<rs.length) (hx:vr (rs.getD k r2z).code (rs.getD k r2z).tx.data.toList=false):okR rs=false:=by
 have e:rs.getD k r2z=rs[k]:=by simp [h]
 rw [e] at hx;unfold okR;rw [List.all_eq_false];exact ⟨rs[k],List.getElem_mem h,by simp [hx]⟩
theorem next_no {T:List I3} {arg:ByteArray} {reps:List R2} (h:okT T=false\/300<arg.size\/14<reps.length\/okR reps=false):nextT T arg reps=zeroT:=by
 unfold nextT;rw [if_neg];rintro ⟨h1,h2,h3,h4⟩;rcases h with h | h | h | h
 · rw [h] at h1;cases h1
 · omega
 · omega
 rw [h] at h4;cases h4
theorem next_yes {T:List I3} {arg:ByteArray} {reps:List R2} (h1:okT T=true) (h2:arg.size<=300) (h3:reps.length<=14) (h4:okR reps=true):nextT T arg reps=fin T arg reps:=by
 unfold nextT;rw [if_pos ⟨h1,h2,h3,h4⟩]
theorem c40 (c:Int) (t:ByteArray) (k:Int) (w:World):
 Calls prog 40 #[.int .i64 c,.string t,.int .i64 k] w fun e w'=>e=.returned (overT c t k).v/\Below w.heap.size w w':=by
 go_enter func40,ntmps40;go_wp2;refine bodyPost_ret (v:=(overT c t k).v) (by simp [results,Tryz.results40,go_sem,overT,TN.v]) rfl ⟨rfl,bA⟩
theorem c87' (s:ByteArray) (w:World) (hs:s.size<=1048700):
 Calls prog 87 #[.string s,.int .u8 10] w fun e w'=>(∃ g cp,e=.returned (.slice (some ⟨g,0,none⟩) (cutS 10 s.data.toList).length cp)/\w.heap.size<=g/\LinesAt w' g (cutS 10 s.data.toList))/\Below w.heap.size w w':=c87 s 10 w hs
theorem c86 (s:ByteArray) (n:Int) (w:World) (hs:s.size<=1048700) (h0:0<=n):
 Calls prog 86 #[.string s,.int .i64 n] w fun e w'=>e=.returned (.string (lineAt s n))/\Below w.heap.size w w':=by
 obtain ⟨m,rfl⟩:=Int.eq_ofNat_of_zero_le h0;obtain ⟨hc1,hc2⟩:=cut_len 10 s.data.toList;have hlen:s.data.toList.length=s.size:=sm_;have hlen2:(cutS 10 s.data.toList).length<=1048701:=om_;go_enter func86,ntmps86
 go_wp2_with fail
 refine (c87' s _ hs).mono ?_;rintro e w1 ⟨⟨g,cp,rfl,hg,hln⟩,hb1⟩;have HL:Hid (LinesAt w1 g (cutS 10 s.data.toList)):=hln;have HT:Hid (lineAt s (m:Int)=if (m:Int)<((cutS 10 s.data.toList).length:Int) then ofL ((cutS 10 s.data.toList).getD m []) else ⟨#[]⟩):=rfl;clear hln hlen hc2;generalize cutS 10 s.data.toList=L at*;by_cases hlt:(m:Int)<(L.length:Int)
 · have l0:=HL.out.2 m om_
   have HT':Hid (lineAt s (m:Int)=ofL (L.getD m [])):=by rw [HT.out,if_pos hlt];rfl
   clear HT;go_wp2;go_ret;exact ⟨by rw [HT'.out];rfl,hb1⟩
 have HT':Hid (lineAt s (m:Int)=⟨#[]⟩):=by rw [HT.out,if_neg hlt];rfl
 clear HT;go_wp2;go_ret;exact ⟨by rw [HT'.out];rfl,hb1⟩
def z6:Array Value:=#[.bool false,.int .i64 0,.string ⟨#[]⟩,.bool false,.string ⟨#[]⟩,.int .i64 0]
def W0 (a:Option Addr) (n cap:Nat) (w:World):World:=(w.alloc (.cells #[.slice a n cap] 87)).alloc (.cells z6 29)
theorem W0_below (a:Option Addr) (n cap:Nat) (w:World):Below w.heap.size w (W0 a n cap w):=bA.alloc sm_ _
theorem W0_size (a:Option Addr) (n cap:Nat) (w:World):(W0 a n cap w).heap.size=w.heap.size+2:=by simp [W0]
theorem W0_cells {a:Option Addr} {n cap:Nat} {w u:World} (h:Below (w.heap.size+2) (W0 a n cap w) u):
 (u.cell? ⟨w.heap.size,0,none⟩=some (.slice a n cap)/\u.cell? ⟨w.heap.size+1,0,none⟩=some (.bool false)/\u.cell? ⟨w.heap.size+1,1,none⟩=some (.int .i64 0)/\u.cell? ⟨w.heap.size+1,2,none⟩=some (.string ⟨#[]⟩)/\u.cell? ⟨w.heap.size+1,3,none⟩=some (.bool false)/\u.cell? ⟨w.heap.size+1,4,none⟩=some (.string ⟨#[]⟩)/\u.cell? ⟨w.heap.size+1,5,none⟩=some (.int .i64 0))/\∀ j,u.frozen? ⟨w.heap.size+1,j,none⟩=false:=by
 have e:∀ b j,b<w.heap.size+2->u.cell? ⟨b,j,none⟩=(W0 a n cap w).cell? ⟨b,j,none⟩:=fun b j hb=>h.cell (by simpa using hb);have f:∀ j,u.frozen? ⟨w.heap.size+1,j,none⟩=(W0 a n cap w).frozen? ⟨w.heap.size+1,j,none⟩:=fun j=>h.frozen sm_;refine ⟨?_,fun j=>?_⟩
 · rw [e _ _ om_,e _ _ om_,e _ _ om_,e _ _ om_,e _ _ om_,e _ _ om_,e _ _ om_]
   simp [W0,z6]
 rw [f];simp [W0,z6]
theorem z6_heap {a:Option Addr} {n cap:Nat} {w u:World} (h:Below (w.heap.size+2) (W0 a n cap w) u):u.heap[w.heap.size+1]?=some (.cells z6 29 (0,0)):=by
 rw [h.block _ om_];exact alloc_new sm_ _
theorem set6 {u:World} {B:Nat} (h:u.heap[B]?=some (.cells z6 29 (0,0))) (v0 v1 v2 v3 v4 v5:Value):
 (u.setCell ⟨B,0,none⟩ v0).cell? ⟨B,0,none⟩=some v0/\((u.setCell ⟨B,0,none⟩ v0).setCell ⟨B,1,none⟩ v1).cell? ⟨B,1,none⟩=some v1/\(((u.setCell ⟨B,0,none⟩ v0).setCell ⟨B,1,none⟩ v1).setCell ⟨B,2,none⟩ v2).cell? ⟨B,2,none⟩=some v2/\((((u.setCell ⟨B,0,none⟩ v0).setCell ⟨B,1,none⟩ v1).setCell ⟨B,2,none⟩ v2).setCell ⟨B,3,none⟩ v3).cell? ⟨B,3,none⟩=some v3/\(((((u.setCell ⟨B,0,none⟩ v0).setCell ⟨B,1,none⟩ v1).setCell ⟨B,2,none⟩ v2).setCell ⟨B,3,none⟩ v3).setCell ⟨B,4,none⟩ v4).cell? ⟨B,4,none⟩=some v4/\((((((u.setCell ⟨B,0,none⟩ v0).setCell ⟨B,1,none⟩ v1).setCell ⟨B,2,none⟩ v2).setCell ⟨B,3,none⟩ v3).setCell ⟨B,4,none⟩ v4).setCell ⟨B,5,none⟩ v5).cell? ⟨B,5,none⟩=some v5:=by
 have h0:=heap_setCell_same u B 0 _ 29 v0 h;have h1:=heap_setCell_same _ B 1 _ 29 v1 h0;have h2:=heap_setCell_same _ B 2 _ 29 v2 h1;have h3:=heap_setCell_same _ B 3 _ 29 v3 h2;have h4:=heap_setCell_same _ B 4 _ 29 v4 h3;have h5:=heap_setCell_same _ B 5 _ 29 v5 h4;exact ⟨Lib.cell_of_heap h0 0,Lib.cell_of_heap h1 1,Lib.cell_of_heap h2 2,Lib.cell_of_heap h3 3,Lib.cell_of_heap h4 4,Lib.cell_of_heap h5 5⟩
theorem set6_below {u:World} {B m:Nat} (hm:m<=B) (v0 v1 v2 v3 v4 v5:Value):Below m u ((((((u.setCell ⟨B,0,none⟩ v0).setCell ⟨B,1,none⟩ v1).setCell ⟨B,2,none⟩ v2).setCell ⟨B,3,none⟩ v3).setCell ⟨B,4,none⟩ v4).setCell ⟨B,5,none⟩ v5):=
 ((((((Below.refl m u).setCell (by exact hm) _).setCell (by exact hm) _).setCell (by exact hm) _).setCell (by exact hm) _).setCell (by exact hm) _).setCell (by exact hm) _
theorem c71n (a:Option Addr) (cap:Nat) (T:List I3) (arg:ByteArray) (a2:Option Addr) (cap2:Nat) (reps:List R2) (w:World) (hs:∀ i,(T.getD i i3z).tx.size<=1048700) (hl:T.length<=1048576) (hat:InsAt w a T) (hno:okT T=false\/300<arg.size\/14<reps.length) (hsh:ShapesAt w) (har:arg.size<=1048576) (hrl:reps.length<=1048576):
 Calls prog 71 #[.agg #[.slice a T.length cap],.string arg,.slice a2 reps.length cap2] w fun e w'=>e=.returned (nextT T arg reps).v/\Below w.heap.size w w':=by
 have HIA:Hid (InsAt w a T):=hat;have HZ:Hid (nextT T arg reps=zeroT):=next_no (by
  rcases hno with h | h | h
  · exact .inl h
  · exact .inr (.inl h)
  exact .inr (.inr (.inl h)))
 have HSH:Hid (ShapesAt w):=hsh;clear hat hsh;have key:∀ w1:World,Below (w.heap.size+2) (W0 a T.length cap w) w1->Hid (Below w.heap.size w w1):=fun w1 h=>(W0_below a T.length cap w).trans (h.mono om_);by_cases hok:okT T=true;rotate_left
 · have hok':okT T=false:=by simpa using hok
   clear hno hok;go_enter func71,ntmps71
   go_wp2_with fail
   refine (c92 a cap T (W0 a T.length cap w) hs hl (ins_below HIA.out (W0_below _ _ _ _)) (shapes_below HSH.out (W0_below _ _ _ _))).mono ?_;rintro e w1 ⟨rfl,hb1⟩;rw [hok'];have hb:Below (w.heap.size+2) (W0 a T.length cap w) w1:=by rw [W0_size] at hb1;exact hb1
   obtain ⟨⟨t0,q0,q1,q2,q3,q4,q5⟩,hfz⟩:=W0_cells hb;go_wp2;obtain ⟨s0,s1,s2,s3,s4,s5⟩:=set6 (z6_heap hb) (.bool false) (.int .i64 0) (.string ⟨#[]⟩) (.bool false) (.string ⟨#[]⟩) (.int .i64 0);refine bodyPost_ret (v:=zeroT.v) (by simp [results,Tryz.results71,go_sem,s0,s1,s2,s3,s4,s5,zeroT,TN.v]) rfl ⟨by rw [HZ.out],?_⟩;exact (key w1 hb).out.trans (set6_below om_ _ _ _ _ _ _)
 have hno':300<arg.size\/14<reps.length:=by
  rcases hno with h | h
  · rw [hok] at h;cases h
  exact h
 clear hno;by_cases h300:300<arg.size
 · clear hno'
   go_enter func71,ntmps71
   go_wp2_with fail
   refine (c92 a cap T (W0 a T.length cap w) hs hl (ins_below HIA.out (W0_below _ _ _ _)) (shapes_below HSH.out (W0_below _ _ _ _))).mono ?_;rintro e w1 ⟨rfl,hb1⟩;rw [hok];have hb:Below (w.heap.size+2) (W0 a T.length cap w) w1:=by rw [W0_size] at hb1;exact hb1
   obtain ⟨⟨t0,q0,q1,q2,q3,q4,q5⟩,hfz⟩:=W0_cells hb;go_wp2;obtain ⟨s0,s1,s2,s3,s4,s5⟩:=set6 (z6_heap hb) (.bool false) (.int .i64 0) (.string ⟨#[]⟩) (.bool false) (.string ⟨#[]⟩) (.int .i64 0);refine bodyPost_ret (v:=zeroT.v) (by simp [results,Tryz.results71,go_sem,s0,s1,s2,s3,s4,s5,zeroT,TN.v]) rfl ⟨by rw [HZ.out],?_⟩;exact (key w1 hb).out.trans (set6_below om_ _ _ _ _ _ _)
 have h14:14<reps.length:=om_;clear hno';go_enter func71,ntmps71
 go_wp2_with fail
 refine (c92 a cap T (W0 a T.length cap w) hs hl (ins_below HIA.out (W0_below _ _ _ _)) (shapes_below HSH.out (W0_below _ _ _ _))).mono ?_;rintro e w1 ⟨rfl,hb1⟩;rw [hok];have hb:Below (w.heap.size+2) (W0 a T.length cap w) w1:=by rw [W0_size] at hb1;exact hb1
 obtain ⟨⟨t0,q0,q1,q2,q3,q4,q5⟩,hfz⟩:=W0_cells hb;go_wp2;obtain ⟨s0,s1,s2,s3,s4,s5⟩:=set6 (z6_heap hb) (.bool false) (.int .i64 0) (.string ⟨#[]⟩) (.bool false) (.string ⟨#[]⟩) (.int .i64 0);refine bodyPost_ret (v:=zeroT.v) (by simp [results,Tryz.results71,go_sem,s0,s1,s2,s3,s4,s5,zeroT,TN.v]) rfl ⟨by rw [HZ.out],?_⟩;exact (key w1 hb).out.trans (set6_below om_ _ _ _ _ _ _)
theorem c73 (c:Int) (t:ByteArray) (w:World):
 Calls prog 73 #[.int .i64 c,.string t] w fun e w'=>e=.returned (.agg #[.bool true,.int .i64 c,.string t,.bool false,.string ⟨#[]⟩,.int .i64 0])/\Below w.heap.size w w':=by
 go_enter func73,ntmps73;go_wp2;refine bodyPost_ret (v:=.agg #[.bool true,.int .i64 c,.string t,.bool false,.string ⟨#[]⟩,.int .i64 0]) (by simp [results,Tryz.results73,go_sem]) rfl ⟨rfl,?_⟩;exact bA
theorem c36 (nm tl ar:ByteArray) (w:World):
 Calls prog 36 #[.agg #[.string nm,.string tl,.string ar]] w fun e w'=>e=.returned (.agg #[.bool false,.int .i64 0,.string ⟨#[]⟩,.bool false,.string tl,.int .i64 0])/\Below w.heap.size w w':=by
 go_enter func36,ntmps36;go_wp2;refine bodyPost_ret (v:=.agg #[.bool false,.int .i64 0,.string ⟨#[]⟩,.bool false,.string tl,.int .i64 0]) (by simp [results,Tryz.results36,go_sem]) rfl ⟨rfl,?_⟩;exact bA.alloc sm_ _
theorem c37 (nm tl ar:ByteArray) (w:World):
 Calls prog 37 #[.agg #[.string nm,.string tl,.string ar]] w fun e w'=>∃ b0 b1 b2 b3,e=.returned (.func (.func 70) #[] #[.pointer (some ⟨b0,0,none⟩),.pointer (some ⟨b1,0,none⟩),.pointer (some ⟨b2,0,none⟩),.pointer (some ⟨b3,0,none⟩)])/\RunW w.heap.size b0 b1 b2 b3 w' nm tl ar rs0 (.slice none 0 0) (.slice none 0 0)/\Below w.heap.size w w':=by
 go_enter func37,ntmps37;go_wp2;go_ret;refine ⟨w.heap.size+1+1+1,w.heap.size+1+1,w.heap.size+1,w.heap.size,rfl,⟨om_,om_,om_,om_,?_,?_,?_,?_,World.ownsRow_nil _ _ _ _,World.ownsRow_nil _ _ _ _⟩,?_⟩
 · exact alloc_new sm_ _
 · rw [Lib.alloc_old _ _ _ sm_];exact alloc_new sm_ _
 · rw [Lib.alloc_old _ _ _ (by first | (simp;done) | (simp;omega)),Lib.alloc_old _ _ _ sm_];exact alloc_new sm_ _
 · rw [Lib.alloc_old _ _ _ (by first | (simp;done) | (simp;omega)),Lib.alloc_old _ _ _ (by first | (simp;done) | (simp;omega)),Lib.alloc_old _ _ _ sm_];exact alloc_new sm_ _
 exact ((bA.alloc sm_ _).alloc (by first | (simp;done) | (simp;omega)) _).alloc (by first | (simp;done) | (simp;omega)) _
theorem c57n (a:Option Addr) (cap:Nat) (T:List I3) (arg:ByteArray) (a2:Option Addr) (cap2:Nat) (reps:List R2) (w:World) (hs:∀ i,(T.getD i i3z).tx.size<=1048700) (hl:T.length<=1048576) (hat:InsAt w a T) (hno:okT T=false\/300<arg.size\/14<reps.length) (har:arg.size<=1048576) (hrl:reps.length<=1048576):
 Calls prog 57 #[.agg #[.slice a T.length cap],.string arg,.slice a2 reps.length cap2] w fun e w'=>e=.returned (nextT T arg reps).v/\Below w.heap.size w w':=by
 have HIA:Hid (InsAt w a T):=hat;have HZ:Hid (nextT T arg reps=zeroT):=next_no (by
  rcases hno with h | h | h
  · exact .inl h
  · exact .inr (.inl h)
  exact .inr (.inr (.inl h)))
 clear hat;have key:∀ w1:World,Below (w.heap.size+2) (W0 a T.length cap w) w1->Hid (Below w.heap.size w w1):=fun w1 h=>(W0_below a T.length cap w).trans (h.mono om_);by_cases hok:okT T=true;rotate_left
 · have hok':okT T=false:=by simpa using hok
   clear hno hok;go_enter func57,ntmps57
   go_wp2_with fail
   refine (c77 a cap T (W0 a T.length cap w) hs hl (ins_below HIA.out (W0_below _ _ _ _))).mono ?_;rintro e w1 ⟨rfl,hb1⟩;rw [hok'];have hb:Below (w.heap.size+2) (W0 a T.length cap w) w1:=by rw [W0_size] at hb1;exact hb1
   obtain ⟨⟨t0,q0,q1,q2,q3,q4,q5⟩,hfz⟩:=W0_cells hb;go_wp2;obtain ⟨s0,s1,s2,s3,s4,s5⟩:=set6 (z6_heap hb) (.bool false) (.int .i64 0) (.string ⟨#[]⟩) (.bool false) (.string ⟨#[]⟩) (.int .i64 0);refine bodyPost_ret (v:=zeroT.v) (by simp [results,Tryz.results57,go_sem,s0,s1,s2,s3,s4,s5,zeroT,TN.v]) rfl ⟨by rw [HZ.out],?_⟩;exact (key w1 hb).out.trans (set6_below om_ _ _ _ _ _ _)
 have hno':300<arg.size\/14<reps.length:=by
  rcases hno with h | h
  · rw [hok] at h;cases h
  exact h
 clear hno;by_cases h300:300<arg.size
 · clear hno'
   go_enter func57,ntmps57
   go_wp2_with fail
   refine (c77 a cap T (W0 a T.length cap w) hs hl (ins_below HIA.out (W0_below _ _ _ _))).mono ?_;rintro e w1 ⟨rfl,hb1⟩;rw [hok];have hb:Below (w.heap.size+2) (W0 a T.length cap w) w1:=by rw [W0_size] at hb1;exact hb1
   obtain ⟨⟨t0,q0,q1,q2,q3,q4,q5⟩,hfz⟩:=W0_cells hb;go_wp2;obtain ⟨s0,s1,s2,s3,s4,s5⟩:=set6 (z6_heap hb) (.bool false) (.int .i64 0) (.string ⟨#[]⟩) (.bool false) (.string ⟨#[]⟩) (.int .i64 0);refine bodyPost_ret (v:=zeroT.v) (by simp [results,Tryz.results57,go_sem,s0,s1,s2,s3,s4,s5,zeroT,TN.v]) rfl ⟨by rw [HZ.out],?_⟩;exact (key w1 hb).out.trans (set6_below om_ _ _ _ _ _ _)
 have h14:14<reps.length:=om_;clear hno';go_enter func57,ntmps57
 go_wp2_with fail
 refine (c77 a cap T (W0 a T.length cap w) hs hl (ins_below HIA.out (W0_below _ _ _ _))).mono ?_;rintro e w1 ⟨rfl,hb1⟩;rw [hok];have hb:Below (w.heap.size+2) (W0 a T.length cap w) w1:=by rw [W0_size] at hb1;exact hb1
 obtain ⟨⟨t0,q0,q1,q2,q3,q4,q5⟩,hfz⟩:=W0_cells hb;go_wp2;obtain ⟨s0,s1,s2,s3,s4,s5⟩:=set6 (z6_heap hb) (.bool false) (.int .i64 0) (.string ⟨#[]⟩) (.bool false) (.string ⟨#[]⟩) (.int .i64 0);refine bodyPost_ret (v:=zeroT.v) (by simp [results,Tryz.results57,go_sem,s0,s1,s2,s3,s4,s5,zeroT,TN.v]) rfl ⟨by rw [HZ.out],?_⟩;exact (key w1 hb).out.trans (set6_below om_ _ _ _ _ _ _)
end Go.Proofs.YthjhakdpikdoeaaGreatDoor

import Derived.Test.YtlckdgjfniglfaaGreatDoorMF
import Derived.Test.YtlckdgjfniglfaaGreatDoorS1
import Derived.Test.YtlckdgjfniglfaaGreatDoorD7
import Derived.Test.YtlckdgjfniglfaaGreatDoorK6
set_option linter.unusedVariables false
set_option linter.unusedSimpArgs false
set_option maxHeartbeats 8000000
set_option maxRecDepth 100000
namespace Go.Proofs.YtlckdgjfniglfaaGreatDoor
open Proofs.Tryz
open Go.RowKit Go.Maps
theorem keepF_two {s:St} {m:M3} {ls:List L4} {c:Int} {t:ByteArray} (h:StOk s) (h2:¬ RanOk m ls c t):keepF s m ls c t=(st0,2):=by
 simp [keepF,h,h2]
theorem glC_gC (W:Int) (ls:List L4):glC W ls=gC (ls.map (recG W)):=by
 unfold glC gC;rw [List.flatMap_map];rfl
theorem putAll_small {W:Int} {ts fs T:List ByteArray} {b:Bool} (h:putAll W fs (ts,true)=(T,b)) (h1:∀ i,(ts.getD i ByteArray.empty).size<=1048700) (h2:∀ x∈fs,x.size<=1048700):∀ i,(T.getD i ByteArray.empty).size<=1048700:=fun i=>by
 rcases Nat.lt_or_ge i T.length with hi | hi
 · have hm:=getD_memT hi
   have e:T=(putAll W fs (ts,true)).1:=by rw [h]
   rw [e] at hm;rcases putAll_mem fs _ hm with hx | hx
   · rw [e];exact h2 _ hx
   · obtain ⟨j,hj,e2⟩:=List.getElem_of_mem hx
     have:=h1 j;simp only [List.getD,List.getElem?_eq_getElem hj,Option.getD_some] at this;rw [e,<- e2];exact this
 · have:T.getD i ByteArray.empty=ByteArray.empty:=by simp [List.getD,List.getElem?_eq_none hi]
   rw [this];exact Nat.zero_le _
theorem fmK_small {ls:List L4} (h:∀ i,(ls.getD i l4z).le 1048576) (k:Nat):∀ x∈fmK ls k,x.size<=1048700:=by
 have hm:∀ l:List L4,(∀ y∈l,y.tx.size<=1048576)->∀ x∈(askR l).map (fun r=>fmR r.1 r.2),x.size<=1048700:=by
  intro l
  induction l with
  | nil=>intro _ x hx;simp [askR] at hx
  | cons y r ih=>
   intro hl x hx;unfold askR at hx;split at hx
   · exact ih (fun z hz=>hl z (List.mem_cons_of_mem _ hz)) x hx
   · rw [List.map_cons] at hx
     rcases List.mem_cons.1 hx with rfl | hx
     · have:=fm_size y.cd y.tx
       have:=hl y List.mem_cons_self;simp only [];omega
     · exact ih (fun z hz=>hl z (List.mem_cons_of_mem _ hz)) x hx
 refine hm _ fun y hy=>?_;obtain ⟨j,hj,e⟩:=List.getElem_of_mem (List.mem_of_mem_take hy);have:=(h j).2;simp only [List.getD,List.getElem?_eq_getElem hj,Option.getD_some] at this;rw [<- e];exact this
theorem lc_app {V V1 V2 V5:World} {N A:Nat} {W0:Int} {ts:List ByteArray} {g c:Nat} {P:List R3} {a2 a5 a6:Option Addr} {c2 c905 c906:Nat} {vs:List Value} {y:R3} (h:LC V N A W0 ts g c P a2 c2 vs V1) {n:Nat} (hn:y.gs.length=n) (h12:Below V1.heap.size V1 V2) (h5:V2.ownsRow V1.heap.size 119 3 (.slice a5 n c905) n (gC y.gs))
 (hown:V5.ownsRow N 96 3 (.slice a6 (P.length+1) c906) (P.length+1) (rC P vs++[.string y.key,(.slice a5 n c905),.string y.out])) (hgrow:(V2.alloc (.cells #[.string y.key,.slice a5 n c905,.string y.out] 96)).grownBy V5 (Value.slice a2 P.length c2).ownBlock):
 LC V N A W0 ts g c (P++[y]) a6 c906 (vs++[.slice a5 n c905]) (V5.setCell ⟨A,2,none⟩ (.slice a6 (P.length+1) c906)):=by
 subst hn;have hA:=ofT_lt h.t1;have hNA:=h.na;have s12:=h12.size;have s4:(V2.alloc (.cells #[.string y.key,.slice a5 y.gs.length c905,.string y.out] 96)).heap.size=V2.heap.size+1:=sm_;have s5:=hgrow.size;have sT:(V5.setCell ⟨A,2,none⟩ (.slice a6 (P.length+1) c906)).heap.size=V5.heap.size:=sm_;have hrl:∀ k,(Value.slice a2 P.length c2).ownBlock=some k->k<V1.heap.size:=fun k e=>own_lt h.rc.row e;have neS:some A≠(Value.slice a2 P.length c2).ownBlock:=fun e=>absurd (ofT_one h.t1 (own_ofT h.rc.row e.symm)) dc_;have H2:∀ k,k<V2.heap.size->k≠A->(Value.slice a2 P.length c2).ownBlock≠some k->(V5.setCell ⟨A,2,none⟩ (.slice a6 (P.length+1) c906)).heap[k]?=V2.heap[k]?:=fun k hk hkS hkr=>by
  rw [Below.heap_setCell _ _ _ _ (by exact hkS)];refine (hgrow.block k om_ (fun e=>hkr e.symm)).trans ?_;exact Below.heap_alloc _ _ k hk
 have H1:∀ k,k<V1.heap.size->k≠A->(Value.slice a2 P.length c2).ownBlock≠some k->(V5.setCell ⟨A,2,none⟩ (.slice a6 (P.length+1) c906)).heap[k]?=V1.heap[k]?:=fun k hk hkS hkr=>(H2 k om_ hkS hkr).trans (h12.block k hk);have HT:∀ k t,OfT V1 k t->t≠96->t≠29->(V5.setCell ⟨A,2,none⟩ (.slice a6 (P.length+1) c906)).heap[k]?=V1.heap[k]?:=fun k t hT ht ht2=>by
  refine H1 k (ofT_lt hT) (fun e=>ht2 ?_) (fun e=>ht ?_)
  · subst e;exact ofT_one hT h.t1
  · exact ofT_one hT (own_ofT h.rc.row e)
 have b4:BlkAt (V2.alloc (.cells #[.string y.key,.slice a5 y.gs.length c905,.string y.out] 96)) A [.int .i64 W0,.slice (some ⟨g,0,none⟩) ts.length c,.slice a2 P.length c2]:=(h.bl.below h12 om_).below (N:=V2.heap.size) ((Below.refl _ _).alloc sm_ _) om_;have o4:OpnAt (V2.alloc (.cells #[.string y.key,.slice a5 y.gs.length c905,.string y.out] 96)) A:=(h.op.below h12 om_).below (N:=V2.heap.size) ((Below.refl _ _).alloc sm_ _) om_;have b5:=blk_kept b4 hgrow om_ neS;have o5:=opn_kept o4 hgrow om_ neS;have b6:BlkAt (V5.setCell ⟨A,2,none⟩ (.slice a6 (P.length+1) c906)) A [.int .i64 W0,.slice (some ⟨g,0,none⟩) ts.length c,.slice a6 (P.length+1) c906]:=b5.set 2 _ sm_;have t4:OfT V5 A 29:=by
  obtain ⟨cur,fr,e⟩:=h.t1;refine ⟨cur,fr,(hgrow.block _ om_ neS).trans ((Below.heap_alloc _ _ _ om_).trans ?_)⟩;exact (h12.block _ om_).trans e
 have bT:Below N V (V5.setCell ⟨A,2,none⟩ (.slice a6 (P.length+1) c906)):=⟨(hgrow.os.trans (h12.os)).trans h.bw.os,(hgrow.tape.trans (h12.tape)).trans h.bw.tape,(hgrow.output.trans (h12.output)).trans h.bw.output,by have:=h.bw.size;omega,fun k hk=>(H1 k om_ om_ (fun e=>by have:=own_blk h.rc.row e;omega)).trans (h.bw.block k hk)⟩;have h5T:(V5.setCell ⟨A,2,none⟩ (.slice a6 (P.length+1) c906)).ownsRow N 119 3 (.slice a5 y.gs.length c905) y.gs.length (gC y.gs):=own_low (own_keep' h5 (fun q hq=>H2 q (own_lt h5 hq) (fun e=>by have:=own_blk h5 hq;omega) (fun e=>by have:=hrl q e;have:=own_blk h5 hq;omega))) om_;have e1:(P++[y]).length=P.length+1:=sm_;refine ⟨by rw [e1];exact b6,?_,own_keep' h.tr (fun q hq=>HT q 9 (own_ofT h.tr hq) dc_ dc_),o5.set _ _,ofT_set t4 2 _,hNA,bT⟩;rw [e1];refine rec_push h.rc h5T (own_keep' hown (fun q hq=>Below.heap_setCell _ _ _ _ (fun e=>?_))) (fun q hq=>HT q 119 hq dc_ dc_) (fun q hq=>own_blk h5 hq);have e':q=A:=e;exact absurd (ofT_one (own_ofT hown hq) (e'▸t4)) dc_
theorem mem_iff_at {rs:List R3} {x:R3} {b:Bool} (h:b=true↔∃ j,j<rs.length/\rs.getD j r3z=x):b=true↔x∈rs:=by
 rw [h];constructor
 · rintro ⟨j,hj,e⟩
   simp only [List.getD,List.getElem?_eq_getElem hj,Option.getD_some] at e;rw [<- e];exact List.getElem_mem hj
 · intro hm
   obtain ⟨j,hj,e⟩:=List.getElem_of_mem hm;refine ⟨j,hj,?_⟩;simp only [List.getD,List.getElem?_eq_getElem hj,Option.getD_some];exact e
theorem keepF_3 {s:St} {m:M3} {ls:List L4} {c:Int} {t:ByteArray} {T:List ByteArray} (h:StOk s) (h2:RanOk m ls c t) (h3:putAll s.wd (fmL ls c t) (s.ts,true)=(T,false)):keepF s m ls c t=(st0,3):=by
 simp [keepF,h,h2,h3]
theorem keepF_4 {s:St} {m:M3} {ls:List L4} {c:Int} {t:ByteArray} {T:List ByteArray} {P:List R3} (h:StOk s) (h2:RanOk m ls c t) (h3:putAll s.wd (fmL ls c t) (s.ts,true)=(T,true)) (h4:putR s.rs (recR s.wd m ls c t)=P) (h5:300<T.length\/150<P.length):keepF s m ls c t=(st0,4):=by
 simp only [keepF,h,h2,h3,h4,h5,not_true_eq_false,if_false,if_true];simp
theorem keepF_0 {s:St} {m:M3} {ls:List L4} {c:Int} {t:ByteArray} {T:List ByteArray} {P:List R3} (h:StOk s) (h2:RanOk m ls c t) (h3:putAll s.wd (fmL ls c t) (s.ts,true)=(T,true)) (h4:putR s.rs (recR s.wd m ls c t)=P) (h5:¬ 300<T.length) (h6:¬ 150<P.length):keepF s m ls c t=(⟨s.wd,T,P⟩,0):=by
 simp [keepF,h,h2,h3,h4,h5,h6]
theorem st_gs {s:St} (h:StOk s) (i:Nat):(s.rs.getD i r3z).gs.length<=1000:=by
 by_cases hi:i<s.rs.length
 · exact Nat.le_trans (h.2.2.2 i hi).1.2.2 dc_
 · simp [List.getD,List.getElem?_eq_none (Nat.le_of_not_lt hi),r3z]
theorem strs_own {w:World} {b0:Nat} {ta:Option Addr} {tc:Nat} {ts:List ByteArray} (h:w.ownsRow b0 9 1 (.slice ta ts.length tc) ts.length (ts.map Value.string)):StrsAt w ta ts:=by
 rcases h.2 with ⟨_,h0⟩ | ⟨g,cap,cur,hv,_⟩
 · exact .inl (List.length_eq_zero_iff.1 h0)
 · injection hv with hv _ h3
   subst hv h3;obtain ⟨h1,_,_,h4⟩:=row_strs h;exact .inr ⟨g,0,rfl,h1,fun i hi=>by rw [Nat.zero_add];exact h4 i hi⟩
theorem stAt_own {w:World} {b0:Nat} {ta ra:Option Addr} {tc rc:Nat} {s:St} (h:StOwn w b0 s.ts s.rs (.slice ta s.ts.length tc) (.slice ra s.rs.length rc)):StAt w ta ra s:=by
 obtain ⟨h1,vs,h2⟩:=h;exact ⟨strs_own h1,recs_own h2⟩
theorem c38 (s:St) (m:M3) (ls:List L4) (c:Int) (t:ByteArray) (b0:Nat) (ta ra la:Option Addr) (tc rc lc:Nat) (w:World) (hs:s.le 1048576) (hm:m.le 1048576) (hl:ls.length<=1048576) (hls:∀ i,(ls.getD i l4z).le 1048576) (ht:t.size<=1048576) (hst:StOwn w b0 s.ts s.rs (.slice ta s.ts.length tc) (.slice ra s.rs.length rc)) (hla:LksAt w la ls):
 Calls prog 38 #[.agg #[.int .i64 s.wd,.slice ta s.ts.length tc,.slice ra s.rs.length rc],.agg #[.string m.nm,.string m.tl,.string m.ar],.slice la ls.length lc,.agg #[.int .i64 c,.string t]] w fun e w'=>IsKeep s m ls c t w.heap.size w' e/\Below w.heap.size w w':=by
 have BW0:Below w.heap.size w ((((w.alloc (.cells #[.int .i64 s.wd,.slice ta s.ts.length tc,.slice ra s.rs.length rc] 29)).alloc (.cells #[.string m.nm,.string m.tl,.string m.ar] 42)).alloc (.cells #[.int .i64 c,.string t] 45)).alloc (.cells #[.int .i64 0,.slice none 0 0,.slice none 0 0] 29)):=((bA_.alloc sm_ _).alloc so_ _).alloc so_ _;have s0:((((w.alloc (.cells #[.int .i64 s.wd,.slice ta s.ts.length tc,.slice ra s.rs.length rc] 29)).alloc (.cells #[.string m.nm,.string m.tl,.string m.ar] 42)).alloc (.cells #[.int .i64 c,.string t] 45)).alloc (.cells #[.int .i64 0,.slice none 0 0,.slice none 0 0] 29)).heap.size=w.heap.size+4:=sm_;have z1:(w.alloc (.cells #[.int .i64 s.wd,.slice ta s.ts.length tc,.slice ra s.rs.length rc] 29)).heap.size=w.heap.size+1:=sm_;have z2:((w.alloc (.cells #[.int .i64 s.wd,.slice ta s.ts.length tc,.slice ra s.rs.length rc] 29)).alloc (.cells #[.string m.nm,.string m.tl,.string m.ar] 42)).heap.size=w.heap.size+2:=sm_;have z3:(((w.alloc (.cells #[.int .i64 s.wd,.slice ta s.ts.length tc,.slice ra s.rs.length rc] 29)).alloc (.cells #[.string m.nm,.string m.tl,.string m.ar] 42)).alloc (.cells #[.int .i64 c,.string t] 45)).heap.size=w.heap.size+3:=sm_;have hb1:Below (w.heap.size+1) (w.alloc (.cells #[.int .i64 s.wd,.slice ta s.ts.length tc,.slice ra s.rs.length rc] 29)) ((((w.alloc (.cells #[.int .i64 s.wd,.slice ta s.ts.length tc,.slice ra s.rs.length rc] 29)).alloc (.cells #[.string m.nm,.string m.tl,.string m.ar] 42)).alloc (.cells #[.int .i64 c,.string t] 45)).alloc (.cells #[.int .i64 0,.slice none 0 0,.slice none 0 0] 29)):=(((Below.refl _ _).alloc sm_ _).alloc sm_ _).alloc sm_ _;have hb2:Below (w.heap.size+2) ((w.alloc (.cells #[.int .i64 s.wd,.slice ta s.ts.length tc,.slice ra s.rs.length rc] 29)).alloc (.cells #[.string m.nm,.string m.tl,.string m.ar] 42)) ((((w.alloc (.cells #[.int .i64 s.wd,.slice ta s.ts.length tc,.slice ra s.rs.length rc] 29)).alloc (.cells #[.string m.nm,.string m.tl,.string m.ar] 42)).alloc (.cells #[.int .i64 c,.string t] 45)).alloc (.cells #[.int .i64 0,.slice none 0 0,.slice none 0 0] 29)):=((Below.refl _ _).alloc sm_ _).alloc sm_ _;have hb3:Below (w.heap.size+3) (((w.alloc (.cells #[.int .i64 s.wd,.slice ta s.ts.length tc,.slice ra s.rs.length rc] 29)).alloc (.cells #[.string m.nm,.string m.tl,.string m.ar] 42)).alloc (.cells #[.int .i64 c,.string t] 45)) ((((w.alloc (.cells #[.int .i64 s.wd,.slice ta s.ts.length tc,.slice ra s.rs.length rc] 29)).alloc (.cells #[.string m.nm,.string m.tl,.string m.ar] 42)).alloc (.cells #[.int .i64 c,.string t] 45)).alloc (.cells #[.int .i64 0,.slice none 0 0,.slice none 0 0] 29)):=(Below.refl _ _).alloc sm_ _;have BS0:Hid (BlkAt ((((w.alloc (.cells #[.int .i64 s.wd,.slice ta s.ts.length tc,.slice ra s.rs.length rc] 29)).alloc (.cells #[.string m.nm,.string m.tl,.string m.ar] 42)).alloc (.cells #[.int .i64 c,.string t] 45)).alloc (.cells #[.int .i64 0,.slice none 0 0,.slice none 0 0] 29)) w.heap.size [.int .i64 s.wd,.slice ta s.ts.length tc,.slice ra s.rs.length rc]):=hI_ ((blk_new w [.int .i64 s.wd,.slice ta s.ts.length tc,.slice ra s.rs.length rc] 29).below hb1 om_);have BM0:Hid (BlkAt ((((w.alloc (.cells #[.int .i64 s.wd,.slice ta s.ts.length tc,.slice ra s.rs.length rc] 29)).alloc (.cells #[.string m.nm,.string m.tl,.string m.ar] 42)).alloc (.cells #[.int .i64 c,.string t] 45)).alloc (.cells #[.int .i64 0,.slice none 0 0,.slice none 0 0] 29)) (w.heap.size+1) [.string m.nm,.string m.tl,.string m.ar]):=by have h:=blk_new (w.alloc (.cells #[.int .i64 s.wd,.slice ta s.ts.length tc,.slice ra s.rs.length rc] 29)) [.string m.nm,.string m.tl,.string m.ar] 42;rw [z1] at h;exact h.below hb2 om_
 have BC0:Hid (BlkAt ((((w.alloc (.cells #[.int .i64 s.wd,.slice ta s.ts.length tc,.slice ra s.rs.length rc] 29)).alloc (.cells #[.string m.nm,.string m.tl,.string m.ar] 42)).alloc (.cells #[.int .i64 c,.string t] 45)).alloc (.cells #[.int .i64 0,.slice none 0 0,.slice none 0 0] 29)) (w.heap.size+2) [.int .i64 c,.string t]):=by have h:=blk_new ((w.alloc (.cells #[.int .i64 s.wd,.slice ta s.ts.length tc,.slice ra s.rs.length rc] 29)).alloc (.cells #[.string m.nm,.string m.tl,.string m.ar] 42)) [.int .i64 c,.string t] 45;rw [z2] at h;exact h.below hb3 om_
 have BZ0:Hid (BlkAt ((((w.alloc (.cells #[.int .i64 s.wd,.slice ta s.ts.length tc,.slice ra s.rs.length rc] 29)).alloc (.cells #[.string m.nm,.string m.tl,.string m.ar] 42)).alloc (.cells #[.int .i64 c,.string t] 45)).alloc (.cells #[.int .i64 0,.slice none 0 0,.slice none 0 0] 29)) (w.heap.size+3) [.int .i64 0,.slice none 0 0,.slice none 0 0]):=by have h:=blk_new (((w.alloc (.cells #[.int .i64 s.wd,.slice ta s.ts.length tc,.slice ra s.rs.length rc] 29)).alloc (.cells #[.string m.nm,.string m.tl,.string m.ar] 42)).alloc (.cells #[.int .i64 c,.string t] 45)) [.int .i64 0,.slice none 0 0,.slice none 0 0] 29;rw [z3] at h;exact h
 have OZ0:Hid (OpnAt ((((w.alloc (.cells #[.int .i64 s.wd,.slice ta s.ts.length tc,.slice ra s.rs.length rc] 29)).alloc (.cells #[.string m.nm,.string m.tl,.string m.ar] 42)).alloc (.cells #[.int .i64 c,.string t] 45)).alloc (.cells #[.int .i64 0,.slice none 0 0,.slice none 0 0] 29)) (w.heap.size+3)):=by have h:=opn_new (((w.alloc (.cells #[.int .i64 s.wd,.slice ta s.ts.length tc,.slice ra s.rs.length rc] 29)).alloc (.cells #[.string m.nm,.string m.tl,.string m.ar] 42)).alloc (.cells #[.int .i64 c,.string t] 45)) #[.int .i64 0,.slice none 0 0,.slice none 0 0] 29;rw [z3] at h;exact h
 have y0:=BS0.out 0 _ rfl;have y1:=BS0.out 1 _ rfl;have y2:=BS0.out 2 _ rfl;have HST:=hI_ hst;have HL:=hI_ hla;have h22:=c69 ta ra tc rc s _ hs ((stAt_own hst).below BW0);have S0:=hI_ s0;clear hst hla hb1 hb2 hb3 z1 z2 z3 s0;obtain ⟨iR,hi1,jz0,jz1,jz2⟩:=info_parts' info96';go_enter func38,ntmps38
 go_wp2_with fail
 refine h22.mono ?_;rintro e w1 ⟨⟨bo,rfl,hbo⟩,hb1⟩;clear h22;generalize ((((w.alloc (.cells #[.int .i64 s.wd,.slice ta s.ts.length tc,.slice ra s.rs.length rc] 29)).alloc (.cells #[.string m.nm,.string m.tl,.string m.ar] 42)).alloc (.cells #[.int .i64 c,.string t] 45)).alloc (.cells #[.int .i64 0,.slice none 0 0,.slice none 0 0] 29))=U3 at*;rw [S0.out] at hb1;have s1:w.heap.size+4<=w1.heap.size:=by have:=hb1.size;rw [S0.out] at this;exact this
 have BW1:Below w.heap.size w w1:=BW0.trans (hb1.mono om_);cases bo
 · have HK:=hI_ (keepF_no (m:=m) (ls:=ls) (c:=c) (t:=t) (fun h=>absurd (hbo.2 h) dc_))
   clear hbo y0 y1 y2;have p0:=(BZ0.out.below hb1 om_) 0 _ rfl;have p1:=(BZ0.out.below hb1 om_) 1 _ rfl;have p2:=(BZ0.out.below hb1 om_) 2 _ rfl;have o0:=(OZ0.out.below hb1 om_) 0;have o1:=(OZ0.out.below hb1 om_) 1;have o2:=(OZ0.out.below hb1 om_) 2;have ZT:BlkAt (((w1.setCell ⟨w.heap.size+3,0,none⟩ (.int .i64 0)).setCell ⟨w.heap.size+3,1,none⟩ (.slice none 0 0)).setCell ⟨w.heap.size+3,2,none⟩ (.slice none 0 0)) (w.heap.size+3) [.int .i64 0,.slice none 0 0,.slice none 0 0]:=(((BZ0.out.below hb1 om_).set 0 _ sm_).set 1 _ sm_).set 2 _ sm_;have e0:=ZT 0 _ rfl;have e1:=ZT 1 _ rfl;have e2:=ZT 2 _ rfl;have BT:Below w.heap.size w (((w1.setCell ⟨w.heap.size+3,0,none⟩ (.int .i64 0)).setCell ⟨w.heap.size+3,1,none⟩ (.slice none 0 0)).setCell ⟨w.heap.size+3,2,none⟩ (.slice none 0 0)):=(((BW1).setCell (p:=⟨w.heap.size+3,0,none⟩) (by show w.heap.size<=w.heap.size+3;omega) _).setCell (p:=⟨w.heap.size+3,1,none⟩) (by show w.heap.size<=w.heap.size+3;omega) _).setCell (p:=⟨w.heap.size+3,2,none⟩) (by show w.heap.size<=w.heap.size+3;omega) _;clear ZT;go_wp2;refine bodyPost_ret (v:=.tuple #[.agg #[.int .i64 0,.slice none 0 0,.slice none 0 0],.int .i64 1]) (by simp [results,Tryz.results38,go_sem,e0,e1,e2]) rfl ⟨isKeep_st0 HK.out,BT⟩
 · have HOK:=hI_ (hbo.1 rfl)
   have m0:=(BM0.out.below hb1 om_) 0 _ rfl;have m1:=(BM0.out.below hb1 om_) 1 _ rfl;have m2:=(BM0.out.below hb1 om_) 2 _ rfl;have q0:=(BC0.out.below hb1 om_) 0 _ rfl;have q1:=(BC0.out.below hb1 om_) 1 _ rfl;have h23:=c63 m ls c t la lc w1 hm hl hls ht (lks_below HL.out BW1);clear hbo y0 y1 y2
   go_wp2_with fail
   refine h23.mono ?_;rintro e w2 ⟨⟨b2,rfl,hb2o⟩,hb2⟩;clear h23 m0 m1 m2 q0 q1;have k2:Below (w.heap.size+4) U3 w2:=hb1.trans (hb2.mono s1);have s2:w.heap.size+4<=w2.heap.size:=by have:=k2.size;rw [S0.out] at this;exact this
   have BW2:Below w.heap.size w w2:=BW0.trans (k2.mono om_);cases b2
   · have HK:=hI_ (keepF_two (s:=s) HOK.out (show ¬ RanOk m ls c t from fun h=>absurd (hb2o.2 h) dc_))
     clear hb2o;have p0:=(BZ0.out.below k2 om_) 0 _ rfl;have p1:=(BZ0.out.below k2 om_) 1 _ rfl;have p2:=(BZ0.out.below k2 om_) 2 _ rfl;have o0:=(OZ0.out.below k2 om_) 0;have o1:=(OZ0.out.below k2 om_) 1;have o2:=(OZ0.out.below k2 om_) 2;have ZT:BlkAt (((w2.setCell ⟨w.heap.size+3,0,none⟩ (.int .i64 0)).setCell ⟨w.heap.size+3,1,none⟩ (.slice none 0 0)).setCell ⟨w.heap.size+3,2,none⟩ (.slice none 0 0)) (w.heap.size+3) [.int .i64 0,.slice none 0 0,.slice none 0 0]:=(((BZ0.out.below k2 om_).set 0 _ sm_).set 1 _ sm_).set 2 _ sm_;have e0:=ZT 0 _ rfl;have e1:=ZT 1 _ rfl;have e2:=ZT 2 _ rfl;have BT:Below w.heap.size w (((w2.setCell ⟨w.heap.size+3,0,none⟩ (.int .i64 0)).setCell ⟨w.heap.size+3,1,none⟩ (.slice none 0 0)).setCell ⟨w.heap.size+3,2,none⟩ (.slice none 0 0)):=(((BW2).setCell (p:=⟨w.heap.size+3,0,none⟩) (by show w.heap.size<=w.heap.size+3;omega) _).setCell (p:=⟨w.heap.size+3,1,none⟩) (by show w.heap.size<=w.heap.size+3;omega) _).setCell (p:=⟨w.heap.size+3,2,none⟩) (by show w.heap.size<=w.heap.size+3;omega) _;clear ZT;go_wp2;refine bodyPost_ret (v:=.tuple #[.agg #[.int .i64 0,.slice none 0 0,.slice none 0 0],.int .i64 2]) (by simp [results,Tryz.results38,go_sem,e0,e1,e2]) rfl ⟨isKeep_st0 HK.out,BT⟩
   · have HRK:=hI_ (hb2o.1 rfl)
     have x0:=(BS0.out.below k2 om_) 0 _ rfl;have x1:=(BS0.out.below k2 om_) 1 _ rfl;have x2:=(BS0.out.below k2 om_) 2 _ rfl;have h24:=c70 s b0 (.slice ta s.ts.length tc) (.slice ra s.rs.length rc) w2 (Nat.le_trans HOK.out.2.1.1 dc_) (Nat.le_trans HOK.out.2.2.1 dc_) (st_gs HOK.out) (stOwn_below HST.out BW2);clear hb2o
     go_wp2_with (refine h24.mono ?_;rintro e w3 ⟨⟨g3,c3,ra3,rc3,rfl,hso⟩,hb3⟩)
     clear h24 x0 x1 x2;obtain ⟨hso1,vs,hso2⟩:=hso;have k3:Below (w.heap.size+4) U3 w3:=k2.trans (hb3.mono s2);have s3:w.heap.size+4<=w3.heap.size:=by have:=k3.size;rw [S0.out] at this;exact this
     have kA:Below w3.heap.size w3 (w3.alloc (.cells #[.int .i64 s.wd,.slice (some ⟨g3,0,none⟩) s.ts.length c3,.slice ra3 s.rs.length rc3] 29)):=bA_;have LC0:Hid (LC U3 (w.heap.size+4) w3.heap.size s.wd s.ts g3 c3 s.rs ra3 rc3 vs (w3.alloc (.cells #[.int .i64 s.wd,.slice (some ⟨g3,0,none⟩) s.ts.length c3,.slice ra3 s.rs.length rc3] 29))):=hI_ ⟨blk_new w3 [.int .i64 s.wd,.slice (some ⟨g3,0,none⟩) s.ts.length c3,.slice ra3 s.rs.length rc3] 29,⟨hso2.len,own_low (own_below hso2.row kA) s2,fun i hi=>by
      obtain ⟨a3,c3',e,h3⟩:=hso2.gl i hi;exact ⟨a3,c3',e,own_low (own_below h3 kA) s2⟩,hso2.apart⟩,own_low (own_below hso1 kA) s2,opn_new w3 #[.int .i64 s.wd,.slice (some ⟨g3,0,none⟩) s.ts.length c3,.slice ra3 s.rs.length rc3] 29,ofT_new w3 #[.int .i64 s.wd,.slice (some ⟨g3,0,none⟩) s.ts.length c3,.slice ra3 s.rs.length rc3] 29,s3,k3.alloc s3 _⟩
     have hAz:w.heap.size+4<=w3.heap.size:=s3;generalize hA:w3.heap.size=A at*;clear hso1 hso2;go_loopw [11,12] (fun f i wr=>∃ (k:Nat) (T:List ByteArray) (b:Bool) (gg cc:Nat),k<=ls.length/\i=.int .i64 k/\f=.bool b/\Hid (putAll s.wd (fmK ls k) (s.ts,true)=(T,b))/\Hid (LC U3 (w.heap.size+4) A s.wd T gg cc s.rs ra3 rc3 vs wr)) (fun _ i _=>ls.length - (Go.RowKit.intOf i).toNat)
     case atStart=>exact ⟨0,s.ts,true,g3,c3,Nat.zero_le _,rfl,rfl,by show _=_;simp [fmK,askR,putAll],LC0⟩
     case round=>
      obtain ⟨k,T,b,gg,cc,hk,rfl,rfl,HPA,HLC⟩:=hrel;have hbw:Below (w.heap.size+4) U3 wr:=HLC.out.bw;have BWr:Below w.heap.size w wr:=BW0.trans (hbw.mono om_);have hwr:w.heap.size+4<=wr.heap.size:=by have:=hbw.size;rw [S0.out] at this;exact this
      by_cases hlt:k<ls.length
      · rcases lks_below HL.out BWr with he | ⟨lb,lq,hla2,hlb,hcell⟩
        · rw [he] at hlt;exact absurd hlt (Nat.not_lt_zero _)
        subst hla2;obtain ⟨l0,l1,l2,l3⟩:=hcell k hlt;have htx:=(hls k).2;have HFN:=hI_ (fmK_next hlt);generalize ls.getD k l4z=x at*;clear hcell;cases hh:x.has
        · rw [hh] at l0
          obtain ⟨fm,hfm⟩:∃ fm,fmR x.cd x.tx=fm:=⟨_,rfl⟩;have hfs:fm.size<=1048700:=by rw [<- hfm];have:=fm_size x.cd x.tx;omega
          obtain ⟨T',b',hp⟩:∃ T' b',putT s.wd fm T=(T',b'):=⟨_,_,rfl⟩;have hTl:T.length<=1000000:=by
           have h:=putAll_len' s.wd (fmK ls k) (s.ts,true);rw [HPA.out] at h;have:=fmK_len ls k;have:=HOK.out.2.1.1;have:=HRK.out.2.1.1;simp only [] at h;omega
          have hTA:AscT s.wd T:=by have h:=putAll_asc (a:=fmK ls k) (b:=true) (asc_of_ok HOK.out);rw [HPA.out] at h;exact h
          have HNX:Hid (putAll s.wd (fmK ls (k+1)) (s.ts,true)=(T',b&&b')):=by
           have e:=HFN.out;rw [hh,hfm] at e;have e2:fmK ls (k+1)=fmK ls k++[fm]:=e;show _=_;rw [e2,putAll_snoc,HPA.out];simp only [];rw [hp]
          clear hh
          go_wp2_with fail
          refine r11 (N:=w.heap.size+4) HLC.out.bl (ofT_lt HLC.out.t1) hlb l2 l3 hfm om_ hfs hTA hTl (putAll_small HPA.out (fun i=>Nat.le_trans (hs.1.2 i) om_) (fmK_small hls k)) hp HLC.out.tr hwr hlt (fun _ _ _ _ _ h=>h) ?_;intro y44 y45 y46 y47 y48 y49 y50 y51 y52 y53 y54 g' c' B E kE hB1 hB2 ZB RE;have HL2:=hI_ (HLC.out.below kE);have j0:=ZB 0 _ rfl;have j1:=ZB 1 _ rfl;have j2:=ZB 2 _ rfl;have i0:=HL2.out.bl 0 _ rfl;have i1:=HL2.out.bl 1 _ rfl;have i2:=HL2.out.bl 2 _ rfl;have f0:=HL2.out.op 0;have f1:=HL2.out.op 1;have f2:=HL2.out.op 2;have HX:Hid (LC U3 (w.heap.size+4) A s.wd T' g' c' s.rs ra3 rc3 vs (((E.setCell ⟨A,0,none⟩ (.int .i64 s.wd)).setCell ⟨A,1,none⟩ (.slice (some ⟨g',0,none⟩) T'.length c')).setCell ⟨A,2,none⟩ (.slice ra3 s.rs.length rc3))):=hI_ (lc_put HL2.out RE (fun k hk=>(Below.heap_setCell _ _ _ _ (by exact hk)).trans ((Below.heap_setCell _ _ _ _ (by exact hk)).trans (Below.heap_setCell _ _ _ _ (by exact hk)))) (((HL2.out.bl.set 0 _ sm_).set 1 _ sm_).set 2 _ sm_) (((HL2.out.op.set _ _).set _ _).set _ _) (ofT_set (ofT_set (ofT_set HL2.out.t1 0 _) 1 _) 2 _) (((HL2.out.bw.setCell (p:=⟨A,0,none⟩) hAz _).setCell (p:=⟨A,1,none⟩) hAz _).setCell (p:=⟨A,2,none⟩) hAz _));clear ZB RE;cases b
          · go_wp2
            go_roundw
            case rel=>exact ⟨k+1,T',false,g',c',om_,by go_num,rfl,HNX,HX⟩
            case measure=>simp [Go.RowKit.intOf];omega
          · go_wp2
            go_roundw
            case rel=>exact ⟨k+1,T',b',g',c',om_,by go_num,rfl,HNX,HX⟩
            case measure=>simp [Go.RowKit.intOf];omega
        · rw [hh] at l0
          have HNX:Hid (putAll s.wd (fmK ls (k+1)) (s.ts,true)=(T,b)):=by
           have e:=HFN.out;rw [hh] at e;have e2:fmK ls (k+1)=fmK ls k:=by rw [e];simp
           show _=_;rw [e2];exact HPA.out
          clear hh;go_wp2;go_roundw
          case rel=>exact ⟨k+1,T,b,gg,cc,om_,by go_num,rfl,HNX,HLC⟩
          case measure=>simp [Go.RowKit.intOf];omega
      · obtain rfl:k=ls.length:=om_
        obtain ⟨fm,hfm⟩:∃ fm,fmR c t=fm:=⟨_,rfl⟩;have hfs:fm.size<=1048700:=by rw [<- hfm];have:=fm_size c t;omega
        obtain ⟨T',b',hp⟩:∃ T' b',putT s.wd fm T=(T',b'):=⟨_,_,rfl⟩;have hTl:T.length<=1000000:=by
         have h:=putAll_len' s.wd (fmK ls ls.length) (s.ts,true);rw [HPA.out] at h;have:=fmK_len ls ls.length;have:=HOK.out.2.1.1;have:=HRK.out.2.1.1;simp only [] at h;omega
        have hTA:AscT s.wd T:=by have h:=putAll_asc (a:=fmK ls ls.length) (b:=true) (asc_of_ok HOK.out);rw [HPA.out] at h;exact h
        have HNX:Hid (putAll s.wd (fmL ls c t) (s.ts,true)=(T',b&&b')):=by
         show _=_;rw [fmL_K,hfm,putAll_snoc,HPA.out];simp only [];rw [hp]
        have q0:=(BC0.out.below hbw om_) 0 _ rfl;have q1:=(BC0.out.below hbw om_) 1 _ rfl
        go_wp2_with fail
        refine r14 (N:=w.heap.size+4) HLC.out.bl (ofT_lt HLC.out.t1) om_ q0 q1 hfm om_ hfs hTA hTl (putAll_small HPA.out (fun i=>Nat.le_trans (hs.1.2 i) om_) (fmK_small hls ls.length)) hp HLC.out.tr hwr (fun _ _ _ _ _ h=>h) ?_;intro y60 y61 y62 y63 y64 y65 y66 g' c' B E kE hB1 hB2 ZB RE;have HL2:=hI_ (HLC.out.below kE);have j0:=ZB 0 _ rfl;have j1:=ZB 1 _ rfl;have j2:=ZB 2 _ rfl;have i0:=HL2.out.bl 0 _ rfl;have i1:=HL2.out.bl 1 _ rfl;have i2:=HL2.out.bl 2 _ rfl;have f0:=HL2.out.op 0;have f1:=HL2.out.op 1;have f2:=HL2.out.op 2;have HX:Hid (LC U3 (w.heap.size+4) A s.wd T' g' c' s.rs ra3 rc3 vs (((E.setCell ⟨A,0,none⟩ (.int .i64 s.wd)).setCell ⟨A,1,none⟩ (.slice (some ⟨g',0,none⟩) T'.length c')).setCell ⟨A,2,none⟩ (.slice ra3 s.rs.length rc3))):=hI_ (lc_put HL2.out RE (fun k hk=>(Below.heap_setCell _ _ _ _ (by exact hk)).trans ((Below.heap_setCell _ _ _ _ (by exact hk)).trans (Below.heap_setCell _ _ _ _ (by exact hk)))) (((HL2.out.bl.set 0 _ sm_).set 1 _ sm_).set 2 _ sm_) (((HL2.out.op.set _ _).set _ _).set _ _) (ofT_set (ofT_set (ofT_set HL2.out.t1 0 _) 1 _) 2 _) (((HL2.out.bw.setCell (p:=⟨A,0,none⟩) hAz _).setCell (p:=⟨A,1,none⟩) hAz _).setCell (p:=⟨A,2,none⟩) hAz _));clear ZB RE;have hwE:w.heap.size+4<=(((E.setCell ⟨A,0,none⟩ (.int .i64 s.wd)).setCell ⟨A,1,none⟩ (.slice (some ⟨g',0,none⟩) T'.length c')).setCell ⟨A,2,none⟩ (.slice ra3 s.rs.length rc3)).heap.size:=by have:=HX.out.bw.size;rw [S0.out] at this;exact this
        have m0:=(BM0.out.below HX.out.bw om_) 0 _ rfl;have m1:=(BM0.out.below HX.out.bw om_) 1 _ rfl;have m2:=(BM0.out.below HX.out.bw om_) 2 _ rfl;have v0:=(BC0.out.below HX.out.bw om_) 0 _ rfl;have v1:=(BC0.out.below HX.out.bw om_) 1 _ rfl;have x0:=(BS0.out.below HX.out.bw om_) 0 _ rfl;have h27:=c73 m ls c t s.wd la lc (((E.setCell ⟨A,0,none⟩ (.int .i64 s.wd)).setCell ⟨A,1,none⟩ (.slice (some ⟨g',0,none⟩) T'.length c')).setCell ⟨A,2,none⟩ (.slice ra3 s.rs.length rc3)) ⟨Nat.le_trans hm.1 om_,Nat.le_trans hm.2.1 om_,Nat.le_trans hm.2.2 om_⟩ om_ (by have h:=hfs;rw [<- hfm] at h;exact h) hl (fun i=>⟨Nat.le_trans (hls i).2 om_,gl_size (hls i).2⟩) (lks_below HL.out (BW0.trans (HX.out.bw.mono om_)));cases b
        · go_wp2_with fail
          refine h27.mono ?_;rintro e w5 ⟨⟨v5,rfl,hv5⟩,hb5⟩;obtain ⟨a5,c905,rfl⟩:=row_form hv5;rw [glC_gC] at hv5;have HV5:=hI_ hv5;have L5:=hI_ (HX.out.below hb5);clear h27 hv5 m0 m1 m2 v0 v1 x0;generalize hsm:sumS (ofL (formR c t.data.toList)) s.wd=sm at*;have HSM:=hI_ hsm;clear hsm;have L6:=hI_ (L5.out.below (W':=(w5.alloc (.cells #[.string (keyR m),.slice a5 ls.length c905,.string sm] 96))) bA_);have BR6:=hI_ (blk_new w5 [.string (keyR m),.slice a5 ls.length c905,.string sm] 96)
          go_wp2_with fail
          have HGL:=hI_ (gls_row (gs:=ls.map (recG s.wd)) (c:=c905) (by rw [List.length_map];exact HV5.out));have HR0:Hid (recR s.wd m ls c t=⟨keyR m,ls.map (recG s.wd),sm⟩):=hI_ (by rw [<- HSM.out];rfl);have s5:w5.heap.size+1=(w5.alloc (.cells #[.string (keyR m),.slice a5 ls.length c905,.string sm] 96)).heap.size:=sm_;have bw56:Below w5.heap.size w5 (w5.alloc (.cells #[.string (keyR m),.slice a5 ls.length c905,.string sm] 96)):=bA_;generalize (w5.alloc (.cells #[.string (keyR m),.slice a5 ls.length c905,.string sm] 96))=E6 at*;go_loopw [18,19] (fun th i wr=>∃ (k:Nat) (b2:Bool),k<=s.rs.length/\th=.bool b2/\i=.int .i64 k/\Hid (b2=true↔∃ j,j<k/\s.rs.getD j r3z=⟨keyR m,ls.map (recG s.wd),sm⟩)/\Below E6.heap.size E6 wr) (fun _ i _=>s.rs.length - (Go.RowKit.intOf i).toNat)
          case atStart=>exact ⟨0,false,Nat.zero_le _,rfl,rfl,by show _↔_;simp,Below.refl _ _⟩
          case round=>
           obtain ⟨k,b2,hk,rfl,rfl,hq,hbr⟩:=hrel;have HLr:=hI_ (L6.out.below hbr);have hAw:A<wr.heap.size:=ofT_lt HLr.out.t1;have hsl:=hs.2.1;have h5w:w5.heap.size<wr.heap.size:=by have:=hbr.size;omega
           by_cases hlt:k<s.rs.length
           · have o2:=HLr.out.bl 2 _ rfl
             rcases recs_own HLr.out.rc with he | ⟨rb,ro,hra,hrb,hcell⟩
             · rw [he] at hlt;exact absurd hlt (Nat.not_lt_zero _)
             subst hra;have hrx:=hs.2.2 k;obtain ⟨ai,ci,g0,g1,g2,g3⟩:=hcell k hlt;clear hcell;have t0:=(BR6.out.below hbr om_) 0 _ rfl;have t1:=(BR6.out.below hbr om_) 1 _ rfl;have t2:=(BR6.out.below hbr om_) 2 _ rfl;cases b2
             · have h28:=c74 (s.rs.getD k r3z) ⟨keyR m,ls.map (recG s.wd),sm⟩ ai a5 ci c905 wr.drew hrx.2.1 (by simpa using hl) (gls_below g3 (Below.refl _ _).drew) (gls_below HGL.out ((bw56.trans (hbr.mono om_)).trans ((Below.refl wr.heap.size wr).drew.mono om_)))
               simp only [List.length_map] at h28;have HQ:Hid (∀ bo:Bool,(bo=true↔s.rs.getD k r3z=⟨keyR m,ls.map (recG s.wd),sm⟩)->(bo=true↔∃ j,j<k+1/\s.rs.getD j r3z=⟨keyR m,ls.map (recG s.wd),sm⟩)):=fun bo hbo=>by
                rw [hbo];constructor
                · intro e;exact ⟨k,om_,e⟩
                · rintro ⟨j,hj,e⟩
                  rcases Nat.lt_or_ge j k with h | h
                  · exact absurd (hq.out.2 ⟨j,h,e⟩) dc_
                  · obtain rfl:j=k:=om_
                    exact e
               generalize s.rs.getD k r3z=x at*;clear hrx hq
               go_wp2_with fail
               refine wp_region_held_drew (S:=(fun u=>u.cell? ⟨A,2,none⟩=some (.slice (some ⟨rb,ro,none⟩) s.rs.length rc3)/\u.cell? ⟨rb,ro+k*3,none⟩=some (.string x.key)/\u.cell? ⟨rb,ro+k*3+1,none⟩=some (.slice ai x.gs.length ci)/\u.cell? ⟨rb,ro+k*3+2,none⟩=some (.string x.out)/\u.cell? ⟨w5.heap.size,0,none⟩=some (.string (keyR m))/\u.cell? ⟨w5.heap.size,1,none⟩=some (.slice a5 ls.length c905)/\u.cell? ⟨w5.heap.size,2,none⟩=some (.string sm))) kr_ ?_ fun hHeld=>?_
               · ((try dsimp only);first | exact ⟨o2,g0,g1,g2,t0,t1,t2⟩ | exact ⟨(hb7.cell (p:=⟨A,2,none⟩) hAw).trans o2,(hb7.cell (p:=⟨rb,ro+k*3,none⟩) hrb).trans g0,(hb7.cell (p:=⟨rb,ro+k*3+1,none⟩) hrb).trans g1,(hb7.cell (p:=⟨rb,ro+k*3+2,none⟩) hrb).trans g2,(hb7.cell (p:=⟨w5.heap.size,0,none⟩) h5w).trans t0,(hb7.cell (p:=⟨w5.heap.size,1,none⟩) h5w).trans t1,(hb7.cell (p:=⟨w5.heap.size,2,none⟩) h5w).trans t2⟩)
               refine tq 0 hHeld ?_
               try simp only [qq]
               refine tq 1 hHeld ?_
               try simp only [qq]
               refine tq 2 hHeld ?_
               try simp only [qq]
               refine tq 3 hHeld ?_
               try simp only [qq]
               refine tq 4 hHeld ?_
               try simp only [qq]
               refine tq 5 hHeld ?_
               try simp only [qq]
               refine tq 6 hHeld ?_
               try simp only [qq]
               refine tq 7 hHeld ?_
               try simp only [qq]
               refine rq 8 fun K hK=>?_;go_simp;refine h28.mono ?_;rintro e w7 ⟨⟨bo,rfl,hbo⟩,hb70⟩;have hb7:=(Below.refl wr.heap.size wr).drew.trans hb70
               go_wp2_with fail
               clear hHeld;refine hK.out _ _ ?_ fun hHeld=>?_
               · ((try dsimp only);first | exact ⟨o2,g0,g1,g2,t0,t1,t2⟩ | exact ⟨(hb7.cell (p:=⟨A,2,none⟩) hAw).trans o2,(hb7.cell (p:=⟨rb,ro+k*3,none⟩) hrb).trans g0,(hb7.cell (p:=⟨rb,ro+k*3+1,none⟩) hrb).trans g1,(hb7.cell (p:=⟨rb,ro+k*3+2,none⟩) hrb).trans g2,(hb7.cell (p:=⟨w5.heap.size,0,none⟩) h5w).trans t0,(hb7.cell (p:=⟨w5.heap.size,1,none⟩) h5w).trans t1,(hb7.cell (p:=⟨w5.heap.size,2,none⟩) h5w).trans t2⟩)
               clear hK K
               try simp only [qq]
               refine tq 9 hHeld ?_
               try simp only [qq]
               refine tq 10 hHeld ?_
               try simp only [qq]
               refine wpAnyH_done kr_ ?_ _;go_wp2;go_roundw
               case rel=>exact ⟨k+1,bo,om_,rfl,by go_num,HQ.out bo hbo,bT_ hbr hb7⟩
               case measure=>simp [Go.RowKit.intOf];omega
             · have HQ:Hid (∃ j,j<k+1/\s.rs.getD j r3z=⟨keyR m,ls.map (recG s.wd),sm⟩):=by
                obtain ⟨j,hj,e⟩:=hq.out.1 rfl;exact ⟨j,om_,e⟩
               clear hrx hq g3
               go_wp2_with fail
               refine wp_region_held_drew (S:=(fun _=>True)) kr_ ?_ fun hHeld=>?_
               · ((try dsimp only);all_goals trivial)
               refine tq 0 hHeld ?_
               try simp only [qq]
               refine tq 1 hHeld ?_
               try simp only [qq]
               refine uq 2 hHeld ?_
               try simp only [qq]
               refine uq 3 hHeld ?_
               try simp only [qq]
               refine uq 4 hHeld ?_
               try simp only [qq]
               refine uq 5 hHeld ?_
               try simp only [qq]
               refine uq 6 hHeld ?_
               try simp only [qq]
               refine uq 7 hHeld ?_
               try simp only [qq]
               refine uq 8 hHeld ?_
               try simp only [qq]
               refine tq 9 hHeld ?_
               try simp only [qq]
               refine tq 10 hHeld ?_
               try simp only [qq]
               refine wpAnyH_done kr_ ?_ _;go_wp2;go_roundw
               case rel=>exact ⟨k+1,true,om_,rfl,by go_num,⟨fun _=>HQ.out,fun _=>rfl⟩,hbr.drew⟩
               case measure=>simp [Go.RowKit.intOf];omega
           · obtain rfl:k=s.rs.length:=om_
             have hmem:=mem_iff_at hq.out;rw [<- HR0.out] at hmem;clear hq;cases b2
             · have HPR:Hid (putR s.rs (recR s.wd m ls c t)=s.rs++[⟨keyR m,ls.map (recG s.wd),sm⟩]):=by
                show putR _ _=_;unfold putR;rw [if_neg (fun h=>absurd (hmem.2 h) dc_),HR0.out]
               clear hmem;have o2:=HLr.out.bl 2 _ rfl;have t0:=(BR6.out.below hbr om_) 0 _ rfl;have t1:=(BR6.out.below hbr om_) 1 _ rfl;have t2:=(BR6.out.below hbr om_) 2 _ rfl;have HO:Hid ((wr.alloc (.cells #[.string (keyR m),.slice a5 ls.length c905,.string sm] 96)).ownsRow (w.heap.size+4) 96 3 (.slice ra3 s.rs.length rc3) s.rs.length (rC s.rs vs)):=own_below HLr.out.rc.row bA_;have HR:Hid (∀ j u,([.string (keyR m),.slice a5 ls.length c905,.string sm]:List Value)[j]?=some u->(wr.alloc (.cells #[.string (keyR m),.slice a5 ls.length c905,.string sm] 96)).cell? ((⟨wr.heap.size,0,none⟩:Addr).add j)=some u):=fun j u hj=>by
                rw [adr_add,Nat.zero_add];exact blk_new wr [.string (keyR m),.slice a5 ls.length c905,.string sm] 96 j u hj
               have B4:=hI_ ((HLr.out.bl).below (N:=wr.heap.size) ((Below.refl _ _).alloc lr_ (.cells #[.string (keyR m),.slice a5 ls.length c905,.string sm] 96)) hAw);have O4:=hI_ ((HLr.out.op).below (N:=wr.heap.size) ((Below.refl _ _).alloc lr_ (.cells #[.string (keyR m),.slice a5 ls.length c905,.string sm] 96)) hAw);have hwN:w.heap.size+4<=wr.heap.size:=by have:=HLr.out.na;omega
               have hmark:True:=trivial
               go_wp2_with (refine wpList_app rfl (.tmp 98) (.tmp 100) 27 rfl (w.heap.size+4) 96 iR (.agg #[.string ⟨#[]⟩,.slice none 0 0,.string ⟨#[]⟩]) 3 56 underlying27 hi1 jz0 jz1 jz2 rfl dc_ _ _ _ rfl HO.out ⟨wr.heap.size,0,none⟩ 1 1 [.string (keyR m),.slice a5 ls.length c905,.string sm] rfl rfl HR.out (by simp [Value.oneCell']) (by unfold maxLen;omega) om_ so_ ?_;revert hmark)
               intro v6 w6 hown hgrow;obtain ⟨a6,c906,rfl⟩:=row_form hown;have neS:some A≠(Value.slice ra3 s.rs.length rc3).ownBlock:=fun e=>absurd (ofT_one HLr.out.t1 (own_ofT HLr.out.rc.row e.symm)) dc_;have m1:=(blk_kept B4.out hgrow so_ neS) 2 _ rfl;have m2:=(opn_kept O4.out hgrow so_ neS) 2;have b5r:=hb5.trans ((bw56.trans (hbr.mono om_)).mono hb5.size);have HST:=hI_ (lc_app (y:=⟨keyR m,ls.map (recG s.wd),sm⟩) HX.out (List.length_map _) b5r (own_below HV5.out (bw56.trans (hbr.mono om_))) hown hgrow);obtain ⟨P,hPe⟩:∃ P,P=s.rs++[⟨keyR m,ls.map (recG s.wd),sm⟩]:=⟨_,rfl⟩;have hPl:s.rs.length+1=P.length:=by rw [hPe];simp
               rw [<- hPe,hPl] at HST;rw [<- hPe] at HPR;rw [hPl];have HLe:=HST;clear hown hgrow HST hPe hPl neS b5r;simp only [Bool.false_and] at HNX;have HK:=hI_ (keepF_3 HOK.out HRK.out HNX.out);have p0:=(BZ0.out.below HLe.out.bw om_) 0 _ rfl;have p1:=(BZ0.out.below HLe.out.bw om_) 1 _ rfl;have p2:=(BZ0.out.below HLe.out.bw om_) 2 _ rfl;have o0:=(OZ0.out.below HLe.out.bw om_) 0;have o1:=(OZ0.out.below HLe.out.bw om_) 1;have o2:=(OZ0.out.below HLe.out.bw om_) 2;have ZT:BlkAt ((((w6.setCell ⟨A,2,none⟩ (.slice a6 P.length c906)).setCell ⟨w.heap.size+3,0,none⟩ (.int .i64 0)).setCell ⟨w.heap.size+3,1,none⟩ (.slice none 0 0)).setCell ⟨w.heap.size+3,2,none⟩ (.slice none 0 0)) (w.heap.size+3) [.int .i64 0,.slice none 0 0,.slice none 0 0]:=(((BZ0.out.below HLe.out.bw om_).set 0 _ sm_).set 1 _ sm_).set 2 _ sm_;have e0:=ZT 0 _ rfl;have e1:=ZT 1 _ rfl;have e2:=ZT 2 _ rfl;have BT:Below w.heap.size w ((((w6.setCell ⟨A,2,none⟩ (.slice a6 P.length c906)).setCell ⟨w.heap.size+3,0,none⟩ (.int .i64 0)).setCell ⟨w.heap.size+3,1,none⟩ (.slice none 0 0)).setCell ⟨w.heap.size+3,2,none⟩ (.slice none 0 0)):=(((BW0.trans (HLe.out.bw.mono om_)).setCell (p:=⟨w.heap.size+3,0,none⟩) (by show w.heap.size<=w.heap.size+3;omega) _).setCell (p:=⟨w.heap.size+3,1,none⟩) (by show w.heap.size<=w.heap.size+3;omega) _).setCell (p:=⟨w.heap.size+3,2,none⟩) (by show w.heap.size<=w.heap.size+3;omega) _;clear ZT;go_wp2;refine bodyPost_ret (v:=.tuple #[.agg #[.int .i64 0,.slice none 0 0,.slice none 0 0],.int .i64 3]) (by simp [results,Tryz.results38,go_sem,e0,e1,e2]) rfl ⟨isKeep_st0 HK.out,BT⟩
             · have HPR:Hid (putR s.rs (recR s.wd m ls c t)=s.rs):=by
                show putR _ _=_;unfold putR;rw [if_pos (hmem.1 rfl)]
               clear hmem;have HLe:=HLr;have kA2:=HLe.out.bl 2 _ rfl;simp only [Bool.false_and] at HNX;have HK:=hI_ (keepF_3 HOK.out HRK.out HNX.out);have p0:=(BZ0.out.below HLe.out.bw om_) 0 _ rfl;have p1:=(BZ0.out.below HLe.out.bw om_) 1 _ rfl;have p2:=(BZ0.out.below HLe.out.bw om_) 2 _ rfl;have o0:=(OZ0.out.below HLe.out.bw om_) 0;have o1:=(OZ0.out.below HLe.out.bw om_) 1;have o2:=(OZ0.out.below HLe.out.bw om_) 2;have ZT:BlkAt (((wr.setCell ⟨w.heap.size+3,0,none⟩ (.int .i64 0)).setCell ⟨w.heap.size+3,1,none⟩ (.slice none 0 0)).setCell ⟨w.heap.size+3,2,none⟩ (.slice none 0 0)) (w.heap.size+3) [.int .i64 0,.slice none 0 0,.slice none 0 0]:=(((BZ0.out.below HLe.out.bw om_).set 0 _ sm_).set 1 _ sm_).set 2 _ sm_;have e0:=ZT 0 _ rfl;have e1:=ZT 1 _ rfl;have e2:=ZT 2 _ rfl;have BT:Below w.heap.size w (((wr.setCell ⟨w.heap.size+3,0,none⟩ (.int .i64 0)).setCell ⟨w.heap.size+3,1,none⟩ (.slice none 0 0)).setCell ⟨w.heap.size+3,2,none⟩ (.slice none 0 0)):=(((BW0.trans (HLe.out.bw.mono om_)).setCell (p:=⟨w.heap.size+3,0,none⟩) (by show w.heap.size<=w.heap.size+3;omega) _).setCell (p:=⟨w.heap.size+3,1,none⟩) (by show w.heap.size<=w.heap.size+3;omega) _).setCell (p:=⟨w.heap.size+3,2,none⟩) (by show w.heap.size<=w.heap.size+3;omega) _;clear ZT;go_wp2;refine bodyPost_ret (v:=.tuple #[.agg #[.int .i64 0,.slice none 0 0,.slice none 0 0],.int .i64 3]) (by simp [results,Tryz.results38,go_sem,e0,e1,e2]) rfl ⟨isKeep_st0 HK.out,BT⟩
        · go_wp2_with fail
          refine h27.mono ?_;rintro e w5 ⟨⟨v5,rfl,hv5⟩,hb5⟩;obtain ⟨a5,c905,rfl⟩:=row_form hv5;rw [glC_gC] at hv5;have HV5:=hI_ hv5;have L5:=hI_ (HX.out.below hb5);clear h27 hv5 m0 m1 m2 v0 v1 x0;generalize hsm:sumS (ofL (formR c t.data.toList)) s.wd=sm at*;have HSM:=hI_ hsm;clear hsm;have L6:=hI_ (L5.out.below (W':=(w5.alloc (.cells #[.string (keyR m),.slice a5 ls.length c905,.string sm] 96))) bA_);have BR6:=hI_ (blk_new w5 [.string (keyR m),.slice a5 ls.length c905,.string sm] 96)
          go_wp2_with fail
          have HGL:=hI_ (gls_row (gs:=ls.map (recG s.wd)) (c:=c905) (by rw [List.length_map];exact HV5.out));have HR0:Hid (recR s.wd m ls c t=⟨keyR m,ls.map (recG s.wd),sm⟩):=hI_ (by rw [<- HSM.out];rfl);have s5:w5.heap.size+1=(w5.alloc (.cells #[.string (keyR m),.slice a5 ls.length c905,.string sm] 96)).heap.size:=sm_;have bw56:Below w5.heap.size w5 (w5.alloc (.cells #[.string (keyR m),.slice a5 ls.length c905,.string sm] 96)):=bA_;generalize (w5.alloc (.cells #[.string (keyR m),.slice a5 ls.length c905,.string sm] 96))=E6 at*;go_loopw [18,19] (fun th i wr=>∃ (k:Nat) (b2:Bool),k<=s.rs.length/\th=.bool b2/\i=.int .i64 k/\Hid (b2=true↔∃ j,j<k/\s.rs.getD j r3z=⟨keyR m,ls.map (recG s.wd),sm⟩)/\Below E6.heap.size E6 wr) (fun _ i _=>s.rs.length - (Go.RowKit.intOf i).toNat)
          case atStart=>exact ⟨0,false,Nat.zero_le _,rfl,rfl,by show _↔_;simp,Below.refl _ _⟩
          case round=>
           obtain ⟨k,b2,hk,rfl,rfl,hq,hbr⟩:=hrel;have HLr:=hI_ (L6.out.below hbr);have hAw:A<wr.heap.size:=ofT_lt HLr.out.t1;have hsl:=hs.2.1;have h5w:w5.heap.size<wr.heap.size:=by have:=hbr.size;omega
           by_cases hlt:k<s.rs.length
           · have o2:=HLr.out.bl 2 _ rfl
             rcases recs_own HLr.out.rc with he | ⟨rb,ro,hra,hrb,hcell⟩
             · rw [he] at hlt;exact absurd hlt (Nat.not_lt_zero _)
             subst hra;have hrx:=hs.2.2 k;obtain ⟨ai,ci,g0,g1,g2,g3⟩:=hcell k hlt;clear hcell;have t0:=(BR6.out.below hbr om_) 0 _ rfl;have t1:=(BR6.out.below hbr om_) 1 _ rfl;have t2:=(BR6.out.below hbr om_) 2 _ rfl;cases b2
             · have h28:=c74 (s.rs.getD k r3z) ⟨keyR m,ls.map (recG s.wd),sm⟩ ai a5 ci c905 wr.drew hrx.2.1 (by simpa using hl) (gls_below g3 (Below.refl _ _).drew) (gls_below HGL.out ((bw56.trans (hbr.mono om_)).trans ((Below.refl wr.heap.size wr).drew.mono om_)))
               simp only [List.length_map] at h28;have HQ:Hid (∀ bo:Bool,(bo=true↔s.rs.getD k r3z=⟨keyR m,ls.map (recG s.wd),sm⟩)->(bo=true↔∃ j,j<k+1/\s.rs.getD j r3z=⟨keyR m,ls.map (recG s.wd),sm⟩)):=fun bo hbo=>by
                rw [hbo];constructor
                · intro e;exact ⟨k,om_,e⟩
                · rintro ⟨j,hj,e⟩
                  rcases Nat.lt_or_ge j k with h | h
                  · exact absurd (hq.out.2 ⟨j,h,e⟩) dc_
                  · obtain rfl:j=k:=om_
                    exact e
               generalize s.rs.getD k r3z=x at*;clear hrx hq
               go_wp2_with fail
               refine wp_region_held_drew (S:=(fun u=>u.cell? ⟨A,2,none⟩=some (.slice (some ⟨rb,ro,none⟩) s.rs.length rc3)/\u.cell? ⟨rb,ro+k*3,none⟩=some (.string x.key)/\u.cell? ⟨rb,ro+k*3+1,none⟩=some (.slice ai x.gs.length ci)/\u.cell? ⟨rb,ro+k*3+2,none⟩=some (.string x.out)/\u.cell? ⟨w5.heap.size,0,none⟩=some (.string (keyR m))/\u.cell? ⟨w5.heap.size,1,none⟩=some (.slice a5 ls.length c905)/\u.cell? ⟨w5.heap.size,2,none⟩=some (.string sm))) kr_ ?_ fun hHeld=>?_
               · ((try dsimp only);first | exact ⟨o2,g0,g1,g2,t0,t1,t2⟩ | exact ⟨(hb7.cell (p:=⟨A,2,none⟩) hAw).trans o2,(hb7.cell (p:=⟨rb,ro+k*3,none⟩) hrb).trans g0,(hb7.cell (p:=⟨rb,ro+k*3+1,none⟩) hrb).trans g1,(hb7.cell (p:=⟨rb,ro+k*3+2,none⟩) hrb).trans g2,(hb7.cell (p:=⟨w5.heap.size,0,none⟩) h5w).trans t0,(hb7.cell (p:=⟨w5.heap.size,1,none⟩) h5w).trans t1,(hb7.cell (p:=⟨w5.heap.size,2,none⟩) h5w).trans t2⟩)
               refine tq 0 hHeld ?_
               try simp only [qq]
               refine tq 1 hHeld ?_
               try simp only [qq]
               refine tq 2 hHeld ?_
               try simp only [qq]
               refine tq 3 hHeld ?_
               try simp only [qq]
               refine tq 4 hHeld ?_
               try simp only [qq]
               refine tq 5 hHeld ?_
               try simp only [qq]
               refine tq 6 hHeld ?_
               try simp only [qq]
               refine tq 7 hHeld ?_
               try simp only [qq]
               refine rq 8 fun K hK=>?_;go_simp;refine h28.mono ?_;rintro e w7 ⟨⟨bo,rfl,hbo⟩,hb70⟩;have hb7:=(Below.refl wr.heap.size wr).drew.trans hb70
               go_wp2_with fail
               clear hHeld;refine hK.out _ _ ?_ fun hHeld=>?_
               · ((try dsimp only);first | exact ⟨o2,g0,g1,g2,t0,t1,t2⟩ | exact ⟨(hb7.cell (p:=⟨A,2,none⟩) hAw).trans o2,(hb7.cell (p:=⟨rb,ro+k*3,none⟩) hrb).trans g0,(hb7.cell (p:=⟨rb,ro+k*3+1,none⟩) hrb).trans g1,(hb7.cell (p:=⟨rb,ro+k*3+2,none⟩) hrb).trans g2,(hb7.cell (p:=⟨w5.heap.size,0,none⟩) h5w).trans t0,(hb7.cell (p:=⟨w5.heap.size,1,none⟩) h5w).trans t1,(hb7.cell (p:=⟨w5.heap.size,2,none⟩) h5w).trans t2⟩)
               clear hK K
               try simp only [qq]
               refine tq 9 hHeld ?_
               try simp only [qq]
               refine tq 10 hHeld ?_
               try simp only [qq]
               refine wpAnyH_done kr_ ?_ _;go_wp2;go_roundw
               case rel=>exact ⟨k+1,bo,om_,rfl,by go_num,HQ.out bo hbo,bT_ hbr hb7⟩
               case measure=>simp [Go.RowKit.intOf];omega
             · have HQ:Hid (∃ j,j<k+1/\s.rs.getD j r3z=⟨keyR m,ls.map (recG s.wd),sm⟩):=by
                obtain ⟨j,hj,e⟩:=hq.out.1 rfl;exact ⟨j,om_,e⟩
               clear hrx hq g3
               go_wp2_with fail
               refine wp_region_held_drew (S:=(fun _=>True)) kr_ ?_ fun hHeld=>?_
               · ((try dsimp only);all_goals trivial)
               refine tq 0 hHeld ?_
               try simp only [qq]
               refine tq 1 hHeld ?_
               try simp only [qq]
               refine uq 2 hHeld ?_
               try simp only [qq]
               refine uq 3 hHeld ?_
               try simp only [qq]
               refine uq 4 hHeld ?_
               try simp only [qq]
               refine uq 5 hHeld ?_
               try simp only [qq]
               refine uq 6 hHeld ?_
               try simp only [qq]
               refine uq 7 hHeld ?_
               try simp only [qq]
               refine uq 8 hHeld ?_
               try simp only [qq]
               refine tq 9 hHeld ?_
               try simp only [qq]
               refine tq 10 hHeld ?_
               try simp only [qq]
               refine wpAnyH_done kr_ ?_ _;go_wp2;go_roundw
               case rel=>exact ⟨k+1,true,om_,rfl,by go_num,⟨fun _=>HQ.out,fun _=>rfl⟩,hbr.drew⟩
               case measure=>simp [Go.RowKit.intOf];omega
           · obtain rfl:k=s.rs.length:=om_
             have hmem:=mem_iff_at hq.out;rw [<- HR0.out] at hmem;clear hq;cases b2
             · have HPR:Hid (putR s.rs (recR s.wd m ls c t)=s.rs++[⟨keyR m,ls.map (recG s.wd),sm⟩]):=by
                show putR _ _=_;unfold putR;rw [if_neg (fun h=>absurd (hmem.2 h) dc_),HR0.out]
               clear hmem;have o2:=HLr.out.bl 2 _ rfl;have t0:=(BR6.out.below hbr om_) 0 _ rfl;have t1:=(BR6.out.below hbr om_) 1 _ rfl;have t2:=(BR6.out.below hbr om_) 2 _ rfl;have HO:Hid ((wr.alloc (.cells #[.string (keyR m),.slice a5 ls.length c905,.string sm] 96)).ownsRow (w.heap.size+4) 96 3 (.slice ra3 s.rs.length rc3) s.rs.length (rC s.rs vs)):=own_below HLr.out.rc.row bA_;have HR:Hid (∀ j u,([.string (keyR m),.slice a5 ls.length c905,.string sm]:List Value)[j]?=some u->(wr.alloc (.cells #[.string (keyR m),.slice a5 ls.length c905,.string sm] 96)).cell? ((⟨wr.heap.size,0,none⟩:Addr).add j)=some u):=fun j u hj=>by
                rw [adr_add,Nat.zero_add];exact blk_new wr [.string (keyR m),.slice a5 ls.length c905,.string sm] 96 j u hj
               have B4:=hI_ ((HLr.out.bl).below (N:=wr.heap.size) ((Below.refl _ _).alloc lr_ (.cells #[.string (keyR m),.slice a5 ls.length c905,.string sm] 96)) hAw);have O4:=hI_ ((HLr.out.op).below (N:=wr.heap.size) ((Below.refl _ _).alloc lr_ (.cells #[.string (keyR m),.slice a5 ls.length c905,.string sm] 96)) hAw);have hwN:w.heap.size+4<=wr.heap.size:=by have:=HLr.out.na;omega
               have hmark:True:=trivial
               go_wp2_with (refine wpList_app rfl (.tmp 98) (.tmp 100) 27 rfl (w.heap.size+4) 96 iR (.agg #[.string ⟨#[]⟩,.slice none 0 0,.string ⟨#[]⟩]) 3 56 underlying27 hi1 jz0 jz1 jz2 rfl dc_ _ _ _ rfl HO.out ⟨wr.heap.size,0,none⟩ 1 1 [.string (keyR m),.slice a5 ls.length c905,.string sm] rfl rfl HR.out (by simp [Value.oneCell']) (by unfold maxLen;omega) om_ so_ ?_;revert hmark)
               intro v6 w6 hown hgrow;obtain ⟨a6,c906,rfl⟩:=row_form hown;have neS:some A≠(Value.slice ra3 s.rs.length rc3).ownBlock:=fun e=>absurd (ofT_one HLr.out.t1 (own_ofT HLr.out.rc.row e.symm)) dc_;have m1:=(blk_kept B4.out hgrow so_ neS) 2 _ rfl;have m2:=(opn_kept O4.out hgrow so_ neS) 2;have b5r:=hb5.trans ((bw56.trans (hbr.mono om_)).mono hb5.size);have HST:=hI_ (lc_app (y:=⟨keyR m,ls.map (recG s.wd),sm⟩) HX.out (List.length_map _) b5r (own_below HV5.out (bw56.trans (hbr.mono om_))) hown hgrow);obtain ⟨P,hPe⟩:∃ P,P=s.rs++[⟨keyR m,ls.map (recG s.wd),sm⟩]:=⟨_,rfl⟩;have hPl:s.rs.length+1=P.length:=by rw [hPe];simp
               rw [<- hPe,hPl] at HST;rw [<- hPe] at HPR;rw [hPl];have HLe:=HST;clear hown hgrow HST hPe hPl neS b5r;simp only [Bool.true_and] at HNX;cases b'
               · have HK:=hI_ (keepF_3 HOK.out HRK.out HNX.out)
                 have p0:=(BZ0.out.below HLe.out.bw om_) 0 _ rfl;have p1:=(BZ0.out.below HLe.out.bw om_) 1 _ rfl;have p2:=(BZ0.out.below HLe.out.bw om_) 2 _ rfl;have o0:=(OZ0.out.below HLe.out.bw om_) 0;have o1:=(OZ0.out.below HLe.out.bw om_) 1;have o2:=(OZ0.out.below HLe.out.bw om_) 2;have ZT:BlkAt ((((w6.setCell ⟨A,2,none⟩ (.slice a6 P.length c906)).setCell ⟨w.heap.size+3,0,none⟩ (.int .i64 0)).setCell ⟨w.heap.size+3,1,none⟩ (.slice none 0 0)).setCell ⟨w.heap.size+3,2,none⟩ (.slice none 0 0)) (w.heap.size+3) [.int .i64 0,.slice none 0 0,.slice none 0 0]:=(((BZ0.out.below HLe.out.bw om_).set 0 _ sm_).set 1 _ sm_).set 2 _ sm_;have e0:=ZT 0 _ rfl;have e1:=ZT 1 _ rfl;have e2:=ZT 2 _ rfl;have BT:Below w.heap.size w ((((w6.setCell ⟨A,2,none⟩ (.slice a6 P.length c906)).setCell ⟨w.heap.size+3,0,none⟩ (.int .i64 0)).setCell ⟨w.heap.size+3,1,none⟩ (.slice none 0 0)).setCell ⟨w.heap.size+3,2,none⟩ (.slice none 0 0)):=(((BW0.trans (HLe.out.bw.mono om_)).setCell (p:=⟨w.heap.size+3,0,none⟩) (by show w.heap.size<=w.heap.size+3;omega) _).setCell (p:=⟨w.heap.size+3,1,none⟩) (by show w.heap.size<=w.heap.size+3;omega) _).setCell (p:=⟨w.heap.size+3,2,none⟩) (by show w.heap.size<=w.heap.size+3;omega) _;clear ZT;go_wp2;refine bodyPost_ret (v:=.tuple #[.agg #[.int .i64 0,.slice none 0 0,.slice none 0 0],.int .i64 3]) (by simp [results,Tryz.results38,go_sem,e0,e1,e2]) rfl ⟨isKeep_st0 HK.out,BT⟩
               · by_cases h300:300<T'.length
                 · have HK:=hI_ (keepF_4 HOK.out HRK.out HNX.out HPR.out (.inl h300))
                   have i300:(300:Int)<T'.length:=om_;have k1:=HLe.out.bl 1 _ rfl;have k2':=HLe.out.bl 2 _ rfl;have p0:=(BZ0.out.below HLe.out.bw om_) 0 _ rfl;have p1:=(BZ0.out.below HLe.out.bw om_) 1 _ rfl;have p2:=(BZ0.out.below HLe.out.bw om_) 2 _ rfl;have o0:=(OZ0.out.below HLe.out.bw om_) 0;have o1:=(OZ0.out.below HLe.out.bw om_) 1;have o2:=(OZ0.out.below HLe.out.bw om_) 2;have ZT:BlkAt ((((w6.setCell ⟨A,2,none⟩ (.slice a6 P.length c906)).setCell ⟨w.heap.size+3,0,none⟩ (.int .i64 0)).setCell ⟨w.heap.size+3,1,none⟩ (.slice none 0 0)).setCell ⟨w.heap.size+3,2,none⟩ (.slice none 0 0)) (w.heap.size+3) [.int .i64 0,.slice none 0 0,.slice none 0 0]:=(((BZ0.out.below HLe.out.bw om_).set 0 _ sm_).set 1 _ sm_).set 2 _ sm_;have e0:=ZT 0 _ rfl;have e1:=ZT 1 _ rfl;have e2:=ZT 2 _ rfl;have BT:Below w.heap.size w ((((w6.setCell ⟨A,2,none⟩ (.slice a6 P.length c906)).setCell ⟨w.heap.size+3,0,none⟩ (.int .i64 0)).setCell ⟨w.heap.size+3,1,none⟩ (.slice none 0 0)).setCell ⟨w.heap.size+3,2,none⟩ (.slice none 0 0)):=(((BW0.trans (HLe.out.bw.mono om_)).setCell (p:=⟨w.heap.size+3,0,none⟩) (by show w.heap.size<=w.heap.size+3;omega) _).setCell (p:=⟨w.heap.size+3,1,none⟩) (by show w.heap.size<=w.heap.size+3;omega) _).setCell (p:=⟨w.heap.size+3,2,none⟩) (by show w.heap.size<=w.heap.size+3;omega) _;clear ZT;go_wp2;refine bodyPost_ret (v:=.tuple #[.agg #[.int .i64 0,.slice none 0 0,.slice none 0 0],.int .i64 4]) (by simp [results,Tryz.results38,go_sem,e0,e1,e2]) rfl ⟨isKeep_st0 HK.out,BT⟩
                 · by_cases h150:150<P.length
                   · have HK:=hI_ (keepF_4 HOK.out HRK.out HNX.out HPR.out (.inr h150))
                     have n300:¬ (300:Int)<T'.length:=om_;have i150:(150:Int)<P.length:=om_;have k1:=HLe.out.bl 1 _ rfl;have k2':=HLe.out.bl 2 _ rfl;have p0:=(BZ0.out.below HLe.out.bw om_) 0 _ rfl;have p1:=(BZ0.out.below HLe.out.bw om_) 1 _ rfl;have p2:=(BZ0.out.below HLe.out.bw om_) 2 _ rfl;have o0:=(OZ0.out.below HLe.out.bw om_) 0;have o1:=(OZ0.out.below HLe.out.bw om_) 1;have o2:=(OZ0.out.below HLe.out.bw om_) 2;have ZT:BlkAt ((((w6.setCell ⟨A,2,none⟩ (.slice a6 P.length c906)).setCell ⟨w.heap.size+3,0,none⟩ (.int .i64 0)).setCell ⟨w.heap.size+3,1,none⟩ (.slice none 0 0)).setCell ⟨w.heap.size+3,2,none⟩ (.slice none 0 0)) (w.heap.size+3) [.int .i64 0,.slice none 0 0,.slice none 0 0]:=(((BZ0.out.below HLe.out.bw om_).set 0 _ sm_).set 1 _ sm_).set 2 _ sm_;have e0:=ZT 0 _ rfl;have e1:=ZT 1 _ rfl;have e2:=ZT 2 _ rfl;have BT:Below w.heap.size w ((((w6.setCell ⟨A,2,none⟩ (.slice a6 P.length c906)).setCell ⟨w.heap.size+3,0,none⟩ (.int .i64 0)).setCell ⟨w.heap.size+3,1,none⟩ (.slice none 0 0)).setCell ⟨w.heap.size+3,2,none⟩ (.slice none 0 0)):=(((BW0.trans (HLe.out.bw.mono om_)).setCell (p:=⟨w.heap.size+3,0,none⟩) (by show w.heap.size<=w.heap.size+3;omega) _).setCell (p:=⟨w.heap.size+3,1,none⟩) (by show w.heap.size<=w.heap.size+3;omega) _).setCell (p:=⟨w.heap.size+3,2,none⟩) (by show w.heap.size<=w.heap.size+3;omega) _;clear ZT;go_wp2;refine bodyPost_ret (v:=.tuple #[.agg #[.int .i64 0,.slice none 0 0,.slice none 0 0],.int .i64 4]) (by simp [results,Tryz.results38,go_sem,e0,e1,e2]) rfl ⟨isKeep_st0 HK.out,BT⟩
                   · have HK:=hI_ (keepF_0 HOK.out HRK.out HNX.out HPR.out h300 h150)
                     have n300:¬ (300:Int)<T'.length:=om_;have n150:¬ (150:Int)<P.length:=om_;have k0:=HLe.out.bl 0 _ rfl;have k1:=HLe.out.bl 1 _ rfl;have k2':=HLe.out.bl 2 _ rfl;have p0:=(BZ0.out.below HLe.out.bw om_) 0 _ rfl;have p1:=(BZ0.out.below HLe.out.bw om_) 1 _ rfl;have p2:=(BZ0.out.below HLe.out.bw om_) 2 _ rfl;have o0:=(OZ0.out.below HLe.out.bw om_) 0;have o1:=(OZ0.out.below HLe.out.bw om_) 1;have o2:=(OZ0.out.below HLe.out.bw om_) 2;have ZT:BlkAt ((((w6.setCell ⟨A,2,none⟩ (.slice a6 P.length c906)).setCell ⟨w.heap.size+3,0,none⟩ (.int .i64 s.wd)).setCell ⟨w.heap.size+3,1,none⟩ ((.slice (some ⟨g',0,none⟩) T'.length c'))).setCell ⟨w.heap.size+3,2,none⟩ ((.slice a6 P.length c906))) (w.heap.size+3) [.int .i64 s.wd,.slice (some ⟨g',0,none⟩) T'.length c',.slice a6 P.length c906]:=(((BZ0.out.below HLe.out.bw om_).set 0 _ sm_).set 1 _ sm_).set 2 _ sm_;have e0:=ZT 0 _ rfl;have e1:=ZT 1 _ rfl;have e2:=ZT 2 _ rfl;have BT:Below w.heap.size w ((((w6.setCell ⟨A,2,none⟩ (.slice a6 P.length c906)).setCell ⟨w.heap.size+3,0,none⟩ (.int .i64 s.wd)).setCell ⟨w.heap.size+3,1,none⟩ ((.slice (some ⟨g',0,none⟩) T'.length c'))).setCell ⟨w.heap.size+3,2,none⟩ ((.slice a6 P.length c906))):=(((BW0.trans (HLe.out.bw.mono om_)).setCell (p:=⟨w.heap.size+3,0,none⟩) (by show w.heap.size<=w.heap.size+3;omega) _).setCell (p:=⟨w.heap.size+3,1,none⟩) (by show w.heap.size<=w.heap.size+3;omega) _).setCell (p:=⟨w.heap.size+3,2,none⟩) (by show w.heap.size<=w.heap.size+3;omega) _;have HE:Hid (∀ k,k≠w.heap.size+3->((((w6.setCell ⟨A,2,none⟩ (.slice a6 P.length c906)).setCell ⟨w.heap.size+3,0,none⟩ (.int .i64 s.wd)).setCell ⟨w.heap.size+3,1,none⟩ ((.slice (some ⟨g',0,none⟩) T'.length c'))).setCell ⟨w.heap.size+3,2,none⟩ ((.slice a6 P.length c906))).heap[k]?=(w6.setCell ⟨A,2,none⟩ (.slice a6 P.length c906)).heap[k]?):=hI_ (fun k hk=>(Below.heap_setCell (((w6.setCell ⟨A,2,none⟩ (.slice a6 P.length c906)).setCell ⟨w.heap.size+3,0,none⟩ (.int .i64 s.wd)).setCell ⟨w.heap.size+3,1,none⟩ (.slice (some ⟨g',0,none⟩) T'.length c')) ⟨w.heap.size+3,2,none⟩ (.slice a6 P.length c906) k (by exact hk)).trans ((Below.heap_setCell ((w6.setCell ⟨A,2,none⟩ (.slice a6 P.length c906)).setCell ⟨w.heap.size+3,0,none⟩ (.int .i64 s.wd)) ⟨w.heap.size+3,1,none⟩ (.slice (some ⟨g',0,none⟩) T'.length c') k (by exact hk)).trans (Below.heap_setCell (w6.setCell ⟨A,2,none⟩ (.slice a6 P.length c906)) ⟨w.heap.size+3,0,none⟩ (.int .i64 s.wd) k (by exact hk))));have HSO:Hid (StOwn ((((w6.setCell ⟨A,2,none⟩ (.slice a6 P.length c906)).setCell ⟨w.heap.size+3,0,none⟩ (.int .i64 s.wd)).setCell ⟨w.heap.size+3,1,none⟩ ((.slice (some ⟨g',0,none⟩) T'.length c'))).setCell ⟨w.heap.size+3,2,none⟩ ((.slice a6 P.length c906))) w.heap.size T' P (.slice (some ⟨g',0,none⟩) T'.length c') (.slice a6 P.length c906)):=by
                      have h:=HLe.out.rc.keep (W':=((((w6.setCell ⟨A,2,none⟩ (.slice a6 P.length c906)).setCell ⟨w.heap.size+3,0,none⟩ (.int .i64 s.wd)).setCell ⟨w.heap.size+3,1,none⟩ ((.slice (some ⟨g',0,none⟩) T'.length c'))).setCell ⟨w.heap.size+3,2,none⟩ ((.slice a6 P.length c906)))) (fun q t _ _ hq=>HE.out q (fun e=>om_));exact ⟨own_low (own_keep' HLe.out.tr (fun q hq=>HE.out q (fun e=>by have:=own_blk HLe.out.tr hq;omega))) om_,_,h.len,own_low h.row om_,fun i hi=>by
                       obtain ⟨a3,c3,e,h3⟩:=h.gl i hi;exact ⟨a3,c3,e,own_low h3 om_⟩,h.apart⟩
                     have HIK:=hI_ (isKeep_ok HK.out HSO.out);clear ZT;go_wp2;refine bodyPost_ret (v:=.tuple #[.agg #[.int .i64 s.wd,.slice (some ⟨g',0,none⟩) T'.length c',.slice a6 P.length c906],.int .i64 0]) (by simp [results,Tryz.results38,go_sem,e0,e1,e2]) rfl ⟨HIK.out,BT⟩
             · have HPR:Hid (putR s.rs (recR s.wd m ls c t)=s.rs):=by
                show putR _ _=_;unfold putR;rw [if_pos (hmem.1 rfl)]
               clear hmem;have HLe:=HLr;have kA2:=HLe.out.bl 2 _ rfl;simp only [Bool.true_and] at HNX;cases b'
               · have HK:=hI_ (keepF_3 HOK.out HRK.out HNX.out)
                 have p0:=(BZ0.out.below HLe.out.bw om_) 0 _ rfl;have p1:=(BZ0.out.below HLe.out.bw om_) 1 _ rfl;have p2:=(BZ0.out.below HLe.out.bw om_) 2 _ rfl;have o0:=(OZ0.out.below HLe.out.bw om_) 0;have o1:=(OZ0.out.below HLe.out.bw om_) 1;have o2:=(OZ0.out.below HLe.out.bw om_) 2;have ZT:BlkAt (((wr.setCell ⟨w.heap.size+3,0,none⟩ (.int .i64 0)).setCell ⟨w.heap.size+3,1,none⟩ (.slice none 0 0)).setCell ⟨w.heap.size+3,2,none⟩ (.slice none 0 0)) (w.heap.size+3) [.int .i64 0,.slice none 0 0,.slice none 0 0]:=(((BZ0.out.below HLe.out.bw om_).set 0 _ sm_).set 1 _ sm_).set 2 _ sm_;have e0:=ZT 0 _ rfl;have e1:=ZT 1 _ rfl;have e2:=ZT 2 _ rfl;have BT:Below w.heap.size w (((wr.setCell ⟨w.heap.size+3,0,none⟩ (.int .i64 0)).setCell ⟨w.heap.size+3,1,none⟩ (.slice none 0 0)).setCell ⟨w.heap.size+3,2,none⟩ (.slice none 0 0)):=(((BW0.trans (HLe.out.bw.mono om_)).setCell (p:=⟨w.heap.size+3,0,none⟩) (by show w.heap.size<=w.heap.size+3;omega) _).setCell (p:=⟨w.heap.size+3,1,none⟩) (by show w.heap.size<=w.heap.size+3;omega) _).setCell (p:=⟨w.heap.size+3,2,none⟩) (by show w.heap.size<=w.heap.size+3;omega) _;clear ZT;go_wp2;refine bodyPost_ret (v:=.tuple #[.agg #[.int .i64 0,.slice none 0 0,.slice none 0 0],.int .i64 3]) (by simp [results,Tryz.results38,go_sem,e0,e1,e2]) rfl ⟨isKeep_st0 HK.out,BT⟩
               · by_cases h300:300<T'.length
                 · have HK:=hI_ (keepF_4 HOK.out HRK.out HNX.out HPR.out (.inl h300))
                   have i300:(300:Int)<T'.length:=om_;have k1:=HLe.out.bl 1 _ rfl;have k2':=HLe.out.bl 2 _ rfl;have p0:=(BZ0.out.below HLe.out.bw om_) 0 _ rfl;have p1:=(BZ0.out.below HLe.out.bw om_) 1 _ rfl;have p2:=(BZ0.out.below HLe.out.bw om_) 2 _ rfl;have o0:=(OZ0.out.below HLe.out.bw om_) 0;have o1:=(OZ0.out.below HLe.out.bw om_) 1;have o2:=(OZ0.out.below HLe.out.bw om_) 2;have ZT:BlkAt (((wr.setCell ⟨w.heap.size+3,0,none⟩ (.int .i64 0)).setCell ⟨w.heap.size+3,1,none⟩ (.slice none 0 0)).setCell ⟨w.heap.size+3,2,none⟩ (.slice none 0 0)) (w.heap.size+3) [.int .i64 0,.slice none 0 0,.slice none 0 0]:=(((BZ0.out.below HLe.out.bw om_).set 0 _ sm_).set 1 _ sm_).set 2 _ sm_;have e0:=ZT 0 _ rfl;have e1:=ZT 1 _ rfl;have e2:=ZT 2 _ rfl;have BT:Below w.heap.size w (((wr.setCell ⟨w.heap.size+3,0,none⟩ (.int .i64 0)).setCell ⟨w.heap.size+3,1,none⟩ (.slice none 0 0)).setCell ⟨w.heap.size+3,2,none⟩ (.slice none 0 0)):=(((BW0.trans (HLe.out.bw.mono om_)).setCell (p:=⟨w.heap.size+3,0,none⟩) (by show w.heap.size<=w.heap.size+3;omega) _).setCell (p:=⟨w.heap.size+3,1,none⟩) (by show w.heap.size<=w.heap.size+3;omega) _).setCell (p:=⟨w.heap.size+3,2,none⟩) (by show w.heap.size<=w.heap.size+3;omega) _;clear ZT;go_wp2;refine bodyPost_ret (v:=.tuple #[.agg #[.int .i64 0,.slice none 0 0,.slice none 0 0],.int .i64 4]) (by simp [results,Tryz.results38,go_sem,e0,e1,e2]) rfl ⟨isKeep_st0 HK.out,BT⟩
                 · by_cases h150:150<s.rs.length
                   · have HK:=hI_ (keepF_4 HOK.out HRK.out HNX.out HPR.out (.inr h150))
                     have n300:¬ (300:Int)<T'.length:=om_;have i150:(150:Int)<s.rs.length:=om_;have k1:=HLe.out.bl 1 _ rfl;have k2':=HLe.out.bl 2 _ rfl;have p0:=(BZ0.out.below HLe.out.bw om_) 0 _ rfl;have p1:=(BZ0.out.below HLe.out.bw om_) 1 _ rfl;have p2:=(BZ0.out.below HLe.out.bw om_) 2 _ rfl;have o0:=(OZ0.out.below HLe.out.bw om_) 0;have o1:=(OZ0.out.below HLe.out.bw om_) 1;have o2:=(OZ0.out.below HLe.out.bw om_) 2;have ZT:BlkAt (((wr.setCell ⟨w.heap.size+3,0,none⟩ (.int .i64 0)).setCell ⟨w.heap.size+3,1,none⟩ (.slice none 0 0)).setCell ⟨w.heap.size+3,2,none⟩ (.slice none 0 0)) (w.heap.size+3) [.int .i64 0,.slice none 0 0,.slice none 0 0]:=(((BZ0.out.below HLe.out.bw om_).set 0 _ sm_).set 1 _ sm_).set 2 _ sm_;have e0:=ZT 0 _ rfl;have e1:=ZT 1 _ rfl;have e2:=ZT 2 _ rfl;have BT:Below w.heap.size w (((wr.setCell ⟨w.heap.size+3,0,none⟩ (.int .i64 0)).setCell ⟨w.heap.size+3,1,none⟩ (.slice none 0 0)).setCell ⟨w.heap.size+3,2,none⟩ (.slice none 0 0)):=(((BW0.trans (HLe.out.bw.mono om_)).setCell (p:=⟨w.heap.size+3,0,none⟩) (by show w.heap.size<=w.heap.size+3;omega) _).setCell (p:=⟨w.heap.size+3,1,none⟩) (by show w.heap.size<=w.heap.size+3;omega) _).setCell (p:=⟨w.heap.size+3,2,none⟩) (by show w.heap.size<=w.heap.size+3;omega) _;clear ZT;go_wp2;refine bodyPost_ret (v:=.tuple #[.agg #[.int .i64 0,.slice none 0 0,.slice none 0 0],.int .i64 4]) (by simp [results,Tryz.results38,go_sem,e0,e1,e2]) rfl ⟨isKeep_st0 HK.out,BT⟩
                   · have HK:=hI_ (keepF_0 HOK.out HRK.out HNX.out HPR.out h300 h150)
                     have n300:¬ (300:Int)<T'.length:=om_;have n150:¬ (150:Int)<s.rs.length:=om_;have k0:=HLe.out.bl 0 _ rfl;have k1:=HLe.out.bl 1 _ rfl;have k2':=HLe.out.bl 2 _ rfl;have p0:=(BZ0.out.below HLe.out.bw om_) 0 _ rfl;have p1:=(BZ0.out.below HLe.out.bw om_) 1 _ rfl;have p2:=(BZ0.out.below HLe.out.bw om_) 2 _ rfl;have o0:=(OZ0.out.below HLe.out.bw om_) 0;have o1:=(OZ0.out.below HLe.out.bw om_) 1;have o2:=(OZ0.out.below HLe.out.bw om_) 2;have ZT:BlkAt (((wr.setCell ⟨w.heap.size+3,0,none⟩ (.int .i64 s.wd)).setCell ⟨w.heap.size+3,1,none⟩ ((.slice (some ⟨g',0,none⟩) T'.length c'))).setCell ⟨w.heap.size+3,2,none⟩ ((.slice ra3 s.rs.length rc3))) (w.heap.size+3) [.int .i64 s.wd,.slice (some ⟨g',0,none⟩) T'.length c',.slice ra3 s.rs.length rc3]:=(((BZ0.out.below HLe.out.bw om_).set 0 _ sm_).set 1 _ sm_).set 2 _ sm_;have e0:=ZT 0 _ rfl;have e1:=ZT 1 _ rfl;have e2:=ZT 2 _ rfl;have BT:Below w.heap.size w (((wr.setCell ⟨w.heap.size+3,0,none⟩ (.int .i64 s.wd)).setCell ⟨w.heap.size+3,1,none⟩ ((.slice (some ⟨g',0,none⟩) T'.length c'))).setCell ⟨w.heap.size+3,2,none⟩ ((.slice ra3 s.rs.length rc3))):=(((BW0.trans (HLe.out.bw.mono om_)).setCell (p:=⟨w.heap.size+3,0,none⟩) (by show w.heap.size<=w.heap.size+3;omega) _).setCell (p:=⟨w.heap.size+3,1,none⟩) (by show w.heap.size<=w.heap.size+3;omega) _).setCell (p:=⟨w.heap.size+3,2,none⟩) (by show w.heap.size<=w.heap.size+3;omega) _;have HE:Hid (∀ k,k≠w.heap.size+3->(((wr.setCell ⟨w.heap.size+3,0,none⟩ (.int .i64 s.wd)).setCell ⟨w.heap.size+3,1,none⟩ ((.slice (some ⟨g',0,none⟩) T'.length c'))).setCell ⟨w.heap.size+3,2,none⟩ ((.slice ra3 s.rs.length rc3))).heap[k]?=wr.heap[k]?):=hI_ (fun k hk=>(Below.heap_setCell ((wr.setCell ⟨w.heap.size+3,0,none⟩ (.int .i64 s.wd)).setCell ⟨w.heap.size+3,1,none⟩ (.slice (some ⟨g',0,none⟩) T'.length c')) ⟨w.heap.size+3,2,none⟩ (.slice ra3 s.rs.length rc3) k (by exact hk)).trans ((Below.heap_setCell (wr.setCell ⟨w.heap.size+3,0,none⟩ (.int .i64 s.wd)) ⟨w.heap.size+3,1,none⟩ (.slice (some ⟨g',0,none⟩) T'.length c') k (by exact hk)).trans (Below.heap_setCell wr ⟨w.heap.size+3,0,none⟩ (.int .i64 s.wd) k (by exact hk))));have HSO:Hid (StOwn (((wr.setCell ⟨w.heap.size+3,0,none⟩ (.int .i64 s.wd)).setCell ⟨w.heap.size+3,1,none⟩ ((.slice (some ⟨g',0,none⟩) T'.length c'))).setCell ⟨w.heap.size+3,2,none⟩ ((.slice ra3 s.rs.length rc3))) w.heap.size T' s.rs (.slice (some ⟨g',0,none⟩) T'.length c') (.slice ra3 s.rs.length rc3)):=by
                      have h:=HLe.out.rc.keep (W':=(((wr.setCell ⟨w.heap.size+3,0,none⟩ (.int .i64 s.wd)).setCell ⟨w.heap.size+3,1,none⟩ ((.slice (some ⟨g',0,none⟩) T'.length c'))).setCell ⟨w.heap.size+3,2,none⟩ ((.slice ra3 s.rs.length rc3)))) (fun q t _ _ hq=>HE.out q (fun e=>om_));exact ⟨own_low (own_keep' HLe.out.tr (fun q hq=>HE.out q (fun e=>by have:=own_blk HLe.out.tr hq;omega))) om_,_,h.len,own_low h.row om_,fun i hi=>by
                       obtain ⟨a3,c3,e,h3⟩:=h.gl i hi;exact ⟨a3,c3,e,own_low h3 om_⟩,h.apart⟩
                     have HIK:=hI_ (isKeep_ok HK.out HSO.out);clear ZT;go_wp2;refine bodyPost_ret (v:=.tuple #[.agg #[.int .i64 s.wd,.slice (some ⟨g',0,none⟩) T'.length c',.slice ra3 s.rs.length rc3],.int .i64 0]) (by simp [results,Tryz.results38,go_sem,e0,e1,e2]) rfl ⟨HIK.out,BT⟩
end Go.Proofs.YtlckdgjfniglfaaGreatDoor

import Derived.Test.YtlckdgjfniglfaaGreatDoortV2
import Derived.Maps.OwnIn
set_option linter.unusedVariables false
set_option maxHeartbeats 8000000
set_option maxRecDepth 100000
namespace Go.Proofs.YtlckdgjfniglfaaGreatDoor
open Proofs.Tryz
open Go.RowKit Go.Maps Go.Sort Go.Shelf
attribute [local go_sem] Oper.semAt_some
def txA (ts:List ByteArray) (n:Nat) (i:Fin n):ByteArray:=ts.getD i.1 ByteArray.empty
def rcA (rs:List R3) (n:Nat) (i:Fin n):R3:=rs.getD i.1 r3z
theorem own_ofT {W:World} {base e size n:Nat} {v:Value} {xs:List Value} (h:W.ownsRow base e size v n xs) {k:Nat} (hk:v.ownBlock=some k):OfT W k e:=by
 rcases h.2 with ⟨hv,_⟩ | ⟨g,cap,cur,hv,hg,hh,_⟩
 · subst hv;simp [Value.ownBlock] at hk
 · subst hv
   simp [Value.ownBlock] at hk;subst hk;exact ⟨cur,(0,0),hh⟩
theorem round_keeps {S j X B:Nat} {W W':World} (hsz:W.heap.size<=W'.heap.size) (hsame:∀ k,k<W.heap.size->k≠S->fB W S j≠some k->W'.heap[k]?=W.heap[k]?) {t:TypeId} (hS:OfT W S t) (hrow:∀ q,fB W S j=some q->∃ t,OfT W q t) (hfld:fB W' S j=fB W S j\/∃ q,fB W' S j=some q/\W.heap.size<=q):KeepsFrom B W W'/\KpS S j X W W':=by
 refine ⟨⟨hsz,fun k o _ ho hc=>?_⟩,⟨hsz,fun k o ho _ _ hkS hkf=>(hsame k (Array.getElem?_eq_some_iff.1 ho).1 hkS hkf).trans ho,hfld⟩⟩;refine (hsame k (Array.getElem?_eq_some_iff.1 ho).1 (fun e=>?_) (fun e=>?_)).trans ho
 · obtain ⟨cur,fr,h⟩:=hS
   rw [<- e,ho] at h;cases h;cases hc
 · obtain ⟨t',cur,fr,h⟩:=hrow k e
   rw [ho] at h;cases h;cases hc
theorem kps_put {S j X:Nat} {w:World} (hS:S<w.heap.size):∀ (W:World) (l:Nat) (o o':Obj),w.heap.size<=l->W.heap[l]?=some o->o.isCells=false->o.isWalk=false->KpS S j X W (W.putObj l o'):=fun W l o o' hl ho hc hw=>by
 refine ⟨sm_,fun k q hq hqc _ _ _=>?_,.inl ?_⟩
 · refine (World.putObj_heap_other (fun e=>?_)).trans hq
   subst e;rw [ho] at hq;cases hq;rcases hqc with h | h
   · rw [hc] at h;cases h
   · rw [hw] at h;cases h
 · unfold fB
   have e:(W.putObj l o').heap[S]?=W.heap[S]?:=World.putObj_heap_other om_;simp only [World.cell?,e]
theorem blk_noncells {W W':World} {b:Nat} {t:TypeId} {vs:List Value} {row:Option Nat} (h:BlkAt W b vs) (hT:OfT W b t) (hg:W.grownBy W' row) (hr:∀ r,row=some r->∃ o:Obj,W.heap[r]?=some o/\o.isCells=false):BlkAt W' b vs:=by
 obtain ⟨cur,fr,hT⟩:=hT;refine blk_kept h hg (Array.getElem?_eq_some_iff.1 hT).1 fun e=>?_;obtain ⟨o,ho,hc⟩:=hr b e.symm;rw [hT] at ho;cases ho;cases hc
theorem ofT_noncells {W W':World} {b:Nat} {t:TypeId} {row:Option Nat} (hT:OfT W b t) (hg:W.grownBy W' row) (hr:∀ r,row=some r->∃ o:Obj,W.heap[r]?=some o/\o.isCells=false):OfT W' b t:=by
 refine hT.kept hg fun e=>?_;obtain ⟨cur,fr,hT⟩:=hT;obtain ⟨o,ho,hc⟩:=hr b e.symm;rw [hT] at ho;cases ho;cases hc
theorem row_noncells {W W':World} {base e size n:Nat} {v:Value} {xs:List Value} {row:Option Nat} (h:W.ownsRow base e size v n xs) (hg:W.grownBy W' row) (hr:∀ r,row=some r->∃ o:Obj,W.heap[r]?=some o/\o.isCells=false):W'.ownsRow base e size v n xs:=by
 refine h.kept hg ?_
 cases hq:v.ownBlock with
 | none=>exact .inl rfl
 | some k=>
  refine .inr fun e2=>?_;obtain ⟨cur,fr,hT⟩:=own_ofT h hq;obtain ⟨o,ho,hc⟩:=hr k e2.symm;rw [hT] at ho;cases ho;cases hc
theorem opn_kept {W W':World} {b:Nat} {row:Option Nat} (h:OpnAt W b) (hg:W.grownBy W' row) (hlt:b<W.heap.size) (hne:some b≠row):OpnAt W' b:=fun j=>by
 have:=h j;simp only [World.frozen?,hg.block b hlt hne];simpa only [World.frozen?] using this
theorem info96':(prog.info? 96).map (fun i=>(i.zero,i.size,i.bytes))=some (some (.agg #[.string ⟨#[]⟩,.slice none 0 0,.string ⟨#[]⟩]),3,56):=kr_
theorem ofT_set {W:World} {b:Nat} {t:TypeId} (h:OfT W b t) (j:Nat) (v:Value):OfT (W.setCell ⟨b,j,none⟩ v) b t:=by
 obtain ⟨cur,fr,h⟩:=h;have hb:=(Array.getElem?_eq_some_iff.1 h);refine ⟨cur.setIfInBounds j v,fr,?_⟩;simp only [World.setCell];rw [Array.getElem?_modify];simp [h]
theorem kps_alloc {W:World} (S j X:Nat) (hS:S<W.heap.size) (o:Obj):KpS S j X W (W.alloc o):=
 ⟨sm_,fun k q hq _ _ _ _=>(Below.heap_alloc _ _ k (Array.getElem?_eq_some_iff.1 hq).1).trans hq,.inl (by
  unfold fB;simp only [World.cell?,Below.heap_alloc W o S hS])⟩
theorem tx_val {W:Int} (ts:List ByteArray) (x:Fin (ts.map (gT W)).length):(((ts.map (gT W))[x.1]'x.2)).2=.agg #[.string (txA ts (ts.map (gT W)).length x),.int .i64 (hC (txA ts (ts.map (gT W)).length x)),.string (hT (txA ts (ts.map (gT W)).length x))]:=by
 have hx:x.1<ts.length:=by have:=x.2;simpa using this
 rw [List.getElem_map];have e:txA ts (ts.map (gT W)).length x=ts[x.1]:=by unfold txA;simp only [List.getD,List.getElem?_eq_getElem hx,Option.getD_some]
 rw [e];rfl
structure S1 (w:World) (W0:Int) (ts:List ByteArray) (n:Nat) (pre:List (Fin n)) (W:World):Prop where
 ex:∃ a c,BlkAt W (w.heap.size+1) [.int .i64 W0,.slice a pre.length c,.slice none 0 0]/\W.ownsRow (w.heap.size+3) 9 1 (.slice a pre.length c) pre.length (pre.map fun i=>.string (txA ts n i))
 op:OpnAt W (w.heap.size+1)
 t1:OfT W (w.heap.size+1) 29
 rb:BlkAt W w.heap.size [.int .i64 0,.slice none 0 0,.slice none 0 0]
 ro:OpnAt W w.heap.size
 t0:OfT W w.heap.size 29
 bw:Below w.heap.size w W
 sz:w.heap.size+3<=W.heap.size
theorem s1_own (w:World) (W0:Int) (ts:List ByteArray) (n B:Nat) (hB:w.heap.size+3<=B):OwnFrom B (fun pre W=>S1 w W0 ts n pre W):=fun s W W' row h hg hr=>by
 have hr2:∀ r,row=some r->∃ o:Obj,W.heap[r]?=some o/\o.isCells=false:=fun r e=>(hr r e).2;obtain ⟨a,c,h1,h2⟩:=h.ex;have hne:∀ b,b<w.heap.size+3->some b≠row:=fun b hb e=>by have:=(hr b e.symm).1;omega
 exact ⟨⟨a,c,blk_noncells h1 h.t1 hg hr2,row_noncells h2 hg hr2⟩,opn_kept h.op hg (by have:=h.sz;omega) (hne _ om_),ofT_noncells h.t1 hg hr2,blk_noncells h.rb h.t0 hg hr2,opn_kept h.ro hg (by have:=h.sz;omega) (hne _ om_),ofT_noncells h.t0 hg hr2,h.bw.trans (gb_below hg (fun j e=>by have:=(hr j e).1;omega) h.bw.size),Nat.le_trans h.sz hg.size⟩
theorem own_keep' {u u':World} {base e size n:Nat} {v:Value} {xs:List Value} (h:u.ownsRow base e size v n xs) (hk:∀ q,v.ownBlock=some q->u'.heap[q]?=u.heap[q]?):u'.ownsRow base e size v n xs:=by
 refine ⟨h.1,h.2.imp id ?_⟩;rintro ⟨g,cap,cur,h1,h2,h3,h4⟩;exact ⟨g,cap,cur,h1,h2,(hk g (by rw [h1];rfl)).trans h3,h4⟩
theorem blk_same {u u':World} {b:Nat} {vs:List Value} (h:BlkAt u b vs) (e:u'.heap[b]?=u.heap[b]?):BlkAt u' b vs:=fun j v hj=>by
 have:=h j v hj;simp only [World.cell?,e];simpa only [World.cell?] using this
theorem opn_same {u u':World} {b:Nat} (h:OpnAt u b) (e:u'.heap[b]?=u.heap[b]?):OpnAt u' b:=fun j=>by
 have:=h j;simp only [World.frozen?,e];simpa only [World.frozen?] using this
def rC (rs:List R3) (vs:List Value):List Value:=(List.range rs.length).flatMap fun i=>[.string (rs.getD i r3z).key,vs.getD i undef,.string (rs.getD i r3z).out]
structure RecOwn (W:World) (base:Nat) (v:Value) (rs:List R3) (vs:List Value):Prop where
 len:vs.length=rs.length
 row:W.ownsRow base 96 3 v rs.length (rC rs vs)
 gl:∀ i,i<rs.length->∃ a c,vs.getD i undef=.slice a (rs.getD i r3z).gs.length c/\W.ownsRow base 119 3 (.slice a (rs.getD i r3z).gs.length c) (rs.getD i r3z).gs.length (gC (rs.getD i r3z).gs)
 apart:∀ i j,i<rs.length->j<rs.length->i≠j->(vs.getD i undef).ownBlock=none\/(vs.getD i undef).ownBlock≠(vs.getD j undef).ownBlock
def StOwn (W:World) (base:Nat) (ts:List ByteArray) (rs:List R3) (tv rvv:Value):Prop:=W.ownsRow base 9 1 tv ts.length (ts.map Value.string)/\∃ vs,RecOwn W base rvv rs vs
structure S2 (w:World) (W0:Int) (ts:List ByteArray) (rs:List R3) (a:Option Addr) (c D n:Nat) (pre:List (Fin n)) (W:World):Prop where
 ex:∃ a2 c2 vs,BlkAt W (w.heap.size+1) [.int .i64 W0,.slice a ts.length c,.slice a2 pre.length c2]/\RecOwn W (w.heap.size+3) (.slice a2 pre.length c2) (pre.map (rcA rs n)) vs
 tr:W.ownsRow (w.heap.size+3) 9 1 (.slice a ts.length c) ts.length (ts.map Value.string)
 op:OpnAt W (w.heap.size+1)
 t1:OfT W (w.heap.size+1) 29
 rb:BlkAt W w.heap.size [.int .i64 0,.slice none 0 0,.slice none 0 0]
 ro:OpnAt W w.heap.size
 t0:OfT W w.heap.size 29
 bw:Below w.heap.size w W
 sz:w.heap.size+3<=W.heap.size
 dl:D<W.heap.size
 dd:W.heap[D]?=some (.deferred (some []))
theorem fB_noncells {W W':World} {b j:Nat} {t:TypeId} {row:Option Nat} (hT:OfT W b t) (hg:W.grownBy W' row) (hr:∀ r,row=some r->∃ o:Obj,W.heap[r]?=some o/\o.isCells=false):fB W' b j=fB W b j:=by
 obtain ⟨cur,fr,hT⟩:=hT;have e:=hg.block b (Array.getElem?_eq_some_iff.1 hT).1 (fun e=>by
  obtain ⟨o,ho,hc⟩:=hr b e.symm;rw [hT] at ho;cases ho;cases hc)
 unfold fB;simp only [World.cell?,e]
theorem opn_noncells {W W':World} {b:Nat} {t:TypeId} {row:Option Nat} (h:OpnAt W b) (hT:OfT W b t) (hg:W.grownBy W' row) (hr:∀ r,row=some r->∃ o:Obj,W.heap[r]?=some o/\o.isCells=false):OpnAt W' b:=by
 obtain ⟨cur,fr,hT⟩:=hT;refine opn_kept h hg (Array.getElem?_eq_some_iff.1 hT).1 fun e=>?_;obtain ⟨o,ho,hc⟩:=hr b e.symm;rw [hT] at ho;cases ho;cases hc
theorem s2_own (w:World) (W0:Int) (ts:List ByteArray) (rs:List R3) (a:Option Addr) (c D n B:Nat) (hB:w.heap.size+3<=B) (hD:D<B):OwnFrom B (fun pre W=>S2 w W0 ts rs a c D n pre W):=fun s W W' row h hg hr=>by
 have hr2:∀ r,row=some r->∃ o:Obj,W.heap[r]?=some o/\o.isCells=false:=fun r e=>(hr r e).2;obtain ⟨a2,c2,vs,h1,h2⟩:=h.ex;have hne:∀ b,b<B->some b≠row:=fun b hb e=>by have:=(hr b e.symm).1;omega
 exact ⟨⟨a2,c2,vs,blk_noncells h1 h.t1 hg hr2,⟨h2.len,row_noncells h2.row hg hr2,fun i hi=>by
  obtain ⟨a3,c3,e,h3⟩:=h2.gl i hi;exact ⟨a3,c3,e,row_noncells h3 hg hr2⟩,h2.apart⟩⟩,row_noncells h.tr hg hr2,opn_noncells h.op h.t1 hg hr2,ofT_noncells h.t1 hg hr2,blk_noncells h.rb h.t0 hg hr2,opn_noncells h.ro h.t0 hg hr2,ofT_noncells h.t0 hg hr2,h.bw.trans (gb_below hg (fun j e=>by have:=(hr j e).1;omega) h.bw.size),Nat.le_trans h.sz hg.size,Nat.lt_of_lt_of_le h.dl hg.size,(hg.block D h.dl (hne D hD)).trans h.dd⟩
theorem s1_done {w W1:World} {W0:Int} {W:Int} {ts:List ByteArray} (h:S1 w W0 ts (ts.map (gT W)).length (List.finRange (ts.map (gT W)).length) W1):∃ a c,BlkAt W1 (w.heap.size+1) [.int .i64 W0,.slice a ts.length c,.slice none 0 0]/\W1.ownsRow (w.heap.size+3) 9 1 (.slice a ts.length c) ts.length (ts.map Value.string):=by
 obtain ⟨a,c,h1,h2⟩:=h.ex;have e1:(List.finRange (ts.map (gT W)).length).length=ts.length:=sm_;have e2:((List.finRange (ts.map (gT W)).length).map fun i=>Value.string (txA ts (ts.map (gT W)).length i))=ts.map Value.string:=by
  apply List.ext_getElem
  · simp
  · intro i hi1 hi2
    have hi:i<ts.length:=by simpa using hi2
    simp [txA,List.getD,List.getElem?_eq_getElem hi]
 rw [e1] at h1 h2;rw [e2] at h2;exact ⟨a,c,h1,h2⟩
theorem s2_start {w W1 X2:World} {W0:Int} {W:Int} {ts:List ByteArray} {rs:List R3} {a:Option Addr} {c D n:Nat} {pre:List (Fin (ts.map (gT W)).length)} (h:S1 w W0 ts (ts.map (gT W)).length pre W1) (hb:BlkAt W1 (w.heap.size+1) [.int .i64 W0,.slice a ts.length c,.slice none 0 0]) (ho:W1.ownsRow (w.heap.size+3) 9 1 (.slice a ts.length c) ts.length (ts.map Value.string)) (hD:w.heap.size+3<=D) (hd:W1.heap[D]?=some (.deferred (some []))) (hx:Below W1.heap.size W1 X2):S2 w W0 ts rs a c D n [] X2:=by
 have hz:=h.sz;have hs:=hx.size;have hDl:=(Array.getElem?_eq_some_iff.1 hd).1;exact ⟨⟨none,0,[],hb.below hx om_,⟨rfl,World.ownsRow_nil _ _ _ _,fun i hi=>absurd hi (Nat.not_lt_zero _),fun i j hi=>absurd hi (Nat.not_lt_zero _)⟩⟩,own_below ho hx,h.op.below hx om_,h.t1.below hx om_,h.rb.below hx om_,h.ro.below hx om_,h.t0.below hx om_,h.bw.trans (hx.mono om_),om_,om_,(hx.block D hDl).trans hd⟩
theorem rec_of {B:Nat} {rs:List R3} {rv:List Value} {pl:List (ByteArray×Value)} {w:World} (h:ShR B rs rv pl w) (i:Fin rv.length):∃ ax cx,(rv[i.1]'i.2)=.agg #[.string (rcA rs rv.length i).key,.slice ax (rcA rs rv.length i).gs.length cx,.string (rcA rs rv.length i).out]/\GlsAt w ax (rcA rs rv.length i).gs:=by
 have hi:i.1<rs.length:=Nat.lt_of_lt_of_eq i.2 h.len;obtain ⟨ax,cx,e,hG,_⟩:=h.recs i.1 hi;refine ⟨ax,cx,?_,hG⟩;unfold rcA;rw [<- e];simp only [List.getD,List.getElem?_eq_getElem i.2,Option.getD_some]
theorem row_ne {W:World} {base e size n k:Nat} {v:Value} {xs:List Value} (h:W.ownsRow base e size v n xs) (hk:k<base):some k≠v.ownBlock:=fun e=>by
 have:=own_blk h e.symm;omega
theorem s1_step {w W1 w2:World} {W0:Int} {ts:List ByteArray} {n B:Nat} {pre:List (Fin n)} {x:Fin n} {a a2:Option Addr} {c c2:Nat} {tx:ByteArray} (h:S1 w W0 ts n pre W1) (hb:BlkAt W1 (w.heap.size+1) [.int .i64 W0,.slice a pre.length c,.slice none 0 0]) (ho:W1.ownsRow (w.heap.size+3) 9 1 (.slice a pre.length c) pre.length (pre.map fun i=>.string (txA ts n i))) (htx:tx=txA ts n x)
 (hown:w2.ownsRow (w.heap.size+3) 9 1 (.slice a2 (pre.length+1) c2) (pre.length+1) ((pre.map fun i=>.string (txA ts n i))++[.string tx])) (hgrow:(W1.alloc (.cells #[.string tx] 9)).grownBy w2 (Value.slice a pre.length c).ownBlock) (hloc:(Value.slice a2 (pre.length+1) c2).ownBlock=(Value.slice a pre.length c).ownBlock\/(Value.slice a2 (pre.length+1) c2).ownBlock=some (W1.alloc (.cells #[.string tx] 9)).heap.size):
 (KeepsFrom B W1 (w2.setCell ⟨w.heap.size+1,1,none⟩ (.slice a2 (pre.length+1) c2))/\KpS (w.heap.size+1) 1 92 W1 (w2.setCell ⟨w.heap.size+1,1,none⟩ (.slice a2 (pre.length+1) c2)))/\S1 w W0 ts n (pre++[x]) (w2.setCell ⟨w.heap.size+1,1,none⟩ (.slice a2 (pre.length+1) c2)):=by
 have hz:=h.sz;have bN:Below W1.heap.size W1 (W1.alloc (.cells #[.string tx] 9)):=bA_;have sN:(W1.alloc (.cells #[.string tx] 9)).heap.size=W1.heap.size+1:=sm_;have sG:=hgrow.size;have ne1:=row_ne (k:=w.heap.size+1) ho om_;have ne0:=row_ne (k:=w.heap.size) ho om_;have b2:=blk_kept (hb.below bN om_) hgrow om_ ne1;have o2:=opn_kept (h.op.below bN om_) hgrow om_ ne1;have r2:=blk_kept (h.rb.below bN om_) hgrow om_ ne0;have p2:=opn_kept (h.ro.below bN om_) hgrow om_ ne0;have t1:=(h.t1.below bN om_).kept hgrow ne1;have t0:=(h.t0.below bN om_).kept hgrow ne0;have hf:fB W1 (w.heap.size+1) 1=(Value.slice a pre.length c).ownBlock:=by unfold fB;rw [hb 1 _ rfl];rfl
 have b3:BlkAt (w2.setCell ⟨w.heap.size+1,1,none⟩ (.slice a2 (pre.length+1) c2)) (w.heap.size+1) [.int .i64 W0,.slice a2 (pre.length+1) c2,.slice none 0 0]:=b2.set 1 _ sm_;have hf2:fB (w2.setCell ⟨w.heap.size+1,1,none⟩ (.slice a2 (pre.length+1) c2)) (w.heap.size+1) 1=(Value.slice a2 (pre.length+1) c2).ownBlock:=by unfold fB;rw [b3 1 _ rfl];rfl
 have sT:(w2.setCell ⟨w.heap.size+1,1,none⟩ (.slice a2 (pre.length+1) c2)).heap.size=w2.heap.size:=sm_;refine ⟨round_keeps om_ (fun k hk hkS hkf=>?_) h.t1 (fun q hq=>?_) ?_,?_⟩
 · rw [hf] at hkf
   rw [Below.heap_setCell _ _ _ _ (by exact hkS)];exact (hgrow.block k om_ (fun e=>hkf e.symm)).trans (bN.block k hk)
 · rw [hf] at hq
   exact ⟨9,own_ofT ho hq⟩
 · rw [hf2,hf]
   rcases hloc with e | e
   · exact .inl e
   · exact .inr ⟨_,e,om_⟩
 · have el:(pre++[x]).length=pre.length+1:=sm_
   have hst:∀ b t,b≠w.heap.size+1->OfT w2 b t->OfT (w2.setCell ⟨w.heap.size+1,1,none⟩ (.slice a2 (pre.length+1) c2)) b t:=fun b t hne hT=>by
    obtain ⟨cur,fr,hT⟩:=hT;exact ⟨cur,fr,(Below.heap_setCell _ _ _ _ (by exact hne)).trans hT⟩
   refine ⟨⟨a2,c2,?_,?_⟩,o2.set _ _,?_,r2.other _ _ (by show w.heap.size+1≠w.heap.size;omega),p2.set _ _,hst _ _ om_ t0,?_,om_⟩
   · rw [el];exact b3
   · rw [el,List.map_append,List.map_cons,List.map_nil,<- htx]
     exact own_set hown _ _ (by show w.heap.size+1<w.heap.size+3;omega)
   · exact ofT_set t1 1 _
   · exact (h.bw.trans ((bN.mono om_).trans (gb_below hgrow (fun j e=>by have:=own_blk ho e;omega) om_))).setCell (p:=⟨w.heap.size+1,1,none⟩) (by show w.heap.size<=w.heap.size+1;omega) _
theorem fin_recs {rs:List R3} {n:Nat} (h:n=rs.length):(List.finRange n).map (rcA rs n)=rs:=by
 subst h;apply List.ext_getElem
 · simp
 · intro i hi1 hi2
   simp [rcA,List.getD,List.getElem?_eq_getElem hi2]
theorem rC_snoc (rs:List R3) (vs:List Value) (y:R3) (v:Value) (h:vs.length=rs.length):rC (rs++[y]) (vs++[v])=rC rs vs++[.string y.key,v,.string y.out]:=by
 unfold rC;rw [List.length_append,List.length_singleton,List.range_succ,List.flatMap_append]
 congr 1
 · rw [List.flatMap_def,List.flatMap_def]
   congr 1
   apply List.map_congr_left;intro i hi;have hi':=List.mem_range.1 hi;have e1:(rs++[y]).getD i r3z=rs.getD i r3z:=by simp only [List.getD,List.getElem?_append_left hi']
   have e2:(vs++[v]).getD i undef=vs.getD i undef:=by simp only [List.getD,List.getElem?_append_left (show i<vs.length by omega)]
   rw [e1,e2]
 · have e1:(rs++[y]).getD rs.length r3z=y:=by simp [List.getD]
   have e2:(vs++[v]).getD rs.length undef=v:=by simp [List.getD,<- h]
   simp only [List.flatMap_cons,List.flatMap_nil,List.append_nil,e1,e2]
theorem ofT_one {W:World} {b t t':Nat} (h:OfT W b t) (h':OfT W b t'):t=t':=by
 obtain ⟨cur,fr,h⟩:=h;obtain ⟨cur',fr',h'⟩:=h';rw [h] at h';cases h';rfl
theorem s2_step {w V1 V2 V5:World} {W0:Int} {ts:List ByteArray} {rs:List R3} {a a2 a5 a6:Option Addr} {c D n B c2 c905 c906 Bx:Nat} {pre:List (Fin n)} {x:Fin n} {y:R3} {vs:List Value} (h:S2 w W0 ts rs a c D n pre V1) (hb:BlkAt V1 (w.heap.size+1) [.int .i64 W0,.slice a ts.length c,.slice a2 pre.length c2]) (ho:RecOwn V1 (w.heap.size+3) (.slice a2 pre.length c2) (pre.map (rcA rs n)) vs)
 (hy:y=rcA rs n x) (hBx:w.heap.size+3<=Bx) (lX:Bx<V1.heap.size) (tX:OfT V1 Bx 96) (hfx:fB V1 (w.heap.size+1) 2≠some Bx) (h12:Below V1.heap.size V1 V2) (h5:V2.ownsRow V1.heap.size 119 3 (.slice a5 y.gs.length c905) y.gs.length (gC y.gs))
 (hown:V5.ownsRow (w.heap.size+3) 96 3 (.slice a6 (pre.length+1) c906) (pre.length+1) (rC (pre.map (rcA rs n)) vs++[.string y.key,(.slice a5 y.gs.length c905),.string y.out])) (hgrow:((V2.setCell ⟨Bx,1,none⟩ (.slice a5 y.gs.length c905)).alloc (.cells #[.string y.key,.slice a5 y.gs.length c905,.string y.out] 96)).grownBy V5 (Value.slice a2 pre.length c2).ownBlock) (hloc:(Value.slice a6 (pre.length+1) c906).ownBlock=(Value.slice a2 pre.length c2).ownBlock\/(Value.slice a6 (pre.length+1) c906).ownBlock=some ((V2.setCell ⟨Bx,1,none⟩ (.slice a5 y.gs.length c905)).alloc (.cells #[.string y.key,.slice a5 y.gs.length c905,.string y.out] 96)).heap.size):
 (KeepsFrom B V1 (V5.setCell ⟨w.heap.size+1,2,none⟩ (.slice a6 (pre.length+1) c906))/\KpS (w.heap.size+1) 2 96 V1 (V5.setCell ⟨w.heap.size+1,2,none⟩ (.slice a6 (pre.length+1) c906)))/\S2 w W0 ts rs a c D n (pre++[x]) (V5.setCell ⟨w.heap.size+1,2,none⟩ (.slice a6 (pre.length+1) c906)):=by
 have hz:=h.sz;have s12:=h12.size;have s4:((V2.setCell ⟨Bx,1,none⟩ (.slice a5 y.gs.length c905)).alloc (.cells #[.string y.key,.slice a5 y.gs.length c905,.string y.out] 96)).heap.size=V2.heap.size+1:=sm_;have s5:=hgrow.size;have sT:(V5.setCell ⟨w.heap.size+1,2,none⟩ (.slice a6 (pre.length+1) c906)).heap.size=V5.heap.size:=sm_;have hf:fB V1 (w.heap.size+1) 2=(Value.slice a2 pre.length c2).ownBlock:=by unfold fB;rw [hb 2 _ rfl];rfl
 rw [hf] at hfx;have hrl:∀ k,(Value.slice a2 pre.length c2).ownBlock=some k->k<V1.heap.size:=fun k e=>own_lt ho.row e;have H2:∀ k,k<V2.heap.size->k≠Bx->k≠w.heap.size+1->(Value.slice a2 pre.length c2).ownBlock≠some k->(V5.setCell ⟨w.heap.size+1,2,none⟩ (.slice a6 (pre.length+1) c906)).heap[k]?=V2.heap[k]?:=fun k hk hkB hkS hkr=>by
  rw [Below.heap_setCell _ _ _ _ (by exact hkS)];refine (hgrow.block k om_ (fun e=>hkr e.symm)).trans ?_;refine (Below.heap_alloc _ _ k (by simpa using hk)).trans ?_;exact Below.heap_setCell _ _ _ _ (by exact hkB)
 have H1:∀ k,k<V1.heap.size->k≠Bx->k≠w.heap.size+1->(Value.slice a2 pre.length c2).ownBlock≠some k->(V5.setCell ⟨w.heap.size+1,2,none⟩ (.slice a6 (pre.length+1) c906)).heap[k]?=V1.heap[k]?:=fun k hk hkB hkS hkr=>(H2 k om_ hkB hkS hkr).trans (h12.block k hk);have HT:∀ k t,OfT V1 k t->t≠96->k≠w.heap.size+1->(V5.setCell ⟨w.heap.size+1,2,none⟩ (.slice a6 (pre.length+1) c906)).heap[k]?=V1.heap[k]?:=fun k t hT ht hkS=>by
  refine H1 k (by obtain ⟨cur,fr,e⟩:=hT;exact (Array.getElem?_eq_some_iff.1 e).1) (fun e=>ht ?_) hkS (fun e=>ht ?_)
  · subst e;exact ofT_one hT tX
  · exact ofT_one hT (own_ofT ho.row e)
 have neS:some (w.heap.size+1)≠(Value.slice a2 pre.length c2).ownBlock:=row_ne ho.row om_;have b4:BlkAt ((V2.setCell ⟨Bx,1,none⟩ (.slice a5 y.gs.length c905)).alloc (.cells #[.string y.key,.slice a5 y.gs.length c905,.string y.out] 96)) (w.heap.size+1) [.int .i64 W0,.slice a ts.length c,.slice a2 pre.length c2]:=((hb.below h12 om_).other _ _ (by show Bx≠w.heap.size+1;omega)).below (N:=V2.heap.size) ((Below.refl _ _).alloc sm_ _) om_;have o4:OpnAt ((V2.setCell ⟨Bx,1,none⟩ (.slice a5 y.gs.length c905)).alloc (.cells #[.string y.key,.slice a5 y.gs.length c905,.string y.out] 96)) (w.heap.size+1):=((h.op.below h12 om_).set _ _).below (N:=V2.heap.size) ((Below.refl _ _).alloc sm_ _) om_;have b5:=blk_kept b4 hgrow om_ neS;have o5:=opn_kept o4 hgrow om_ neS;have b6:BlkAt (V5.setCell ⟨w.heap.size+1,2,none⟩ (.slice a6 (pre.length+1) c906)) (w.heap.size+1) [.int .i64 W0,.slice a ts.length c,.slice a6 (pre.length+1) c906]:=b5.set 2 _ sm_;have hf2:fB (V5.setCell ⟨w.heap.size+1,2,none⟩ (.slice a6 (pre.length+1) c906)) (w.heap.size+1) 2=(Value.slice a6 (pre.length+1) c906).ownBlock:=by unfold fB;rw [b6 2 _ rfl];rfl
 have t4:OfT V5 (w.heap.size+1) 29:=by
  obtain ⟨cur,fr,e⟩:=h.t1;refine ⟨cur,fr,(hgrow.block _ om_ neS).trans ((Below.heap_alloc _ _ _ so_).trans ?_)⟩;rw [Below.heap_setCell _ _ _ _ (by show w.heap.size+1≠Bx;omega)];exact (h12.block _ om_).trans e
 have bT:Below w.heap.size w (V5.setCell ⟨w.heap.size+1,2,none⟩ (.slice a6 (pre.length+1) c906)):=⟨(hgrow.os.trans (h12.os)).trans h.bw.os,(hgrow.tape.trans (h12.tape)).trans h.bw.tape,(hgrow.output.trans (h12.output)).trans h.bw.output,by have:=h.bw.size;omega,fun k hk=>(H1 k om_ om_ om_ (fun e=>by have:=own_blk ho.row e;omega)).trans (h.bw.block k hk)⟩;refine ⟨⟨⟨om_,fun k o _ hk0 hkc=>?_⟩,⟨om_,fun k o hk0 _ hkX hkS hkf=>?_,?_⟩⟩,?_⟩
 · refine (H1 k (Array.getElem?_eq_some_iff.1 hk0).1 (fun e=>?_) (fun e=>?_) (fun e=>?_)).trans hk0
   · obtain ⟨cur,fr,e'⟩:=tX;rw [<- e,hk0] at e';cases e';cases hkc
   · obtain ⟨cur,fr,e'⟩:=h.t1;rw [<- e,hk0] at e';cases e';cases hkc
   · obtain ⟨cur,fr,e'⟩:=own_ofT ho.row e;rw [hk0] at e';cases e';cases hkc
 · rw [hf] at hkf
   refine (H1 k (Array.getElem?_eq_some_iff.1 hk0).1 (fun e=>?_) hkS hkf).trans hk0;obtain ⟨cur,fr,e'⟩:=tX;rw [<- e,hk0] at e';cases e';exact hkX cur fr rfl
 · rw [hf2,hf]
   rcases hloc with e | e
   · exact .inl e
   · exact .inr ⟨_,e,om_⟩
 · have el:(pre++[x]).length=pre.length+1:=sm_
   have em:(pre++[x]).map (rcA rs n)=pre.map (rcA rs n)++[y]:=by rw [List.map_append,hy];rfl
   have epl:(pre.map (rcA rs n)).length=pre.length:=List.length_map ..;have h5T:(V5.setCell ⟨w.heap.size+1,2,none⟩ (.slice a6 (pre.length+1) c906)).ownsRow (w.heap.size+3) 119 3 (.slice a5 y.gs.length c905) y.gs.length (gC y.gs):=own_low (own_keep' h5 (fun q hq=>H2 q (own_lt h5 hq) (fun e=>by have:=own_blk h5 hq;omega) (fun e=>by have:=own_blk h5 hq;omega) (fun e=>by have:=hrl q e;have:=own_blk h5 hq;omega))) om_;have hvl:∀ i,i<pre.length->(vs++[Value.slice a5 y.gs.length c905]).getD i undef=vs.getD i undef:=fun i hi=>by simp only [List.getD,List.getElem?_append_left (show i<vs.length by rw [ho.len,epl];exact hi)]
   have hvn:(vs++[Value.slice a5 y.gs.length c905]).getD pre.length undef=(.slice a5 y.gs.length c905):=by simp [List.getD,show pre.length=vs.length by rw [ho.len,epl]]
   have hrl2:∀ i,i<pre.length->(pre.map (rcA rs n)++[y]).getD i r3z=(pre.map (rcA rs n)).getD i r3z:=fun i hi=>by simp only [List.getD,List.getElem?_append_left (show i<(pre.map (rcA rs n)).length by rw [epl];exact hi)]
   have hrn:(pre.map (rcA rs n)++[y]).getD pre.length r3z=y:=by simp [List.getD]
   have hold:∀ i,i<pre.length->∀ q,(vs.getD i undef).ownBlock=some q->q<V1.heap.size:=fun i hi q hq=>by
    obtain ⟨a3,c3,e,h3⟩:=ho.gl i (by rw [epl];exact hi);rw [e] at hq;exact own_lt h3 hq
   refine ⟨⟨a6,c906,vs++[(.slice a5 y.gs.length c905)],by rw [el];exact b6,?_⟩,?_,o5.set _ _,ofT_set t4 2 _,?_,?_,?_,bT,om_,by have:=h.dl;omega,?_⟩
   · rw [el,em]
     refine ⟨by simp [ho.len],?_,fun i hi=>?_,fun i j hi hj hij=>?_⟩
     · rw [rC_snoc _ _ _ _ ho.len,List.length_append,epl]
       exact own_set hown _ _ (by show w.heap.size+1<w.heap.size+3;omega)
     · rw [List.length_append,epl,List.length_singleton] at hi
       rcases Nat.lt_or_ge i pre.length with hlt | hge
       · rw [hvl i hlt,hrl2 i hlt]
         obtain ⟨a3,c3,e,h3⟩:=ho.gl i (by rw [epl];exact hlt);exact ⟨a3,c3,e,own_keep' h3 (fun q hq=>HT q 119 (own_ofT h3 hq) dc_ (fun e=>by have:=own_blk h3 hq;omega))⟩
       · obtain rfl:i=pre.length:=om_
         rw [hvn,hrn];exact ⟨a5,c905,rfl,h5T⟩
     · rw [List.length_append,epl,List.length_singleton] at hi hj
       rcases Nat.lt_or_ge i pre.length with hli | hgi
       · rw [hvl i hli]
         rcases Nat.lt_or_ge j pre.length with hlj | hgj
         · rw [hvl j hlj]
           exact ho.apart i j (by rw [epl];exact hli) (by rw [epl];exact hlj) hij
         · obtain rfl:j=pre.length:=om_
           rw [hvn]
           cases hq:(vs.getD i undef).ownBlock with
           | none=>exact .inl rfl
           | some q=>
            refine .inr fun e=>?_;have:=hold i hli q hq;have:=own_blk h5 e.symm;omega
       · obtain rfl:i=pre.length:=om_
         rw [hvn];have hlj:j<pre.length:=om_;rw [hvl j hlj]
         cases hq:(Value.slice a5 y.gs.length c905).ownBlock with
         | none=>exact .inl rfl
         | some q=>
          refine .inr fun e=>?_;have:=hold j hlj q e.symm;have:=own_blk h5 hq;omega
   · exact own_keep' h.tr (fun q hq=>HT q 9 (own_ofT h.tr hq) dc_ (fun e=>by have:=own_blk h.tr hq;omega))
   · exact blk_same h.rb (H1 w.heap.size om_ om_ om_ (fun e=>by have:=own_blk ho.row e;omega))
   · exact opn_same h.ro (H1 w.heap.size om_ om_ om_ (fun e=>by have:=own_blk ho.row e;omega))
   · obtain ⟨cur,fr,e⟩:=h.t0
     exact ⟨cur,fr,(H1 w.heap.size om_ om_ om_ (fun e=>by have:=own_blk ho.row e;omega)).trans e⟩
   · refine (H1 D h.dl (fun e=>?_) (fun e=>?_) (fun e=>?_)).trans h.dd
     · obtain ⟨cur,fr,e'⟩:=tX;rw [<- e,h.dd] at e';cases e'
     · obtain ⟨cur,fr,e'⟩:=h.t1;rw [<- e,h.dd] at e';cases e'
     · obtain ⟨cur,fr,e'⟩:=own_ofT ho.row e;rw [h.dd] at e';cases e'
theorem c20 (B H bT bR bP:Nat) (W:Int) (ts:List ByteArray) (rs:List R3) (rv:List Value) (w:World) (hSh:Sh B H bT bR bP W (ts.map (gT W)) rs rv w) (hW:1<=W/\W<=8) (htl:ts.length<=1000) (hrl:rs.length<=1000) (hgs:∀ i,(rs.getD i r3z).gs.length<=1048576):
 Calls prog 20 #[.pointer (some ⟨H,0,none⟩)] w fun e w'=>(∃ ta tc ra rc',e=.returned (.agg #[.int .i64 W,.slice ta ts.length tc,.slice ra rs.length rc'])/\StOwn w' w.heap.size ts rs (.slice ta ts.length tc) (.slice ra rs.length rc'))/\Below w.heap.size w w':=by
 obtain ⟨pl,hCC,hR⟩:=hSh;have hHlt:=hCC.lt;have B0:Below w.heap.size w (w.alloc (.cells #[.int .i64 0,.slice none 0 0,.slice none 0 0] 29)):=bA_;have B1:Below w.heap.size w ((w.alloc (.cells #[.int .i64 0,.slice none 0 0,.slice none 0 0] 29)).alloc (.cells #[.int .i64 W,.slice none 0 0,.slice none 0 0] 29)):=B0.alloc sm_ _;have B2:Below w.heap.size w (((w.alloc (.cells #[.int .i64 0,.slice none 0 0,.slice none 0 0] 29)).alloc (.cells #[.int .i64 W,.slice none 0 0,.slice none 0 0] 29)).alloc (.cells #[.map (some bT)] 84)):=B1.alloc so_ _;have z1:(w.alloc (.cells #[.int .i64 0,.slice none 0 0,.slice none 0 0] 29)).heap.size=w.heap.size+1:=sm_;have z2:((w.alloc (.cells #[.int .i64 0,.slice none 0 0,.slice none 0 0] 29)).alloc (.cells #[.int .i64 W,.slice none 0 0,.slice none 0 0] 29)).heap.size=w.heap.size+2:=sm_;have z3:(((w.alloc (.cells #[.int .i64 0,.slice none 0 0,.slice none 0 0] 29)).alloc (.cells #[.int .i64 W,.slice none 0 0,.slice none 0 0] 29)).alloc (.cells #[.map (some bT)] 84)).heap.size=w.heap.size+3:=sm_;have h0:=(hCC.below B0).blk 0 _ rfl;have h1:=(hCC.below B1).blk 1 _ rfl;have M2:=hI_ (hCC.below B2).tx;have hfK:Fence.wide.fn 47:=trivial;have hfL:Fence.wide.fn 48:=trivial;have hf0:fB (((w.alloc (.cells #[.int .i64 0,.slice none 0 0,.slice none 0 0] 29)).alloc (.cells #[.int .i64 W,.slice none 0 0,.slice none 0 0] 29)).alloc (.cells #[.map (some bT)] 84)) (w.heap.size+1) 1=none:=by
  have bs:=(blk_new (w.alloc (.cells #[.int .i64 0,.slice none 0 0,.slice none 0 0] 29)) [.int .i64 W,.slice none 0 0,.slice none 0 0] 29);rw [z1] at bs;have h:=(bs.below (N:=w.heap.size+2) (u':=(((w.alloc (.cells #[.int .i64 0,.slice none 0 0,.slice none 0 0] 29)).alloc (.cells #[.int .i64 W,.slice none 0 0,.slice none 0 0] 29)).alloc (.cells #[.map (some bT)] 84))) ((Below.refl _ _).alloc sm_ _) om_) 1 _ rfl;unfold fB;rw [h];rfl
 have hTb:OfT (((w.alloc (.cells #[.int .i64 0,.slice none 0 0,.slice none 0 0] 29)).alloc (.cells #[.int .i64 W,.slice none 0 0,.slice none 0 0] 29)).alloc (.cells #[.map (some bT)] 84)) (w.heap.size+2) 84:=by have h:=ofT_new ((w.alloc (.cells #[.int .i64 0,.slice none 0 0,.slice none 0 0] 29)).alloc (.cells #[.int .i64 W,.slice none 0 0,.slice none 0 0] 29)) #[.map (some bT)] 84;rw [z2] at h;exact h
 have hbx:(((w.alloc (.cells #[.int .i64 0,.slice none 0 0,.slice none 0 0] 29)).alloc (.cells #[.int .i64 W,.slice none 0 0,.slice none 0 0] 29)).alloc (.cells #[.map (some bT)] 84)).cell? ⟨w.heap.size+2,0,none⟩=some (.map (some bT)):=by have h:=blk_new ((w.alloc (.cells #[.int .i64 0,.slice none 0 0,.slice none 0 0] 29)).alloc (.cells #[.int .i64 W,.slice none 0 0,.slice none 0 0] 29)) [.map (some bT)] 84 0 _ rfl;rw [z2] at h;exact h
 have hks:∀ p∈ts.map (gT W),p.1.size<=maxLen:=fun p hp=>by
  obtain ⟨t,_,rfl⟩:=List.mem_map.1 hp;show (sumS t W).size<=maxLen;rw [sumS_size hW];unfold maxLen;omega
 have hbTw:=hCC.tx.lt;have I0:S1 w W ts (ts.map (gT W)).length [] (((w.alloc (.cells #[.int .i64 0,.slice none 0 0,.slice none 0 0] 29)).alloc (.cells #[.int .i64 W,.slice none 0 0,.slice none 0 0] 29)).alloc (.cells #[.map (some bT)] 84)):=by
  have bz:=(blk_new w [.int .i64 0,.slice none 0 0,.slice none 0 0] 29);have bs:=(blk_new (w.alloc (.cells #[.int .i64 0,.slice none 0 0,.slice none 0 0] 29)) [.int .i64 W,.slice none 0 0,.slice none 0 0] 29);have hb1:Below (w.heap.size+1) (w.alloc (.cells #[.int .i64 0,.slice none 0 0,.slice none 0 0] 29)) (((w.alloc (.cells #[.int .i64 0,.slice none 0 0,.slice none 0 0] 29)).alloc (.cells #[.int .i64 W,.slice none 0 0,.slice none 0 0] 29)).alloc (.cells #[.map (some bT)] 84)):=((Below.refl _ _).alloc sm_ _).alloc sm_ _;have hb2:Below (w.heap.size+2) ((w.alloc (.cells #[.int .i64 0,.slice none 0 0,.slice none 0 0] 29)).alloc (.cells #[.int .i64 W,.slice none 0 0,.slice none 0 0] 29)) (((w.alloc (.cells #[.int .i64 0,.slice none 0 0,.slice none 0 0] 29)).alloc (.cells #[.int .i64 W,.slice none 0 0,.slice none 0 0] 29)).alloc (.cells #[.map (some bT)] 84)):=(Below.refl _ _).alloc sm_ _;rw [z1] at bs;have os:=opn_new (w.alloc (.cells #[.int .i64 0,.slice none 0 0,.slice none 0 0] 29)) #[.int .i64 W,.slice none 0 0,.slice none 0 0] 29;have tos:=ofT_new (w.alloc (.cells #[.int .i64 0,.slice none 0 0,.slice none 0 0] 29)) #[.int .i64 W,.slice none 0 0,.slice none 0 0] 29;rw [z1] at os tos;exact ⟨⟨none,0,bs.below hb2 om_,World.ownsRow_nil _ _ _ _⟩,os.below hb2 om_,tos.below hb2 om_,bz.below hb1 om_,(opn_new w #[.int .i64 0,.slice none 0 0,.slice none 0 0] 29).below hb1 om_,(ofT_new w #[.int .i64 0,.slice none 0 0,.slice none 0 0] 29).below hb1 om_,B2,om_⟩
 obtain ⟨i0,hi9,hz0,hz1,hz2⟩:=info_parts' info9;obtain ⟨j0,hj9,jz0,jz1,jz2⟩:=info_parts' info96';refine (callsIn_wide (n:=11)).1 ?_;refine callsIn_of_wp_marks func20 rfl trivial ?_ rfl;simp only [ntmps20,List.size_toArray,List.length_cons,List.length_nil,Nat.reduceAdd,Nat.reduceSub,Array.replicate_succ,Array.replicate_zero,List.push_toArray,List.append_toArray,List.nil_append,List.cons_append]
 gi_wp2_with (gi_at_call 47;refine (c47 _ _ _).mono ?_;rintro e w' ⟨rfl,rfl⟩)
 generalize (((w.alloc (.cells #[.int .i64 0,.slice none 0 0,.slice none 0 0] 29)).alloc (.cells #[.int .i64 W,.slice none 0 0,.slice none 0 0] 29)).alloc (.cells #[.map (some bT)] 84))=U2 at*;have hm2:U2.cell? ⟨w.heap.size+2,0,none⟩=some (.map (some bT)):=hbx;refine wpIn_rangeFunc_ownH rfl om_ (gf:=95) (lb:=#[.pointer (some ⟨w.heap.size+2,0,none⟩)]) rfl trivial (enters_of func95 kr_ rfl)
  (it92 (w.heap.size+1) 1 (w.heap.size+2) bT _ (ts.map (gT W)) U2 hCC.ta hks (by simpa using htl) om_ hm2 M2.out hTb om_ om_ om_ hf0)
  KpS.trans (kps_put om_) (Below.refl _ _) (fun _=>rfl)
  (fun pre W'=>S1 w W ts (ts.map (gT W)).length pre W') (fun _ _ _=>False) (s1_own w W ts _ _ om_) (fun _ _ _ _ _ h _ _=>h) I0
  (fun x a' W'=>∃ Bx tx,tx=txA ts (ts.map (gT W)).length x/\w.heap.size+3<=Bx/\BlkAt W' Bx [.string tx,.int .i64 (hC tx),.string (hT tx)]/\OfT W' Bx 92/\a'={ tmps:=#[.pointer (some ⟨H,0,none⟩),undef,.pointer (some ⟨w.heap.size,0,none⟩),.pointer (some ⟨w.heap.size+1,0,none⟩),.pointer (some ⟨Bx,0,none⟩),undef,.pointer (some ⟨H,0,none⟩),.pointer (some ⟨H,0,none⟩),.pointer (some ⟨H,0,none⟩),.int .i64 W,.agg #[.int .i64 W,.slice none 0 0,.slice none 0 0],.pointer (some ⟨H,0,none⟩),.pointer (some ⟨H,0,none⟩),.pointer (some ⟨H,1,none⟩),.map (some bT),.func (.func 95) #[] #[.pointer (some ⟨w.heap.size+2,0,none⟩)],.agg #[.string tx,.int .i64 (hC tx),.string (hT tx)],undef,undef,undef,undef,undef,undef,undef,undef,undef,undef,undef,undef,undef,undef,undef,undef,undef,undef,undef,undef,undef,undef,undef,undef],defers:=[] }) ?hax ?assign ?body ?done ?stop
 case hax=>
  rintro x a' s W1 W2 row ⟨Bx,tx,h1,h2,h3,h4,h5⟩ hg hr;have hr2:∀ r,row=some r->∃ o:Obj,W1.heap[r]?=some o/\o.isCells=false:=fun r e=>(hr r e).2;exact ⟨Bx,tx,h1,h2,blk_noncells h3 h4 hg hr2,ofT_noncells h4 hg hr2,h5⟩
 case assign=>
  intro l pre x W1 K hi hK;have hvx:(((ts.map (gT W))[x.1]'x.2)).2=.agg #[.string (txA ts (ts.map (gT W)).length x),.int .i64 (hC (txA ts (ts.map (gT W)).length x)),.string (hT (txA ts (ts.map (gT W)).length x))]:=tx_val ts x;rw [hvx];generalize htx:txA ts (ts.map (gT W)).length x=tx at*;have hg:=World.grownBy_alloc W1 (.cells #[.string tx,.int .i64 (hC tx),.string (hT tx)] 92) none;have hi2:=s1_own w W ts (ts.map (gT W)).length (w.heap.size+3) lr_ pre W1 _ none hi hg (fun _ e=>by cases e);have hk2:=kps_alloc (W:=W1) (w.heap.size+1) 1 92 (by have:=hi.sz;omega) (.cells #[.string tx,.int .i64 (hC tx),.string (hT tx)] 92);have hb2:=blk_new W1 [.string tx,.int .i64 (hC tx),.string (hT tx)] 92;have ht2:=ofT_new W1 #[.string tx,.int .i64 (hC tx),.string (hT tx)] 92;have hz:=hi.sz
  gi_wp2
  exact hK _ _ ((KeepsOthers.alloc _ _).from _) hk2 hi2 ⟨W1.heap.size,tx,rfl,hz,hb2,ht2,rfl⟩
 case body=>
  rintro l pre x a' W1 hl ⟨r,hr⟩ hi ⟨Bx,tx,htx,hBx,bX,tX,rfl⟩ hlt;have HTX:=hI_ htx;clear htx;obtain ⟨a,c,bS,oS⟩:=hi.ex;have hz:=hi.sz;have x0:=bX 0 _ rfl;have y1:=bS 1 _ rfl;have f1:=hi.op 1;have HO:=hI_ (oS.alloc (.cells #[.string tx] 9));have HS0:=hI_ hi;have HB0:=hI_ bS;have HR0:=hI_ oS;have hpl:pre.length<=1000:=by have e:(ts.map (gT W)).length=ts.length:=List.length_map ..;omega
  have bN:Below W1.heap.size W1 (W1.alloc (.cells #[.string tx] 9)):=bA_;have sN:(W1.alloc (.cells #[.string tx] 9)).heap.size=W1.heap.size+1:=sm_;clear hi bS oS bX tX hr;have hmark:True:=trivial
  gi_wp2_with (gi_at_builtin;refine wpListIn_append_own_at _ rfl _ _ 22 rfl (w.heap.size+3) 9 i0 (.string ⟨#[]⟩) 1 16 underlying22 hi9 hz0 hz1 hz2 rfl dc_ _ _ _ rfl HO.out ⟨W1.heap.size,0,none⟩ 1 1 [.string tx] rfl rfl (cell_one_new _ _ _) (by simp [Value.oneCell']) (by unfold maxLen;omega) om_ om_ ?_;revert hmark)
  intro v2 w2 hown hgrow _ hloc;obtain ⟨a2,c2,rfl⟩:=row_form hown;have neS:=row_ne (k:=w.heap.size+1) HR0.out om_;have b2:=blk_kept (HB0.out.below bN om_) hgrow om_ neS;have g1:=b2 1 _ rfl;have fz:=(opn_kept (HS0.out.op.below bN om_) hgrow om_ neS) 1;have HST:=hI_ (s1_step (B:=U2.heap.size) HS0.out HB0.out HR0.out HTX.out hown hgrow (by rw [sN];exact hloc));clear hown hgrow hloc
  gi_wp2
  exact ⟨HST.out.1.1,HST.out.1.2,HST.out.2⟩
 case done=>
  rintro D xs W1 hD hxs hi hKd;subst hxs;obtain ⟨a,c,bS,oS⟩:=s1_done hi;have hz:=hi.sz;have BW1:=hi.bw;have hDl:=(Array.getElem?_eq_some_iff.1 hKd).1;have h2:=(hCC.below BW1).blk 2 _ rfl;have HM:=hI_ ((hCC.below BW1).rc.alloc (.cells #[.map (some bR)] 85));have bX2:Below W1.heap.size W1 (W1.alloc (.cells #[.map (some bR)] 85)):=bA_;have sX2:(W1.alloc (.cells #[.map (some bR)] 85)).heap.size=W1.heap.size+1:=sm_;have J0:S2 w W ts rs a c D rv.length [] (W1.alloc (.cells #[.map (some bR)] 85)):=s2_start hi bS oS om_ hKd bX2;have hbx2:(W1.alloc (.cells #[.map (some bR)] 85)).cell? ⟨W1.heap.size,0,none⟩=some (.map (some bR)):=blk_new W1 [.map (some bR)] 85 0 _ rfl;have hTb2:OfT (W1.alloc (.cells #[.map (some bR)] 85)) W1.heap.size 85:=ofT_new W1 #[.map (some bR)] 85;have hf2:fB (W1.alloc (.cells #[.map (some bR)] 85)) (w.heap.size+1) 2=none:=by
   unfold fB;rw [(bS.below bX2 om_) 2 _ rfl];rfl
  have hbRw:=hCC.rc.lt;have hrec:∀ i:Fin rv.length,∃ ax cx,(rv[i.1]'i.2)=.agg #[.string (rcA rs rv.length i).key,.slice ax (rcA rs rv.length i).gs.length cx,.string (rcA rs rv.length i).out]/\GlsAt w ax (rcA rs rv.length i).gs:=fun i=>rec_of hR i;have HRC:=hI_ hrec;clear hi bS oS hrec;simp only []
  gi_wp2_with (gi_at_call 48;refine (c48 _ _ _).mono ?_;rintro e w' ⟨rfl,rfl⟩)
  generalize hX2:(W1.alloc (.cells #[.map (some bR)] 85))=X2 at*;clear hX2;refine wpIn_rangeFunc_ownH rfl om_ (gf:=98) (lb:=#[.pointer (some ⟨W1.heap.size,0,none⟩)]) rfl trivial (enters_of func98 kr_ rfl)
   (it95 (w.heap.size+1) 2 W1.heap.size bR _ rv X2 (by have:=hR.len;omega) om_ hbx2 HM.out hTb2 om_ om_ om_ hf2)
   KpS.trans (kps_put om_) (Below.refl _ _) (fun _=>rfl)
   (fun pre W'=>S2 w W ts rs a c D rv.length pre W') (fun _ _ _=>False) (s2_own w W ts rs a c D _ _ om_ om_) (fun _ _ _ _ _ h _ _=>h) J0
   (fun x a' W'=>∃ Bx y ax cx,y=rcA rs rv.length x/\w.heap.size+3<=Bx/\GlsAt w ax y.gs/\BlkAt W' Bx [.string y.key,.slice ax y.gs.length cx,.string y.out]/\OpnAt W' Bx/\Bx<W'.heap.size/\OfT W' Bx 96/\OfT W' (w.heap.size+1) 29/\fB W' (w.heap.size+1) 2≠some Bx/\a'={ tmps:=#[.pointer (some ⟨H,0,none⟩),undef,.pointer (some ⟨w.heap.size,0,none⟩),.pointer (some ⟨w.heap.size+1,0,none⟩),undef,.pointer (some ⟨Bx,0,none⟩),.pointer (some ⟨H,0,none⟩),.pointer (some ⟨H,0,none⟩),.pointer (some ⟨H,0,none⟩),.int .i64 W,.agg #[.int .i64 W,.slice none 0 0,.slice none 0 0],.pointer (some ⟨H,0,none⟩),.pointer (some ⟨H,0,none⟩),.pointer (some ⟨H,1,none⟩),.map (some bT),.func (.func 95) #[] #[.pointer (some ⟨w.heap.size+2,0,none⟩)],undef,undef,undef,undef,undef,undef,undef,undef,.pointer (some ⟨H,0,none⟩),.pointer (some ⟨H,0,none⟩),.pointer (some ⟨H,2,none⟩),.map (some bR),.func (.func 98) #[] #[.pointer (some ⟨W1.heap.size,0,none⟩)],.agg #[.string y.key,.slice ax y.gs.length cx,.string y.out],undef,undef,undef,undef,undef,undef,undef,undef,undef,undef,undef],defers:=[] }) ?hax2 ?assign2 ?body2 ?done2 ?stop2
  case hax2=>
   rintro x a' s V1 V2 row ⟨Bx,y,ax,cx,h1,h2,h3,h4,h5,h6,h7,h9,h10,h8⟩ hg hr;have hr2:∀ r,row=some r->∃ o:Obj,V1.heap[r]?=some o/\o.isCells=false:=fun r e=>(hr r e).2;exact ⟨Bx,y,ax,cx,h1,h2,h3,blk_noncells h4 h7 hg hr2,opn_noncells h5 h7 hg hr2,Nat.lt_of_lt_of_le h6 hg.size,ofT_noncells h7 hg hr2,ofT_noncells h9 hg hr2,by rw [fB_noncells h9 hg hr2];exact h10,h8⟩
  case assign2=>
   intro l pre x V1 K hi hK;obtain ⟨ax,cx,hvx,hG⟩:=HRC.out x;rw [hvx];generalize hy:rcA rs rv.length x=y at*;have hg:=World.grownBy_alloc V1 (.cells #[.string y.key,.slice ax y.gs.length cx,.string y.out] 96) none;have hi2:=s2_own w W ts rs a c D rv.length (D+1+(w.heap.size+3)) om_ om_ pre V1 _ none hi hg (fun _ e=>by cases e);have hk2:=kps_alloc (W:=V1) (w.heap.size+1) 2 96 (by have:=hi.sz;omega) (.cells #[.string y.key,.slice ax y.gs.length cx,.string y.out] 96);have hb2:=blk_new V1 [.string y.key,.slice ax y.gs.length cx,.string y.out] 96;have ho2:=opn_new V1 #[.string y.key,.slice ax y.gs.length cx,.string y.out] 96;have ht2:=ofT_new V1 #[.string y.key,.slice ax y.gs.length cx,.string y.out] 96;have hz:=hi.sz;have hs2:V1.heap.size<(V1.alloc (.cells #[.string y.key,.slice ax y.gs.length cx,.string y.out] 96)).heap.size:=sm_;have hfx:fB (V1.alloc (.cells #[.string y.key,.slice ax y.gs.length cx,.string y.out] 96)) (w.heap.size+1) 2≠some V1.heap.size:=by
    obtain ⟨a2,c2,vs,hb,ho⟩:=hi.ex;have e:fB (V1.alloc (.cells #[.string y.key,.slice ax y.gs.length cx,.string y.out] 96)) (w.heap.size+1) 2=(Value.slice a2 pre.length c2).ownBlock:=by
     unfold fB;rw [(hb.below ((Below.refl V1.heap.size V1).alloc lr_ _) om_) 2 _ rfl];rfl
    rw [e];intro e2;have:=own_lt ho.row e2;omega
   clear hvx
   gi_wp2
   exact hK _ _ ((KeepsOthers.alloc _ _).from _) hk2 hi2 ⟨V1.heap.size,y,ax,cx,rfl,hz,hG,hb2,ho2,hs2,ht2,hi2.t1,hfx,rfl⟩
  case body2=>
   rintro l pre x a' V1 hl ⟨r,hr⟩ hi ⟨Bx,y,ax,cx,hy,hBx,hG,bX,oX,lX,tX,_,hfx,rfl⟩ hlt;have HY:=hI_ hy;have hgl:y.gs.length<=1048576:=by rw [hy];exact hgs _
   clear hy;obtain ⟨a2,c2,vs,bS,oS⟩:=hi.ex;have hz:=hi.sz;have x1:=bX 1 _ rfl;have f1:=oX 1;have HS0:=hI_ hi;have HB0:=hI_ bS;have HR0:=hI_ oS;have HBX:=hI_ bX;have HOX:=hI_ oX;have HFX:=hI_ hfx;have HTX:=hI_ tX;have h69:=c49 ax cx y.gs V1 hgl (gls_below hG hi.bw);have hpl:pre.length<=1000:=by have:=hR.len;omega
   clear hi bS oS bX oX tX hr hfx hG;have hmark:True:=trivial;have hfC:Fence.wide.fn 49:=trivial
   gi_wp2_with (first | (gi_at_call 49;refine (CallsIn.inRound l (callsIn_wide.2 h69)).mono ?_;revert hmark) | (refine ⟨trivial,?_⟩;gi_at_call 49;refine (CallsIn.inRound l (callsIn_wide.2 h69)).mono ?_;revert hmark))
   rintro _ e V2 ⟨⟨a5,c905,rfl,h5⟩,hb2⟩;have s2:=hb2.size;have H5:=hI_ h5;have b2:=HBX.out.below hb2 lX;have g1:=b2 1 _ rfl;have g2:=(HOX.out.below hb2 lX) 1;have b3:BlkAt (V2.setCell ⟨Bx,1,none⟩ (.slice a5 y.gs.length c905)) Bx [.string y.key,.slice a5 y.gs.length c905,.string y.out]:=b2.set 1 _ sm_;have k0:=b3 0 _ rfl;have k1:=b3 1 _ rfl;have k2:=b3 2 _ rfl;have bS3:=(HB0.out.below hb2 om_).other ⟨Bx,1,none⟩ (.slice a5 y.gs.length c905) (by show Bx≠w.heap.size+1;omega);have q2:=bS3 2 _ rfl;have hrb:∀ k,(Value.slice a2 pre.length c2).ownBlock=some k->k<V1.heap.size/\k≠Bx:=fun k e=>⟨own_lt HR0.out.row e,fun e2=>HFX.out (by unfold fB;rw [HB0.out 2 _ rfl,<- e2];exact e)⟩;have HO:Hid (((V2.setCell ⟨Bx,1,none⟩ (.slice a5 y.gs.length c905)).alloc (.cells #[.string y.key,.slice a5 y.gs.length c905,.string y.out] 96)).ownsRow (w.heap.size+3) 96 3 (.slice a2 pre.length c2) pre.length (rC (pre.map (rcA rs rv.length)) vs)):=by
    have h:=HR0.out.row;rw [List.length_map] at h;exact own_keep' h (fun q hq=>((Below.heap_alloc _ _ q (by have:=(hrb q hq).1;simp;omega)).trans (Below.heap_setCell _ _ _ _ (by exact (hrb q hq).2))).trans (hb2.block q (hrb q hq).1))
   have HR:Hid (∀ j u,([.string y.key,.slice a5 y.gs.length c905,.string y.out]:List Value)[j]?=some u->((V2.setCell ⟨Bx,1,none⟩ (.slice a5 y.gs.length c905)).alloc (.cells #[.string y.key,.slice a5 y.gs.length c905,.string y.out] 96)).cell? ((⟨V2.heap.size,0,none⟩:Addr).add j)=some u):=fun j u hj=>by
    rw [adr_add,Nat.zero_add];have h:=blk_new (V2.setCell ⟨Bx,1,none⟩ (.slice a5 y.gs.length c905)) [.string y.key,.slice a5 y.gs.length c905,.string y.out] 96 j u hj;rw [show (V2.setCell ⟨Bx,1,none⟩ (.slice a5 y.gs.length c905)).heap.size=V2.heap.size by simp] at h;exact h
   have s4:((V2.setCell ⟨Bx,1,none⟩ (.slice a5 y.gs.length c905)).alloc (.cells #[.string y.key,.slice a5 y.gs.length c905,.string y.out] 96)).heap.size=V2.heap.size+1:=sm_;clear h5 b2 b3 bS3 h69;have hmark:True:=trivial
   gi_wp2_with (gi_at_builtin;refine wpListIn_append_own_at _ rfl _ _ 27 rfl (w.heap.size+3) 96 j0 (.agg #[.string ⟨#[]⟩,.slice none 0 0,.string ⟨#[]⟩]) 3 56 underlying27 hj9 jz0 jz1 jz2 rfl dc_ _ _ _ rfl HO.out ⟨V2.heap.size,0,none⟩ 1 1 [.string y.key,.slice a5 y.gs.length c905,.string y.out] rfl rfl HR.out (by simp [Value.oneCell']) (by unfold maxLen;omega) om_ om_ ?_;revert hmark)
   intro v6 V5 hown hgrow _ hloc;obtain ⟨a6,c906,rfl⟩:=row_form hown;have HST:=hI_ (s2_step (B:=X2.heap.size) HS0.out HB0.out HR0.out HY.out hBx lX HTX.out HFX.out hb2 H5.out hown hgrow (by rw [s4];exact hloc));have neS:some (w.heap.size+1)≠(Value.slice a2 pre.length c2).ownBlock:=row_ne HO.out om_;have b4:BlkAt ((V2.setCell ⟨Bx,1,none⟩ (.slice a5 y.gs.length c905)).alloc (.cells #[.string y.key,.slice a5 y.gs.length c905,.string y.out] 96)) (w.heap.size+1) [.int .i64 W,.slice a ts.length c,.slice a2 pre.length c2]:=((HB0.out.below hb2 om_).other _ _ (by show Bx≠w.heap.size+1;omega)).below (N:=V2.heap.size) ((Below.refl _ _).alloc sm_ _) om_;have o4:OpnAt ((V2.setCell ⟨Bx,1,none⟩ (.slice a5 y.gs.length c905)).alloc (.cells #[.string y.key,.slice a5 y.gs.length c905,.string y.out] 96)) (w.heap.size+1):=((HS0.out.op.below hb2 om_).set _ _).below (N:=V2.heap.size) ((Below.refl _ _).alloc sm_ _) om_;have m1:=(blk_kept b4 hgrow om_ neS) 2 _ rfl;have m2:=(opn_kept o4 hgrow om_ neS) 2;clear hown hgrow hloc b4 o4
   gi_wp2
   exact ⟨HST.out.1.1,HST.out.1.2,HST.out.2⟩
  case done2=>
   rintro D2 xs W2 hD2 hxs hi hKd2;subst hxs;obtain ⟨a2,c2,vs,bS,oS⟩:=hi.ex;have el:(List.finRange rv.length).length=rs.length:=by simp [hR.len]
   have em:(List.finRange rv.length).map (rcA rs rv.length)=rs:=fin_recs hR.len;rw [el] at bS oS;rw [em] at oS;have y0:=bS 0 _ rfl;have y1:=bS 1 _ rfl;have y2:=bS 2 _ rfl;have z0:=hi.rb 0 _ rfl;have z1':=hi.rb 1 _ rfl;have z2':=hi.rb 2 _ rfl;have r0:=hi.ro 0;have r1:=hi.ro 1;have r2:=hi.ro 2;have HS:=hI_ hi;have HR:=hI_ oS;clear hi bS oS;have hEh:∀ k,k≠w.heap.size->(((W2.setCell ⟨w.heap.size,0,none⟩ (.int .i64 W)).setCell ⟨w.heap.size,1,none⟩ (.slice a ts.length c)).setCell ⟨w.heap.size,2,none⟩ (.slice a2 rs.length c2)).heap[k]?=W2.heap[k]?:=fun k hk=>(Below.heap_setCell _ _ _ _ (by exact hk)).trans ((Below.heap_setCell _ _ _ _ (by exact hk)).trans (Below.heap_setCell _ _ _ _ (by exact hk)));have ZE:BlkAt (((W2.setCell ⟨w.heap.size,0,none⟩ (.int .i64 W)).setCell ⟨w.heap.size,1,none⟩ (.slice a ts.length c)).setCell ⟨w.heap.size,2,none⟩ (.slice a2 rs.length c2)) w.heap.size [.int .i64 W,.slice a ts.length c,.slice a2 rs.length c2]:=((HS.out.rb.set 0 _ sm_).set 1 _ sm_).set 2 _ sm_;have sE:(((W2.setCell ⟨w.heap.size,0,none⟩ (.int .i64 W)).setCell ⟨w.heap.size,1,none⟩ (.slice a ts.length c)).setCell ⟨w.heap.size,2,none⟩ (.slice a2 rs.length c2)).heap.size=W2.heap.size:=sm_;have hzz:=HS.out.sz;have q2:=(hEh D2 om_).trans hKd2;have q1:=(hEh D om_).trans HS.out.dd;have hDD:D≠D2:=om_;have HFh:Hid (∀ q t,OfT W2 q t->q≠w.heap.size->(((((W2.setCell ⟨w.heap.size,0,none⟩ (.int .i64 W)).setCell ⟨w.heap.size,1,none⟩ (.slice a ts.length c)).setCell ⟨w.heap.size,2,none⟩ (.slice a2 rs.length c2)).putObj D2 (.deferred none)).putObj D (.deferred none)).heap[q]?=W2.heap[q]?):=fun q t hT hq=>by
    obtain ⟨cur,fr,e⟩:=hT;refine (World.putObj_heap_other (fun e2=>?_)).trans ((World.putObj_heap_other (fun e2=>?_)).trans (hEh q hq))
    · rw [e2,HS.out.dd] at e;cases e
    · rw [e2,hKd2] at e;cases e
   have HEND:Hid (StOwn (((((W2.setCell ⟨w.heap.size,0,none⟩ (.int .i64 W)).setCell ⟨w.heap.size,1,none⟩ (.slice a ts.length c)).setCell ⟨w.heap.size,2,none⟩ (.slice a2 rs.length c2)).putObj D2 (.deferred none)).putObj D (.deferred none)) w.heap.size ts rs (.slice a ts.length c) (.slice a2 rs.length c2)):=by
    show StOwn _ _ _ _ _ _;refine ⟨own_low (own_keep' HS.out.tr (fun q hq=>HFh.out q 9 (own_ofT HS.out.tr hq) (fun e=>by have:=own_blk HS.out.tr hq;omega))) om_,vs,HR.out.len,own_low (own_keep' HR.out.row (fun q hq=>HFh.out q 96 (own_ofT HR.out.row hq) (fun e=>by have:=own_blk HR.out.row hq;omega))) om_,fun i hi=>?_,HR.out.apart⟩;obtain ⟨a3,c3,e,h3⟩:=HR.out.gl i hi;exact ⟨a3,c3,e,own_low (own_keep' h3 (fun q hq=>HFh.out q 119 (own_ofT h3 hq) (fun e=>by have:=own_blk h3 hq;omega))) om_⟩
   have HZE:Hid (BlkAt (((((W2.setCell ⟨w.heap.size,0,none⟩ (.int .i64 W)).setCell ⟨w.heap.size,1,none⟩ (.slice a ts.length c)).setCell ⟨w.heap.size,2,none⟩ (.slice a2 rs.length c2)).putObj D2 (.deferred none)).putObj D (.deferred none)) w.heap.size [.int .i64 W,.slice a ts.length c,.slice a2 rs.length c2]):=blk_same (blk_same ZE (World.putObj_heap_other om_)) (World.putObj_heap_other om_);have HBE:Hid (Below w.heap.size w (((((W2.setCell ⟨w.heap.size,0,none⟩ (.int .i64 W)).setCell ⟨w.heap.size,1,none⟩ (.slice a ts.length c)).setCell ⟨w.heap.size,2,none⟩ (.slice a2 rs.length c2)).putObj D2 (.deferred none)).putObj D (.deferred none))):=by
    show Below _ _ _;have b:=HS.out.bw;exact ⟨b.os,b.tape,b.output,by simp;exact b.size,fun k hk=>(World.putObj_heap_other om_).trans ((World.putObj_heap_other om_).trans ((hEh k om_).trans (b.block k hk)))⟩
   simp only []
   gi_wp2
   refine ⟨sm_,.inl ⟨_,_,rfl,run_takeDeferred q2,⟨sm_,.inl ⟨_,_,rfl,run_takeDeferred ((World.putObj_heap_other hDD).trans q1),?_⟩⟩⟩⟩;exact ⟨_,results_blk (P:=prog) (ty:=29) rfl _ _ w.heap.size [.int .i64 W,.slice a ts.length c,.slice a2 rs.length c2] _ rfl HZE.out underlying29 rfl kr_,⟨a,c,a2,c2,rfl,HEND.out⟩,HBE.out⟩
  case stop2=>
   rintro D c' pre V1 _ _ h _;exact h.elim
 case stop=>
  rintro D c' pre W1 _ _ h _;exact h.elim
end Go.Proofs.YtlckdgjfniglfaaGreatDoor

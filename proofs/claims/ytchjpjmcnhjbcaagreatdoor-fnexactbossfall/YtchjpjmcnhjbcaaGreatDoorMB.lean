import Derived.Test.YtchjpjmcnhjbcaaGreatDoorMA
import Derived.Maps.OwnIn
set_option linter.unusedVariables false
set_option maxHeartbeats 8000000
set_option maxRecDepth 100000
namespace Go.Proofs.YtchjpjmcnhjbcaaGreatDoor
open Proofs.Tryz Go.RowKit Go.Maps Go.Sort Go.Shelf
variable {W W' u u' w:World} {B D S X b base c c2 e j n size:Nat} {v:Value} {vs xs:List Value} {t:TypeId} {row:Option Nat} {W0:Int} {ts:LB} {rs:List R3} {a a2:OA}
attribute [local go_sem] Oper.semAt_some
def uM (ts:LB) (n:Nat) (i:Fin n):BY:=ts.getD i.1 ByteArray.empty
def Aw (rs:List R3) (n:Nat) (i:Fin n):R3:=rs.getD i.1 f_
theorem N8 (h:W.ownsRow base e size v n xs) {k:Nat} (a:v.ownBlock=some k):ng W k e:=by
 rcases h.2 with ⟨hv,_⟩ | ⟨g,cap,cur,hv,hg,b,_⟩
 · subst hv;simp [Value.ownBlock] at a
 · subst hv;simp [Value.ownBlock] at a;subst a;exact ⟨cur,(0,0),b⟩
theorem wH (a:W.heap.size<=W'.heap.size) (b:∀ k,k<W.heap.size->k≠S->fB W S j≠some k->W'.heap[k]?=W.heap[k]?) {t:TypeId} (i:ng W S t) (c:∀ q,fB W S j=some q->∃ t,ng W q t) (g:fB W' S j=fB W S j\/∃ q,fB W' S j=some q/\W.heap.size<=q):KeepsFrom B W W'/\Jy S j X W W':=by
 refine ⟨⟨a,fun k o _ ho hc=>?_⟩,⟨a,fun k o ho _ _ f d=>(b k (r_.1 ho).1 f d).trans ho,g⟩⟩;refine (b k (r_.1 ho).1 (fun e=>?_) (fun e=>?_)).trans ho
 · obtain ⟨cur,fr,h⟩:=i;rw [<- e,ho] at h;cases h;cases hc
 · obtain ⟨t',cur,fr,h⟩:=c k e;rw [ho] at h;cases h;cases hc
theorem aK (hS:S<w.heap.size):∀ (W:World) (l:Nat) (o a:Obj),w.heap.size<=l->W.heap[l]?=some o->o.isCells=false->o.isWalk=false->Jy S j X W (W.putObj l a):=fun W l o a hl ho hc hw=>by
 refine ⟨X4,fun k q b c _ _ _=>?_,.inl ?_⟩
 · refine (World.putObj_heap_other (fun e=>?_)).trans b;subst e;rw [ho] at b;cases b;rcases c with h | h
   · rw [hc] at h;cases h
   · rw [hw] at h;cases h
 · unfold fB;have e:(W.putObj l a).heap[S]?=W.heap[S]?:=World.putObj_heap_other O0;simp only [World.cell?,e]
theorem Oe (h:D5 W b vs) (hT:ng W b t) (a:W.grownBy W' row) (hr:∀ r,row=some r->∃ o:Obj,W.heap[r]?=some o/\o.isCells=false):D5 W' b vs:=by
 obtain ⟨cur,fr,hT⟩:=hT;refine N9 h a (r_.1 hT).1 fun e=>?_;obtain ⟨o,ho,hc⟩:=hr b e.symm;rw [hT] at ho;cases ho;cases hc
theorem Lc (hT:ng W b t) (a:W.grownBy W' row) (hr:∀ r,row=some r->∃ o:Obj,W.heap[r]?=some o/\o.isCells=false):ng W' b t:=by
 refine hT.kept a fun e=>?_;obtain ⟨cur,fr,hT⟩:=hT;obtain ⟨o,ho,hc⟩:=hr b e.symm;rw [hT] at ho;cases ho;cases hc
theorem Ei (h:W.ownsRow base e size v n xs) (a:W.grownBy W' row) (hr:∀ r,row=some r->∃ o:Obj,W.heap[r]?=some o/\o.isCells=false):W'.ownsRow base e size v n xs:=by
 refine h.kept a ?_
 cases hq:v.ownBlock with
 | none=>exact .inl rfl
 | some k=>
  refine .inr fun b=>?_;obtain ⟨cur,fr,hT⟩:=N8 h hq;obtain ⟨o,ho,hc⟩:=hr k b.symm;rw [hT] at ho;cases ho;cases hc
theorem Af (h:X6 W b) (d:W.grownBy W' row) (c:b<W.heap.size) (a:some b≠row):X6 W' b:=fun j=>by
 have:=h j;simp only [World.frozen?,d.block b c a];simpa only [World.frozen?] using this
theorem mG:(prog.info? 145).map (fun i=>(i.zero,i.size,i.bytes))=some (some (.agg #[.string ⟨#[]⟩,.slice none 0 0,.string ⟨#[]⟩]),3,56):=Y2
theorem Ah (h:ng W b t) (j:Nat) (v:Value):ng (W.setCell ⟨b,j,none⟩ v) b t:=by
 obtain ⟨cur,fr,h⟩:=h;have hb:=(r_.1 h);refine ⟨cur.setIfInBounds j v,fr,?_⟩;simp only [World.setCell];rw [Array.getElem?_modify];simp [h]
theorem MB (S j X:Nat) (b:S<W.heap.size) (o:Obj):Jy S j X W (W.alloc o):=
 ⟨X4,fun k q a _ _ _ _=>(Ov _ _ k (r_.1 a).1).trans a,.inl (by
  unfold fB;simp only [World.cell?,Ov W o S b])⟩
theorem QZ {W:Int} (ts:LB) (x:Fin (ts.map (gT W)).length):(((ts.map (gT W))[x.1]'x.2)).2=.agg #[.string (uM ts (ts.map (gT W)).length x),.int .i64 (hC (uM ts (ts.map (gT W)).length x)),.string (hT (uM ts (ts.map (gT W)).length x))]:=by
 have hx:x.1<ts.length:=by have:=x.2;simpa using this
 rw [iD];have e:uM ts (ts.map (gT W)).length x=ts[x.1]:=by unfold uM;simp only [List.getD,List.getElem?_eq_getElem hx,Option.getD_some]
 rw [e];rfl
structure S1 (w:World) (W0:Int) (ts:LB) (n:Nat) (pre:List (Fin n)) (W:World):Prop where
 ex:∃ a c,D5 W (w.heap.size+1) [.int .i64 W0,.slice a pre.length c,.slice none 0 0]/\W.ownsRow (w.heap.size+3) 9 1 (.slice a pre.length c) pre.length (pre.map fun i=>.string (uM ts n i))
 op:X6 W (w.heap.size+1)
 t1:ng W (w.heap.size+1) 43
 rb:D5 W w.heap.size [.int .i64 0,.slice none 0 0,.slice none 0 0]
 ro:X6 W w.heap.size
 t0:ng W w.heap.size 43
 bw:Bw w W
 sz:w.heap.size+3<=W.heap.size
theorem sQ (w:World) (W0:Int) (ts:LB) (n B:Nat) (hB:w.heap.size+3<=B):OwnFrom B (fun pre W=>S1 w W0 ts n pre W):=fun s W W' row h d hr=>by
 have f:∀ r,row=some r->∃ o:Obj,W.heap[r]?=some o/\o.isCells=false:=fun r e=>(hr r e).2;obtain ⟨a,c,h1,h2⟩:=h.ex;have g:∀ b,b<w.heap.size+3->some b≠row:=fun b hb e=>by have:=(hr b e.symm).1;omega
 exact ⟨⟨a,c,Oe h1 h.t1 d f,Ei h2 d f⟩,Af h.op d (by have:=h.sz;omega) (g _ O0),Lc h.t1 d f,Oe h.rb h.t0 d f,Af h.ro d (by have:=h.sz;omega) (g _ O0),Lc h.t0 d f,h.bw.trans (P9 d (fun j e=>by have:=(hr j e).1;omega) h.bw.size),G7 h.sz d.size⟩
theorem o7 (h:u.ownsRow base e size v n xs) (a:∀ q,v.ownBlock=some q->u'.heap[q]?=u.heap[q]?):u'.ownsRow base e size v n xs:=by
 refine ⟨h.1,h.2.imp id ?_⟩;rintro ⟨g,d,cur,h1,h2,c,b⟩;exact ⟨g,d,cur,h1,h2,(a g (by rw [h1];rfl)).trans c,b⟩
theorem Dz (h:D5 u b vs) (e:u'.heap[b]?=u.heap[b]?):D5 u' b vs:=fun j v a=>by
 have:=h j v a;simp only [World.cell?,e];simpa only [World.cell?] using this
theorem TR (h:X6 u b) (e:u'.heap[b]?=u.heap[b]?):X6 u' b:=fun j=>by
 have:=h j;simp only [World.frozen?,e];simpa only [World.frozen?] using this
def rC (rs:List R3) (vs:List Value):List Value:=(List.range rs.length).flatMap fun i=>[.string (rs.getD i f_).key,vs.getD i undef,.string (rs.getD i f_).out]
structure Fg (W:World) (base:Nat) (v:Value) (rs:List R3) (vs:List Value):Prop where
 len:vs.length=rs.length
 row:W.ownsRow base 145 3 v rs.length (rC rs vs)
 gl:∀ i,i<rs.length->∃ a c,vs.getD i undef=.slice a (rs.getD i f_).gs.length c/\W.ownsRow base 205 3 (.slice a (rs.getD i f_).gs.length c) (rs.getD i f_).gs.length (gC (rs.getD i f_).gs)
 apart:∀ i j,i<rs.length->j<rs.length->i≠j->(vs.getD i undef).ownBlock=none\/(vs.getD i undef).ownBlock≠(vs.getD j undef).ownBlock
def Td (W:World) (base:Nat) (ts:LB) (rs:List R3) (tv rvv:Value):Prop:=W.ownsRow base 9 1 tv ts.length (ts.map Value.string)/\∃ vs,Fg W base rvv rs vs
structure S2 (w:World) (W0:Int) (ts:LB) (rs:List R3) (a:OA) (c D n:Nat) (pre:List (Fin n)) (W:World):Prop where
 ex:∃ a2 c2 vs,D5 W (w.heap.size+1) [.int .i64 W0,.slice a ts.length c,.slice a2 pre.length c2]/\Fg W (w.heap.size+3) (.slice a2 pre.length c2) (pre.map (Aw rs n)) vs
 tr:W.ownsRow (w.heap.size+3) 9 1 (.slice a ts.length c) ts.length (ts.map Value.string)
 op:X6 W (w.heap.size+1)
 t1:ng W (w.heap.size+1) 43
 rb:D5 W w.heap.size [.int .i64 0,.slice none 0 0,.slice none 0 0]
 ro:X6 W w.heap.size
 t0:ng W w.heap.size 43
 bw:Bw w W
 sz:w.heap.size+3<=W.heap.size
 dl:D<W.heap.size
 dd:W.heap[D]?=some (.deferred (some []))
theorem aH (hT:ng W b t) (a:W.grownBy W' row) (hr:∀ r,row=some r->∃ o:Obj,W.heap[r]?=some o/\o.isCells=false):fB W' b j=fB W b j:=by
 obtain ⟨cur,fr,hT⟩:=hT;have e:=a.block b (r_.1 hT).1 (fun e=>by
  obtain ⟨o,ho,hc⟩:=hr b e.symm;rw [hT] at ho;cases ho;cases hc)
 unfold fB;simp only [World.cell?,e]
theorem Em (h:X6 W b) (hT:ng W b t) (a:W.grownBy W' row) (hr:∀ r,row=some r->∃ o:Obj,W.heap[r]?=some o/\o.isCells=false):X6 W' b:=by
 obtain ⟨cur,fr,hT⟩:=hT;refine Af h a (r_.1 hT).1 fun e=>?_;obtain ⟨o,ho,hc⟩:=hr b e.symm;rw [hT] at ho;cases ho;cases hc
theorem JQ (w:World) (W0:Int) (ts:LB) (rs:List R3) (a:OA) (c D n B:Nat) (hB:w.heap.size+3<=B) (l:D<B):OwnFrom B (fun pre W=>S2 w W0 ts rs a c D n pre W):=fun s W W' row h d hr=>by
 have f:∀ r,row=some r->∃ o:Obj,W.heap[r]?=some o/\o.isCells=false:=fun r e=>(hr r e).2;obtain ⟨a2,c2,vs,h1,h2⟩:=h.ex;have g:∀ b,b<B->some b≠row:=fun b hb e=>by have:=(hr b e.symm).1;omega
 exact ⟨⟨a2,c2,vs,Oe h1 h.t1 d f,⟨h2.len,Ei h2.row d f,fun i k=>by
  obtain ⟨p,c3,e,m⟩:=h2.gl i k;exact ⟨p,c3,e,Ei m d f⟩,h2.apart⟩⟩,Ei h.tr d f,Em h.op h.t1 d f,Lc h.t1 d f,Oe h.rb h.t0 d f,Em h.ro h.t0 d f,Lc h.t0 d f,h.bw.trans (P9 d (fun j e=>by have:=(hr j e).1;omega) h.bw.size),G7 h.sz d.size,O9 h.dl d.size,(d.block D h.dl (g D l)).trans h.dd⟩
theorem uU {b:World} {W:Int} (h:S1 w W0 ts (ts.map (gT W)).length (List.finRange (ts.map (gT W)).length) b):∃ a c,D5 b (w.heap.size+1) [.int .i64 W0,.slice a ts.length c,.slice none 0 0]/\b.ownsRow (w.heap.size+3) 9 1 (.slice a ts.length c) ts.length (ts.map Value.string):=by
 obtain ⟨a,c,h1,h2⟩:=h.ex;have e1:(List.finRange (ts.map (gT W)).length).length=ts.length:=X4;have f:((List.finRange (ts.map (gT W)).length).map fun i=>Value.string (uM ts (ts.map (gT W)).length i))=ts.map Value.string:=by
  apply Vy
  · simp
  · intro i hi1 d;have e:i<ts.length:=by simpa using d
    simp [uM,List.getD,Z8 e]
 rw [e1] at h1 h2;rw [f] at h2;exact ⟨a,c,h1,h2⟩
theorem nR {b e:World} {W:Int} {pre:List (Fin (ts.map (gT W)).length)} (h:S1 w W0 ts (ts.map (gT W)).length pre b) (f:D5 b (w.heap.size+1) [.int .i64 W0,.slice a ts.length c,.slice none 0 0]) (ho:b.ownsRow (w.heap.size+3) 9 1 (.slice a ts.length c) ts.length (ts.map Value.string)) (hD:w.heap.size+3<=D) (hd:b.heap[D]?=some (.deferred (some []))) (hx:Bw b e):S2 w W0 ts rs a c D n [] e:=by
 have hz:=h.sz;have hs:=hx.size;have g:=(r_.1 hd).1;exact ⟨⟨none,0,[],f.below hx O0,⟨rfl,mg _ _ _ _,fun i d=>absurd d (J8 _),fun i j d=>absurd d (J8 _)⟩⟩,own_below ho hx,h.op.below hx O0,h.t1.below hx O0,h.rb.below hx O0,h.ro.below hx O0,h.t0.below hx O0,h.bw.trans (hx.mono O0),O0,O0,(hx.block D g).trans hd⟩
theorem RZ {rv:List Value} {pl:List (ByteArray×Value)} (h:ShR B rs rv pl w) (i:Fin rv.length):∃ a b,(rv[i.1]'i.2)=.agg #[.string (Aw rs rv.length i).key,.slice a (Aw rs rv.length i).gs.length b,.string (Aw rs rv.length i).out]/\R_ w a (Aw rs rv.length i).gs:=by
 have c:=Nat.lt_of_lt_of_eq i.2 h.len;obtain ⟨a,b,e,d,_⟩:=h.recs i.1 c;refine ⟨a,b,?_,d⟩;unfold Aw;rw [<- e];simp only [List.getD,Z8 i.2,qf]
theorem row_ne {k:Nat} (h:W.ownsRow base e size v n xs) (hk:k<base):some k≠v.ownBlock:=fun e=>by
 have:=J6 h e.symm;omega
theorem aV {d f:World} {pre:List (Fin n)} {x:Fin n} {tx:BY} (h:S1 w W0 ts n pre d) (u:D5 d (w.heap.size+1) [.int .i64 W0,.slice a pre.length c,.slice none 0 0]) (ho:d.ownsRow (w.heap.size+3) 9 1 (.slice a pre.length c) pre.length (pre.map fun i=>.string (uM ts n i))) (C:tx=uM ts n x)
 (E:f.ownsRow (w.heap.size+3) 9 1 (.slice a2 (pre.length+1) c2) (pre.length+1) ((pre.map fun i=>.string (uM ts n i))++[.string tx])) (g:(d.alloc (.cells #[.string tx] 9)).grownBy f (Value.slice a pre.length c).ownBlock) (H:(Value.slice a2 (pre.length+1) c2).ownBlock=(Value.slice a pre.length c).ownBlock\/(Value.slice a2 (pre.length+1) c2).ownBlock=some (d.alloc (.cells #[.string tx] 9)).heap.size):
 (KeepsFrom B d (f.setCell ⟨w.heap.size+1,1,none⟩ (.slice a2 (pre.length+1) c2))/\Jy (w.heap.size+1) 1 217 d (f.setCell ⟨w.heap.size+1,1,none⟩ (.slice a2 (pre.length+1) c2)))/\S1 w W0 ts n (pre++[x]) (f.setCell ⟨w.heap.size+1,1,none⟩ (.slice a2 (pre.length+1) c2)):=by
 have hz:=h.sz;have l:Bw d (d.alloc (.cells #[.string tx] 9)):=P6;have sN:(d.alloc (.cells #[.string tx] 9)).heap.size=d.heap.size+1:=X4;have sG:=g.size;have m:=row_ne (k:=w.heap.size+1) ho O0;have o:=row_ne (k:=w.heap.size) ho O0;have L:=N9 (u.below l O0) g O0 m;have o2:=Af (h.op.below l O0) g O0 m;have z:=N9 (h.rb.below l O0) g O0 o;have A:=Af (h.ro.below l O0) g O0 o;have t1:=(h.t1.below l O0).kept g m;have t0:=(h.t0.below l O0).kept g o;have hf:fB d (w.heap.size+1) 1=(Value.slice a pre.length c).ownBlock:=by unfold fB;rw [u 1 _ rfl];rfl
 have y:D5 (f.setCell ⟨w.heap.size+1,1,none⟩ (.slice a2 (pre.length+1) c2)) (w.heap.size+1) [.int .i64 W0,.slice a2 (pre.length+1) c2,.slice none 0 0]:=L.set 1 _ X4;have K:fB (f.setCell ⟨w.heap.size+1,1,none⟩ (.slice a2 (pre.length+1) c2)) (w.heap.size+1) 1=(Value.slice a2 (pre.length+1) c2).ownBlock:=by unfold fB;rw [y 1 _ rfl];rfl
 have sT:(f.setCell ⟨w.heap.size+1,1,none⟩ (.slice a2 (pre.length+1) c2)).heap.size=f.heap.size:=X4;refine ⟨wH O0 (fun k J I s=>?_) h.t1 (fun q r=>?_) ?_,?_⟩
 · rw [hf] at s;rw [Ec _ _ _ _ (by exact I)];exact (g.block k O0 (fun e=>s e.symm)).trans (l.block k J)
 · rw [hf] at r;exact ⟨9,N8 ho r⟩
 · rw [K,hf];rcases H with e | e
   · exact .inl e
   · exact .inr ⟨_,e,O0⟩
 · have v:(pre++[x]).length=pre.length+1:=X4;have D:∀ b t,b≠w.heap.size+1->ng f b t->ng (f.setCell ⟨w.heap.size+1,1,none⟩ (.slice a2 (pre.length+1) c2)) b t:=fun b t F hT=>by
    obtain ⟨cur,fr,hT⟩:=hT;exact ⟨cur,fr,(Ec _ _ _ _ (by exact F)).trans hT⟩
   refine ⟨⟨a2,c2,?_,?_⟩,o2.set _ _,?_,z.other _ _ (by show w.heap.size+1≠w.heap.size;omega),A.set _ _,D _ _ O0 t0,?_,O0⟩
   · rw [v];exact y
   · rw [v,Og,Hq,QE,<- C];exact qg E _ _ (by show w.heap.size+1<w.heap.size+3;omega)
   · exact Ah t1 1 _
   · exact (h.bw.trans ((l.mono O0).trans (P9 g (fun j e=>by have:=J6 ho e;omega) O0))).setCell (p:=⟨w.heap.size+1,1,none⟩) (by show w.heap.size<=w.heap.size+1;omega) _
theorem MR (h:n=rs.length):(List.finRange n).map (Aw rs n)=rs:=by
 subst h;apply Vy
 · simp
 · intro i hi1 a;simp [Aw,List.getD,Z8 a]
theorem TJ (rs:List R3) (vs:List Value) (y:R3) (v:Value) (h:vs.length=rs.length):rC (rs++[y]) (vs++[v])=rC rs vs++[.string y.key,v,.string y.out]:=by
 unfold rC;rw [D9,Si,pF,Ns]
 congr 1
 · rw [List.flatMap_def,List.flatMap_def]
   congr 1
   apply Ku;intro i c;have b:=Lr.1 c;have e1:(rs++[y]).getD i f_=rs.getD i f_:=by simp only [List.getD,S_ b]
   have a:(vs++[v]).getD i undef=vs.getD i undef:=by simp only [List.getD,S_ (show i<vs.length by omega)]
   rw [e1,a]
 · have e1:(rs++[y]).getD rs.length f_=y:=by simp [List.getD]
   have a:(vs++[v]).getD rs.length undef=v:=by simp [List.getD,<- h]
   simp only [vg,List.flatMap_nil,Wy,e1,a]
theorem Y8 {t:Nat} (h:ng W b t) (a:ng W b c):t=c:=by
 obtain ⟨cur,fr,h⟩:=h;obtain ⟨cur',fr',a⟩:=a;rw [h] at a;cases a;rfl
theorem WV {V1 r p:World} {f m:OA} {d l Bx:Nat} {pre:List (Fin n)} {x:Fin n} {y:R3} (h:S2 w W0 ts rs a c D n pre V1) (Y:D5 V1 (w.heap.size+1) [.int .i64 W0,.slice a ts.length c,.slice a2 pre.length c2]) (ho:Fg V1 (w.heap.size+3) (.slice a2 pre.length c2) (pre.map (Aw rs n)) vs)
 (hy:y=Aw rs n x) (hBx:w.heap.size+3<=Bx) (lX:Bx<V1.heap.size) (K:ng V1 Bx 145) (hfx:fB V1 (w.heap.size+1) 2≠some Bx) (A:Bw V1 r) (F:r.ownsRow V1.heap.size 205 3 (.slice f y.gs.length d) y.gs.length (gC y.gs))
 (hown:p.ownsRow (w.heap.size+3) 145 3 (.slice m (pre.length+1) l) (pre.length+1) (rC (pre.map (Aw rs n)) vs++[.string y.key,(.slice f y.gs.length d),.string y.out])) (z:((r.setCell ⟨Bx,1,none⟩ (.slice f y.gs.length d)).alloc (.cells #[.string y.key,.slice f y.gs.length d,.string y.out] 145)).grownBy p (Value.slice a2 pre.length c2).ownBlock) (hloc:(Value.slice m (pre.length+1) l).ownBlock=(Value.slice a2 pre.length c2).ownBlock\/(Value.slice m (pre.length+1) l).ownBlock=some ((r.setCell ⟨Bx,1,none⟩ (.slice f y.gs.length d)).alloc (.cells #[.string y.key,.slice f y.gs.length d,.string y.out] 145)).heap.size):
 (KeepsFrom B V1 (p.setCell ⟨w.heap.size+1,2,none⟩ (.slice m (pre.length+1) l))/\Jy (w.heap.size+1) 2 145 V1 (p.setCell ⟨w.heap.size+1,2,none⟩ (.slice m (pre.length+1) l)))/\S2 w W0 ts rs a c D n (pre++[x]) (p.setCell ⟨w.heap.size+1,2,none⟩ (.slice m (pre.length+1) l)):=by
 have hz:=h.sz;have s12:=A.size;have s4:((r.setCell ⟨Bx,1,none⟩ (.slice f y.gs.length d)).alloc (.cells #[.string y.key,.slice f y.gs.length d,.string y.out] 145)).heap.size=r.heap.size+1:=X4;have s5:=z.size;have sT:(p.setCell ⟨w.heap.size+1,2,none⟩ (.slice m (pre.length+1) l)).heap.size=p.heap.size:=X4;have hf:fB V1 (w.heap.size+1) 2=(Value.slice a2 pre.length c2).ownBlock:=by unfold fB;rw [Y 2 _ rfl];rfl
 rw [hf] at hfx;have hrl:∀ k,(Value.slice a2 pre.length c2).ownBlock=some k->k<V1.heap.size:=fun k e=>Xe ho.row e;have H2:∀ k,k<r.heap.size->k≠Bx->k≠w.heap.size+1->(Value.slice a2 pre.length c2).ownBlock≠some k->(p.setCell ⟨w.heap.size+1,2,none⟩ (.slice m (pre.length+1) l)).heap[k]?=r.heap[k]?:=fun k I V E S=>by
  rw [Ec _ _ _ _ (by exact E)];refine (z.block k O0 (fun e=>S e.symm)).trans ?_;refine (Ov _ _ k (by simpa using I)).trans ?_;exact Ec _ _ _ _ (by exact V)
 have C:∀ k,k<V1.heap.size->k≠Bx->k≠w.heap.size+1->(Value.slice a2 pre.length c2).ownBlock≠some k->(p.setCell ⟨w.heap.size+1,2,none⟩ (.slice m (pre.length+1) l)).heap[k]?=V1.heap[k]?:=fun k I V E S=>(H2 k O0 V E S).trans (A.block k I);have HT:∀ k t,ng V1 k t->t≠145->k≠w.heap.size+1->(p.setCell ⟨w.heap.size+1,2,none⟩ (.slice m (pre.length+1) l)).heap[k]?=V1.heap[k]?:=fun k t hT ht E=>by
  refine C k (by obtain ⟨cur,fr,e⟩:=hT;exact (r_.1 e).1) (fun e=>ht ?_) E (fun e=>ht ?_)
  · subst e;exact Y8 hT K
  · exact Y8 hT (N8 ho.row e)
 have O:some (w.heap.size+1)≠(Value.slice a2 pre.length c2).ownBlock:=row_ne ho.row O0;have b4:D5 ((r.setCell ⟨Bx,1,none⟩ (.slice f y.gs.length d)).alloc (.cells #[.string y.key,.slice f y.gs.length d,.string y.out] 145)) (w.heap.size+1) [.int .i64 W0,.slice a ts.length c,.slice a2 pre.length c2]:=((Y.below A O0).other _ _ (by show Bx≠w.heap.size+1;omega)).below (N:=r.heap.size) ((Z4 _ _).alloc X4 _) O0;have o4:X6 ((r.setCell ⟨Bx,1,none⟩ (.slice f y.gs.length d)).alloc (.cells #[.string y.key,.slice f y.gs.length d,.string y.out] 145)) (w.heap.size+1):=((h.op.below A O0).set _ _).below (N:=r.heap.size) ((Z4 _ _).alloc X4 _) O0;have b5:=N9 b4 z O0 O;have o5:=Af o4 z O0 O;have b6:D5 (p.setCell ⟨w.heap.size+1,2,none⟩ (.slice m (pre.length+1) l)) (w.heap.size+1) [.int .i64 W0,.slice a ts.length c,.slice m (pre.length+1) l]:=b5.set 2 _ X4;have hf2:fB (p.setCell ⟨w.heap.size+1,2,none⟩ (.slice m (pre.length+1) l)) (w.heap.size+1) 2=(Value.slice m (pre.length+1) l).ownBlock:=by unfold fB;rw [b6 2 _ rfl];rfl
 have t4:ng p (w.heap.size+1) 43:=by
  obtain ⟨cur,fr,e⟩:=h.t1;refine ⟨cur,fr,(z.block _ O0 O).trans ((Ov _ _ _ U7).trans ?_)⟩;rw [Ec _ _ _ _ (by show w.heap.size+1≠Bx;omega)];exact (A.block _ O0).trans e
 have bT:Bw w (p.setCell ⟨w.heap.size+1,2,none⟩ (.slice m (pre.length+1) l)):=⟨(z.os.trans (A.os)).trans h.bw.os,(z.tape.trans (A.tape)).trans h.bw.tape,(z.output.trans (A.output)).trans h.bw.output,by have:=h.bw.size;omega,fun k I=>(C k O0 O0 O0 (fun e=>by have:=J6 ho.row e;omega)).trans (h.bw.block k I)⟩;refine ⟨⟨⟨O0,fun k o _ u U=>?_⟩,⟨O0,fun k o u _ hkX E X=>?_,?_⟩⟩,?_⟩
 · refine (C k (r_.1 u).1 (fun e=>?_) (fun e=>?_) (fun e=>?_)).trans u
   · obtain ⟨cur,fr,b⟩:=K;rw [<- e,u] at b;cases b;cases U
   · obtain ⟨cur,fr,b⟩:=h.t1;rw [<- e,u] at b;cases b;cases U
   · obtain ⟨cur,fr,b⟩:=N8 ho.row e;rw [u] at b;cases b;cases U
 · rw [hf] at X;refine (C k (r_.1 u).1 (fun e=>?_) E X).trans u;obtain ⟨cur,fr,b⟩:=K;rw [<- e,u] at b;cases b;exact hkX cur fr rfl
 · rw [hf2,hf];rcases hloc with e | e
   · exact .inl e
   · exact .inr ⟨_,e,O0⟩
 · have Z:(pre++[x]).length=pre.length+1:=X4;have em:(pre++[x]).map (Aw rs n)=pre.map (Aw rs n)++[y]:=by rw [Og,hy];rfl
   have s:(pre.map (Aw rs n)).length=pre.length:=Vd ..;have h5T:=H9 (o7 F (fun q g=>H2 q (Xe F g) (fun e=>by have:=J6 F g;omega) (fun e=>by have:=J6 F g;omega) (fun e=>by have:=hrl q e;have:=J6 F g;omega))) O0;have L:∀ i,i<pre.length->(vs++[Value.slice f y.gs.length d]).getD i undef=vs.getD i undef:=fun i v=>by simp only [List.getD,S_ (show i<vs.length by rw [ho.len,s];exact v)]
   have P:(vs++[Value.slice f y.gs.length d]).getD pre.length undef=(.slice f y.gs.length d):=by simp [List.getD,show pre.length=vs.length by rw [ho.len,s]]
   have hrl2:∀ i,i<pre.length->(pre.map (Aw rs n)++[y]).getD i f_=(pre.map (Aw rs n)).getD i f_:=fun i v=>by simp only [List.getD,S_ (show i<(pre.map (Aw rs n)).length by rw [s];exact v)]
   have hrn:(pre.map (Aw rs n)++[y]).getD pre.length f_=y:=by simp [List.getD]
   have W:∀ i,i<pre.length->∀ q,(vs.getD i undef).ownBlock=some q->q<V1.heap.size:=fun i v q g=>by
    obtain ⟨a3,c3,e,J⟩:=ho.gl i (by rw [s];exact v);rw [e] at g;exact Xe J g
   refine ⟨⟨m,l,vs++[(.slice f y.gs.length d)],by rw [Z];exact b6,?_⟩,?_,o5.set _ _,Ah t4 2 _,?_,?_,?_,bT,O0,by have:=h.dl;omega,?_⟩
   · rw [Z,em];refine ⟨by simp [ho.len],?_,fun i v=>?_,fun i j v hj hij=>?_⟩
     · rw [TJ _ _ _ _ ho.len,D9,s];exact qg hown _ _ (by show w.heap.size+1<w.heap.size+3;omega)
     · rw [D9,s,Si] at v;rcases Q7 i pre.length with Q | hge
       · rw [L i Q,hrl2 i Q];obtain ⟨a3,c3,e,J⟩:=ho.gl i (by rw [s];exact Q);exact ⟨a3,c3,e,o7 J (fun q g=>HT q 205 (N8 J g) o6 (fun e=>by have:=J6 J g;omega))⟩
       · obtain rfl:i=pre.length:=O0;rw [P,hrn];exact ⟨f,d,rfl,h5T⟩
     · rw [D9,s,Si] at v hj;rcases Q7 i pre.length with R | hgi
       · rw [L i R];rcases Q7 j pre.length with H | hgj
         · rw [L j H];exact ho.apart i j (by rw [s];exact R) (by rw [s];exact H) hij
         · obtain rfl:j=pre.length:=O0;rw [P]
           cases g:(vs.getD i undef).ownBlock with
           | none=>exact .inl rfl
           | some q=>
            refine .inr fun e=>?_;have:=W i R q g;have:=J6 F e.symm;omega
       · obtain rfl:i=pre.length:=O0;rw [P];have H:j<pre.length:=O0;rw [L j H]
         cases g:(Value.slice f y.gs.length d).ownBlock with
         | none=>exact .inl rfl
         | some q=>
          refine .inr fun e=>?_;have:=W j H q e.symm;have:=J6 F g;omega
   · exact o7 h.tr (fun q g=>HT q 9 (N8 h.tr g) o6 (fun e=>by have:=J6 h.tr g;omega))
   · exact Dz h.rb (C w.heap.size O0 O0 O0 (fun e=>by have:=J6 ho.row e;omega))
   · exact TR h.ro (C w.heap.size O0 O0 O0 (fun e=>by have:=J6 ho.row e;omega))
   · obtain ⟨cur,fr,e⟩:=h.t0;exact ⟨cur,fr,(C w.heap.size O0 O0 O0 (fun e=>by have:=J6 ho.row e;omega)).trans e⟩
   · refine (C D h.dl (fun e=>?_) (fun e=>?_) (fun e=>?_)).trans h.dd
     · obtain ⟨cur,fr,b⟩:=K;rw [<- e,h.dd] at b;cases b
     · obtain ⟨cur,fr,b⟩:=h.t1;rw [<- e,h.dd] at b;cases b
     · obtain ⟨cur,fr,b⟩:=N8 ho.row e;rw [h.dd] at b;cases b
theorem a2r (B H bT bR bP:Nat) (W:Int) (ts:LB) (rs:List R3) (rv:List Value) (w:World) (hSh:Sh B H bT bR bP W (ts.map (gT W)) rs rv w) (hW:1<=W/\W<=8) (htl:ts.length<=1000) (hrl:rs.length<=1000) (hgs:∀ i,(rs.getD i f_).gs.length<=1048576):
 Calls prog 112 #[.pointer (some ⟨H,0,none⟩)] w fun e w'=>(∃ ta tc ra rc',e=.returned (.agg #[.int .i64 W,.slice ta ts.length tc,.slice ra rs.length rc'])/\Td w' w.heap.size ts rs (.slice ta ts.length tc) (.slice ra rs.length rc'))/\Bw w w':=by
 obtain ⟨pl,Q,hR⟩:=hSh;have a4M:=Q.lt;have B0:Bw w (w.alloc (.cells #[.int .i64 0,.slice none 0 0,.slice none 0 0] 43)):=P6;have B1:Bw w ((w.alloc (.cells #[.int .i64 0,.slice none 0 0,.slice none 0 0] 43)).alloc (.cells #[.int .i64 W,.slice none 0 0,.slice none 0 0] 43)):=B0.alloc X4 _;have B2:Bw w (((w.alloc (.cells #[.int .i64 0,.slice none 0 0,.slice none 0 0] 43)).alloc (.cells #[.int .i64 W,.slice none 0 0,.slice none 0 0] 43)).alloc (.cells #[.map (some bT)] 209)):=B1.alloc U7 _;have z1:(w.alloc (.cells #[.int .i64 0,.slice none 0 0,.slice none 0 0] 43)).heap.size=w.heap.size+1:=X4;have z2:((w.alloc (.cells #[.int .i64 0,.slice none 0 0,.slice none 0 0] 43)).alloc (.cells #[.int .i64 W,.slice none 0 0,.slice none 0 0] 43)).heap.size=w.heap.size+2:=X4;have z3:(((w.alloc (.cells #[.int .i64 0,.slice none 0 0,.slice none 0 0] 43)).alloc (.cells #[.int .i64 W,.slice none 0 0,.slice none 0 0] 43)).alloc (.cells #[.map (some bT)] 209)).heap.size=w.heap.size+3:=X4;have h0:=(Q.below B0).blk 0 _ rfl;have h1:=(Q.below B1).blk 1 _ rfl;have M2:=U0 (Q.below B2).tx;have hfK:Fence.wide.fn 158:=trivial;have hfL:Fence.wide.fn 159:=trivial;have hf0:fB (((w.alloc (.cells #[.int .i64 0,.slice none 0 0,.slice none 0 0] 43)).alloc (.cells #[.int .i64 W,.slice none 0 0,.slice none 0 0] 43)).alloc (.cells #[.map (some bT)] 209)) (w.heap.size+1) 1=none:=by
  have bs:=(Z7 (w.alloc (.cells #[.int .i64 0,.slice none 0 0,.slice none 0 0] 43)) [.int .i64 W,.slice none 0 0,.slice none 0 0] 43);rw [z1] at bs;have h:=(bs.below (N:=w.heap.size+2) (u':=(((w.alloc (.cells #[.int .i64 0,.slice none 0 0,.slice none 0 0] 43)).alloc (.cells #[.int .i64 W,.slice none 0 0,.slice none 0 0] 43)).alloc (.cells #[.map (some bT)] 209))) ((Z4 _ _).alloc X4 _) O0) 1 _ rfl;unfold fB;rw [h];rfl
 have hTb:ng (((w.alloc (.cells #[.int .i64 0,.slice none 0 0,.slice none 0 0] 43)).alloc (.cells #[.int .i64 W,.slice none 0 0,.slice none 0 0] 43)).alloc (.cells #[.map (some bT)] 209)) (w.heap.size+2) 209:=by have h:=Gi ((w.alloc (.cells #[.int .i64 0,.slice none 0 0,.slice none 0 0] 43)).alloc (.cells #[.int .i64 W,.slice none 0 0,.slice none 0 0] 43)) #[.map (some bT)] 209;rw [z2] at h;exact h
 have hbx:(((w.alloc (.cells #[.int .i64 0,.slice none 0 0,.slice none 0 0] 43)).alloc (.cells #[.int .i64 W,.slice none 0 0,.slice none 0 0] 43)).alloc (.cells #[.map (some bT)] 209)).cell? ⟨w.heap.size+2,0,none⟩=some (.map (some bT)):=by have h:=Z7 ((w.alloc (.cells #[.int .i64 0,.slice none 0 0,.slice none 0 0] 43)).alloc (.cells #[.int .i64 W,.slice none 0 0,.slice none 0 0] 43)) [.map (some bT)] 209 0 _ rfl;rw [z2] at h;exact h
 have hks:∀ p∈ts.map (gT W),p.1.size<=maxLen:=fun p hp=>by
  obtain ⟨t,_,rfl⟩:=Pm.1 hp;show (Z5 t W).size<=maxLen;rw [Lp hW];unfold maxLen;omega
 have a5O:=Q.tx.lt;have I0:S1 w W ts (ts.map (gT W)).length [] (((w.alloc (.cells #[.int .i64 0,.slice none 0 0,.slice none 0 0] 43)).alloc (.cells #[.int .i64 W,.slice none 0 0,.slice none 0 0] 43)).alloc (.cells #[.map (some bT)] 209)):=by
  have bz:=(Z7 w [.int .i64 0,.slice none 0 0,.slice none 0 0] 43);have bs:=(Z7 (w.alloc (.cells #[.int .i64 0,.slice none 0 0,.slice none 0 0] 43)) [.int .i64 W,.slice none 0 0,.slice none 0 0] 43);have hb1:Below (w.heap.size+1) (w.alloc (.cells #[.int .i64 0,.slice none 0 0,.slice none 0 0] 43)) (((w.alloc (.cells #[.int .i64 0,.slice none 0 0,.slice none 0 0] 43)).alloc (.cells #[.int .i64 W,.slice none 0 0,.slice none 0 0] 43)).alloc (.cells #[.map (some bT)] 209)):=((Z4 _ _).alloc X4 _).alloc X4 _;have A:Below (w.heap.size+2) ((w.alloc (.cells #[.int .i64 0,.slice none 0 0,.slice none 0 0] 43)).alloc (.cells #[.int .i64 W,.slice none 0 0,.slice none 0 0] 43)) (((w.alloc (.cells #[.int .i64 0,.slice none 0 0,.slice none 0 0] 43)).alloc (.cells #[.int .i64 W,.slice none 0 0,.slice none 0 0] 43)).alloc (.cells #[.map (some bT)] 209)):=(Z4 _ _).alloc X4 _;rw [z1] at bs;have os:=Qa (w.alloc (.cells #[.int .i64 0,.slice none 0 0,.slice none 0 0] 43)) #[.int .i64 W,.slice none 0 0,.slice none 0 0] 43;have tos:=Gi (w.alloc (.cells #[.int .i64 0,.slice none 0 0,.slice none 0 0] 43)) #[.int .i64 W,.slice none 0 0,.slice none 0 0] 43;rw [z1] at os tos;exact ⟨⟨none,0,bs.below A O0,mg _ _ _ _⟩,os.below A O0,tos.below A O0,bz.below hb1 O0,(Qa w #[.int .i64 0,.slice none 0 0,.slice none 0 0] 43).below hb1 O0,(Gi w #[.int .i64 0,.slice none 0 0,.slice none 0 0] 43).below hb1 O0,B2,O0⟩
 obtain ⟨i0,hi9,hz0,hz1,hz2⟩:=info_parts' info9;obtain ⟨j0,hj9,jz0,jz1,jz2⟩:=info_parts' mG;refine (callsIn_wide (n:=11)).1 ?_;refine callsIn_of_wp_marks func112 rfl trivial ?_ rfl;simp only [ntmps112,fA,o_,Ee,Nat.reduceAdd,Nat.reduceSub,pz,yA,AA,uz,Ua,rf]
 gi_wp2_with (gi_at_call 158;refine (a2U _ _ _).mono ?_;rintro e w' ⟨rfl,rfl⟩)
 generalize (((w.alloc (.cells #[.int .i64 0,.slice none 0 0,.slice none 0 0] 43)).alloc (.cells #[.int .i64 W,.slice none 0 0,.slice none 0 0] 43)).alloc (.cells #[.map (some bT)] 209))=U2 at*;have hm2:=hbx;refine wpIn_rangeFunc_ownH rfl O0 (gf:=216) (lb:=#[.pointer (some ⟨w.heap.size+2,0,none⟩)]) rfl trivial (enters_of func216 Y2 rfl)
  (a3t (w.heap.size+1) 1 (w.heap.size+2) bT _ (ts.map (gT W)) U2 Q.ta hks (by simpa using htl) O0 hm2 M2.out hTb O0 O0 O0 hf0)
  Jy.trans (aK O0) (Z4 _ _) (fun _=>rfl)
  (fun pre W'=>S1 w W ts (ts.map (gT W)).length pre W') (fun _ _ _=>False) (sQ w W ts _ _ O0) (fun _ _ _ _ _ h _ _=>h) I0
  (fun x Z W'=>∃ Bx tx,tx=uM ts (ts.map (gT W)).length x/\w.heap.size+3<=Bx/\D5 W' Bx [.string tx,.int .i64 (hC tx),.string (hT tx)]/\ng W' Bx 217/\Z={ tmps:=#[.pointer (some ⟨H,0,none⟩),undef,.pointer (some ⟨w.heap.size,0,none⟩),.pointer (some ⟨w.heap.size+1,0,none⟩),.pointer (some ⟨Bx,0,none⟩),undef,.pointer (some ⟨H,0,none⟩),.pointer (some ⟨H,0,none⟩),.pointer (some ⟨H,0,none⟩),.int .i64 W,.agg #[.int .i64 W,.slice none 0 0,.slice none 0 0],.pointer (some ⟨H,0,none⟩),.pointer (some ⟨H,0,none⟩),.pointer (some ⟨H,1,none⟩),.map (some bT),.func (.func 216) #[] #[.pointer (some ⟨w.heap.size+2,0,none⟩)],.agg #[.string tx,.int .i64 (hC tx),.string (hT tx)],undef,undef,undef,undef,undef,undef,undef,undef,undef,undef,undef,undef,undef,undef,undef,undef,undef,undef,undef,undef,undef,undef,undef,undef],defers:=[] }) ?hax ?assign ?body ?done ?stop
 case hax=>
  rintro x Z s f L row ⟨Bx,tx,h1,h2,X,h4,h5⟩ J hr;have R:∀ r,row=some r->∃ o:Obj,f.heap[r]?=some o/\o.isCells=false:=fun r e=>(hr r e).2;exact ⟨Bx,tx,h1,h2,Oe X h4 J R,Lc h4 J R,h5⟩
 case assign=>
  intro l pre x f K d hK;have hvx:=QZ ts x;rw [hvx];generalize htx:uM ts (ts.map (gT W)).length x=tx at*;have J:=nJ f (.cells #[.string tx,.int .i64 (hC tx),.string (hT tx)] 217) none;have hi2:=sQ w W ts (ts.map (gT W)).length (w.heap.size+3) H8 pre f _ none d J (fun _ e=>by cases e);have hk2:=MB (W:=f) (w.heap.size+1) 1 217 (by have:=d.sz;omega) (.cells #[.string tx,.int .i64 (hC tx),.string (hT tx)] 217);have A:=Z7 f [.string tx,.int .i64 (hC tx),.string (hT tx)] 217;have ht2:=Gi f #[.string tx,.int .i64 (hC tx),.string (hT tx)] 217;have hz:=d.sz
  gi_wp2
  exact hK _ _ ((KeepsOthers.alloc _ _).from _) hk2 hi2 ⟨f.heap.size,tx,rfl,hz,A,ht2,rfl⟩
 case body=>
  rintro l pre x Z f hl ⟨r,hr⟩ d ⟨Bx,tx,htx,hBx,bX,tX,rfl⟩ hlt;have HTX:=U0 htx;clear htx;obtain ⟨a,c,C,F⟩:=d.ex;have hz:=d.sz;have x0:=bX 0 _ rfl;have y1:=C 1 _ rfl;have f1:=d.op 1;have HO:=U0 (F.alloc (.cells #[.string tx] 9));have HS0:=U0 d;have HB0:=U0 C;have HR0:=U0 F;have hpl:pre.length<=1000:=by have e:(ts.map (gT W)).length=ts.length:=Vd ..;omega
  have bN:Bw f (f.alloc (.cells #[.string tx] 9)):=P6;have sN:(f.alloc (.cells #[.string tx] 9)).heap.size=f.heap.size+1:=X4;clear d C F bX tX hr;have hmark:=trivial
  gi_wp2_with (gi_at_builtin;refine wpListIn_append_own_at _ rfl _ _ 22 rfl (w.heap.size+3) 9 i0 (.string ⟨#[]⟩) 1 16 underlying22 hi9 hz0 hz1 hz2 rfl o6 _ _ _ rfl HO.out ⟨f.heap.size,0,none⟩ 1 1 [.string tx] rfl rfl (cell_one_new _ _ _) (by simp [Value.oneCell']) (by unfold maxLen;omega) O0 O0 ?_;revert hmark)
  intro v2 w2 V O _ hloc;obtain ⟨a2,c2,rfl⟩:=I9 V;have neS:=row_ne (k:=w.heap.size+1) HR0.out O0;have b2:=N9 (HB0.out.below bN O0) O O0 neS;have g1:=b2 1 _ rfl;have fz:=(Af (HS0.out.op.below bN O0) O O0 neS) 1;have HST:=U0 (aV (B:=U2.heap.size) HS0.out HB0.out HR0.out HTX.out V O (by rw [sN];exact hloc));clear V O hloc
  gi_wp2
  exact ⟨HST.out.1.1,HST.out.1.2,HST.out.2⟩
 case done=>
  rintro D xs f hD hxs d hKd;subst hxs;obtain ⟨a,c,C,F⟩:=uU d;have hz:=d.sz;have BW1:=d.bw;have hDl:=(r_.1 hKd).1;have h2:=(Q.below BW1).blk 2 _ rfl;have HM:=U0 ((Q.below BW1).rc.alloc (.cells #[.map (some bR)] 210));have bX2:Bw f (f.alloc (.cells #[.map (some bR)] 210)):=P6;have sX2:(f.alloc (.cells #[.map (some bR)] 210)).heap.size=f.heap.size+1:=X4;have J0:S2 w W ts rs a c D rv.length [] (f.alloc (.cells #[.map (some bR)] 210)):=nR d C F O0 hKd bX2;have hbx2:=Z7 f [.map (some bR)] 210 0 _ rfl;have a5P:=Gi f #[.map (some bR)] 210;have hf2:fB (f.alloc (.cells #[.map (some bR)] 210)) (w.heap.size+1) 2=none:=by
   unfold fB;rw [(C.below bX2 O0) 2 _ rfl];rfl
  have a6y:=Q.rc.lt;have hrec:∀ i:Fin rv.length,∃ g m,(rv[i.1]'i.2)=.agg #[.string (Aw rs rv.length i).key,.slice g (Aw rs rv.length i).gs.length m,.string (Aw rs rv.length i).out]/\R_ w g (Aw rs rv.length i).gs:=fun i=>RZ hR i;have HRC:=U0 hrec;clear d C F hrec;simp only []
  gi_wp2_with (gi_at_call 159;refine (c159 _ _ _).mono ?_;rintro e w' ⟨rfl,rfl⟩)
  generalize hX2:(f.alloc (.cells #[.map (some bR)] 210))=X2 at*;clear hX2;refine wpIn_rangeFunc_ownH rfl O0 (gf:=219) (lb:=#[.pointer (some ⟨f.heap.size,0,none⟩)]) rfl trivial (enters_of func219 Y2 rfl)
   (a3c (w.heap.size+1) 2 f.heap.size bR _ rv X2 (by have:=hR.len;omega) O0 hbx2 HM.out a5P O0 O0 O0 hf2)
   Jy.trans (aK O0) (Z4 _ _) (fun _=>rfl)
   (fun pre W'=>S2 w W ts rs a c D rv.length pre W') (fun _ _ _=>False) (JQ w W ts rs a c D _ _ O0 O0) (fun _ _ _ _ _ h _ _=>h) J0
   (fun x Z W'=>∃ Bx y g m,y=Aw rs rv.length x/\w.heap.size+3<=Bx/\R_ w g y.gs/\D5 W' Bx [.string y.key,.slice g y.gs.length m,.string y.out]/\X6 W' Bx/\Bx<W'.heap.size/\ng W' Bx 145/\ng W' (w.heap.size+1) 43/\fB W' (w.heap.size+1) 2≠some Bx/\Z={ tmps:=#[.pointer (some ⟨H,0,none⟩),undef,.pointer (some ⟨w.heap.size,0,none⟩),.pointer (some ⟨w.heap.size+1,0,none⟩),undef,.pointer (some ⟨Bx,0,none⟩),.pointer (some ⟨H,0,none⟩),.pointer (some ⟨H,0,none⟩),.pointer (some ⟨H,0,none⟩),.int .i64 W,.agg #[.int .i64 W,.slice none 0 0,.slice none 0 0],.pointer (some ⟨H,0,none⟩),.pointer (some ⟨H,0,none⟩),.pointer (some ⟨H,1,none⟩),.map (some bT),.func (.func 216) #[] #[.pointer (some ⟨w.heap.size+2,0,none⟩)],undef,undef,undef,undef,undef,undef,undef,undef,.pointer (some ⟨H,0,none⟩),.pointer (some ⟨H,0,none⟩),.pointer (some ⟨H,2,none⟩),.map (some bR),.func (.func 219) #[] #[.pointer (some ⟨f.heap.size,0,none⟩)],.agg #[.string y.key,.slice g y.gs.length m,.string y.out],undef,undef,undef,undef,undef,undef,undef,undef,undef,undef,undef],defers:=[] }) ?a5Q ?assign2 ?body2 ?done2 ?stop2
  case a5Q=>
   rintro x Z s V1 E row ⟨Bx,y,g,m,h1,h2,X,h4,h5,h6,h7,h9,h10,h8⟩ J hr;have R:∀ r,row=some r->∃ o:Obj,V1.heap[r]?=some o/\o.isCells=false:=fun r e=>(hr r e).2;exact ⟨Bx,y,g,m,h1,h2,X,Oe h4 h7 J R,Em h5 h7 J R,O9 h6 J.size,Lc h7 J R,Lc h9 J R,by rw [aH h9 J R];exact h10,h8⟩
  case assign2=>
   intro l pre x V1 K d hK;obtain ⟨g,m,hvx,hG⟩:=HRC.out x;rw [hvx];generalize hy:Aw rs rv.length x=y at*;have J:=nJ V1 (.cells #[.string y.key,.slice g y.gs.length m,.string y.out] 145) none;have hi2:=JQ w W ts rs a c D rv.length (D+1+(w.heap.size+3)) O0 O0 pre V1 _ none d J (fun _ e=>by cases e);have hk2:=MB (W:=V1) (w.heap.size+1) 2 145 (by have:=d.sz;omega) (.cells #[.string y.key,.slice g y.gs.length m,.string y.out] 145);have A:=Z7 V1 [.string y.key,.slice g y.gs.length m,.string y.out] 145;have ho2:=Qa V1 #[.string y.key,.slice g y.gs.length m,.string y.out] 145;have ht2:=Gi V1 #[.string y.key,.slice g y.gs.length m,.string y.out] 145;have hz:=d.sz;have hs2:V1.heap.size<(V1.alloc (.cells #[.string y.key,.slice g y.gs.length m,.string y.out] 145)).heap.size:=X4;have hfx:fB (V1.alloc (.cells #[.string y.key,.slice g y.gs.length m,.string y.out] 145)) (w.heap.size+1) 2≠some V1.heap.size:=by
    obtain ⟨a2,c2,vs,hb,ho⟩:=d.ex;have e:fB (V1.alloc (.cells #[.string y.key,.slice g y.gs.length m,.string y.out] 145)) (w.heap.size+1) 2=(Value.slice a2 pre.length c2).ownBlock:=by
     unfold fB;rw [(hb.below ((Z4 V1.heap.size V1).alloc H8 _) O0) 2 _ rfl];rfl
    rw [e];intro Y;have:=Xe ho.row Y;omega
   clear hvx
   gi_wp2
   exact hK _ _ ((KeepsOthers.alloc _ _).from _) hk2 hi2 ⟨V1.heap.size,y,g,m,rfl,hz,hG,A,ho2,hs2,ht2,hi2.t1,hfx,rfl⟩
  case body2=>
   rintro l pre x Z V1 hl ⟨r,hr⟩ d ⟨Bx,y,g,m,hy,hBx,hG,bX,oX,lX,tX,_,hfx,rfl⟩ hlt;have HY:=U0 hy;have hgl:y.gs.length<=1048576:=by rw [hy];exact hgs _
   clear hy;obtain ⟨a2,c2,vs,C,F⟩:=d.ex;have hz:=d.sz;have x1:=bX 1 _ rfl;have f1:=oX 1;have HS0:=U0 d;have HB0:=U0 C;have HR0:=U0 F;have HBX:=U0 bX;have HOX:=U0 oX;have HFX:=U0 hfx;have HTX:=U0 tX;have h69:=c160 g m y.gs V1 hgl (P8 hG d.bw);have hpl:pre.length<=1000:=by have:=hR.len;omega
   clear d C F bX oX tX hr hfx hG;have hmark:=trivial;have hfC:Fence.wide.fn 160:=trivial
   gi_wp2_with (first | (gi_at_call 160;refine (CallsIn.inRound l (callsIn_wide.2 h69)).mono ?_;revert hmark) | (refine ⟨trivial,?_⟩;gi_at_call 160;refine (CallsIn.inRound l (callsIn_wide.2 h69)).mono ?_;revert hmark))
   rintro _ e E ⟨⟨z,v,rfl,h5⟩,A⟩;have s2:=A.size;have H5:=U0 h5;have b2:=HBX.out.below A lX;have g1:=b2 1 _ rfl;have g2:=(HOX.out.below A lX) 1;have b3:D5 (E.setCell ⟨Bx,1,none⟩ (.slice z y.gs.length v)) Bx [.string y.key,.slice z y.gs.length v,.string y.out]:=b2.set 1 _ X4;have k0:=b3 0 _ rfl;have k1:=b3 1 _ rfl;have k2:=b3 2 _ rfl;have bS3:=(HB0.out.below A O0).other ⟨Bx,1,none⟩ (.slice z y.gs.length v) (by show Bx≠w.heap.size+1;omega);have q2:=bS3 2 _ rfl;have hrb:∀ k,(Value.slice a2 pre.length c2).ownBlock=some k->k<V1.heap.size/\k≠Bx:=fun k e=>⟨Xe HR0.out.row e,fun Y=>HFX.out (by unfold fB;rw [HB0.out 2 _ rfl,<- Y];exact e)⟩;have HO:Hid (((E.setCell ⟨Bx,1,none⟩ (.slice z y.gs.length v)).alloc (.cells #[.string y.key,.slice z y.gs.length v,.string y.out] 145)).ownsRow (w.heap.size+3) 145 3 (.slice a2 pre.length c2) pre.length (rC (pre.map (Aw rs rv.length)) vs)):=by
    have h:=HR0.out.row;rw [Vd] at h;exact o7 h (fun q I=>((Ov _ _ q (by have:=(hrb q I).1;simp;omega)).trans (Ec _ _ _ _ (by exact (hrb q I).2))).trans (A.block q (hrb q I).1))
   have U:Hid (∀ j u,([.string y.key,.slice z y.gs.length v,.string y.out]:List Value)[j]?=some u->((E.setCell ⟨Bx,1,none⟩ (.slice z y.gs.length v)).alloc (.cells #[.string y.key,.slice z y.gs.length v,.string y.out] 145)).cell? ((⟨E.heap.size,0,none⟩:Addr).add j)=some u):=fun j u hj=>by
    rw [Ag,L8];have h:=Z7 (E.setCell ⟨Bx,1,none⟩ (.slice z y.gs.length v)) [.string y.key,.slice z y.gs.length v,.string y.out] 145 j u hj;rw [show (E.setCell ⟨Bx,1,none⟩ (.slice z y.gs.length v)).heap.size=E.heap.size by simp] at h;exact h
   have s4:((E.setCell ⟨Bx,1,none⟩ (.slice z y.gs.length v)).alloc (.cells #[.string y.key,.slice z y.gs.length v,.string y.out] 145)).heap.size=E.heap.size+1:=X4;clear h5 b2 b3 bS3 h69;have hmark:=trivial
   gi_wp2_with (gi_at_builtin;refine wpListIn_append_own_at _ rfl _ _ 41 rfl (w.heap.size+3) 145 j0 (.agg #[.string ⟨#[]⟩,.slice none 0 0,.string ⟨#[]⟩]) 3 56 underlying41 hj9 jz0 jz1 jz2 rfl o6 _ _ _ rfl HO.out ⟨E.heap.size,0,none⟩ 1 1 [.string y.key,.slice z y.gs.length v,.string y.out] rfl rfl U.out (by simp [Value.oneCell']) (by unfold maxLen;omega) O0 O0 ?_;revert hmark)
   intro v6 V5 V O _ hloc;obtain ⟨a6,a4m,rfl⟩:=I9 V;have HST:=U0 (WV (B:=X2.heap.size) HS0.out HB0.out HR0.out HY.out hBx lX HTX.out HFX.out A H5.out V O (by rw [s4];exact hloc));have neS:some (w.heap.size+1)≠(Value.slice a2 pre.length c2).ownBlock:=row_ne HO.out O0;have b4:D5 ((E.setCell ⟨Bx,1,none⟩ (.slice z y.gs.length v)).alloc (.cells #[.string y.key,.slice z y.gs.length v,.string y.out] 145)) (w.heap.size+1) [.int .i64 W,.slice a ts.length c,.slice a2 pre.length c2]:=((HB0.out.below A O0).other _ _ (by show Bx≠w.heap.size+1;omega)).below (N:=E.heap.size) ((Z4 _ _).alloc X4 _) O0;have o4:X6 ((E.setCell ⟨Bx,1,none⟩ (.slice z y.gs.length v)).alloc (.cells #[.string y.key,.slice z y.gs.length v,.string y.out] 145)) (w.heap.size+1):=((HS0.out.op.below A O0).set _ _).below (N:=E.heap.size) ((Z4 _ _).alloc X4 _) O0;have m1:=(N9 b4 O O0 neS) 2 _ rfl;have m2:=(Af o4 O O0 neS) 2;clear V O hloc b4 o4
   gi_wp2
   exact ⟨HST.out.1.1,HST.out.1.2,HST.out.2⟩
  case done2=>
   rintro D2 xs L hD2 hxs d a5g;subst hxs;obtain ⟨a2,c2,vs,C,F⟩:=d.ex;have el:(List.finRange rv.length).length=rs.length:=by simp [hR.len]
   have em:=MR hR.len;rw [el] at C F;rw [em] at F;have y0:=C 0 _ rfl;have y1:=C 1 _ rfl;have y2:=C 2 _ rfl;have z0:=d.rb 0 _ rfl;have z1':=d.rb 1 _ rfl;have z2':=d.rb 2 _ rfl;have r0:=d.ro 0;have r1:=d.ro 1;have r2:=d.ro 2;have S:=U0 d;have U:=U0 F;clear d C F;have hEh:∀ k,k≠w.heap.size->(((L.setCell ⟨w.heap.size,0,none⟩ (.int .i64 W)).setCell ⟨w.heap.size,1,none⟩ (.slice a ts.length c)).setCell ⟨w.heap.size,2,none⟩ (.slice a2 rs.length c2)).heap[k]?=L.heap[k]?:=fun k hk=>(Ec _ _ _ _ (by exact hk)).trans ((Ec _ _ _ _ (by exact hk)).trans (Ec _ _ _ _ (by exact hk)));have ZE:D5 (((L.setCell ⟨w.heap.size,0,none⟩ (.int .i64 W)).setCell ⟨w.heap.size,1,none⟩ (.slice a ts.length c)).setCell ⟨w.heap.size,2,none⟩ (.slice a2 rs.length c2)) w.heap.size [.int .i64 W,.slice a ts.length c,.slice a2 rs.length c2]:=((S.out.rb.set 0 _ X4).set 1 _ X4).set 2 _ X4;have sE:(((L.setCell ⟨w.heap.size,0,none⟩ (.int .i64 W)).setCell ⟨w.heap.size,1,none⟩ (.slice a ts.length c)).setCell ⟨w.heap.size,2,none⟩ (.slice a2 rs.length c2)).heap.size=L.heap.size:=X4;have hzz:=S.out.sz;have q2:=(hEh D2 O0).trans a5g;have q1:=(hEh D O0).trans S.out.dd;have hDD:D≠D2:=O0;have HFh:Hid (∀ q t,ng L q t->q≠w.heap.size->(((((L.setCell ⟨w.heap.size,0,none⟩ (.int .i64 W)).setCell ⟨w.heap.size,1,none⟩ (.slice a ts.length c)).setCell ⟨w.heap.size,2,none⟩ (.slice a2 rs.length c2)).putObj D2 (.deferred none)).putObj D (.deferred none)).heap[q]?=L.heap[q]?):=fun q t hT I=>by
    obtain ⟨cur,fr,e⟩:=hT;refine (World.putObj_heap_other (fun Y=>?_)).trans ((World.putObj_heap_other (fun Y=>?_)).trans (hEh q I))
    · rw [Y,S.out.dd] at e;cases e
    · rw [Y,a5g] at e;cases e
   have a5R:Hid (Td (((((L.setCell ⟨w.heap.size,0,none⟩ (.int .i64 W)).setCell ⟨w.heap.size,1,none⟩ (.slice a ts.length c)).setCell ⟨w.heap.size,2,none⟩ (.slice a2 rs.length c2)).putObj D2 (.deferred none)).putObj D (.deferred none)) w.heap.size ts rs (.slice a ts.length c) (.slice a2 rs.length c2)):=by
    show Td _ _ _ _ _ _;refine ⟨H9 (o7 S.out.tr (fun q I=>HFh.out q 9 (N8 S.out.tr I) (fun e=>by have:=J6 S.out.tr I;omega))) O0,vs,U.out.len,H9 (o7 U.out.row (fun q I=>HFh.out q 145 (N8 U.out.row I) (fun e=>by have:=J6 U.out.row I;omega))) O0,fun i d=>?_,U.out.apart⟩;obtain ⟨a3,c3,e,X⟩:=U.out.gl i d;exact ⟨a3,c3,e,H9 (o7 X (fun q I=>HFh.out q 205 (N8 X I) (fun e=>by have:=J6 X I;omega))) O0⟩
   have HZE:Hid (D5 (((((L.setCell ⟨w.heap.size,0,none⟩ (.int .i64 W)).setCell ⟨w.heap.size,1,none⟩ (.slice a ts.length c)).setCell ⟨w.heap.size,2,none⟩ (.slice a2 rs.length c2)).putObj D2 (.deferred none)).putObj D (.deferred none)) w.heap.size [.int .i64 W,.slice a ts.length c,.slice a2 rs.length c2]):=Dz (Dz ZE (World.putObj_heap_other O0)) (World.putObj_heap_other O0);have HBE:Hid (Bw w (((((L.setCell ⟨w.heap.size,0,none⟩ (.int .i64 W)).setCell ⟨w.heap.size,1,none⟩ (.slice a ts.length c)).setCell ⟨w.heap.size,2,none⟩ (.slice a2 rs.length c2)).putObj D2 (.deferred none)).putObj D (.deferred none))):=by
    show Below _ _ _;have b:=S.out.bw;exact ⟨b.os,b.tape,b.output,by simp;exact b.size,fun k hk=>(World.putObj_heap_other O0).trans ((World.putObj_heap_other O0).trans ((hEh k O0).trans (b.block k hk)))⟩
   simp only []
   gi_wp2
   refine ⟨X4,.inl ⟨_,_,rfl,run_takeDeferred q2,⟨X4,.inl ⟨_,_,rfl,run_takeDeferred ((World.putObj_heap_other hDD).trans q1),?_⟩⟩⟩⟩;exact ⟨_,Q8 (P:=prog) (ty:=43) rfl _ _ w.heap.size [.int .i64 W,.slice a ts.length c,.slice a2 rs.length c2] _ rfl HZE.out underlying43 rfl Y2,⟨a,c,a2,c2,rfl,a5R.out⟩,HBE.out⟩
  case stop2=>
   rintro D c' pre V1 _ _ h _;exact h.elim
 case stop=>
  rintro D c' pre f _ _ h _;exact h.elim

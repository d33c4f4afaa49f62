import Derived.Test.YtkdbheidpdjimaaGreatDooreR3
import Derived.Maps.OwnIn
import Derived.Test.YtkdbheidpdjimaaGreatDooreY3
set_option linter.unusedVariables false
set_option maxHeartbeats 8000000
set_option maxRecDepth 100000
namespace Go.Proofs.YtkdbheidpdjimaaGreatDoor
open Proofs.Tryz Go.RowKit Go.Maps Go.Sort Go.Shelf
variable {W W' u u' w:World} {B D S X b base c c2 e j n size:Nat} {v:Value} {vs xs:List Value} {t:TypeId} {row:Option Nat} {W0:Int} {ts:LB} {rs:List R3} {a a2:OA}
attribute [local go_sem] Oper.semAt_some
def lM (ts:LB) (n:Nat) (i:Fin n):BY:=ts.getD i.1 ByteArray.empty
def Hw (rs:List R3) (n:Nat) (i:Fin n):R3:=rs.getD i.1 g_
theorem Q8 (h:W.ownsRow base e size v n xs) {k:Nat} (a:v.ownBlock=some k):Gf W k e:=by
 rcases h.2 with ⟨hv,_⟩ | ⟨g,cap,cur,hv,hg,b,_⟩
 · subst hv;simp [Value.ownBlock] at a
 · subst hv;simp [Value.ownBlock] at a;subst a;exact ⟨cur,(0,0),b⟩
theorem LG (a:W.heap.size<=W'.heap.size) (b:∀ k,k<W.heap.size->k≠S->fB W S j≠some k->W'.heap[k]?=W.heap[k]?) {t:TypeId} (i:Gf W S t) (c:∀ q,fB W S j=some q->∃ t,Gf W q t) (g:fB W' S j=fB W S j\/∃ q,fB W' S j=some q/\W.heap.size<=q):KeepsFrom B W W'/\Fz S j X W W':=by
 refine ⟨⟨a,fun k o _ ho hc=>?_⟩,⟨a,fun k o ho _ _ f d=>(b k (D_.1 ho).1 f d).trans ho,g⟩⟩;refine (b k (D_.1 ho).1 (fun e=>?_) (fun e=>?_)).trans ho
 · obtain ⟨cur,fr,h⟩:=i;rw [<- e,ho] at h;cases h;cases hc
 · obtain ⟨t',cur,fr,h⟩:=c k e;rw [ho] at h;cases h;cases hc
theorem kJ (hS:S<w.heap.size):∀ (W:World) (l:Nat) (o a:Obj),w.heap.size<=l->W.heap[l]?=some o->o.isCells=false->o.isWalk=false->Fz S j X W (W.putObj l a):=fun W l o a hl ho hc hw=>by
 refine ⟨I4,fun k q b c _ _ _=>?_,.inl ?_⟩
 · refine (World.putObj_heap_other (fun e=>?_)).trans b;subst e;rw [ho] at b;cases b;rcases c with h | h
   · rw [hc] at h;cases h
   · rw [hw] at h;cases h
 · unfold fB;have e:(W.putObj l a).heap[S]?=W.heap[S]?:=World.putObj_heap_other O0;simp only [World.cell?,e]
theorem Ze (h:X4 W b vs) (hT:Gf W b t) (a:W.grownBy W' row) (hr:∀ r,row=some r->∃ o:Obj,W.heap[r]?=some o/\o.isCells=false):X4 W' b vs:=by
 obtain ⟨cur,fr,hT⟩:=hT;refine D9 h a (D_.1 hT).1 fun e=>?_;obtain ⟨o,ho,hc⟩:=hr b e.symm;rw [hT] at ho;cases ho;cases hc
theorem Uc (hT:Gf W b t) (a:W.grownBy W' row) (hr:∀ r,row=some r->∃ o:Obj,W.heap[r]?=some o/\o.isCells=false):Gf W' b t:=by
 refine hT.kept a fun e=>?_;obtain ⟨cur,fr,hT⟩:=hT;obtain ⟨o,ho,hc⟩:=hr b e.symm;rw [hT] at ho;cases ho;cases hc
theorem Oi (h:W.ownsRow base e size v n xs) (a:W.grownBy W' row) (hr:∀ r,row=some r->∃ o:Obj,W.heap[r]?=some o/\o.isCells=false):W'.ownsRow base e size v n xs:=by
 refine h.kept a ?_
 cases hq:v.ownBlock with
 | none=>exact .inl rfl
 | some k=>
  refine .inr fun b=>?_;obtain ⟨cur,fr,hT⟩:=Q8 h hq;obtain ⟨o,ho,hc⟩:=hr k b.symm;rw [hT] at ho;cases ho;cases hc
theorem Je (h:Y5 W b) (d:W.grownBy W' row) (c:b<W.heap.size) (a:some b≠row):Y5 W' b:=fun j=>by
 have:=h j;simp only [World.frozen?,d.block b c a];simpa only [World.frozen?] using this
theorem qG:(prog.info? 113).map (fun i=>(i.zero,i.size,i.bytes))=some (some (.agg #[.string ⟨#[]⟩,.slice none 0 0,.string ⟨#[]⟩]),3,56):=J3
theorem Gh (h:Gf W b t) (j:Nat) (v:Value):Gf (W.setCell ⟨b,j,none⟩ v) b t:=by
 obtain ⟨cur,fr,h⟩:=h;have hb:=(D_.1 h);refine ⟨cur.setIfInBounds j v,fr,?_⟩;simp only [World.setCell];rw [Array.getElem?_modify];simp [h]
theorem SB (S j X:Nat) (b:S<W.heap.size) (o:Obj):Fz S j X W (W.alloc o):=
 ⟨I4,fun k q a _ _ _ _=>(Tv _ _ k (D_.1 a).1).trans a,.inl (by
  unfold fB;simp only [World.cell?,Tv W o S b])⟩
theorem pX {W:Int} (ts:LB) (x:Fin (ts.map (gT W)).length):(((ts.map (gT W))[x.1]'x.2)).2=.agg #[.string (lM ts (ts.map (gT W)).length x),.int .i64 (hC (lM ts (ts.map (gT W)).length x)),.string (hT (lM ts (ts.map (gT W)).length x))]:=by
 have hx:x.1<ts.length:=by have:=x.2;simpa using this
 rw [dD];have e:lM ts (ts.map (gT W)).length x=ts[x.1]:=by unfold lM;simp only [List.getD,List.getElem?_eq_getElem hx,Option.getD_some]
 rw [e];rfl
structure S1 (w:World) (W0:Int) (ts:LB) (n:Nat) (pre:List (Fin n)) (W:World):Prop where
 ex:∃ a c,X4 W (w.heap.size+1) [.int .i64 W0,.slice a pre.length c,.slice none 0 0]/\W.ownsRow (w.heap.size+3) 9 1 (.slice a pre.length c) pre.length (pre.map fun i=>.string (lM ts n i))
 op:Y5 W (w.heap.size+1)
 t1:Gf W (w.heap.size+1) 44
 rb:X4 W w.heap.size [.int .i64 0,.slice none 0 0,.slice none 0 0]
 ro:Y5 W w.heap.size
 t0:Gf W w.heap.size 44
 bw:Bw w W
 sz:w.heap.size+3<=W.heap.size
theorem nR (w:World) (W0:Int) (ts:LB) (n B:Nat) (hB:w.heap.size+3<=B):OwnFrom B (fun pre W=>S1 w W0 ts n pre W):=fun s W W' row h d hr=>by
 have f:∀ r,row=some r->∃ o:Obj,W.heap[r]?=some o/\o.isCells=false:=fun r e=>(hr r e).2;obtain ⟨a,c,h1,h2⟩:=h.ex;have g:∀ b,b<w.heap.size+3->some b≠row:=fun b hb e=>by have:=(hr b e.symm).1;omega
 exact ⟨⟨a,c,Ze h1 h.t1 d f,Oi h2 d f⟩,Je h.op d (by have:=h.sz;omega) (g _ O0),Uc h.t1 d f,Ze h.rb h.t0 d f,Je h.ro d (by have:=h.sz;omega) (g _ O0),Uc h.t0 d f,h.bw.trans (a_ d (fun j e=>by have:=(hr j e).1;omega) h.bw.size),Q7 h.sz d.size⟩
theorem I7 (h:u.ownsRow base e size v n xs) (a:∀ q,v.ownBlock=some q->u'.heap[q]?=u.heap[q]?):u'.ownsRow base e size v n xs:=by
 refine ⟨h.1,h.2.imp id ?_⟩;rintro ⟨g,d,cur,h1,h2,c,b⟩;exact ⟨g,d,cur,h1,h2,(a g (by rw [h1];rfl)).trans c,b⟩
theorem Rx (h:X4 u b vs) (e:u'.heap[b]?=u.heap[b]?):X4 u' b vs:=fun j v a=>by
 have:=h j v a;simp only [World.cell?,e];simpa only [World.cell?] using this
theorem rP (h:Y5 u b) (e:u'.heap[b]?=u.heap[b]?):Y5 u' b:=fun j=>by
 have:=h j;simp only [World.frozen?,e];simpa only [World.frozen?] using this
def rC (rs:List R3) (vs:List Value):List Value:=(List.range rs.length).flatMap fun i=>[.string (rs.getD i g_).key,vs.getD i undef,.string (rs.getD i g_).out]
structure Gg (W:World) (base:Nat) (v:Value) (rs:List R3) (vs:List Value):Prop where
 len:vs.length=rs.length
 row:W.ownsRow base 113 3 v rs.length (rC rs vs)
 gl:∀ i,i<rs.length->∃ a c,vs.getD i undef=.slice a (rs.getD i g_).gs.length c/\W.ownsRow base 178 3 (.slice a (rs.getD i g_).gs.length c) (rs.getD i g_).gs.length (gC (rs.getD i g_).gs)
 apart:∀ i j,i<rs.length->j<rs.length->i≠j->(vs.getD i undef).ownBlock=none\/(vs.getD i undef).ownBlock≠(vs.getD j undef).ownBlock
def Jd (W:World) (base:Nat) (ts:LB) (rs:List R3) (tv rvv:Value):Prop:=W.ownsRow base 9 1 tv ts.length (ts.map Value.string)/\∃ vs,Gg W base rvv rs vs
structure S2 (w:World) (W0:Int) (ts:LB) (rs:List R3) (a:OA) (c D n:Nat) (pre:List (Fin n)) (W:World):Prop where
 ex:∃ a2 c2 vs,X4 W (w.heap.size+1) [.int .i64 W0,.slice a ts.length c,.slice a2 pre.length c2]/\Gg W (w.heap.size+3) (.slice a2 pre.length c2) (pre.map (Hw rs n)) vs
 tr:W.ownsRow (w.heap.size+3) 9 1 (.slice a ts.length c) ts.length (ts.map Value.string)
 op:Y5 W (w.heap.size+1)
 t1:Gf W (w.heap.size+1) 44
 rb:X4 W w.heap.size [.int .i64 0,.slice none 0 0,.slice none 0 0]
 ro:Y5 W w.heap.size
 t0:Gf W w.heap.size 44
 bw:Bw w W
 sz:w.heap.size+3<=W.heap.size
 dl:D<W.heap.size
 dd:W.heap[D]?=some (.deferred (some []))
theorem kH (hT:Gf W b t) (a:W.grownBy W' row) (hr:∀ r,row=some r->∃ o:Obj,W.heap[r]?=some o/\o.isCells=false):fB W' b j=fB W b j:=by
 obtain ⟨cur,fr,hT⟩:=hT;have e:=a.block b (D_.1 hT).1 (fun e=>by
  obtain ⟨o,ho,hc⟩:=hr b e.symm;rw [hT] at ho;cases ho;cases hc)
 unfold fB;simp only [World.cell?,e]
theorem um (h:Y5 W b) (hT:Gf W b t) (a:W.grownBy W' row) (hr:∀ r,row=some r->∃ o:Obj,W.heap[r]?=some o/\o.isCells=false):Y5 W' b:=by
 obtain ⟨cur,fr,hT⟩:=hT;refine Je h a (D_.1 hT).1 fun e=>?_;obtain ⟨o,ho,hc⟩:=hr b e.symm;rw [hT] at ho;cases ho;cases hc
theorem VP (w:World) (W0:Int) (ts:LB) (rs:List R3) (a:OA) (c D n B:Nat) (hB:w.heap.size+3<=B) (l:D<B):OwnFrom B (fun pre W=>S2 w W0 ts rs a c D n pre W):=fun s W W' row h d hr=>by
 have f:∀ r,row=some r->∃ o:Obj,W.heap[r]?=some o/\o.isCells=false:=fun r e=>(hr r e).2;obtain ⟨a2,c2,vs,h1,h2⟩:=h.ex;have g:∀ b,b<B->some b≠row:=fun b hb e=>by have:=(hr b e.symm).1;omega
 exact ⟨⟨a2,c2,vs,Ze h1 h.t1 d f,⟨h2.len,Oi h2.row d f,fun i k=>by
  obtain ⟨p,c3,e,m⟩:=h2.gl i k;exact ⟨p,c3,e,Oi m d f⟩,h2.apart⟩⟩,Oi h.tr d f,um h.op h.t1 d f,Uc h.t1 d f,Ze h.rb h.t0 d f,um h.ro h.t0 d f,Uc h.t0 d f,h.bw.trans (a_ d (fun j e=>by have:=(hr j e).1;omega) h.bw.size),Q7 h.sz d.size,m_ h.dl d.size,(d.block D h.dl (g D l)).trans h.dd⟩
theorem lV {b:World} {W:Int} (h:S1 w W0 ts (ts.map (gT W)).length (List.finRange (ts.map (gT W)).length) b):∃ a c,X4 b (w.heap.size+1) [.int .i64 W0,.slice a ts.length c,.slice none 0 0]/\b.ownsRow (w.heap.size+3) 9 1 (.slice a ts.length c) ts.length (ts.map Value.string):=by
 obtain ⟨a,c,h1,h2⟩:=h.ex;have e1:(List.finRange (ts.map (gT W)).length).length=ts.length:=I4;have f:((List.finRange (ts.map (gT W)).length).map fun i=>Value.string (lM ts (ts.map (gT W)).length i))=ts.map Value.string:=by
  apply ny
  · simp
  · intro i hi1 d;have e:i<ts.length:=by simpa using d
    simp [lM,List.getD,y9 e]
 rw [e1] at h1 h2;rw [f] at h2;exact ⟨a,c,h1,h2⟩
theorem jS {b e:World} {W:Int} {pre:List (Fin (ts.map (gT W)).length)} (h:S1 w W0 ts (ts.map (gT W)).length pre b) (f:X4 b (w.heap.size+1) [.int .i64 W0,.slice a ts.length c,.slice none 0 0]) (ho:b.ownsRow (w.heap.size+3) 9 1 (.slice a ts.length c) ts.length (ts.map Value.string)) (hD:w.heap.size+3<=D) (hd:b.heap[D]?=some (.deferred (some []))) (hx:Bw b e):S2 w W0 ts rs a c D n [] e:=by
 have hz:=h.sz;have hs:=hx.size;have g:=(D_.1 hd).1;exact ⟨⟨none,0,[],f.below hx O0,⟨rfl,ng _ _ _ _,fun i d=>absurd d (o9 _),fun i j d=>absurd d (o9 _)⟩⟩,own_below ho hx,h.op.below hx O0,h.t1.below hx O0,h.rb.below hx O0,h.ro.below hx O0,h.t0.below hx O0,h.bw.trans (hx.mono O0),O0,O0,(hx.block D g).trans hd⟩
theorem WX {rv:List Value} {pl:List (ByteArray×Value)} (h:ShR B rs rv pl w) (i:Fin rv.length):∃ a b,(rv[i.1]'i.2)=.agg #[.string (Hw rs rv.length i).key,.slice a (Hw rs rv.length i).gs.length b,.string (Hw rs rv.length i).out]/\Z_ w a (Hw rs rv.length i).gs:=by
 have c:=Nat.lt_of_lt_of_eq i.2 h.len;obtain ⟨a,b,e,d,_⟩:=h.recs i.1 c;refine ⟨a,b,?_,d⟩;unfold Hw;rw [<- e];simp only [List.getD,y9 i.2,Ac]
theorem row_ne {k:Nat} (h:W.ownsRow base e size v n xs) (hk:k<base):some k≠v.ownBlock:=fun e=>by
 have:=P6 h e.symm;omega
theorem WT {d f:World} {pre:List (Fin n)} {x:Fin n} {tx:BY} (h:S1 w W0 ts n pre d) (u:X4 d (w.heap.size+1) [.int .i64 W0,.slice a pre.length c,.slice none 0 0]) (ho:d.ownsRow (w.heap.size+3) 9 1 (.slice a pre.length c) pre.length (pre.map fun i=>.string (lM ts n i))) (C:tx=lM ts n x)
 (E:f.ownsRow (w.heap.size+3) 9 1 (.slice a2 (pre.length+1) c2) (pre.length+1) ((pre.map fun i=>.string (lM ts n i))++[.string tx])) (g:(d.alloc (.cells #[.string tx] 9)).grownBy f (Value.slice a pre.length c).ownBlock) (H:(Value.slice a2 (pre.length+1) c2).ownBlock=(Value.slice a pre.length c).ownBlock\/(Value.slice a2 (pre.length+1) c2).ownBlock=some (d.alloc (.cells #[.string tx] 9)).heap.size):
 (KeepsFrom B d (f.setCell ⟨w.heap.size+1,1,none⟩ (.slice a2 (pre.length+1) c2))/\Fz (w.heap.size+1) 1 192 d (f.setCell ⟨w.heap.size+1,1,none⟩ (.slice a2 (pre.length+1) c2)))/\S1 w W0 ts n (pre++[x]) (f.setCell ⟨w.heap.size+1,1,none⟩ (.slice a2 (pre.length+1) c2)):=by
 have hz:=h.sz;have l:Bw d (d.alloc (.cells #[.string tx] 9)):=o7;have sN:(d.alloc (.cells #[.string tx] 9)).heap.size=d.heap.size+1:=I4;have sG:=g.size;have m:=row_ne (k:=w.heap.size+1) ho O0;have o:=row_ne (k:=w.heap.size) ho O0;have L:=D9 (u.below l O0) g O0 m;have o2:=Je (h.op.below l O0) g O0 m;have z:=D9 (h.rb.below l O0) g O0 o;have A:=Je (h.ro.below l O0) g O0 o;have t1:=(h.t1.below l O0).kept g m;have t0:=(h.t0.below l O0).kept g o;have hf:fB d (w.heap.size+1) 1=(Value.slice a pre.length c).ownBlock:=by unfold fB;rw [u 1 _ rfl];rfl
 have y:X4 (f.setCell ⟨w.heap.size+1,1,none⟩ (.slice a2 (pre.length+1) c2)) (w.heap.size+1) [.int .i64 W0,.slice a2 (pre.length+1) c2,.slice none 0 0]:=L.set 1 _ I4;have K:fB (f.setCell ⟨w.heap.size+1,1,none⟩ (.slice a2 (pre.length+1) c2)) (w.heap.size+1) 1=(Value.slice a2 (pre.length+1) c2).ownBlock:=by unfold fB;rw [y 1 _ rfl];rfl
 have sT:(f.setCell ⟨w.heap.size+1,1,none⟩ (.slice a2 (pre.length+1) c2)).heap.size=f.heap.size:=I4;refine ⟨LG O0 (fun k J I s=>?_) h.t1 (fun q r=>?_) ?_,?_⟩
 · rw [hf] at s;rw [Fb _ _ _ _ (by exact I)];exact (g.block k O0 (fun e=>s e.symm)).trans (l.block k J)
 · rw [hf] at r;exact ⟨9,Q8 ho r⟩
 · rw [K,hf];rcases H with e | e
   · exact .inl e
   · exact .inr ⟨_,e,O0⟩
 · have v:(pre++[x]).length=pre.length+1:=I4;have D:∀ b t,b≠w.heap.size+1->Gf f b t->Gf (f.setCell ⟨w.heap.size+1,1,none⟩ (.slice a2 (pre.length+1) c2)) b t:=fun b t F hT=>by
    obtain ⟨cur,fr,hT⟩:=hT;exact ⟨cur,fr,(Fb _ _ _ _ (by exact F)).trans hT⟩
   refine ⟨⟨a2,c2,?_,?_⟩,o2.set _ _,?_,z.other _ _ (by show w.heap.size+1≠w.heap.size;omega),A.set _ _,D _ _ O0 t0,?_,O0⟩
   · rw [v];exact y
   · rw [v,Fg,Cm,Qu,<- C];exact Ad E _ _ (by show w.heap.size+1<w.heap.size+3;omega)
   · exact Gh t1 1 _
   · exact (h.bw.trans ((l.mono O0).trans (a_ g (fun j e=>by have:=P6 ho e;omega) O0))).setCell (p:=⟨w.heap.size+1,1,none⟩) (by show w.heap.size<=w.heap.size+1;omega) _
theorem xQ (h:n=rs.length):(List.finRange n).map (Hw rs n)=rs:=by
 subst h;apply ny
 · simp
 · intro i hi1 a;simp [Hw,List.getD,y9 a]
theorem yK (rs:List R3) (vs:List Value) (y:R3) (v:Value) (h:vs.length=rs.length):rC (rs++[y]) (vs++[v])=rC rs vs++[.string y.key,v,.string y.out]:=by
 unfold rC;rw [N9,Ej,VE,Dq]
 congr 1
 · rw [List.flatMap_def,List.flatMap_def]
   congr 1
   apply Wu;intro i c;have b:=Gs.1 c;have e1:(rs++[y]).getD i g_=rs.getD i g_:=by simp only [List.getD,I_ b]
   have a:(vs++[v]).getD i undef=vs.getD i undef:=by simp only [List.getD,I_ (show i<vs.length by omega)]
   rw [e1,a]
 · have e1:(rs++[y]).getD rs.length g_=y:=by simp [List.getD]
   have a:(vs++[v]).getD rs.length undef=v:=by simp [List.getD,<- h]
   simp only [Pg,Kq,Tz,e1,a]
theorem X8 {t:Nat} (h:Gf W b t) (a:Gf W b c):t=c:=by
 obtain ⟨cur,fr,h⟩:=h;obtain ⟨cur',fr',a⟩:=a;rw [h] at a;cases a;rfl
theorem NT {V1 s p:World} {f m:OA} {d l r:Nat} {pre:List (Fin n)} {x:Fin n} {y:R3} (h:S2 w W0 ts rs a c D n pre V1) (Z:X4 V1 (w.heap.size+1) [.int .i64 W0,.slice a ts.length c,.slice a2 pre.length c2]) (ho:Gg V1 (w.heap.size+3) (.slice a2 pre.length c2) (pre.map (Hw rs n)) vs)
 (hy:y=Hw rs n x) (hBx:w.heap.size+3<=r) (lX:r<V1.heap.size) (L:Gf V1 r 113) (hfx:fB V1 (w.heap.size+1) 2≠some r) (C:Bw V1 s) (H:s.ownsRow V1.heap.size 178 3 (.slice f y.gs.length d) y.gs.length (gC y.gs))
 (hown:p.ownsRow (w.heap.size+3) 113 3 (.slice m (pre.length+1) l) (pre.length+1) (rC (pre.map (Hw rs n)) vs++[.string y.key,(.slice f y.gs.length d),.string y.out])) (A:((s.setCell ⟨r,1,none⟩ (.slice f y.gs.length d)).alloc (.cells #[.string y.key,.slice f y.gs.length d,.string y.out] 113)).grownBy p (Value.slice a2 pre.length c2).ownBlock) (hloc:(Value.slice m (pre.length+1) l).ownBlock=(Value.slice a2 pre.length c2).ownBlock\/(Value.slice m (pre.length+1) l).ownBlock=some ((s.setCell ⟨r,1,none⟩ (.slice f y.gs.length d)).alloc (.cells #[.string y.key,.slice f y.gs.length d,.string y.out] 113)).heap.size):
 (KeepsFrom B V1 (p.setCell ⟨w.heap.size+1,2,none⟩ (.slice m (pre.length+1) l))/\Fz (w.heap.size+1) 2 113 V1 (p.setCell ⟨w.heap.size+1,2,none⟩ (.slice m (pre.length+1) l)))/\S2 w W0 ts rs a c D n (pre++[x]) (p.setCell ⟨w.heap.size+1,2,none⟩ (.slice m (pre.length+1) l)):=by
 have hz:=h.sz;have s12:=C.size;have s4:((s.setCell ⟨r,1,none⟩ (.slice f y.gs.length d)).alloc (.cells #[.string y.key,.slice f y.gs.length d,.string y.out] 113)).heap.size=s.heap.size+1:=I4;have s5:=A.size;have sT:(p.setCell ⟨w.heap.size+1,2,none⟩ (.slice m (pre.length+1) l)).heap.size=p.heap.size:=I4;have hf:fB V1 (w.heap.size+1) 2=(Value.slice a2 pre.length c2).ownBlock:=by unfold fB;rw [Z 2 _ rfl];rfl
 rw [hf] at hfx;have hrl:∀ k,(Value.slice a2 pre.length c2).ownBlock=some k->k<V1.heap.size:=fun k e=>Ef ho.row e;have H2:∀ k,k<s.heap.size->k≠r->k≠w.heap.size+1->(Value.slice a2 pre.length c2).ownBlock≠some k->(p.setCell ⟨w.heap.size+1,2,none⟩ (.slice m (pre.length+1) l)).heap[k]?=s.heap[k]?:=fun k J W F U=>by
  rw [Fb _ _ _ _ (by exact F)];refine (A.block k O0 (fun e=>U e.symm)).trans ?_;refine (Tv _ _ k (by simpa using J)).trans ?_;exact Fb _ _ _ _ (by exact W)
 have E:∀ k,k<V1.heap.size->k≠r->k≠w.heap.size+1->(Value.slice a2 pre.length c2).ownBlock≠some k->(p.setCell ⟨w.heap.size+1,2,none⟩ (.slice m (pre.length+1) l)).heap[k]?=V1.heap[k]?:=fun k J W F U=>(H2 k O0 W F U).trans (C.block k J);have HT:∀ k t,Gf V1 k t->t≠113->k≠w.heap.size+1->(p.setCell ⟨w.heap.size+1,2,none⟩ (.slice m (pre.length+1) l)).heap[k]?=V1.heap[k]?:=fun k t hT ht F=>by
  refine E k (by obtain ⟨cur,fr,e⟩:=hT;exact (D_.1 e).1) (fun e=>ht ?_) F (fun e=>ht ?_)
  · subst e;exact X8 hT L
  · exact X8 hT (Q8 ho.row e)
 have P:some (w.heap.size+1)≠(Value.slice a2 pre.length c2).ownBlock:=row_ne ho.row O0;have b4:X4 ((s.setCell ⟨r,1,none⟩ (.slice f y.gs.length d)).alloc (.cells #[.string y.key,.slice f y.gs.length d,.string y.out] 113)) (w.heap.size+1) [.int .i64 W0,.slice a ts.length c,.slice a2 pre.length c2]:=((Z.below C O0).other _ _ (by show r≠w.heap.size+1;omega)).below (N:=s.heap.size) ((Z4 _ _).alloc I4 _) O0;have o4:Y5 ((s.setCell ⟨r,1,none⟩ (.slice f y.gs.length d)).alloc (.cells #[.string y.key,.slice f y.gs.length d,.string y.out] 113)) (w.heap.size+1):=((h.op.below C O0).set _ _).below (N:=s.heap.size) ((Z4 _ _).alloc I4 _) O0;have b5:=D9 b4 A O0 P;have o5:=Je o4 A O0 P;have b6:X4 (p.setCell ⟨w.heap.size+1,2,none⟩ (.slice m (pre.length+1) l)) (w.heap.size+1) [.int .i64 W0,.slice a ts.length c,.slice m (pre.length+1) l]:=b5.set 2 _ I4;have hf2:fB (p.setCell ⟨w.heap.size+1,2,none⟩ (.slice m (pre.length+1) l)) (w.heap.size+1) 2=(Value.slice m (pre.length+1) l).ownBlock:=by unfold fB;rw [b6 2 _ rfl];rfl
 have t4:Gf p (w.heap.size+1) 44:=by
  obtain ⟨cur,fr,e⟩:=h.t1;refine ⟨cur,fr,(A.block _ O0 P).trans ((Tv _ _ _ U7).trans ?_)⟩;rw [Fb _ _ _ _ (by show w.heap.size+1≠r;omega)];exact (C.block _ O0).trans e
 have bT:Bw w (p.setCell ⟨w.heap.size+1,2,none⟩ (.slice m (pre.length+1) l)):=⟨(A.os.trans (C.os)).trans h.bw.os,(A.tape.trans (C.tape)).trans h.bw.tape,(A.output.trans (C.output)).trans h.bw.output,by have:=h.bw.size;omega,fun k J=>(E k O0 O0 O0 (fun e=>by have:=P6 ho.row e;omega)).trans (h.bw.block k J)⟩;refine ⟨⟨⟨O0,fun k o _ v V=>?_⟩,⟨O0,fun k o v _ hkX F Y=>?_,?_⟩⟩,?_⟩
 · refine (E k (D_.1 v).1 (fun e=>?_) (fun e=>?_) (fun e=>?_)).trans v
   · obtain ⟨cur,fr,b⟩:=L;rw [<- e,v] at b;cases b;cases V
   · obtain ⟨cur,fr,b⟩:=h.t1;rw [<- e,v] at b;cases b;cases V
   · obtain ⟨cur,fr,b⟩:=Q8 ho.row e;rw [v] at b;cases b;cases V
 · rw [hf] at Y;refine (E k (D_.1 v).1 (fun e=>?_) F Y).trans v;obtain ⟨cur,fr,b⟩:=L;rw [<- e,v] at b;cases b;exact hkX cur fr rfl
 · rw [hf2,hf];rcases hloc with e | e
   · exact .inl e
   · exact .inr ⟨_,e,O0⟩
 · have el:(pre++[x]).length=pre.length+1:=I4;have em:(pre++[x]).map (Hw rs n)=pre.map (Hw rs n)++[y]:=by rw [Fg,hy];rfl
   have u:(pre.map (Hw rs n)).length=pre.length:=Lc ..;have h5T:=H9 (I7 H (fun q g=>H2 q (Ef H g) (fun e=>by have:=P6 H g;omega) (fun e=>by have:=P6 H g;omega) (fun e=>by have:=hrl q e;have:=P6 H g;omega))) O0;have O:∀ i,i<pre.length->(vs++[Value.slice f y.gs.length d]).getD i undef=vs.getD i undef:=fun i z=>by simp only [List.getD,I_ (show i<vs.length by rw [ho.len,u];exact z)]
   have Q:(vs++[Value.slice f y.gs.length d]).getD pre.length undef=(.slice f y.gs.length d):=by simp [List.getD,show pre.length=vs.length by rw [ho.len,u]]
   have hrl2:∀ i,i<pre.length->(pre.map (Hw rs n)++[y]).getD i g_=(pre.map (Hw rs n)).getD i g_:=fun i z=>by simp only [List.getD,I_ (show i<(pre.map (Hw rs n)).length by rw [u];exact z)]
   have hrn:(pre.map (Hw rs n)++[y]).getD pre.length g_=y:=by simp [List.getD]
   have X:∀ i,i<pre.length->∀ q,(vs.getD i undef).ownBlock=some q->q<V1.heap.size:=fun i z q g=>by
    obtain ⟨a3,c3,e,K⟩:=ho.gl i (by rw [u];exact z);rw [e] at g;exact Ef K g
   refine ⟨⟨m,l,vs++[(.slice f y.gs.length d)],by rw [el];exact b6,?_⟩,?_,o5.set _ _,Gh t4 2 _,?_,?_,?_,bT,O0,by have:=h.dl;omega,?_⟩
   · rw [el,em];refine ⟨by simp [ho.len],?_,fun i z=>?_,fun i j z hj hij=>?_⟩
     · rw [yK _ _ _ _ ho.len,N9,u];exact Ad hown _ _ (by show w.heap.size+1<w.heap.size+3;omega)
     · rw [N9,u,Ej] at z;rcases o8 i pre.length with R | hge
       · rw [O i R,hrl2 i R];obtain ⟨a3,c3,e,K⟩:=ho.gl i (by rw [u];exact R);exact ⟨a3,c3,e,I7 K (fun q g=>HT q 178 (Q8 K g) O6 (fun e=>by have:=P6 K g;omega))⟩
       · obtain rfl:i=pre.length:=O0;rw [Q,hrn];exact ⟨f,d,rfl,h5T⟩
     · rw [N9,u,Ej] at z hj;rcases o8 i pre.length with S | hgi
       · rw [O i S];rcases o8 j pre.length with I | hgj
         · rw [O j I];exact ho.apart i j (by rw [u];exact S) (by rw [u];exact I) hij
         · obtain rfl:j=pre.length:=O0;rw [Q]
           cases g:(vs.getD i undef).ownBlock with
           | none=>exact .inl rfl
           | some q=>
            refine .inr fun e=>?_;have:=X i S q g;have:=P6 H e.symm;omega
       · obtain rfl:i=pre.length:=O0;rw [Q];have I:j<pre.length:=O0;rw [O j I]
         cases g:(Value.slice f y.gs.length d).ownBlock with
         | none=>exact .inl rfl
         | some q=>
          refine .inr fun e=>?_;have:=X j I q e.symm;have:=P6 H g;omega
   · exact I7 h.tr (fun q g=>HT q 9 (Q8 h.tr g) O6 (fun e=>by have:=P6 h.tr g;omega))
   · exact Rx h.rb (E w.heap.size O0 O0 O0 (fun e=>by have:=P6 ho.row e;omega))
   · exact rP h.ro (E w.heap.size O0 O0 O0 (fun e=>by have:=P6 ho.row e;omega))
   · obtain ⟨cur,fr,e⟩:=h.t0;exact ⟨cur,fr,(E w.heap.size O0 O0 O0 (fun e=>by have:=P6 ho.row e;omega)).trans e⟩
   · refine (E D h.dl (fun e=>?_) (fun e=>?_) (fun e=>?_)).trans h.dd
     · obtain ⟨cur,fr,b⟩:=L;rw [<- e,h.dd] at b;cases b
     · obtain ⟨cur,fr,b⟩:=h.t1;rw [<- e,h.dd] at b;cases b
     · obtain ⟨cur,fr,b⟩:=Q8 ho.row e;rw [h.dd] at b;cases b
theorem c71 (B H bT bR bP:Nat) (W:Int) (ts:LB) (rs:List R3) (rv:List Value) (w:World) (hSh:Sh B H bT bR bP W (ts.map (gT W)) rs rv w) (hW:1<=W/\W<=8) (htl:ts.length<=1000) (hrl:rs.length<=1000) (hgs:∀ i,(rs.getD i g_).gs.length<=1048576):
 Calls prog 71 #[.pointer (some ⟨H,0,none⟩)] w fun e w'=>(∃ ta tc ra rc',e=.returned (.agg #[.int .i64 W,.slice ta ts.length tc,.slice ra rs.length rc'])/\Jd w' w.heap.size ts rs (.slice ta ts.length tc) (.slice ra rs.length rc'))/\Bw w w':=by
 obtain ⟨pl,R,hR⟩:=hSh;have a4C:=R.lt;have B0:Bw w (w.alloc (.cells #[.int .i64 0,.slice none 0 0,.slice none 0 0] 44)):=o7;have B1:Bw w ((w.alloc (.cells #[.int .i64 0,.slice none 0 0,.slice none 0 0] 44)).alloc (.cells #[.int .i64 W,.slice none 0 0,.slice none 0 0] 44)):=B0.alloc I4 _;have B2:Bw w (((w.alloc (.cells #[.int .i64 0,.slice none 0 0,.slice none 0 0] 44)).alloc (.cells #[.int .i64 W,.slice none 0 0,.slice none 0 0] 44)).alloc (.cells #[.map (some bT)] 184)):=B1.alloc U7 _;have z1:(w.alloc (.cells #[.int .i64 0,.slice none 0 0,.slice none 0 0] 44)).heap.size=w.heap.size+1:=I4;have z2:((w.alloc (.cells #[.int .i64 0,.slice none 0 0,.slice none 0 0] 44)).alloc (.cells #[.int .i64 W,.slice none 0 0,.slice none 0 0] 44)).heap.size=w.heap.size+2:=I4;have z3:(((w.alloc (.cells #[.int .i64 0,.slice none 0 0,.slice none 0 0] 44)).alloc (.cells #[.int .i64 W,.slice none 0 0,.slice none 0 0] 44)).alloc (.cells #[.map (some bT)] 184)).heap.size=w.heap.size+3:=I4;have h0:=(R.below B0).blk 0 _ rfl;have h1:=(R.below B1).blk 1 _ rfl;have M2:=U0 (R.below B2).tx;have hfK:Fence.wide.fn 119:=trivial;have hfL:Fence.wide.fn 120:=trivial;have hf0:fB (((w.alloc (.cells #[.int .i64 0,.slice none 0 0,.slice none 0 0] 44)).alloc (.cells #[.int .i64 W,.slice none 0 0,.slice none 0 0] 44)).alloc (.cells #[.map (some bT)] 184)) (w.heap.size+1) 1=none:=by
  have bs:=(I5 (w.alloc (.cells #[.int .i64 0,.slice none 0 0,.slice none 0 0] 44)) [.int .i64 W,.slice none 0 0,.slice none 0 0] 44);rw [z1] at bs;have h:=(bs.below (N:=w.heap.size+2) (u':=(((w.alloc (.cells #[.int .i64 0,.slice none 0 0,.slice none 0 0] 44)).alloc (.cells #[.int .i64 W,.slice none 0 0,.slice none 0 0] 44)).alloc (.cells #[.map (some bT)] 184))) ((Z4 _ _).alloc I4 _) O0) 1 _ rfl;unfold fB;rw [h];rfl
 have hTb:Gf (((w.alloc (.cells #[.int .i64 0,.slice none 0 0,.slice none 0 0] 44)).alloc (.cells #[.int .i64 W,.slice none 0 0,.slice none 0 0] 44)).alloc (.cells #[.map (some bT)] 184)) (w.heap.size+2) 184:=by have h:=Xc ((w.alloc (.cells #[.int .i64 0,.slice none 0 0,.slice none 0 0] 44)).alloc (.cells #[.int .i64 W,.slice none 0 0,.slice none 0 0] 44)) #[.map (some bT)] 184;rw [z2] at h;exact h
 have hbx:(((w.alloc (.cells #[.int .i64 0,.slice none 0 0,.slice none 0 0] 44)).alloc (.cells #[.int .i64 W,.slice none 0 0,.slice none 0 0] 44)).alloc (.cells #[.map (some bT)] 184)).cell? ⟨w.heap.size+2,0,none⟩=some (.map (some bT)):=by have h:=I5 ((w.alloc (.cells #[.int .i64 0,.slice none 0 0,.slice none 0 0] 44)).alloc (.cells #[.int .i64 W,.slice none 0 0,.slice none 0 0] 44)) [.map (some bT)] 184 0 _ rfl;rw [z2] at h;exact h
 have hks:∀ p∈ts.map (gT W),p.1.size<=maxLen:=fun p hp=>by
  obtain ⟨t,_,rfl⟩:=Jl.1 hp;show (E5 t W).size<=maxLen;rw [Wp hW];unfold maxLen;omega
 have a6f:=R.tx.lt;have I0:S1 w W ts (ts.map (gT W)).length [] (((w.alloc (.cells #[.int .i64 0,.slice none 0 0,.slice none 0 0] 44)).alloc (.cells #[.int .i64 W,.slice none 0 0,.slice none 0 0] 44)).alloc (.cells #[.map (some bT)] 184)):=by
  have bz:=(I5 w [.int .i64 0,.slice none 0 0,.slice none 0 0] 44);have bs:=(I5 (w.alloc (.cells #[.int .i64 0,.slice none 0 0,.slice none 0 0] 44)) [.int .i64 W,.slice none 0 0,.slice none 0 0] 44);have hb1:Below (w.heap.size+1) (w.alloc (.cells #[.int .i64 0,.slice none 0 0,.slice none 0 0] 44)) (((w.alloc (.cells #[.int .i64 0,.slice none 0 0,.slice none 0 0] 44)).alloc (.cells #[.int .i64 W,.slice none 0 0,.slice none 0 0] 44)).alloc (.cells #[.map (some bT)] 184)):=((Z4 _ _).alloc I4 _).alloc I4 _;have C:Below (w.heap.size+2) ((w.alloc (.cells #[.int .i64 0,.slice none 0 0,.slice none 0 0] 44)).alloc (.cells #[.int .i64 W,.slice none 0 0,.slice none 0 0] 44)) (((w.alloc (.cells #[.int .i64 0,.slice none 0 0,.slice none 0 0] 44)).alloc (.cells #[.int .i64 W,.slice none 0 0,.slice none 0 0] 44)).alloc (.cells #[.map (some bT)] 184)):=(Z4 _ _).alloc I4 _;rw [z1] at bs;have os:=N8 (w.alloc (.cells #[.int .i64 0,.slice none 0 0,.slice none 0 0] 44)) #[.int .i64 W,.slice none 0 0,.slice none 0 0] 44;have tos:=Xc (w.alloc (.cells #[.int .i64 0,.slice none 0 0,.slice none 0 0] 44)) #[.int .i64 W,.slice none 0 0,.slice none 0 0] 44;rw [z1] at os tos;exact ⟨⟨none,0,bs.below C O0,ng _ _ _ _⟩,os.below C O0,tos.below C O0,bz.below hb1 O0,(N8 w #[.int .i64 0,.slice none 0 0,.slice none 0 0] 44).below hb1 O0,(Xc w #[.int .i64 0,.slice none 0 0,.slice none 0 0] 44).below hb1 O0,B2,O0⟩
 obtain ⟨i0,hi9,hz0,hz1,hz2⟩:=info_parts' info9;obtain ⟨j0,hj9,jz0,jz1,jz2⟩:=info_parts' qG;refine (callsIn_wide (n:=11)).1 ?_;refine callsIn_of_wp_marks func71 rfl trivial ?_ rfl;simp only [ntmps71,Wx,A_,Xe,Nat.reduceAdd,Nat.reduceSub,Hy,Yy,JA,Ry,M_,Uf]
 gi_wp2_with (gi_at_call 119;refine (c119 _ _ _).mono ?_;rintro e w' ⟨rfl,rfl⟩)
 generalize (((w.alloc (.cells #[.int .i64 0,.slice none 0 0,.slice none 0 0] 44)).alloc (.cells #[.int .i64 W,.slice none 0 0,.slice none 0 0] 44)).alloc (.cells #[.map (some bT)] 184))=U2 at*;have hm2:=hbx;refine wpIn_rangeFunc_ownH rfl O0 (gf:=182) (lb:=#[.pointer (some ⟨w.heap.size+2,0,none⟩)]) rfl trivial (enters_of func182 J3 rfl)
  (a0T (w.heap.size+1) 1 (w.heap.size+2) bT _ (ts.map (gT W)) U2 R.ta hks (by simpa using htl) O0 hm2 M2.out hTb O0 O0 O0 hf0)
  Fz.trans (kJ O0) (Z4 _ _) (fun _=>rfl)
  (fun pre W'=>S1 w W ts (ts.map (gT W)).length pre W') (fun _ _ _=>False) (nR w W ts _ _ O0) (fun _ _ _ _ _ h _ _=>h) I0
  (fun x a' W'=>∃ f tx,tx=lM ts (ts.map (gT W)).length x/\w.heap.size+3<=f/\X4 W' f [.string tx,.int .i64 (hC tx),.string (hT tx)]/\Gf W' f 192/\a'={ tmps:=#[.pointer (some ⟨H,0,none⟩),undef,.pointer (some ⟨w.heap.size,0,none⟩),.pointer (some ⟨w.heap.size+1,0,none⟩),.pointer (some ⟨f,0,none⟩),undef,.pointer (some ⟨H,0,none⟩),.pointer (some ⟨H,0,none⟩),.pointer (some ⟨H,0,none⟩),.int .i64 W,.agg #[.int .i64 W,.slice none 0 0,.slice none 0 0],.pointer (some ⟨H,0,none⟩),.pointer (some ⟨H,0,none⟩),.pointer (some ⟨H,1,none⟩),.map (some bT),.func (.func 182) #[] #[.pointer (some ⟨w.heap.size+2,0,none⟩)],.agg #[.string tx,.int .i64 (hC tx),.string (hT tx)],undef,undef,undef,undef,undef,undef,undef,undef,undef,undef,undef,undef,undef,undef,undef,undef,undef,undef,undef,undef,undef,undef,undef,undef],defers:=[] }) ?hax ?assign ?body ?done ?stop
 case hax=>
  rintro x a' s g O row ⟨f,tx,h1,h2,Y,h4,h5⟩ L hr;have S:∀ r,row=some r->∃ o:Obj,g.heap[r]?=some o/\o.isCells=false:=fun r e=>(hr r e).2;exact ⟨f,tx,h1,h2,Ze Y h4 L S,Uc h4 L S,h5⟩
 case assign=>
  intro l pre x g K d hK;have hvx:=pX ts x;rw [hvx];generalize htx:lM ts (ts.map (gT W)).length x=tx at*;have L:=dJ g (.cells #[.string tx,.int .i64 (hC tx),.string (hT tx)] 192) none;have hi2:=nR w W ts (ts.map (gT W)).length (w.heap.size+3) x9 pre g _ none d L (fun _ e=>by cases e);have hk2:=SB (W:=g) (w.heap.size+1) 1 192 (by have:=d.sz;omega) (.cells #[.string tx,.int .i64 (hC tx),.string (hT tx)] 192);have C:=I5 g [.string tx,.int .i64 (hC tx),.string (hT tx)] 192;have ht2:=Xc g #[.string tx,.int .i64 (hC tx),.string (hT tx)] 192;have hz:=d.sz
  gi_wp2
  exact hK _ _ ((KeepsOthers.alloc _ _).from _) hk2 hi2 ⟨g.heap.size,tx,rfl,hz,C,ht2,rfl⟩
 case body=>
  rintro l pre x a' g hl ⟨r,hr⟩ d ⟨f,tx,htx,hBx,bX,tX,rfl⟩ hlt;have HTX:=U0 htx;clear htx;obtain ⟨a,c,E,I⟩:=d.ex;have hz:=d.sz;have x0:=bX 0 _ rfl;have y1:=E 1 _ rfl;have f1:=d.op 1;have HO:=U0 (I.alloc (.cells #[.string tx] 9));have HS0:=U0 d;have HB0:=U0 E;have HR0:=U0 I;have hpl:pre.length<=1000:=by have e:(ts.map (gT W)).length=ts.length:=Lc ..;omega
  have bN:Bw g (g.alloc (.cells #[.string tx] 9)):=o7;have sN:(g.alloc (.cells #[.string tx] 9)).heap.size=g.heap.size+1:=I4;clear d E I bX tX hr;have hmark:=trivial
  gi_wp2_with (gi_at_builtin;refine wpListIn_append_own_at _ rfl _ _ 22 rfl (w.heap.size+3) 9 i0 (.string ⟨#[]⟩) 1 16 underlying22 hi9 hz0 hz1 hz2 rfl O6 _ _ _ rfl HO.out ⟨g.heap.size,0,none⟩ 1 1 [.string tx] rfl rfl (cell_one_new _ _ _) (by simp [Value.oneCell']) (by unfold maxLen;omega) O0 O0 ?_;revert hmark)
  intro v2 w2 X Q _ hloc;obtain ⟨a2,c2,rfl⟩:=U9 X;have neS:=row_ne (k:=w.heap.size+1) HR0.out O0;have b2:=D9 (HB0.out.below bN O0) Q O0 neS;have g1:=b2 1 _ rfl;have fz:=(Je (HS0.out.op.below bN O0) Q O0 neS) 1;have HST:=U0 (WT (B:=U2.heap.size) HS0.out HB0.out HR0.out HTX.out X Q (by rw [sN];exact hloc));clear X Q hloc
  gi_wp2
  exact ⟨HST.out.1.1,HST.out.1.2,HST.out.2⟩
 case done=>
  rintro D xs g hD hxs d hKd;subst hxs;obtain ⟨a,c,E,I⟩:=lV d;have hz:=d.sz;have BW1:=d.bw;have hDl:=(D_.1 hKd).1;have h2:=(R.below BW1).blk 2 _ rfl;have HM:=U0 ((R.below BW1).rc.alloc (.cells #[.map (some bR)] 185));have bX2:Bw g (g.alloc (.cells #[.map (some bR)] 185)):=o7;have sX2:(g.alloc (.cells #[.map (some bR)] 185)).heap.size=g.heap.size+1:=I4;have J0:S2 w W ts rs a c D rv.length [] (g.alloc (.cells #[.map (some bR)] 185)):=jS d E I O0 hKd bX2;have hbx2:=I5 g [.map (some bR)] 185 0 _ rfl;have a6g:=Xc g #[.map (some bR)] 185;have hf2:fB (g.alloc (.cells #[.map (some bR)] 185)) (w.heap.size+1) 2=none:=by
   unfold fB;rw [(E.below bX2 O0) 2 _ rfl];rfl
  have a6S:=R.rc.lt;have hrec:∀ i:Fin rv.length,∃ m v,(rv[i.1]'i.2)=.agg #[.string (Hw rs rv.length i).key,.slice m (Hw rs rv.length i).gs.length v,.string (Hw rs rv.length i).out]/\Z_ w m (Hw rs rv.length i).gs:=fun i=>WX hR i;have HRC:=U0 hrec;clear d E I hrec;simp only []
  gi_wp2_with (gi_at_call 120;refine (a1B _ _ _).mono ?_;rintro e w' ⟨rfl,rfl⟩)
  generalize hX2:(g.alloc (.cells #[.map (some bR)] 185))=X2 at*;clear hX2;refine wpIn_rangeFunc_ownH rfl O0 (gf:=185) (lb:=#[.pointer (some ⟨g.heap.size,0,none⟩)]) rfl trivial (enters_of func185 J3 rfl)
   (a1n (w.heap.size+1) 2 g.heap.size bR _ rv X2 (by have:=hR.len;omega) O0 hbx2 HM.out a6g O0 O0 O0 hf2)
   Fz.trans (kJ O0) (Z4 _ _) (fun _=>rfl)
   (fun pre W'=>S2 w W ts rs a c D rv.length pre W') (fun _ _ _=>False) (VP w W ts rs a c D _ _ O0 O0) (fun _ _ _ _ _ h _ _=>h) J0
   (fun x a' W'=>∃ f y m v,y=Hw rs rv.length x/\w.heap.size+3<=f/\Z_ w m y.gs/\X4 W' f [.string y.key,.slice m y.gs.length v,.string y.out]/\Y5 W' f/\f<W'.heap.size/\Gf W' f 113/\Gf W' (w.heap.size+1) 44/\fB W' (w.heap.size+1) 2≠some f/\a'={ tmps:=#[.pointer (some ⟨H,0,none⟩),undef,.pointer (some ⟨w.heap.size,0,none⟩),.pointer (some ⟨w.heap.size+1,0,none⟩),undef,.pointer (some ⟨f,0,none⟩),.pointer (some ⟨H,0,none⟩),.pointer (some ⟨H,0,none⟩),.pointer (some ⟨H,0,none⟩),.int .i64 W,.agg #[.int .i64 W,.slice none 0 0,.slice none 0 0],.pointer (some ⟨H,0,none⟩),.pointer (some ⟨H,0,none⟩),.pointer (some ⟨H,1,none⟩),.map (some bT),.func (.func 182) #[] #[.pointer (some ⟨w.heap.size+2,0,none⟩)],undef,undef,undef,undef,undef,undef,undef,undef,.pointer (some ⟨H,0,none⟩),.pointer (some ⟨H,0,none⟩),.pointer (some ⟨H,2,none⟩),.map (some bR),.func (.func 185) #[] #[.pointer (some ⟨g.heap.size,0,none⟩)],.agg #[.string y.key,.slice m y.gs.length v,.string y.out],undef,undef,undef,undef,undef,undef,undef,undef,undef,undef,undef],defers:=[] }) ?a6h ?assign2 ?body2 ?done2 ?stop2
  case a6h=>
   rintro x a' s V1 F row ⟨f,y,m,v,h1,h2,Y,h4,h5,h6,h7,h9,h10,h8⟩ L hr;have S:∀ r,row=some r->∃ o:Obj,V1.heap[r]?=some o/\o.isCells=false:=fun r e=>(hr r e).2;exact ⟨f,y,m,v,h1,h2,Y,Ze h4 h7 L S,um h5 h7 L S,m_ h6 L.size,Uc h7 L S,Uc h9 L S,by rw [kH h9 L S];exact h10,h8⟩
  case assign2=>
   intro l pre x V1 K d hK;obtain ⟨m,v,hvx,hG⟩:=HRC.out x;rw [hvx];generalize hy:Hw rs rv.length x=y at*;have L:=dJ V1 (.cells #[.string y.key,.slice m y.gs.length v,.string y.out] 113) none;have hi2:=VP w W ts rs a c D rv.length (D+1+(w.heap.size+3)) O0 O0 pre V1 _ none d L (fun _ e=>by cases e);have hk2:=SB (W:=V1) (w.heap.size+1) 2 113 (by have:=d.sz;omega) (.cells #[.string y.key,.slice m y.gs.length v,.string y.out] 113);have C:=I5 V1 [.string y.key,.slice m y.gs.length v,.string y.out] 113;have ho2:=N8 V1 #[.string y.key,.slice m y.gs.length v,.string y.out] 113;have ht2:=Xc V1 #[.string y.key,.slice m y.gs.length v,.string y.out] 113;have hz:=d.sz;have hs2:V1.heap.size<(V1.alloc (.cells #[.string y.key,.slice m y.gs.length v,.string y.out] 113)).heap.size:=I4;have hfx:fB (V1.alloc (.cells #[.string y.key,.slice m y.gs.length v,.string y.out] 113)) (w.heap.size+1) 2≠some V1.heap.size:=by
    obtain ⟨a2,c2,vs,hb,ho⟩:=d.ex;have e:fB (V1.alloc (.cells #[.string y.key,.slice m y.gs.length v,.string y.out] 113)) (w.heap.size+1) 2=(Value.slice a2 pre.length c2).ownBlock:=by
     unfold fB;rw [(hb.below ((Z4 V1.heap.size V1).alloc x9 _) O0) 2 _ rfl];rfl
    rw [e];intro Z;have:=Ef ho.row Z;omega
   clear hvx
   gi_wp2
   exact hK _ _ ((KeepsOthers.alloc _ _).from _) hk2 hi2 ⟨V1.heap.size,y,m,v,rfl,hz,hG,C,ho2,hs2,ht2,hi2.t1,hfx,rfl⟩
  case body2=>
   rintro l pre x a' V1 hl ⟨r,hr⟩ d ⟨f,y,m,v,hy,hBx,hG,bX,oX,lX,tX,_,hfx,rfl⟩ hlt;have HY:=U0 hy;have hgl:y.gs.length<=1048576:=by rw [hy];exact hgs _
   clear hy;obtain ⟨a2,c2,vs,E,I⟩:=d.ex;have hz:=d.sz;have x1:=bX 1 _ rfl;have f1:=oX 1;have HS0:=U0 d;have HB0:=U0 E;have HR0:=U0 I;have HBX:=U0 bX;have HOX:=U0 oX;have HFX:=U0 hfx;have HTX:=U0 tX;have h69:=a0F m v y.gs V1 hgl (O8 hG d.bw);have hpl:pre.length<=1000:=by have:=hR.len;omega
   clear d E I bX oX tX hr hfx hG;have hmark:=trivial;have hfC:Fence.wide.fn 121:=trivial
   gi_wp2_with (first | (gi_at_call 121;refine (CallsIn.inRound l (callsIn_wide.2 h69)).mono ?_;revert hmark) | (refine ⟨trivial,?_⟩;gi_at_call 121;refine (CallsIn.inRound l (callsIn_wide.2 h69)).mono ?_;revert hmark))
   rintro _ e F ⟨⟨A,z,rfl,h5⟩,C⟩;have s2:=C.size;have H5:=U0 h5;have b2:=HBX.out.below C lX;have g1:=b2 1 _ rfl;have g2:=(HOX.out.below C lX) 1;have b3:X4 (F.setCell ⟨f,1,none⟩ (.slice A y.gs.length z)) f [.string y.key,.slice A y.gs.length z,.string y.out]:=b2.set 1 _ I4;have k0:=b3 0 _ rfl;have k1:=b3 1 _ rfl;have k2:=b3 2 _ rfl;have bS3:=(HB0.out.below C O0).other ⟨f,1,none⟩ (.slice A y.gs.length z) (by show f≠w.heap.size+1;omega);have q2:=bS3 2 _ rfl;have hrb:∀ k,(Value.slice a2 pre.length c2).ownBlock=some k->k<V1.heap.size/\k≠f:=fun k e=>⟨Ef HR0.out.row e,fun Z=>HFX.out (by unfold fB;rw [HB0.out 2 _ rfl,<- Z];exact e)⟩;have HO:Hid (((F.setCell ⟨f,1,none⟩ (.slice A y.gs.length z)).alloc (.cells #[.string y.key,.slice A y.gs.length z,.string y.out] 113)).ownsRow (w.heap.size+3) 113 3 (.slice a2 pre.length c2) pre.length (rC (pre.map (Hw rs rv.length)) vs)):=by
    have h:=HR0.out.row;rw [Lc] at h;exact I7 h (fun q J=>((Tv _ _ q (by have:=(hrb q J).1;simp;omega)).trans (Fb _ _ _ _ (by exact (hrb q J).2))).trans (C.block q (hrb q J).1))
   have V:Hid (∀ j u,([.string y.key,.slice A y.gs.length z,.string y.out]:List Value)[j]?=some u->((F.setCell ⟨f,1,none⟩ (.slice A y.gs.length z)).alloc (.cells #[.string y.key,.slice A y.gs.length z,.string y.out] 113)).cell? ((⟨F.heap.size,0,none⟩:Addr).add j)=some u):=fun j u hj=>by
    rw [Nb,E8];have h:=I5 (F.setCell ⟨f,1,none⟩ (.slice A y.gs.length z)) [.string y.key,.slice A y.gs.length z,.string y.out] 113 j u hj;rw [show (F.setCell ⟨f,1,none⟩ (.slice A y.gs.length z)).heap.size=F.heap.size by simp] at h;exact h
   have s4:((F.setCell ⟨f,1,none⟩ (.slice A y.gs.length z)).alloc (.cells #[.string y.key,.slice A y.gs.length z,.string y.out] 113)).heap.size=F.heap.size+1:=I4;clear h5 b2 b3 bS3 h69;have hmark:=trivial
   gi_wp2_with (gi_at_builtin;refine wpListIn_append_own_at _ rfl _ _ 42 rfl (w.heap.size+3) 113 j0 (.agg #[.string ⟨#[]⟩,.slice none 0 0,.string ⟨#[]⟩]) 3 56 underlying42 hj9 jz0 jz1 jz2 rfl O6 _ _ _ rfl HO.out ⟨F.heap.size,0,none⟩ 1 1 [.string y.key,.slice A y.gs.length z,.string y.out] rfl rfl V.out (by simp [Value.oneCell']) (by unfold maxLen;omega) O0 O0 ?_;revert hmark)
   intro v6 V5 X Q _ hloc;obtain ⟨a6,a6G,rfl⟩:=U9 X;have HST:=U0 (NT (B:=X2.heap.size) HS0.out HB0.out HR0.out HY.out hBx lX HTX.out HFX.out C H5.out X Q (by rw [s4];exact hloc));have neS:some (w.heap.size+1)≠(Value.slice a2 pre.length c2).ownBlock:=row_ne HO.out O0;have b4:X4 ((F.setCell ⟨f,1,none⟩ (.slice A y.gs.length z)).alloc (.cells #[.string y.key,.slice A y.gs.length z,.string y.out] 113)) (w.heap.size+1) [.int .i64 W,.slice a ts.length c,.slice a2 pre.length c2]:=((HB0.out.below C O0).other _ _ (by show f≠w.heap.size+1;omega)).below (N:=F.heap.size) ((Z4 _ _).alloc I4 _) O0;have o4:Y5 ((F.setCell ⟨f,1,none⟩ (.slice A y.gs.length z)).alloc (.cells #[.string y.key,.slice A y.gs.length z,.string y.out] 113)) (w.heap.size+1):=((HS0.out.op.below C O0).set _ _).below (N:=F.heap.size) ((Z4 _ _).alloc I4 _) O0;have m1:=(D9 b4 Q O0 neS) 2 _ rfl;have m2:=(Je o4 Q O0 neS) 2;clear X Q hloc b4 o4
   gi_wp2
   exact ⟨HST.out.1.1,HST.out.1.2,HST.out.2⟩
  case done2=>
   rintro D2 xs O hD2 hxs d a5u;subst hxs;obtain ⟨a2,c2,vs,E,I⟩:=d.ex;have el:(List.finRange rv.length).length=rs.length:=by simp [hR.len]
   have em:=xQ hR.len;rw [el] at E I;rw [em] at I;have y0:=E 0 _ rfl;have y1:=E 1 _ rfl;have y2:=E 2 _ rfl;have z0:=d.rb 0 _ rfl;have z1':=d.rb 1 _ rfl;have z2':=d.rb 2 _ rfl;have r0:=d.ro 0;have r1:=d.ro 1;have r2:=d.ro 2;have U:=U0 d;have V:=U0 I;clear d E I;have hEh:∀ k,k≠w.heap.size->(((O.setCell ⟨w.heap.size,0,none⟩ (.int .i64 W)).setCell ⟨w.heap.size,1,none⟩ (.slice a ts.length c)).setCell ⟨w.heap.size,2,none⟩ (.slice a2 rs.length c2)).heap[k]?=O.heap[k]?:=fun k hk=>(Fb _ _ _ _ (by exact hk)).trans ((Fb _ _ _ _ (by exact hk)).trans (Fb _ _ _ _ (by exact hk)));have ZE:X4 (((O.setCell ⟨w.heap.size,0,none⟩ (.int .i64 W)).setCell ⟨w.heap.size,1,none⟩ (.slice a ts.length c)).setCell ⟨w.heap.size,2,none⟩ (.slice a2 rs.length c2)) w.heap.size [.int .i64 W,.slice a ts.length c,.slice a2 rs.length c2]:=((U.out.rb.set 0 _ I4).set 1 _ I4).set 2 _ I4;have sE:(((O.setCell ⟨w.heap.size,0,none⟩ (.int .i64 W)).setCell ⟨w.heap.size,1,none⟩ (.slice a ts.length c)).setCell ⟨w.heap.size,2,none⟩ (.slice a2 rs.length c2)).heap.size=O.heap.size:=I4;have hzz:=U.out.sz;have q2:=(hEh D2 O0).trans a5u;have q1:=(hEh D O0).trans U.out.dd;have hDD:D≠D2:=O0;have HFh:Hid (∀ q t,Gf O q t->q≠w.heap.size->(((((O.setCell ⟨w.heap.size,0,none⟩ (.int .i64 W)).setCell ⟨w.heap.size,1,none⟩ (.slice a ts.length c)).setCell ⟨w.heap.size,2,none⟩ (.slice a2 rs.length c2)).putObj D2 (.deferred none)).putObj D (.deferred none)).heap[q]?=O.heap[q]?):=fun q t hT J=>by
    obtain ⟨cur,fr,e⟩:=hT;refine (World.putObj_heap_other (fun Z=>?_)).trans ((World.putObj_heap_other (fun Z=>?_)).trans (hEh q J))
    · rw [Z,U.out.dd] at e;cases e
    · rw [Z,a5u] at e;cases e
   have a6i:Hid (Jd (((((O.setCell ⟨w.heap.size,0,none⟩ (.int .i64 W)).setCell ⟨w.heap.size,1,none⟩ (.slice a ts.length c)).setCell ⟨w.heap.size,2,none⟩ (.slice a2 rs.length c2)).putObj D2 (.deferred none)).putObj D (.deferred none)) w.heap.size ts rs (.slice a ts.length c) (.slice a2 rs.length c2)):=by
    show Jd _ _ _ _ _ _;refine ⟨H9 (I7 U.out.tr (fun q J=>HFh.out q 9 (Q8 U.out.tr J) (fun e=>by have:=P6 U.out.tr J;omega))) O0,vs,V.out.len,H9 (I7 V.out.row (fun q J=>HFh.out q 113 (Q8 V.out.row J) (fun e=>by have:=P6 V.out.row J;omega))) O0,fun i d=>?_,V.out.apart⟩;obtain ⟨a3,c3,e,Y⟩:=V.out.gl i d;exact ⟨a3,c3,e,H9 (I7 Y (fun q J=>HFh.out q 178 (Q8 Y J) (fun e=>by have:=P6 Y J;omega))) O0⟩
   have HZE:Hid (X4 (((((O.setCell ⟨w.heap.size,0,none⟩ (.int .i64 W)).setCell ⟨w.heap.size,1,none⟩ (.slice a ts.length c)).setCell ⟨w.heap.size,2,none⟩ (.slice a2 rs.length c2)).putObj D2 (.deferred none)).putObj D (.deferred none)) w.heap.size [.int .i64 W,.slice a ts.length c,.slice a2 rs.length c2]):=Rx (Rx ZE (World.putObj_heap_other O0)) (World.putObj_heap_other O0);have HBE:Hid (Bw w (((((O.setCell ⟨w.heap.size,0,none⟩ (.int .i64 W)).setCell ⟨w.heap.size,1,none⟩ (.slice a ts.length c)).setCell ⟨w.heap.size,2,none⟩ (.slice a2 rs.length c2)).putObj D2 (.deferred none)).putObj D (.deferred none))):=by
    show Below _ _ _;have b:=U.out.bw;exact ⟨b.os,b.tape,b.output,by simp;exact b.size,fun k hk=>(World.putObj_heap_other O0).trans ((World.putObj_heap_other O0).trans ((hEh k O0).trans (b.block k hk)))⟩
   simp only []
   gi_wp2
   refine ⟨I4,.inl ⟨_,_,rfl,run_takeDeferred q2,⟨I4,.inl ⟨_,_,rfl,run_takeDeferred ((World.putObj_heap_other hDD).trans q1),?_⟩⟩⟩⟩;exact ⟨_,b_ (P:=prog) (ty:=44) rfl _ _ w.heap.size [.int .i64 W,.slice a ts.length c,.slice a2 rs.length c2] _ rfl HZE.out underlying44 rfl J3,⟨a,c,a2,c2,rfl,a6i.out⟩,HBE.out⟩
  case stop2=>
   rintro D c' pre V1 _ _ h _;exact h.elim
 case stop=>
  rintro D c' pre g _ _ h _;exact h.elim
end Go.Proofs.YtkdbheidpdjimaaGreatDoor
namespace Go.Proofs.YtkdbheidpdjimaaGreatDoor.T
open Proofs.Tryz Go.RowKit
variable {B b base g j k n:Nat} {w w' wr:World} {t v:Value} {fs gs:List F2} {e:TypeId} {xs:List Value} {nm:BY}
theorem Xd {i:Nat} (h:i≠j):(⟨B,i,none⟩:Addr)≠⟨B,j,none⟩:=by intro e;injection e with _ e;exact h e
theorem Sl (u:World) (B j:Nat) (a b x0 x1:Value) (h0:u.cell? ⟨B,j,none⟩=some x0) (h1:u.cell? ⟨B,j+1,none⟩=some x1):
 ((u.setCell ⟨B,j,none⟩ a).setCell ⟨B,j+1,none⟩ b).cell? ⟨B,j,none⟩=some a/\((u.setCell ⟨B,j,none⟩ a).setCell ⟨B,j+1,none⟩ b).cell? ⟨B,j+1,none⟩=some b:=by
 have c:(u.setCell ⟨B,j,none⟩ a).cell? ⟨B,j+1,none⟩=some x1:=by rw [La _ _ _ _ (Xd O0)];exact h1
 refine ⟨?_,Bf _ _ _ c⟩;rw [La _ _ _ _ (Xd O0)];exact Bf _ _ _ h0
theorem ZY (x:F2) (w:World):
 Calls prog 142 #[.agg #[.string x.nm,.string x.tx],.agg #[.string x.nm,.string x.tx]] w fun e w'=>e=.returned (.bool true)/\Bw w w':=by
 go_enter func142,ntmps142;go_wp2;go_ret;exact ⟨rfl,o7.alloc I4 _⟩
theorem c87 (a q:OA) (u t:Nat) (rs:List F2) (w:World) (hl:rs.length<=1048576) (o:J6 w a rs) (n:J6 w q rs):
 Calls prog 87 #[.slice a rs.length u,.slice q rs.length t] w fun e w'=>e=.returned (.bool true)/\Bw w w':=by
 obtain ⟨b,off,hc⟩:=h_ o;have y:=U0 hc;clear hc o;obtain ⟨b',h,j⟩:=h_ n;have v:=U0 j;clear j n;go_enter func87,ntmps87
 go_wp2_with fail
 go_loopw [5] (fun i wr=>∃ (k:Nat),k<=rs.length/\i=.int .i64 k/\Below w.heap.size w wr) (fun i _=>rs.length - (intOf i).toNat)
 case atStart=>exact ⟨0,D5 _,rfl,Z4 _ _⟩
 case round=>
  obtain ⟨k,hk,rfl,c⟩:=hrel;by_cases d:k<rs.length
  · obtain ⟨ha,m,g⟩:=Nc y.out d;obtain ⟨s,l,f⟩:=Nc v.out d;subst ha;subst s;have g0:=(c.cell (p:=⟨b,off+k*2,none⟩) m).trans (g k d).1;have g1:=(c.cell (p:=⟨b,off+k*2+1,none⟩) m).trans (g k d).2;have g0':=(c.cell (p:=⟨b',h+k*2,none⟩) l).trans (f k d).1;have g1':=(c.cell (p:=⟨b',h+k*2+1,none⟩) l).trans (f k d).2;generalize rs.getD k P8=x at*;clear g f
    go_wp2_with fail
    go_region_with (go_at_call 142;refine (ZY x _).mono ?_;rintro e w1 ⟨rfl,r⟩)
    all_goals go_wp2
    all_goals go_roundw
    all_goals first
     | exact ⟨k+1,O0,by go_num,(c.drew).trans (r.mono c.size)⟩
     | (simp [intOf];omega)
  · go_wp2;go_ret;exact ⟨rfl,c⟩
theorem c44 (a b:OA) (f d:Nat) (is:List F2) (w:World) (hl:is.length<=1048576) (h:J6 w a is) (g:J6 w b is):
 Calls prog 44 #[.agg #[.slice a is.length f],.agg #[.slice b is.length d]] w fun e w'=>e=.returned (.bool true)/\Bw w w':=by
 have k:Hid (J6 w a is):=h;have j:Hid (J6 w b is):=g;clear h g;have c:Bw w ((w.alloc (.cells #[vL a is.length f] 41)).alloc (.cells #[vL b is.length d] 41)):=o7.alloc I4 _;go_enter func44,ntmps44
 go_wp2_with fail
 refine (c87 a b f d is _ hl (U5 k.out c) (U5 j.out c)).mono ?_;rintro e w1 ⟨rfl,i⟩;go_wp2;go_ret;exact ⟨rfl,G7 c i⟩
def zo (w:World) (b n:Nat):Prop:=b<w.heap.size/\(∀ j,j<n*2->∃ v,w.cell? ⟨b,j,none⟩=some v)/\∀ j,w.frozen? ⟨b,j,none⟩=false
theorem zo.below (h:zo w b n) (a:Bw w w'):zo w' b n:=
 ⟨m_ h.1 a.size,fun j c=>by rw [a.cell (by exact h.1)];exact h.2.1 j c,fun j=>by rw [a.frozen (by exact h.1)];exact h.2.2 j⟩
theorem zo.set (h:zo w b n) (hj:j<n*2):zo (w.setCell ⟨b,j,none⟩ v) b n:=by
 refine ⟨by simpa using h.1,fun i a=>?_,fun i=>by have:=h.2.2 i;simpa using this⟩;by_cases e:i=j
 · subst e;obtain ⟨x,hx⟩:=h.2.1 i a;exact ⟨v,Bf _ _ _ hx⟩
 · rw [La _ _ _ _ (Xd (Ne.symm e))];exact h.2.1 i a
def J4 (fs:List F2):List Value:=fs.flatMap fun x=>[.string x.nm,.string x.tx]
theorem I8 (fs:List F2):(J4 fs).length=fs.length*2:=by
 induction fs with
 | nil=>rfl
 | cons x r ih=>unfold J4 at *;simp only [List.flatMap_cons,List.length_append,List.length_cons,List.length_nil,ih];omega
theorem Qd (fs gs:List F2):J4 (fs++gs)=J4 fs++J4 gs:=by simp [J4]
theorem Ud (fs:List F2) (i:Nat) (h:i<fs.length):(J4 fs)[i*2]?=some (.string (fs.getD i P8).nm)/\(J4 fs)[i*2+1]?=some (.string (fs.getD i P8).tx):=by
 induction fs generalizing i with
 | nil=>simp at h
 | cons x r ih=>
  cases i with
  | zero=>exact ⟨rfl,rfl⟩
  | succ i=>
   have:=ih i (by simpa using h);have e:∀ j,(J4 (x::r))[(i+1)*2+j]?=(J4 r)[i*2+j]?:=fun j=>by
    show ([Value.string x.nm,vS x.tx]++J4 r)[(i+1)*2+j]?=_;rw [Cf U7]
    congr 1
    simp;omega
   have e0:=e 0;simp only [Zo] at e0;rw [e0,e 1];exact this
theorem Dh:∀ u∈J4 fs,u.oneCell'=true:=by
 intro u a;unfold J4 at a;obtain ⟨x,_,hx⟩:=SE.1 a;simp at hx;rcases hx with rfl | rfl <;> rfl
def Bl (w:World) (base:Nat) (v:Value) (fs:List F2):Prop:=w.ownsRow base 99 2 v fs.length (J4 fs)
theorem Bl.form (h:Bl w base v fs):∃ a b,v=.slice a fs.length b/\J6 w a fs:=by
 have c:=h;rcases h.2 with ⟨hv,h0⟩ | ⟨g,b,cur,hv,hg,e,_⟩
 · exact ⟨none,0,by rw [hv,h0],.inl (Ya.1 h0)⟩
 · refine ⟨some (aA g 0),b,hv,?_⟩;subst hv;refine .inr ⟨g,0,rfl,Zf e,fun i d=>?_⟩;obtain ⟨e0,e1⟩:=Ud fs i d;rw [E8,c.cellAt _ O0,c.cellAt _ O0];exact ⟨e0,e1⟩
theorem Bl.below (h:Bl w base v fs) (a:Bw w w'):Bl w' base v fs:=ownsRow_below h a
theorem iw {off:Nat} (h:∀ i,i<fs.length->w.cell? ⟨b,off+i*2,none⟩=some (.string (fs.getD i P8).nm)/\w.cell? ⟨b,off+i*2+1,none⟩=some (.string (fs.getD i P8).tx)) (j:Nat) (u:Value) (a:(J4 fs)[j]?=some u):w.cell? ((⟨b,off,none⟩:Addr).add j)=some u:=by
 have hl:j<fs.length*2:=by rw [<- I8];exact (Nj.1 a).1
 have e:(aA b off).add j=(aA b (off+j)):=by unfold Addr.add;split <;> simp_all
 rw [e];obtain ⟨e0,e1⟩:=Ud fs (j / 2) O0;obtain ⟨h0,h1⟩:=h (j / 2) O0;rcases jI j with hm | hm
 · have c:j / 2*2=j:=O0;rw [c] at e0 h0;rw [e0] at a;rw [h0];exact a
 · have c:j / 2*2+1=j:=O0;rw [c] at e1;rw [Nat.add_assoc,c] at h1;rw [e1] at a;rw [h1];exact a
theorem gZ (a:OA) (m:Nat) (fs:List F2) (w:World) (hl:fs.length<=1000) (i:J6 w a fs):
 Calls prog 174 #[.slice a fs.length m] w fun e w'=>∃ v',e=.returned v'/\Bl w' w.heap.size v' fs/\Bw w w':=by
 have q27:∀ (w:World) (a:OA) (n c f o:Nat),(binOp .eql 39 (vL a n c) (vL none f o)).run prog w=.ok (.bool a.isNone) w:=fun w a n c f o=>Lib.run_eql_slice_nil w _ _ a n c f o underlying39
 cases a with
 | none=>
  obtain rfl:fs=[]:=by
   rcases i with h | ⟨b,off,h,_⟩
   · exact h
   cases h
  go_enter func174,ntmps174;go_wp2;go_ret;exact ⟨_,rfl,⟨rfl,.inl ⟨rfl,rfl⟩⟩,Z4 _ _⟩
 | some ad=>
  obtain ⟨W,l⟩:∃ W:World,W=w.alloc (.cells #[] 99):=⟨_,rfl⟩;have d:Bw w W:=by rw [l];exact o7
  have q:Hid (W.ownsRow w.heap.size 99 2 (vL (some (aW w 0)) 0 0) 0 []):=by show World.ownsRow _ _ _ _ _ _ _;rw [l];exact NI w #[] 0 x9 (D5 _) rfl
  have t:Hid (Src W (vL (some ad) fs.length m) 2 fs.length (J4 fs)):=by
   refine .inr ⟨ad,m,rfl,I8 fs,fun j u p=>?_⟩;rcases i with rfl | ⟨b,off,h,s,hc⟩
   · simp [J4] at p
   injection h with h;subst h;have h:=iw hc j u p;rw [Vt] at h ⊢;exact (d.cell s).trans h
  clear i;go_enter func174,ntmps174
  go_wp2_with (at_builtin;rw [<- l];refine dI rfl _ _ 39 rfl w.heap.size 99 2 underlying39 (Wy J3) O6 (vL (some (aW w 0)) 0 0) 0 [] rfl q.out _ fs.length (J4 fs) rfl t.out Dh O0 d.size ?_;intro v' w1 O g _;rw [E8,M_] at O;have v:=U0 O;have x:=U0 ((d.grown g d.size (fun k r=>(q.out.lt k r).1)));clear O g)
  go_ret;exact ⟨_,rfl,v.out,x.out⟩
theorem Yz {size:Nat} (h:w.ownsRow base e size v n xs) (f:But b w w') (c:v.ownBlock≠some b):w'.ownsRow base e size v n xs:=by
 refine ⟨h.1,?_⟩;rcases h.2 with h2 | ⟨g,i,cur,hv,d,a,r⟩
 · exact .inl h2
 · refine .inr ⟨g,i,cur,hv,d,?_,r⟩;rw [f.block g (Zf a) (fun e=>c (by rw [hv,e];rfl))];exact a
theorem FN (h:w.ownsRow B e 2 v n xs):∃ ao c,v=.slice ao n c:=by
 rcases h.2 with ⟨hv,h0⟩ | ⟨g,cap,cur,hv,_⟩
 · exact ⟨none,0,by rw [hv,h0]⟩
 · exact ⟨_,_,hv⟩
theorem fZ (w:World) (x y:Value) (t:TypeId):∀ j u,[x,y][j]?=some u->(w.alloc (.cells #[x,y] t)).cell? ((⟨w.heap.size,0,none⟩:Addr).add j)=some u:=by
 intro j u h
 match j,h with
 | 0,h=>simp at h;subst h;simp [Addr.add]
 | 1,h=>simp at h;subst h;simp [Addr.add]
theorem jZ (w:World) (x y:Value) (t:TypeId):∀ j u,[x,y][j]?=some u->(w.alloc (.cells #[x,y] t)).drew.cell? ((⟨w.heap.size,0,none⟩:Addr).add j)=some u:=fun j u h=>fZ w x y t j u h
theorem yj (h:k<fs.length):fs.take (k+1)=fs.take k++[fs.getD k P8]:=by
 rw [Uy h];simp [List.getD,y9 h]
def without (fs:List F2) (nm:BY):List F2:=fs.filter fun x=>!(x.nm.toList==nm.toList)
theorem fE (h:k<fs.length) (hx:((fs.getD k P8).nm.toList==nm.toList)=true):without (fs.take (k+1)) nm=without (fs.take k) nm:=by
 unfold without;rw [yj h,gu];generalize fs.getD k P8=x at*;simp [hx]
theorem XE (h:k<fs.length) (hx:((fs.getD k P8).nm.toList==nm.toList)=false):without (fs.take (k+1)) nm=without (fs.take k) nm++[fs.getD k P8]:=by
 unfold without;rw [yj h,gu];generalize fs.getD k P8=x at*;simp [hx]
theorem Dv (fs:List F2) (nm:BY):(without fs nm).length<=fs.length:=NH _ _
structure eu (w wr:World) (t:Value) (v:Value) (gs:List F2):Prop where
 bel:Bw w wr
 ht:wr.heap[w.heap.size]?=some (.cells #[t] 41 (0,0))
 hr:wr.heap[w.heap.size+1]?=some (.cells #[.slice none 0 0] 41 (0,0))
 ho:wr.heap[w.heap.size+1+1]?=some (.cells #[v] 41 (0,0))
 own:Bl wr (w.heap.size+3) v gs
theorem Cc (a:g=w.heap.size) (o:Obj):(w.alloc o).heap[g]?=some o:=by
 subst a;exact Array.getElem?_push_size
def strOf:Value->Nat | .string s=>s.size | _=>0
theorem alloc_old (a:g<w.heap.size) (o:Obj):(w.alloc o).heap[g]?=w.heap[g]?:=Tv w o g a
theorem eu.start (w:World) (t:Value):eu w (((w.alloc (.cells #[t] 41)).alloc (.cells #[.slice none 0 0] 41)).alloc (.cells #[.slice none 0 0] 41)) t (.slice none 0 0) []:=by
 refine ⟨((o7.alloc I4 _).alloc U7 _),?_,?_,?_,⟨rfl,.inl ⟨rfl,rfl⟩⟩⟩
 · rw [alloc_old U7,alloc_old I4];exact Cc rfl _
 · rw [alloc_old I4];exact Cc I4 _
 · exact Cc I4 _
theorem eu.sz (h:eu w wr t v gs):w.heap.size+3<=wr.heap.size:=Zf h.ho
theorem eu.cells (h:eu w wr t v gs):wr.cell? ⟨w.heap.size,0,none⟩=some t/\wr.cell? ⟨w.heap.size+1,0,none⟩=some (.slice none 0 0)/\wr.cell? ⟨w.heap.size+1+1,0,none⟩=some v/\wr.frozen? ⟨w.heap.size+1,0,none⟩=false/\wr.frozen? ⟨w.heap.size+1+1,0,none⟩=false:=
 ⟨by rw [Lib.cell_of_heap h.ht];rfl,by rw [Lib.cell_of_heap h.hr];rfl,by rw [Lib.cell_of_heap h.ho];rfl,Lib.frozen_of_heap h.hr 0,Lib.frozen_of_heap h.ho 0⟩
theorem eu.app {a:World} {v':Value} {x:F2} {o:Obj} (h:eu w wr t v gs) (ho:a.ownsRow (w.heap.size+3) 99 2 v' (gs.length+1) (J4 gs++[.string x.nm,.string x.tx])) (f:(wr.alloc o).drew.grownBy a v.ownBlock):
 eu w (a.setCell ⟨w.heap.size+1+1,0,none⟩ v') t v' (gs++[x])/\a.cell? ⟨w.heap.size+1+1,0,none⟩=some v/\a.frozen? ⟨w.heap.size+1+1,0,none⟩=false:=by
 have hz:=h.sz;have hd:(wr.alloc o).drew.heap.size=wr.heap.size+1:=by show (wr.alloc o).heap.size=_;simp
 have key:∀ k,k<w.heap.size+3->a.heap[k]?=wr.heap[k]?:=fun k d=>by
  rw [f.block k (by rw [hd];omega) (fun e=>by have:=(h.own.lt k e.symm).1;omega)];show (wr.alloc o).heap[k]?=_;exact alloc_old O0 _
 have g:=((h.bel.alloc O0 _).drew).grown f (by rw [hd];omega) (fun k d=>by have:=(h.own.lt k d).1;omega);have c:=(key _ O0).trans h.ho;have hz2:w.heap.size+3<=a.heap.size:=Zf c;refine ⟨⟨g.setCell U7 _,?_,?_,?_,?_⟩,by rw [Lib.cell_of_heap c];rfl,Lib.frozen_of_heap c 0⟩
 · rw [Fb _ _ _ _ U7];exact (key _ O0).trans h.ht
 · rw [Fb _ _ _ _ I4];exact (key _ O0).trans h.hr
 · exact heap_setCell_same a (w.heap.size+1+1) 0 _ 41 v' c
 · have hl:(gs++[x]).length=gs.length+1:=I4;show (a.setCell ⟨w.heap.size+1+1,0,none⟩ v').ownsRow (w.heap.size+3) 99 2 v' (gs++[x]).length (J4 (gs++[x]));rw [hl,Qd];refine Yz (b:=w.heap.size+1+1) ho ((But.refl _ _).setCell _ _) (fun e=>by have:=(ho.lt _ e).1;omega)
theorem c157 (a:OA) (g:Nat) (fs:List F2) (nm:BY) (w:World) (hl:fs.length<=40) (y:J6 w a fs):
 Calls prog 157 #[.agg #[.slice a fs.length g],.string nm] w fun e w'=>(∃ v,e=.returned (.agg #[v])/\Bl w' (w.heap.size+3) v (without fs nm))/\Bw w w':=by
 obtain ⟨b,off,hc⟩:=h_ y;have S:=U0 hc;have P:=eu.start w (vL a fs.length g);obtain ⟨D,L,H,F,E⟩:=info_parts Tt;clear hc y;go_enter func157,ntmps157
 go_wp2_with fail
 go_loopw [6] (fun i wr=>∃ (k:Nat) (v:Value),k<=fs.length/\i=.int .i64 k/\Hid (eu w wr (.slice a fs.length g) v (without (fs.take k) nm))) (fun i _=>fs.length - (intOf i).toNat)
 case atStart=>exact ⟨0,_,D5 _,rfl,P⟩
 case round=>
  obtain ⟨k,v,hk,rfl,c⟩:=hrel;obtain ⟨O,cr,co,fr,N⟩:=c.out.cells;have hzr:=c.out.sz;by_cases f:k<fs.length
  · obtain ⟨ha,t,l⟩:=Nc S.out f;subst ha;have g0:=(c.out.bel.cell (p:=⟨b,off+k*2,none⟩) t).trans (l k f).1;have g1:=(c.out.bel.cell (p:=⟨b,off+k*2+1,none⟩) t).trans (l k f).2;have q:Hid (((fs.getD k P8).nm.toList==nm.toList)=true->without (fs.take (k+1)) nm=without (fs.take k) nm):=fE f;have o:Hid (((fs.getD k P8).nm.toList==nm.toList)=false->without (fs.take (k+1)) nm=without (fs.take k) nm++[fs.getD k P8]):=XE f;have hgl:(without (fs.take k) nm).length<=k:=Q7 (Dv _ _) (List.length_take_le _ _);generalize fs.getD k P8=x at*;generalize without (fs.take k) nm=gs at*;clear l;cases hq:(x.nm.toList==nm.toList)
    · have A:=o.out hq;have Q:=U0 A;have K:=c.out.own;obtain ⟨n,m,hv,_⟩:=K.form;subst hv;clear q o A;have co':=past (p:=⟨w.heap.size+1+1,0,none⟩) (by show w.heap.size+1+1<wr.heap.size;omega) co;have J:wr.ownsRow (w.heap.size+3) 99 2 (vL n gs.length m) gs.length (J4 gs):=c.out.own
      go_wp2_with fail
      go_region_law (refine Zi rfl (.tmp 24) (.tmp 30) 39 rfl (w.heap.size+3) 99 D (.agg #[vE,vE]) 2 32 underlying39 L H F E rfl O6 _ _ _ rfl ((J.alloc _).drew) ⟨wr.heap.size,0,none⟩ 1 1 [_,_] rfl rfl (jZ _ _ _ _) (by intro u r;simp at r;rcases r with rfl | rfl <;> rfl) (by unfold maxLen;omega) O0 U7 ?_;intro v' C j s;have h:=c.out.app (x:=x) j s;have U:Hid (eu w (C.setCell ⟨w.heap.size+1+1,0,none⟩ v') (vL (some ⟨b,off,none⟩) fs.length g) v' (gs++[x])):=h.1;have d1:=h.2.1;have d2:=h.2.2;obtain ⟨ao,cpo,I⟩:=FN j;subst I;clear h j s)
      all_goals
       go_wp2;go_roundw
       case rel=>exact ⟨k+1,_,O0,by go_num,by rw [Q.out];exact U.out⟩
       case measure=>simp [intOf];omega
    · have R:=U0 (q.out hq);clear q o;go_wp2;go_roundw
      case rel=>exact ⟨k+1,v,O0,by go_num,by rw [R.out];exact c.out⟩
      case measure=>simp [intOf];omega
  · have B:Hid (without (fs.take k) nm=without fs nm):=by rw [u_ O0];rfl
    have d:Hid (eu w wr (vL a fs.length g) v (without fs nm)):=by rw [<- B.out];exact c.out
    obtain ⟨n,m,hv,_⟩:=d.out.own.form;subst hv;obtain ⟨O,cr,co,fr,N⟩:=d.out.cells;have hB:=d.out.bel;have z:=U0 d.out.own;clear c d B;go_wp2;refine P7 (v:=.agg #[vL n (without fs nm).length m]) (by simp [results,results157,go_sem,cr]) rfl ⟨⟨_,rfl,?_⟩,?_⟩
    · exact Yz (b:=w.heap.size+1) z.out ((But.refl _ _).setCell _ _) (fun e=>by have:=(z.out.lt _ e).1;omega)
    · exact hB.setCell I4 _

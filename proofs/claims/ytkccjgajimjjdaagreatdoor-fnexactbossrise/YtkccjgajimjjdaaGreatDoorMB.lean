import Derived.Test.YtkccjgajimjjdaaGreatDooreQE
import Derived.Maps.OwnIn
set_option linter.unusedVariables false
set_option maxHeartbeats 8000000
set_option maxRecDepth 100000
namespace Go.Proofs.YtkccjgajimjjdaaGreatDoor
open Proofs.Tryz Go.RowKit Go.Maps Go.Sort Go.Shelf
variable{W W' f w:World}{B S X b base c c2 e j n size:Nat}{v:Value}{xs:List Value}{row:Option Nat}{W0:Int}{ts:LB}{rs:List R3}{a a2:OA}
attribute [local go_sem] Oper.semAt_some
def IL(ts:LB)(n:Nat)(i:Fin n):BY:=ts.getD i.1 ByteArray.empty
def iy(rs:List R3)(n:Nat)(i:Fin n):R3:=rs.getD i.1 h_
theorem N7(h:W.ownsRow base e size v n xs){k:Nat}(a:v.ownBlock=some k):Ah W k e:=by
 rcases h.2 with⟨hv,_⟩|⟨g,cap,cur,hv,hg,b,_⟩
 ·subst hv;simp[Value.ownBlock]at a
 subst hv;simp[Value.ownBlock]at a;subst a;exact⟨cur,(0,0),b⟩
theorem PU{t:TypeId}(h:Ah W b t)(hr:∀r,row=some r->∃o:Obj,W.heap[r]?=some o/\o.isCells=false):some b≠row:=λe=>by
 obtain⟨o,ho,hc⟩:=hr b e.symm;obtain⟨cur,fr,h⟩:=h;rw[h]at ho;cases ho;cases hc
theorem Cl.t{t:TypeId}(h:Cl W b t xs):Ah W b t:=⟨_,_,h⟩
theorem Cl.gr{t:TypeId}(h:Cl W b t xs)(c:W.grownBy W' row)(a:some b≠row):Cl W' b t xs:=(c.block b h.lt a).trans h
theorem Cl.nc{t:TypeId}(h:Cl W b t xs)(a:W.grownBy W' row)(hr:∀r,row=some r->∃o:Obj,W.heap[r]?=some o/\o.isCells=false):Cl W' b t xs:=h.gr a (PU h.t hr)
theorem zx(b:W.heap.size<=W'.heap.size)(c:∀k,k<W.heap.size->k≠S->fB W S j≠some k->¬Ah W k X->W'.heap[k]?=W.heap[k]?){t:TypeId}(n:Ah W S t)(f:∀q,fB W S j=some q->∃t,Ah W q t)(l:fB W' S j=fB W S j\/∃q,fB W' S j=some q/\W.heap.size<=q):KeepsFrom B W W'/\jB S j X W W':=by
 have a:∀k t o,Ah W k t->W.heap[k]?=some o->o.isCells=true:=λk t o ⟨cur,fr,h⟩ ho=>by
  rw[h]at ho;cases ho;rfl
 refine⟨⟨b,λk o _ ho hc=>?_⟩,⟨b,λk o ho _ m i g=>(c k (Eb.1 ho).1 i g λ⟨cur,fr,e⟩=>m cur fr (I_ (ho.symm.trans e))).trans ho,l⟩⟩;refine(c k (Eb.1 ho).1 (λe=>?_) (λe=>?_) (λe=>?_)).trans ho
 ·rw[a k t o (e▸n) ho]at hc;cases hc
 ·obtain⟨d,h⟩:=f k e;rw[a k d o h ho]at hc;cases hc
 rw[a k X o e ho]at hc;cases hc
theorem YL(hS:S<w.heap.size):∀(W:World)(l:Nat)(o a:Obj),w.heap.size<=l->W.heap[l]?=some o->o.isCells=false->o.isWalk=false->jB S j X W (W.putObj l a):=λW l o a hl ho hc hw=>by
 refine⟨E5,λk q b c _ _ _=>?_,.inl ?_⟩
 ·refine(World.putObj_heap_other (λe=>?_)).trans b;subst e;rw[ho]at b;cases b;rcases c with h|h
  ·rw[hc]at h;cases h
  rw[hw]at h;cases h
 unfold fB;have e:(W.putObj l a).heap[S]?=W.heap[S]?:=World.putObj_heap_other O0;simp only[World.cell?,e]
theorem Ej(h:W.ownsRow base e size v n xs)(a:W.grownBy W' row)(hr:∀r,row=some r->∃o:Obj,W.heap[r]?=some o/\o.isCells=false):W'.ownsRow base e size v n xs:=by
 refine h.kept a ?_
 cases hq:v.ownBlock with
 | none=>exact .inl rfl
 | some k=>exact .inr (PU (N7 h hq) hr)
theorem a2q(h:H9 W b)(d:W.grownBy W' row)(c:b<W.heap.size)(a:some b≠row):H9 W' b:=λj=>by
 have:=h j;simp only[World.frozen?,d.block b c a];simpa only[World.frozen?]using this
theorem qR:(prog.info? 162).map (λi=>(i.zero,i.size,i.bytes))=some (some (.agg #[.string ⟨#[]⟩,.slice none 0 0,.string ⟨#[]⟩]),3,56):=Y1
theorem a3h{t:TypeId}(h:Ah W b t)(j:Nat)(v:Value):Ah (W.setCell ⟨b,j,none⟩ v) b t:=by
 obtain⟨cur,fr,h⟩:=h;have hb:=(Eb.1 h);refine⟨cur.setIfInBounds j v,fr,?_⟩;simp only[World.setCell];rw[Array.getElem?_modify];simp[h]
theorem kD(S j X:Nat)(b:S<W.heap.size)(o:Obj):jB S j X W (W.alloc o):=
 ⟨E5,λk q a _ _ _ _=>(Ht _ _ k (Eb.1 a).1).trans a,.inl (by
  unfold fB;simp only[World.cell?,Ht W o S b])⟩
theorem a0l{W:Int}(ts:LB)(x:Fin (ts.map (gT W)).length):(((ts.map (gT W))[x.1]'(x.2))).2=.agg #[.string (IL ts (ts.map (gT W)).length x),.int .i64 (hC (IL ts (ts.map (gT W)).length x)),.string (hT (IL ts (ts.map (gT W)).length x))]:=by
 have hx:x.1<ts.length:=by have:=x.2;simpa using this
 rw[DF];have e:IL ts (ts.map (gT W)).length x=ts[x.1]:=by unfold IL;simp only[List.getD,List.getElem?_eq_getElem hx,Option.getD_some]
 rw[e];rfl
structure S1(w:World)(W0:Int)(ts:LB)(n:Nat)(pre:List (Fin n))(W:World):Prop where
 ex:∃a c,Cl W (w.heap.size+1) 43 [.int .i64 W0,.slice a pre.length c,.slice none 0 0]/\W.ownsRow (w.heap.size+3) 9 1 (.slice a pre.length c) pre.length (pre.map λi=>.string (IL ts n i))
 rb:Cl W w.heap.size 43 [.int .i64 0,.slice none 0 0,.slice none 0 0]
 bw:Bw w W
 sz:w.heap.size+3<=W.heap.size
theorem uS(w:World)(W0:Int)(ts:LB)(n B:Nat)(hB:w.heap.size+3<=B):OwnFrom B (λpre W=>S1 w W0 ts n pre W):=λs W W' row h b hr=>by
 have d:∀r,row=some r->∃o:Obj,W.heap[r]?=some o/\o.isCells=false:=λr e=>(hr r e).2;obtain⟨a,c,h1,h2⟩:=h.ex;exact⟨⟨a,c,h1.nc b d,Ej h2 b d⟩,h.rb.nc b d,h.bw.trans (N_ b (λj e=>by have:=(hr j e).1;omega) h.bw.size),I8 h.sz b.size⟩
theorem I5{u u':World}(h:u.ownsRow base e size v n xs)(a:∀q,v.ownBlock=some q->u'.heap[q]?=u.heap[q]?):u'.ownsRow base e size v n xs:=by
 refine⟨h.1,h.2.imp id ?_⟩;rintro⟨g,cap,cur,h1,h2,c,b⟩;exact⟨g,cap,cur,h1,h2,(a g (by rw[h1];rfl)).trans c,b⟩
def rC(rs:List R3)(vs:List Value):List Value:=(List.range rs.length).flatMap λi=>[.string (rs.getD i h_).key,vs.getD i undef,.string (rs.getD i h_).out]
structure vg(W:World)(base:Nat)(v:Value)(rs:List R3)(vs:List Value):Prop where
 len:vs.length=rs.length
 row:W.ownsRow base 162 3 v rs.length (rC rs vs)
 gl:∀i,i<rs.length->∃a c,vs.getD i undef=.slice a (rs.getD i h_).gs.length c/\W.ownsRow base 213 3 (.slice a (rs.getD i h_).gs.length c) (rs.getD i h_).gs.length (gC (rs.getD i h_).gs)
 apart:∀i j,i<rs.length->j<rs.length->i≠j->(vs.getD i undef).ownBlock=none\/(vs.getD i undef).ownBlock≠(vs.getD j undef).ownBlock
def Z_(W:World)(base:Nat)(ts:LB)(rs:List R3)(tv rvv:Value):Prop:=W.ownsRow base 9 1 tv ts.length (ts.map Value.string)/\∃vs,vg W base rvv rs vs
structure S2(w:World)(W0:Int)(ts:LB)(rs:List R3)(a:OA)(c D n:Nat)(pre:List (Fin n))(W:World):Prop where
 ex:∃a2 c2 vs,Cl W (w.heap.size+1) 43 [.int .i64 W0,.slice a ts.length c,.slice a2 pre.length c2]/\vg W (w.heap.size+3) (.slice a2 pre.length c2) (pre.map (iy rs n)) vs
 tr:W.ownsRow (w.heap.size+3) 9 1 (.slice a ts.length c) ts.length (ts.map Value.string)
 rb:Cl W w.heap.size 43 [.int .i64 0,.slice none 0 0,.slice none 0 0]
 bw:Bw w W
 sz:w.heap.size+3<=W.heap.size
 dl:D<W.heap.size
 dd:W.heap[D]?=some (.deferred (some []))
theorem Ux{t:TypeId}(h:Cl W b t xs)(e:xs[j]?=some v):fB W b j=v.ownBlock:=by
 unfold fB;rw[h.cell,e];rfl
theorem jU(w:World)(W0:Int)(ts:LB)(rs:List R3)(a:OA)(c D n B:Nat)(hB:w.heap.size+3<=B)(l:D<B):OwnFrom B (λpre W=>S2 w W0 ts rs a c D n pre W):=λs W W' row h d hr=>by
 have f:∀r,row=some r->∃o:Obj,W.heap[r]?=some o/\o.isCells=false:=λr e=>(hr r e).2;obtain⟨a2,c2,vs,h1,h2⟩:=h.ex;have g:∀b,b<B->some b≠row:=λb hb e=>by have:=(hr b e.symm).1;omega
 exact⟨⟨a2,c2,vs,h1.nc d f,⟨h2.len,Ej h2.row d f,λi k=>by
  obtain⟨p,c3,e,m⟩:=h2.gl i k;exact⟨p,c3,e,Ej m d f⟩,h2.apart⟩⟩,Ej h.tr d f,h.rb.nc d f,h.bw.trans (N_ d (λj e=>by have:=(hr j e).1;omega) h.bw.size),I8 h.sz d.size,U9 h.dl d.size,(d.block D h.dl (g D l)).trans h.dd⟩
theorem QY{b:World}{W:Int}(h:S1 w W0 ts (ts.map (gT W)).length (List.finRange (ts.map (gT W)).length) b):∃a c,Cl b (w.heap.size+1) 43 [.int .i64 W0,.slice a ts.length c,.slice none 0 0]/\b.ownsRow (w.heap.size+3) 9 1 (.slice a ts.length c) ts.length (ts.map Value.string):=by
 obtain⟨a,c,h1,h2⟩:=h.ex;have e1:(List.finRange (ts.map (gT W)).length).length=ts.length:=E5;have f:((List.finRange (ts.map (gT W)).length).map λi=>Value.string (IL ts (ts.map (gT W)).length i))=ts.map Value.string:=by
  apply dB
  ·simp
  intro i hi1 d;have e:i<ts.length:=by simpa using d
  simp[IL,List.getD,L9 e]
 rw[e1]at h1 h2;rw[f]at h2;exact⟨a,c,h1,h2⟩
theorem a0B{rv:List Value}{pl:List (ByteArray×Value)}(h:ShR B rs rv pl w)(i:Fin rv.length):∃a b,(rv[i.1]'(i.2))=.agg #[.string (iy rs rv.length i).key,.slice a (iy rs rv.length i).gs.length b,.string (iy rs rv.length i).out]/\R_ w a (iy rs rv.length i).gs:=by
 have c:=Nat.lt_of_lt_of_eq i.2 h.len;obtain⟨a,b,e,d,_⟩:=h.recs i.1 c;refine⟨a,b,?_,d⟩;unfold iy;rw[<- e];simp only[List.getD,L9 i.2,jh]
theorem row_ne{k:Nat}(h:W.ownsRow base e size v n xs)(hk:k<base):some k≠v.ownBlock:=λe=>by
 have:=Z4 h e.symm;omega
theorem pV{b l:World}{pre:List (Fin n)}{x:Fin n}{tx:BY}(h:S1 w W0 ts n pre b)(m:Cl b (w.heap.size+1) 43 [.int .i64 W0,.slice a pre.length c,.slice none 0 0])(ho:b.ownsRow (w.heap.size+3) 9 1 (.slice a pre.length c) pre.length (pre.map λi=>.string (IL ts n i)))(v:tx=IL ts n x)
 (z:f.ownsRow (w.heap.size+3) 9 1 (.slice a2 (pre.length+1) c2) (pre.length+1) ((pre.map λi=>.string (IL ts n i))++[.string tx])) (d:(b.alloc (.cells #[.string tx] 9)).grownBy f (Value.slice a pre.length c).ownBlock) (A:(Value.slice a2 (pre.length+1) c2).ownBlock=(Value.slice a pre.length c).ownBlock\/(Value.slice a2 (pre.length+1) c2).ownBlock=some (b.heap.size+1)) (C:l=f.setCell ⟨w.heap.size+1,1,none⟩ (.slice a2 (pre.length+1) c2)):
 (KeepsFrom B b l/\jB (w.heap.size+1) 1 240 b l)/\S1 w W0 ts n (pre++[x]) l:=by
 have hz:=h.sz;have u:Bw b (b.alloc (.cells #[.string tx] 9)):=Y6;have sG:=d.size;have sN:(b.alloc (.cells #[.string tx] 9)).heap.size=b.heap.size+1:=E5;have p:=((m.below u O0).gr d (row_ne ho O0)).set 1 (.slice a2 (pre.length+1) c2);have o3:=O_ f (w.heap.size+1) 1 (.slice a2 (pre.length+1) c2);have r:(f.setCell ⟨w.heap.size+1,1,none⟩ (.slice a2 (pre.length+1) c2)).ownsRow (w.heap.size+3) 9 1 (.slice a2 (pre.length+1) c2) (pre.length+1) ((pre.map λi=>.string (IL ts n i))++[.string tx]):=UE z _ _ (by show w.heap.size+1<w.heap.size+3;omega);rw[<- C]at p o3 r;have s3:=o3.size;have H:∀k,k<b.heap.size->k≠w.heap.size+1->(Value.slice a pre.length c).ownBlock≠some k->l.heap[k]?=b.heap[k]?:=λk g o hf=>(o3.block k o).trans ((d.block k O0 (λe=>hf e.symm)).trans (u.block k g));have hf:=Ux (j:=1) m rfl;refine⟨zx O0 (λk g o h _=>H k g o (hf▸h)) m.t (λq y=>⟨9,N7 ho (hf▸y)⟩) ?_,?_⟩
 ·rw[Ux p rfl,hf];rcases A with e|e
  ·exact .inl e
  exact .inr ⟨_,e,O0⟩
 have s:(pre++[x]).length=pre.length+1:=E5;refine⟨⟨a2,c2,?_,?_⟩,?_,?_,O0⟩
 ·rw[s];exact p
 ·rw[s,Rk,Fp,VF,<- v];exact r
 ·exact(H _ O0 O0 (λe=>by have:=Z4 ho e;omega)).trans h.rb
 exact⟨o3.os.trans (d.os.trans h.bw.os),o3.tape.trans (d.tape.trans h.bw.tape),o3.output.trans (d.output.trans h.bw.output),by have:=h.bw.size;omega,λk g=>(H k O0 O0 (λe=>by have:=Z4 ho e;omega)).trans (h.bw.block k g)⟩
theorem pR(h:n=rs.length):(List.finRange n).map (iy rs n)=rs:=by
 subst h;apply dB
 ·simp
 intro i hi1 a;simp[iy,List.getD,L9 a]
theorem iM(rs:List R3)(vs:List Value)(y:R3)(v:Value)(h:vs.length=rs.length):rC (rs++[y]) (vs++[v])=rC rs vs++[.string y.key,v,.string y.out]:=by
 unfold rC;rw[P9,Oj,Uy,Qs]
 congr 1
 ·rw[wE,wE]
  congr 1
  apply Tz;intro i c;have b:=Ip.1 c;have e1:(rs++[y]).getD i h_=rs.getD i h_:=by simp only[List.getD,G_ b]
  have a:(vs++[v]).getD i undef=vs.getD i undef:=by simp only[List.getD,G_ (show i<vs.length by omega)]
  rw[e1,a]
 have e1:(rs++[y]).getD rs.length h_=y:=by simp[List.getD]
 have a:(vs++[v]).getD rs.length undef=v:=by simp[List.getD,<- h]
 simp only[Hg,List.flatMap_nil,Ot,e1,a]
theorem Z8{t:Nat}(h:Ah W b t)(a:Ah W b c):t=c:=by
 obtain⟨cur,fr,h⟩:=h;obtain⟨cur',fr',a⟩:=a;rw[h]at a;cases a;rfl
theorem QX{V1 N v r:World}{p o:OA}{D m l Bx:Nat}{pre:List (Fin n)}{x:Fin n}{y:R3}{vs:List Value}(h:S2 w W0 ts rs a c D n pre V1)(K:Cl V1 (w.heap.size+1) 43 [.int .i64 W0,.slice a ts.length c,.slice a2 pre.length c2])(ho:vg V1 (w.heap.size+3) (.slice a2 pre.length c2) (pre.map (iy rs n)) vs)
 (hy:y=iy rs n x) (hBx:w.heap.size+3<=Bx) (lX:Bx<V1.heap.size) (O:Ah V1 Bx 162) (hfx:(Value.slice a2 pre.length c2).ownBlock≠some Bx) (A:Bw V1 f) (u:f.ownsRow V1.heap.size 213 3 (.slice p y.gs.length m) y.gs.length (gC y.gs))
 (H4:∀k,k<f.heap.size->k≠Bx->v.heap[k]?=f.heap[k]?) (s4:v.heap.size=f.heap.size+1) (P:v.os=f.os/\v.tape=f.tape/\v.output=f.output)
 (hown:N.ownsRow (w.heap.size+3) 162 3 (.slice o (pre.length+1) l) (pre.length+1) (rC (pre.map (iy rs n)) vs++[.string y.key,(.slice p y.gs.length m),.string y.out])) (z:v.grownBy N (Value.slice a2 pre.length c2).ownBlock) (hloc:(Value.slice o (pre.length+1) l).ownBlock=(Value.slice a2 pre.length c2).ownBlock\/(Value.slice o (pre.length+1) l).ownBlock=some v.heap.size) (e6:r=N.setCell ⟨w.heap.size+1,2,none⟩ (.slice o (pre.length+1) l)):
 (KeepsFrom B V1 r/\jB (w.heap.size+1) 2 162 V1 r)/\S2 w W0 ts rs a c D n (pre++[x]) r:=by
 have hz:=h.sz;have s12:=A.size;have s5:=z.size;have hrl:∀k,(Value.slice a2 pre.length c2).ownBlock=some k->k<V1.heap.size:=λk e=>X9 ho.row e;have neS:some (w.heap.size+1)≠(Value.slice a2 pre.length c2).ownBlock:=row_ne ho.row O0;have W:=(Cl.gr ((H4 _ O0 O0).trans (K.below A O0)) z neS).set 2 (.slice o (pre.length+1) l);have o3:=O_ N (w.heap.size+1) 2 (.slice o (pre.length+1) l);have L:=UE hown ⟨w.heap.size+1,2,none⟩ (.slice o (pre.length+1) l) (by show w.heap.size+1<w.heap.size+3;omega);rw[<- e6]at W o3 L;have s6:=o3.size;have H2:∀k,k<f.heap.size->k≠Bx->k≠w.heap.size+1->(Value.slice a2 pre.length c2).ownBlock≠some k->r.heap[k]?=f.heap[k]?:=λk s V E U=>(o3.block k E).trans ((z.block k O0 (λe=>U e.symm)).trans (H4 k s V));have I:∀k,k<V1.heap.size->k≠Bx->k≠w.heap.size+1->(Value.slice a2 pre.length c2).ownBlock≠some k->r.heap[k]?=V1.heap[k]?:=λk s V E U=>(H2 k O0 V E U).trans (A.block k s);have HT:∀k t,Ah V1 k t->t≠162->k≠w.heap.size+1->r.heap[k]?=V1.heap[k]?:=λk t hT ht E=>I k (by obtain⟨cur,fr,e⟩:=hT;exact(Eb.1 e).1) (λe=>ht (by subst e;exact Z8 hT O)) E (λe=>ht (Z8 hT (N7 ho.row e)));have bT:Bw w r:=⟨(o3.os.trans (z.os.trans (P.1.trans A.os))).trans h.bw.os,(o3.tape.trans (z.tape.trans (P.2.1.trans A.tape))).trans h.bw.tape,(o3.output.trans (z.output.trans (P.2.2.trans A.output))).trans h.bw.output,by have:=h.bw.size;omega,λk s=>(I k O0 O0 O0 (λe=>by have:=Z4 ho.row e;omega)).trans (h.bw.block k s)⟩;have hf:=Ux (j:=2) K rfl;refine⟨zx O0 (λk s hS h L=>I k s (λe=>L (e▸O)) hS (hf▸h)) K.t (λq b=>⟨162,N7 ho.row (hf▸b)⟩) ?_,?_⟩
 ·rw[Ux W rfl,hf];rcases hloc with e|e
  ·exact .inl e
  exact .inr ⟨_,e,O0⟩
 have Z:(pre++[x]).length=pre.length+1:=E5;have em:(pre++[x]).map (iy rs n)=pre.map (iy rs n)++[y]:=by rw[Rk,hy];rfl
 have d:(pre.map (iy rs n)).length=pre.length:=Cf ..;have h5T:=P7 (I5 u (λq b=>H2 q (X9 u b) (λe=>by have:=Z4 u b;omega) (λe=>by have:=Z4 u b;omega) (λe=>by have:=hrl q e;have:=Z4 u b;omega))) O0;have J:∀i,i<pre.length->(vs++[Value.slice p y.gs.length m]).getD i undef=vs.getD i undef:=λi g=>by simp only[List.getD,G_ (show i<vs.length by rw[ho.len,d];exact g)]
 have Q:(vs++[Value.slice p y.gs.length m]).getD pre.length undef=(.slice p y.gs.length m):=by simp[List.getD,show pre.length=vs.length by rw[ho.len,d]]
 have hrl2:∀i,i<pre.length->(pre.map (iy rs n)++[y]).getD i h_=(pre.map (iy rs n)).getD i h_:=λi g=>by simp only[List.getD,G_ (show i<(pre.map (iy rs n)).length by rw[d];exact g)]
 have hrn:(pre.map (iy rs n)++[y]).getD pre.length h_=y:=by simp[List.getD]
 have X:∀i,i<pre.length->∀q,(vs.getD i undef).ownBlock=some q->q<V1.heap.size:=λi g q b=>by
  obtain⟨a3,c3,e,F⟩:=ho.gl i (by rw[d];exact g);rw[e]at b;exact X9 F b
 refine⟨⟨o,l,vs++[(.slice p y.gs.length m)],by rw[Z];exact W,?_⟩,?_,?_,bT,O0,by have:=h.dl;omega,?_⟩
 ·rw[Z,em];refine⟨by simp[ho.len],?_,λi g=>?_,λi j g hj hij=>?_⟩
  ·rw[iM _ _ _ _ ho.len,P9,d];exact L
  ·rw[P9,d,Oj]at g;rcases D8 i pre.length with R|hge
   ·rw[J i R,hrl2 i R];obtain⟨a3,c3,e,F⟩:=ho.gl i (by rw[d];exact R);exact⟨a3,c3,e,I5 F (λq b=>HT q 213 (N7 F b) Z5 (λe=>by have:=Z4 F b;omega))⟩
   obtain rfl:i=pre.length:=O0;rw[Q,hrn];exact⟨p,m,rfl,h5T⟩
  rw[P9,d,Oj]at g hj;rcases D8 i pre.length with S|hgi
  ·rw[J i S];rcases D8 j pre.length with C|hgj
   ·rw[J j C];exact ho.apart i j (by rw[d];exact S) (by rw[d];exact C) hij
   obtain rfl:j=pre.length:=O0;rw[Q]
   cases b:(vs.getD i undef).ownBlock with
   | none=>exact .inl rfl
   | some q=>
    refine .inr λe=>?_;have:=X i S q b;have:=Z4 u e.symm;omega
  obtain rfl:i=pre.length:=O0;rw[Q];have C:j<pre.length:=O0;rw[J j C]
  cases b:(Value.slice p y.gs.length m).ownBlock with
  | none=>exact .inl rfl
  | some q=>
   refine .inr λe=>?_;have:=X j C q e.symm;have:=Z4 u b;omega
 ·exact I5 h.tr (λq b=>HT q 9 (N7 h.tr b) Z5 (λe=>by have:=Z4 h.tr b;omega))
 ·exact(I w.heap.size O0 O0 O0 (λe=>by have:=Z4 ho.row e;omega)).trans h.rb
 have Y:=h.dd;refine(I D h.dl (λe=>?_) (λe=>?_) (λe=>?_)).trans h.dd
 ·obtain⟨cur,fr,H⟩:=O;rw[<- e,h.dd]at H;cases H
 ·rw[e,K]at Y;cases Y
 obtain⟨cur,fr,H⟩:=N7 ho.row e;rw[h.dd]at H;cases H
theorem a4Z(B H bT bR bP:Nat)(W:Int)(ts:LB)(rs:List R3)(rv:List Value)(w:World)(hSh:Sh B H bT bR bP W (ts.map (gT W)) rs rv w)(hW:1<=W/\W<=8)(htl:ts.length<=1000)(hrl:rs.length<=1000)(hgs:∀i,(rs.getD i h_).gs.length<=1048576):
 Calls prog 142 #[.pointer (some ⟨H,0,none⟩)] w λe w'=>(∃ta tc ra rc',e=.returned (.agg #[.int .i64 W,.slice ta ts.length tc,.slice ra rs.length rc'])/\Z_ w' w.heap.size ts rs (.slice ta ts.length tc) (.slice ra rs.length rc'))/\Bw w w':=by
 obtain⟨pl,N,hR⟩:=hSh;have a6x:=N.lt;have B0:Bw w (w.alloc (.cells #[.int .i64 0,.slice none 0 0,.slice none 0 0] 43)):=Y6;have B1:Bw w ((w.alloc (.cells #[.int .i64 0,.slice none 0 0,.slice none 0 0] 43)).alloc (.cells #[.int .i64 W,.slice none 0 0,.slice none 0 0] 43)):=B0.alloc E5 _;have B2:Bw w (((w.alloc (.cells #[.int .i64 0,.slice none 0 0,.slice none 0 0] 43)).alloc (.cells #[.int .i64 W,.slice none 0 0,.slice none 0 0] 43)).alloc (.cells #[.map (some bT)] 232)):=B1.alloc Q8 _;have z3:(((w.alloc (.cells #[.int .i64 0,.slice none 0 0,.slice none 0 0] 43)).alloc (.cells #[.int .i64 W,.slice none 0 0,.slice none 0 0] 43)).alloc (.cells #[.map (some bT)] 232)).heap.size=w.heap.size+3:=E5;have h0:=(N.below B0).blk 0 _ rfl;have h1:=(N.below B1).blk 1 _ rfl;have M2:=U0 (N.below B2).tx;have hfK:Fence.wide.fn 191:=trivial;have hfL:Fence.wide.fn 192:=trivial;have CS:Cl (((w.alloc (.cells #[.int .i64 0,.slice none 0 0,.slice none 0 0] 43)).alloc (.cells #[.int .i64 W,.slice none 0 0,.slice none 0 0] 43)).alloc (.cells #[.map (some bT)] 232)) (w.heap.size+1) 43 [.int .i64 W,.slice none 0 0,.slice none 0 0]:=U8 (by have h:=X4 (w.alloc (.cells #[.int .i64 0,.slice none 0 0,.slice none 0 0] 43)) [.int .i64 W,.slice none 0 0,.slice none 0 0] 43;simpa using h) _;have CM:Cl (((w.alloc (.cells #[.int .i64 0,.slice none 0 0,.slice none 0 0] 43)).alloc (.cells #[.int .i64 W,.slice none 0 0,.slice none 0 0] 43)).alloc (.cells #[.map (some bT)] 232)) (w.heap.size+2) 232 [.map (some bT)]:=by have h:=X4 ((w.alloc (.cells #[.int .i64 0,.slice none 0 0,.slice none 0 0] 43)).alloc (.cells #[.int .i64 W,.slice none 0 0,.slice none 0 0] 43)) [.map (some bT)] 232;simpa using h
 have hf0:=Ux (j:=1) CS rfl;have hks:∀p∈ts.map (gT W),p.1.size<=maxLen:=λp hp=>by
  obtain⟨t,_,rfl⟩:=zl.1 hp;show(G7 t W).size<=maxLen;rw[mr hW];unfold maxLen;omega
 have a7t:=N.tx.lt;have I0:S1 w W ts (ts.map (gT W)).length [] (((w.alloc (.cells #[.int .i64 0,.slice none 0 0,.slice none 0 0] 43)).alloc (.cells #[.int .i64 W,.slice none 0 0,.slice none 0 0] 43)).alloc (.cells #[.map (some bT)] 232)):=⟨⟨none,0,CS,Y_ _ _ _ _⟩,U8 (U8 (X4 w [.int .i64 0,.slice none 0 0,.slice none 0 0] 43) _) _,B2,O0⟩;obtain⟨i0,hi9,hz0,hz1,hz2⟩:=info_parts' info9;obtain⟨j0,hj9,jz0,jz1,jz2⟩:=info_parts' qR;refine(callsIn_wide (n:=11)).1 ?_;refine callsIn_of_wp_marks func142 rfl trivial ?_ rfl;simp only[ntmps142,Zy,u_,Td,Nat.reduceAdd,Nat.reduceSub,qA,aB,UA,Oz,j_,Zf]
 gi_wp2_with (gi_at_call 191;refine(a5y _ _ _).mono ?_;rintro e w'⟨rfl,rfl⟩)
 generalize (((w.alloc (.cells #[.int .i64 0,.slice none 0 0,.slice none 0 0] 43)).alloc (.cells #[.int .i64 W,.slice none 0 0,.slice none 0 0] 43)).alloc (.cells #[.map (some bT)] 232))=U2 at*;have hm2:=CM.cell 0;refine wpIn_rangeFunc_ownH rfl O0 (gf:=236) (lb:=#[.pointer (some ⟨w.heap.size+2,0,none⟩)]) rfl trivial (enters_of func236 Y1 rfl)
  (a3q (w.heap.size+1) 1 (w.heap.size+2) bT _ (ts.map (gT W)) U2 N.ta hks (by simpa using htl) O0 hm2 M2.out CM.t O0 O0 O0 hf0)
  jB.trans (YL O0) (G5 _ _) (λ_=>rfl)
  (λpre W'=>S1 w W ts (ts.map (gT W)).length pre W') (λ_ _ _=>False) (uS w W ts _ _ O0) (λ_ _ _ _ _ h _ _=>h) I0
  (λx Y W'=>∃Bx tx,tx=IL ts (ts.map (gT W)).length x/\w.heap.size+3<=Bx/\Cl W' Bx 240 [.string tx,.int .i64 (hC tx),.string (hT tx)]/\Y={ tmps:=#[.pointer (some ⟨H,0,none⟩),undef,.pointer (some ⟨w.heap.size,0,none⟩),.pointer (some ⟨w.heap.size+1,0,none⟩),.pointer (some ⟨Bx,0,none⟩),undef,.pointer (some ⟨H,0,none⟩),.pointer (some ⟨H,0,none⟩),.pointer (some ⟨H,0,none⟩),.int .i64 W,.agg #[.int .i64 W,.slice none 0 0,.slice none 0 0],.pointer (some ⟨H,0,none⟩),.pointer (some ⟨H,0,none⟩),.pointer (some ⟨H,1,none⟩),.map (some bT),.func (.func 236) #[] #[.pointer (some ⟨w.heap.size+2,0,none⟩)],.agg #[.string tx,.int .i64 (hC tx),.string (hT tx)],undef,undef,undef,undef,undef,undef,undef,undef,undef,undef,undef,undef,undef,undef,undef,undef,undef,undef,undef,undef,undef,undef,undef,undef],defers:=[] }) ?hax ?assign ?body ?done ?stop
 case hax=>
  rintro x Y s f W2 row⟨Bx,tx,h1,h2,V,h5⟩ Q hr;have hr2:∀r,row=some r->∃o:Obj,f.heap[r]?=some o/\o.isCells=false:=λr e=>(hr r e).2;exact⟨Bx,tx,h1,h2,V.nc Q hr2,h5⟩
 case assign=>
  intro l pre x f K d hK;have hvx:=a0l ts x;rw[hvx];generalize htx:IL ts (ts.map (gT W)).length x=tx at*;have Q:=tJ f (.cells #[.string tx,.int .i64 (hC tx),.string (hT tx)] 240) none;have hi2:=uS w W ts (ts.map (gT W)).length (w.heap.size+3) X7 pre f _ none d Q (λ_ e=>by cases e);have hk2:=kD (W:=f) (w.heap.size+1) 1 240 (by have:=d.sz;omega) (.cells #[.string tx,.int .i64 (hC tx),.string (hT tx)] 240);have L:=X4 f [.string tx,.int .i64 (hC tx),.string (hT tx)] 240;have hz:=d.sz
  gi_wp2
  exact hK _ _ ((KeepsOthers.alloc _ _).from _) hk2 hi2 ⟨f.heap.size,tx,rfl,hz,L,rfl⟩
 case body=>
  rintro l pre x Y f hl⟨r,hr⟩ d ⟨Bx,tx,htx,hBx,bX,rfl⟩ hlt;have HTX:=U0 htx;clear htx;obtain⟨a,c,m,E⟩:=d.ex;have hz:=d.sz;have x0:=bX.cell 0;have y1:=m.cell 1;have f1:=m.opn 1;have HO:=U0 (E.alloc (.cells #[.string tx] 9));have HS0:=U0 d;have HB0:=U0 m;have HR0:=U0 E;have hpl:pre.length<=1000:=by have e:(ts.map (gT W)).length=ts.length:=Cf ..;omega
  have bN:Bw f (f.alloc (.cells #[.string tx] 9)):=Y6;have sN:(f.alloc (.cells #[.string tx] 9)).heap.size=f.heap.size+1:=E5;clear d m E bX hr;have hmark:=trivial
  gi_wp2_with (gi_at_builtin;refine wpListIn_append_own_at _ rfl _ _ 22 rfl (w.heap.size+3) 9 i0 (.string ⟨#[]⟩) 1 16 underlying22 hi9 hz0 hz1 hz2 rfl Z5 _ _ _ rfl HO.out ⟨f.heap.size,0,none⟩ 1 1 [.string tx] rfl rfl (cell_one_new _ _ _) (by simp[Value.oneCell']) (by unfold maxLen;omega) O0 O0 ?_;revert hmark)
  intro v2 w2 hown hgrow _ hloc;obtain⟨a2,c2,rfl⟩:=V9 hown;have neS:=row_ne (k:=w.heap.size+1) HR0 O0;have b2:=(HB0.out.below bN O0).gr hgrow neS;have g1:=b2.cell 1;have fz:=b2.opn 1;have Z:=U0 (pV (B:=U2.heap.size) HS0 HB0 HR0 HTX hown hgrow hloc rfl)
  gi_wp2
  exact⟨Z.out.1.1,Z.out.1.2,Z.out.2⟩
 case done=>
  rintro D xs f hD hxs d hKd;subst hxs;obtain⟨a,c,m,E⟩:=QY d;have hz:=d.sz;have BW1:=d.bw;have hDl:=(Eb.1 hKd).1;have h2:=(N.below BW1).blk 2 _ rfl;have HM:=U0 ((N.below BW1).rc.alloc (.cells #[.map (some bR)] 233));have bX2:Bw f (f.alloc (.cells #[.map (some bR)] 233)):=Y6;have sX2:(f.alloc (.cells #[.map (some bR)] 233)).heap.size=f.heap.size+1:=E5;have J0:S2 w W ts rs a c D rv.length [] (f.alloc (.cells #[.map (some bR)] 233)):=⟨⟨none,0,[],U8 m _,⟨rfl,Y_ _ _ _ _,λi d=>absurd d (y9 _),λi j d=>absurd d (y9 _)⟩⟩,own_below E bX2,U8 d.rb _,d.bw.trans (bX2.mono O0),O0,O0,(bX2.block D hDl).trans hKd⟩;have CX:=X4 f [.map (some bR)] 233;have hbx2:=CX.cell 0;have hf2:=Ux (j:=2) (U8 m (.cells #[.map (some bR)] 233)) rfl;have a8j:=N.rc.lt;have hrec:∀i:Fin rv.length,∃g u,(rv[i.1]'(i.2))=.agg #[.string (iy rs rv.length i).key,.slice g (iy rs rv.length i).gs.length u,.string (iy rs rv.length i).out]/\R_ w g (iy rs rv.length i).gs:=λi=>a0B hR i;have HRC:=U0 hrec;simp only[]
  gi_wp2_with (gi_at_call 192;refine(a3z _ _ _).mono ?_;rintro e w'⟨rfl,rfl⟩)
  generalize hX2:(f.alloc (.cells #[.map (some bR)] 233))=X2 at*;clear hX2;refine wpIn_rangeFunc_ownH rfl O0 (gf:=239) (lb:=#[.pointer (some ⟨f.heap.size,0,none⟩)]) rfl trivial (enters_of func239 Y1 rfl)
   (a5F (w.heap.size+1) 2 f.heap.size bR _ rv X2 (by have:=hR.len;omega) O0 hbx2 HM.out CX.t O0 O0 O0 hf2)
   jB.trans (YL O0) (G5 _ _) (λ_=>rfl)
   (λpre W'=>S2 w W ts rs a c D rv.length pre W') (λ_ _ _=>False) (jU w W ts rs a c D _ _ O0 O0) (λ_ _ _ _ _ h _ _=>h) J0
   (λx Y W'=>∃Bx y g u,y=iy rs rv.length x/\w.heap.size+3<=Bx/\R_ w g y.gs/\Cl W' Bx 162 [.string y.key,.slice g y.gs.length u,.string y.out]/\Ah W' (w.heap.size+1) 43/\fB W' (w.heap.size+1) 2≠some Bx/\Y={ tmps:=#[.pointer (some ⟨H,0,none⟩),undef,.pointer (some ⟨w.heap.size,0,none⟩),.pointer (some ⟨w.heap.size+1,0,none⟩),undef,.pointer (some ⟨Bx,0,none⟩),.pointer (some ⟨H,0,none⟩),.pointer (some ⟨H,0,none⟩),.pointer (some ⟨H,0,none⟩),.int .i64 W,.agg #[.int .i64 W,.slice none 0 0,.slice none 0 0],.pointer (some ⟨H,0,none⟩),.pointer (some ⟨H,0,none⟩),.pointer (some ⟨H,1,none⟩),.map (some bT),.func (.func 236) #[] #[.pointer (some ⟨w.heap.size+2,0,none⟩)],undef,undef,undef,undef,undef,undef,undef,undef,.pointer (some ⟨H,0,none⟩),.pointer (some ⟨H,0,none⟩),.pointer (some ⟨H,2,none⟩),.map (some bR),.func (.func 239) #[] #[.pointer (some ⟨f.heap.size,0,none⟩)],.agg #[.string y.key,.slice g y.gs.length u,.string y.out],undef,undef,undef,undef,undef,undef,undef,undef,undef,undef,undef],defers:=[] }) ?a7u ?assign2 ?body2 ?done2 ?stop2
  case a7u=>
   rintro x Y s V1 J row⟨Bx,y,g,u,h1,h2,V,h4,h9,h10,h8⟩ Q hr;have hr2:∀r,row=some r->∃o:Obj,V1.heap[r]?=some o/\o.isCells=false:=λr e=>(hr r e).2;have hb:=PU h9 hr2;obtain⟨cur,fr,e9⟩:=h9;have e10:=(Q.block _ (Eb.1 e9).1 hb).trans e9;refine⟨Bx,y,g,u,h1,h2,V,h4.nc Q hr2,⟨cur,fr,e10⟩,?_,h8⟩;unfold fB World.cell? at h10 ⊢;rw[e10]
   rwa[e9]at h10
  case assign2=>
   intro l pre x V1 K d hK;obtain⟨g,u,hvx,I⟩:=HRC.out x;rw[hvx];generalize hy:iy rs rv.length x=y at*;have Q:=tJ V1 (.cells #[.string y.key,.slice g y.gs.length u,.string y.out] 162) none;have hi2:=jU w W ts rs a c D rv.length (D+1+(w.heap.size+3)) O0 O0 pre V1 _ none d Q (λ_ e=>by cases e);have hk2:=kD (W:=V1) (w.heap.size+1) 2 162 (by have:=d.sz;omega) (.cells #[.string y.key,.slice g y.gs.length u,.string y.out] 162);have L:=X4 V1 [.string y.key,.slice g y.gs.length u,.string y.out] 162;have hz:=d.sz;obtain⟨a2,c2,vs,hb,ho⟩:=d.ex;have hb3:=U8 hb (.cells #[.string y.key,.slice g y.gs.length u,.string y.out] 162);have hfx:fB (V1.alloc (.cells #[.string y.key,.slice g y.gs.length u,.string y.out] 162)) (w.heap.size+1) 2≠some V1.heap.size:=by
    rw[Ux hb3 rfl];intro X;have:=X9 ho.row X;omega
   clear hvx
   gi_wp2
   exact hK _ _ ((KeepsOthers.alloc _ _).from _) hk2 hi2 ⟨V1.heap.size,y,g,u,rfl,hz,I,L,hb3.t,hfx,rfl⟩
  case body2=>
   rintro l pre x Y V1 hl⟨r,hr⟩ d ⟨Bx,y,g,u,hy,hBx,I,bX,_,hfx,rfl⟩ hlt;have HY:=U0 hy;have hgl:y.gs.length<=1048576:=by rw[hy];exact hgs _
   clear hy;obtain⟨a2,c2,vs,m,E⟩:=d.ex;have hz:=d.sz;have x1:=bX.cell 1;have f1:=bX.opn 1;have lX:=bX.lt;rw[Ux m rfl]at hfx;have HS0:=U0 d;have HB0:=U0 m;have HR0:=U0 E;have HBX:=U0 bX;have HFX:=U0 hfx;have h69:=c160 g u y.gs V1 hgl (I9 I d.bw);have hpl:pre.length<=1000:=by have:=hR.len;omega
   clear d m E bX hr hfx I;have hmark:=trivial;have hfC:Fence.wide.fn 160:=trivial
   gi_wp2_with (first|(gi_at_call 160;refine(CallsIn.inRound l (callsIn_wide.2 h69)).mono ?_;revert hmark)|(refine⟨trivial,?_⟩;gi_at_call 160;refine(CallsIn.inRound l (callsIn_wide.2 h69)).mono ?_;revert hmark))
   rintro _ e J⟨⟨C,A,rfl,h5⟩,L⟩;have s2:=L.size;have H5:=U0 h5;have b2:=HBX.out.below L lX;have g1:=b2.cell 1;have g2:=b2.opn 1;have b3:=b2.set 1 (.slice C y.gs.length A);have k0:=b3.cell 0;have k1:=b3.cell 1;have k2:=b3.cell 2;have q2:=((HB0.out.below L O0).on (O_ J Bx 1 (.slice C y.gs.length A)) O0).cell 2;have hrb:∀k,(Value.slice a2 pre.length c2).ownBlock=some k->k<V1.heap.size/\k≠Bx:=λk e=>⟨X9 HR0.out.row e,λX=>HFX.out (X▸e)⟩;have HO:Hid (((J.setCell ⟨Bx,1,none⟩ (.slice C y.gs.length A)).alloc (.cells #[.string y.key,.slice C y.gs.length A,.string y.out] 162)).ownsRow (w.heap.size+3) 162 3 (.slice a2 pre.length c2) pre.length (rC (pre.map (iy rs rv.length)) vs)):=by
    have h:=HR0.out.row;rw[Cf]at h;exact I5 h (λq v=>((Ht _ _ q (by have:=(hrb q v).1;simp;omega)).trans (Ox _ _ _ _ (by exact(hrb q v).2))).trans (L.block q (hrb q v).1))
   have HC4:Cl ((J.setCell ⟨Bx,1,none⟩ (.slice C y.gs.length A)).alloc (.cells #[.string y.key,.slice C y.gs.length A,.string y.out] 162)) J.heap.size 162 [.string y.key,.slice C y.gs.length A,.string y.out]:=by have h:=X4 (J.setCell ⟨Bx,1,none⟩ (.slice C y.gs.length A)) [.string y.key,.slice C y.gs.length A,.string y.out] 162;simpa using h
   have S:=U0 (Ti HC4);have H4:Hid (∀k,k<J.heap.size->k≠Bx->((J.setCell ⟨Bx,1,none⟩ (.slice C y.gs.length A)).alloc (.cells #[.string y.key,.slice C y.gs.length A,.string y.out] 162)).heap[k]?=J.heap[k]?):=λk U hne=>(Ht _ _ k (by simpa using U)).trans (Ox _ _ _ _ (by exact hne));have s4:((J.setCell ⟨Bx,1,none⟩ (.slice C y.gs.length A)).alloc (.cells #[.string y.key,.slice C y.gs.length A,.string y.out] 162)).heap.size=J.heap.size+1:=E5;have hmark:=trivial
   gi_wp2_with (gi_at_builtin;refine wpListIn_append_own_at _ rfl _ _ 41 rfl (w.heap.size+3) 162 j0 (.agg #[.string ⟨#[]⟩,.slice none 0 0,.string ⟨#[]⟩]) 3 56 underlying41 hj9 jz0 jz1 jz2 rfl Z5 _ _ _ rfl HO.out ⟨J.heap.size,0,none⟩ 1 1 [.string y.key,.slice C y.gs.length A,.string y.out] rfl rfl S.out (by simp[Value.oneCell']) (by unfold maxLen;omega) O0 O0 ?_;revert hmark)
   intro v6 V5 hown hgrow _ hloc;obtain⟨a6,a7X,rfl⟩:=V9 hown;have Z:=U0 (QX (B:=X2.heap.size) HS0 HB0 HR0 HY hBx lX HBX.out.t HFX L H5 H4 s4 ⟨rfl,rfl,rfl⟩ hown hgrow (by rw[s4];exact hloc) rfl);have b4:=Cl.gr ((H4 _ O0 O0).trans (HB0.out.below L O0)) hgrow (row_ne HO O0);have m1:=b4.cell 2;have m2:=b4.opn 2
   gi_wp2
   exact⟨Z.out.1.1,Z.out.1.2,Z.out.2⟩
  case done2=>
   rintro D2 xs W2 hD2 hxs d a6P;subst hxs;obtain⟨a2,c2,vs,m,E⟩:=d.ex;have el:(List.finRange rv.length).length=rs.length:=by simp[hR.len]
   have em:=pR hR.len;rw[el]at m E;rw[em]at E;have y0:=m.cell 0;have y1:=m.cell 1;have y2:=m.cell 2;have z0:=d.rb.cell 0;have z1':=d.rb.cell 1;have z2':=d.rb.cell 2;have r0:=d.rb.opn 0;have r1:=d.rb.opn 1;have r2:=d.rb.opn 2;have R:=U0 d;have S:=U0 E;have hzz:=R.out.sz;have hDD:D≠D2:=O0;obtain⟨F,hF⟩:∃F,F=(((W2.setCell ⟨w.heap.size,0,none⟩ (.int .i64 W)).setCell ⟨w.heap.size,1,none⟩ (.slice a ts.length c)).setCell ⟨w.heap.size,2,none⟩ (.slice a2 rs.length c2)):=⟨_,rfl⟩;have O:Jr w.heap.size W2 F:=hF▸⟨rfl,rfl,rfl,E5,λk U=>(XF _ _ _ _ U).trans ((XF _ _ _ _ U).trans (XF _ _ _ _ U))⟩;have ZE:Cl F w.heap.size 43 [.int .i64 W,.slice a ts.length c,.slice a2 rs.length c2]:=hF▸((R.out.rb.set 0 (.int .i64 W)).set 1 (.slice a ts.length c)).set 2 (.slice a2 rs.length c2);have q2:=(O.block D2 O0).trans a6P;have q1:=(O.block D O0).trans R.out.dd;obtain⟨G,I⟩:∃G,G=(F.putObj D2 (.deferred none)).putObj D (.deferred none):=⟨_,rfl⟩;have oG:∀q,q≠D->q≠D2->G.heap[q]?=F.heap[q]?:=λq h1 h2=>I▸(World.putObj_heap_other h1).trans (World.putObj_heap_other h2);have HFh:∀q t,Ah W2 q t->q≠w.heap.size->G.heap[q]?=W2.heap[q]?:=λq t hT v=>by
    obtain⟨cur,fr,e⟩:=hT;exact(oG q (λX=>by rw[X,R.out.dd]at e;cases e) (λX=>by rw[X,a6P]at e;cases e)).trans (O.block q v)
   have a7v:Hid (Z_ G w.heap.size ts rs (.slice a ts.length c) (.slice a2 rs.length c2)):=by
    show Z_ _ _ _ _ _ _;refine⟨P7 (I5 R.out.tr (λq v=>HFh q 9 (N7 R.out.tr v) (λe=>by have:=Z4 R.out.tr v;omega))) O0,vs,S.out.len,P7 (I5 S.out.row (λq v=>HFh q 162 (N7 S.out.row v) (λe=>by have:=Z4 S.out.row v;omega))) O0,λi d=>?_,S.out.apart⟩;obtain⟨a3,c3,e,V⟩:=S.out.gl i d;exact⟨a3,c3,e,P7 (I5 V (λq v=>HFh q 213 (N7 V v) (λe=>by have:=Z4 V v;omega))) O0⟩
   have HZE:Cl G w.heap.size 43 [.int .i64 W,.slice a ts.length c,.slice a2 rs.length c2]:=(oG _ O0 O0).trans ZE;have HBE:Hid (Bw w G):=by
    have b:=R.out.bw;have z:=O.size;exact⟨by rw[I];exact O.os.trans b.os,by rw[I];exact O.tape.trans b.tape,by rw[I];exact O.output.trans b.output,by rw[I];simp;have:=b.size;omega,λk U=>(oG k O0 O0).trans ((O.block k O0).trans (b.block k U))⟩
   rw[hF]at q1 q2 I;simp only[]
   gi_wp2
   refine⟨E5,.inl ⟨_,_,rfl,run_takeDeferred q2,⟨E5,.inl ⟨_,_,rfl,run_takeDeferred ((World.putObj_heap_other hDD).trans q1),?_⟩⟩⟩⟩;rw[<- I];exact⟨_,J7 (P:=prog) (ty:=43) rfl _ _ w.heap.size [.int .i64 W,.slice a ts.length c,.slice a2 rs.length c2] _ rfl HZE.blk underlying43 rfl Y1,⟨a,c,a2,c2,rfl,a7v⟩,HBE⟩
  case stop2=>
   rintro D c' pre V1 _ _ h _;exact h.elim
 case stop=>
  rintro D c' pre f _ _ h _;exact h.elim

import Derived.Test.YtbgdfcmeheaiiaaGreatDoorvF
import Derived.Maps.OwnIn
set_option linter.unusedVariables false
set_option linter.unusedSimpArgs false
set_option maxHeartbeats 8000000
set_option maxRecDepth 100000
namespace Go.Proofs.YtbgdfcmeheaiiaaGreatDoor
open Proofs.Tryz Go.RowKit Go.Maps Go.Sort Go.Shelf
variable{W W' f w:World}{B S X b base c c2 e j n size:Nat}{v:Value}{xs:List Value}{row:Option Nat}{W0:Int}{ts:LB}{rs:List R3}{a a2:OA}
attribute [local go_sem] Oper.semAt_some
def uK(ts:LB)(n:Nat)(i:Fin n):BY:=ts.getD i.1 ByteArray.empty
def Px(rs:List R3)(n:Nat)(i:Fin n):R3:=rs.getD i.1 j_
theorem N9(h:W.ownsRow base e size v n xs){k:Nat}(a:v.ownBlock=some k):Oj W k e:=by
 rcases h.2 with⟨hv,_⟩|⟨g,cap,cur,hv,hg,b,_⟩
 ·subst hv;simp[Value.ownBlock]at a
 subst hv;simp[Value.ownBlock]at a;subst a;exact⟨cur,(0,0),b⟩
theorem uT{t:TypeId}(h:Oj W b t)(hr:∀r,row=some r->∃o:Obj,W.heap[r]?=some o/\o.isCells=false):some b≠row:=λe=>by
 obtain⟨o,ho,hc⟩:=hr b e.symm;obtain⟨cur,fr,h⟩:=h;rw[h]at ho;cases ho;cases hc
theorem Cl.t{t:TypeId}(h:Cl W b t xs):Oj W b t:=⟨_,_,h⟩
theorem Cl.gr{t:TypeId}(h:Cl W b t xs)(c:W.grownBy W' row)(a:some b≠row):Cl W' b t xs:=(c.block b h.lt a).trans h
theorem Cl.nc{t:TypeId}(h:Cl W b t xs)(a:W.grownBy W' row)(hr:∀r,row=some r->∃o:Obj,W.heap[r]?=some o/\o.isCells=false):Cl W' b t xs:=h.gr a (uT h.t hr)
theorem Ew(b:W.heap.size<=W'.heap.size)(c:∀k,k<W.heap.size->k≠S->fB W S j≠some k->¬Oj W k X->W'.heap[k]?=W.heap[k]?){t:TypeId}(n:Oj W S t)(f:∀q,fB W S j=some q->∃t,Oj W q t)(l:fB W' S j=fB W S j\/∃q,fB W' S j=some q/\W.heap.size<=q):KeepsFrom B W W'/\Uz S j X W W':=by
 have a:∀k t o,Oj W k t->W.heap[k]?=some o->o.isCells=true:=λk t o ⟨cur,fr,h⟩ ho=>by
  rw[h]at ho;cases ho;rfl
 refine⟨⟨b,λk o _ ho hc=>?_⟩,⟨b,λk o ho _ m i g=>(c k (Ua.1 ho).1 i g λ⟨cur,fr,e⟩=>m cur fr (D_ (ho.symm.trans e))).trans ho,l⟩⟩;refine(c k (Ua.1 ho).1 (λe=>?_) (λe=>?_) (λe=>?_)).trans ho
 ·rw[a k t o (e▸n) ho]at hc;cases hc
 ·obtain⟨d,h⟩:=f k e;rw[a k d o h ho]at hc;cases hc
 rw[a k X o e ho]at hc;cases hc
theorem ML(hS:S<w.heap.size):∀(W:World)(l:Nat)(o a:Obj),w.heap.size<=l->W.heap[l]?=some o->o.isCells=false->o.isWalk=false->Uz S j X W (W.putObj l a):=λW l o a hl ho hc hw=>by
 refine⟨O4,λk q b c _ _ _=>?_,.inl ?_⟩
 ·refine(World.putObj_heap_other (λe=>?_)).trans b;subst e;rw[ho]at b;cases b;rcases c with h|h
  ·rw[hc]at h;cases h
  rw[hw]at h;cases h
 unfold fB;have e:(W.putObj l a).heap[S]?=W.heap[S]?:=World.putObj_heap_other O0;simp only[World.cell?,e]
theorem Ii(h:W.ownsRow base e size v n xs)(a:W.grownBy W' row)(hr:∀r,row=some r->∃o:Obj,W.heap[r]?=some o/\o.isCells=false):W'.ownsRow base e size v n xs:=by
 refine h.kept a ?_
 cases hq:v.ownBlock with
 | none=>exact .inl rfl
 | some k=>exact .inr (uT (N9 h hq) hr)
theorem bQ:(prog.info? 176).map (λi=>(i.zero,i.size,i.bytes))=some (some (.agg #[.string ⟨#[]⟩,.slice none 0 0,.string ⟨#[]⟩]),3,56):=Y0
theorem EC(S j X:Nat)(b:S<W.heap.size)(o:Obj):Uz S j X W (W.alloc o):=
 ⟨O4,λk q a _ _ _ _=>(Lr _ _ k (Ua.1 a).1).trans a,.inl (by
  unfold fB;simp only[World.cell?,Lr W o S b])⟩
theorem a0s{W:Int}(ts:LB)(x:Fin (ts.map (gT W)).length):(((ts.map (gT W))[x.1]'(x.2))).2=.agg #[.string (uK ts (ts.map (gT W)).length x),.int .i64 (hC (uK ts (ts.map (gT W)).length x)),.string (hT (uK ts (ts.map (gT W)).length x))]:=by
 have hx:x.1<ts.length:=by have:=x.2;simpa using this
 rw[OE];have e:uK ts (ts.map (gT W)).length x=ts[x.1]:=by unfold uK;simp only[List.getD,List.getElem?_eq_getElem hx,Option.getD_some]
 rw[e];rfl
structure S1(w:World)(W0:Int)(ts:LB)(n:Nat)(pre:List (Fin n))(W:World):Prop where
 ex:∃a c,Cl W (w.heap.size+1) 49 [.int .i64 W0,.slice a pre.length c,.slice none 0 0]/\W.ownsRow (w.heap.size+3) 9 1 (.slice a pre.length c) pre.length (pre.map λi=>.string (uK ts n i))
 rb:Cl W w.heap.size 49 [.int .i64 0,.slice none 0 0,.slice none 0 0]
 bw:Bw w W
 sz:w.heap.size+3<=W.heap.size
theorem FP(w:World)(W0:Int)(ts:LB)(n B:Nat)(hB:w.heap.size+3<=B):OwnFrom B (λpre W=>S1 w W0 ts n pre W):=λs W W' row h b hr=>by
 have d:∀r,row=some r->∃o:Obj,W.heap[r]?=some o/\o.isCells=false:=λr e=>(hr r e).2;obtain⟨a,c,h1,h2⟩:=h.ex;exact⟨⟨a,c,h1.nc b d,Ii h2 b d⟩,h.rb.nc b d,h.bw.trans (G_ b (λj e=>by have:=(hr j e).1;omega) h.bw.size),Q8 h.sz b.size⟩
theorem G7{u u':World}(h:u.ownsRow base e size v n xs)(a:∀q,v.ownBlock=some q->u'.heap[q]?=u.heap[q]?):u'.ownsRow base e size v n xs:=by
 refine⟨h.1,h.2.imp id ?_⟩;rintro⟨g,d,cur,h1,h2,c,b⟩;exact⟨g,d,cur,h1,h2,(a g (by rw[h1];rfl)).trans c,b⟩
def rC(rs:List R3)(vs:List Value):List Value:=(List.range rs.length).flatMap λi=>[.string (rs.getD i j_).key,vs.getD i undef,.string (rs.getD i j_).out]
structure Yg(W:World)(base:Nat)(v:Value)(rs:List R3)(vs:List Value):Prop where
 len:vs.length=rs.length
 row:W.ownsRow base 176 3 v rs.length (rC rs vs)
 gl:∀i,i<rs.length->∃a c,vs.getD i undef=.slice a (rs.getD i j_).gs.length c/\W.ownsRow base 256 3 (.slice a (rs.getD i j_).gs.length c) (rs.getD i j_).gs.length (gC (rs.getD i j_).gs)
 apart:∀i j,i<rs.length->j<rs.length->i≠j->(vs.getD i undef).ownBlock=none\/(vs.getD i undef).ownBlock≠(vs.getD j undef).ownBlock
def Bd(W:World)(base:Nat)(ts:LB)(rs:List R3)(tv rvv:Value):Prop:=W.ownsRow base 9 1 tv ts.length (ts.map Value.string)/\∃vs,Yg W base rvv rs vs
structure S2(w:World)(W0:Int)(ts:LB)(rs:List R3)(a:OA)(c D n:Nat)(pre:List (Fin n))(W:World):Prop where
 ex:∃a2 c2 vs,Cl W (w.heap.size+1) 49 [.int .i64 W0,.slice a ts.length c,.slice a2 pre.length c2]/\Yg W (w.heap.size+3) (.slice a2 pre.length c2) (pre.map (Px rs n)) vs
 tr:W.ownsRow (w.heap.size+3) 9 1 (.slice a ts.length c) ts.length (ts.map Value.string)
 rb:Cl W w.heap.size 49 [.int .i64 0,.slice none 0 0,.slice none 0 0]
 bw:Bw w W
 sz:w.heap.size+3<=W.heap.size
 dl:D<W.heap.size
 dd:W.heap[D]?=some (.deferred (some []))
theorem Qw{t:TypeId}(h:Cl W b t xs)(e:xs[j]?=some v):fB W b j=v.ownBlock:=by
 unfold fB;rw[h.cell,e];rfl
theorem ZO(w:World)(W0:Int)(ts:LB)(rs:List R3)(a:OA)(c D n B:Nat)(hB:w.heap.size+3<=B)(l:D<B):OwnFrom B (λpre W=>S2 w W0 ts rs a c D n pre W):=λs W W' row h d hr=>by
 have f:∀r,row=some r->∃o:Obj,W.heap[r]?=some o/\o.isCells=false:=λr e=>(hr r e).2;obtain⟨a2,c2,vs,h1,h2⟩:=h.ex;have g:∀b,b<B->some b≠row:=λb hb e=>by have:=(hr b e.symm).1;omega
 exact⟨⟨a2,c2,vs,h1.nc d f,⟨h2.len,Ii h2.row d f,λi k=>by
  obtain⟨p,c3,e,m⟩:=h2.gl i k;exact⟨p,c3,e,Ii m d f⟩,h2.apart⟩⟩,Ii h.tr d f,h.rb.nc d f,h.bw.trans (G_ d (λj e=>by have:=(hr j e).1;omega) h.bw.size),Q8 h.sz d.size,G9 h.dl d.size,(d.block D h.dl (g D l)).trans h.dd⟩
theorem kY{b:World}{W:Int}(h:S1 w W0 ts (ts.map (gT W)).length (List.finRange (ts.map (gT W)).length) b):∃a c,Cl b (w.heap.size+1) 49 [.int .i64 W0,.slice a ts.length c,.slice none 0 0]/\b.ownsRow (w.heap.size+3) 9 1 (.slice a ts.length c) ts.length (ts.map Value.string):=by
 obtain⟨a,c,h1,h2⟩:=h.ex;have e1:(List.finRange (ts.map (gT W)).length).length=ts.length:=O4;have f:((List.finRange (ts.map (gT W)).length).map λi=>Value.string (uK ts (ts.map (gT W)).length i))=ts.map Value.string:=by
  apply Qy
  ·simp
  intro i hi1 d;have e:i<ts.length:=by simpa using d
  simp[uK,List.getD,D9 e]
 rw[e1]at h1 h2;rw[f]at h2;exact⟨a,c,h1,h2⟩
theorem WY{rv:List Value}{pl:List (ByteArray×Value)}(h:ShR B rs rv pl w)(i:Fin rv.length):∃a b,(rv[i.1]'(i.2))=.agg #[.string (Px rs rv.length i).key,.slice a (Px rs rv.length i).gs.length b,.string (Px rs rv.length i).out]/\W_ w a (Px rs rv.length i).gs:=by
 have c:=Nat.lt_of_lt_of_eq i.2 h.len;obtain⟨a,b,e,d,_⟩:=h.recs i.1 c;refine⟨a,b,?_,d⟩;unfold Px;rw[<- e];simp only[List.getD,D9 i.2,Hg]
theorem row_ne{k:Nat}(h:W.ownsRow base e size v n xs)(hk:k<base):some k≠v.ownBlock:=λe=>by
 have:=Y6 h e.symm;omega
theorem WU{b l:World}{pre:List (Fin n)}{x:Fin n}{tx:BY}(h:S1 w W0 ts n pre b)(m:Cl b (w.heap.size+1) 49 [.int .i64 W0,.slice a pre.length c,.slice none 0 0])(ho:b.ownsRow (w.heap.size+3) 9 1 (.slice a pre.length c) pre.length (pre.map λi=>.string (uK ts n i)))(v:tx=uK ts n x)
 (z:f.ownsRow (w.heap.size+3) 9 1 (.slice a2 (pre.length+1) c2) (pre.length+1) ((pre.map λi=>.string (uK ts n i))++[.string tx])) (d:(b.alloc (.cells #[.string tx] 9)).grownBy f (Value.slice a pre.length c).ownBlock) (A:(Value.slice a2 (pre.length+1) c2).ownBlock=(Value.slice a pre.length c).ownBlock\/(Value.slice a2 (pre.length+1) c2).ownBlock=some (b.heap.size+1)) (C:l=f.setCell ⟨w.heap.size+1,1,none⟩ (.slice a2 (pre.length+1) c2)):
 (KeepsFrom B b l/\Uz (w.heap.size+1) 1 280 b l)/\S1 w W0 ts n (pre++[x]) l:=by
 have hz:=h.sz;have u:Bw b (b.alloc (.cells #[.string tx] 9)):=P6;have sG:=d.size;have sN:(b.alloc (.cells #[.string tx] 9)).heap.size=b.heap.size+1:=O4;have p:=((m.below u O0).gr d (row_ne ho O0)).set 1 (.slice a2 (pre.length+1) c2);have o3:=Tc f (w.heap.size+1) 1 (.slice a2 (pre.length+1) c2);have r:(f.setCell ⟨w.heap.size+1,1,none⟩ (.slice a2 (pre.length+1) c2)).ownsRow (w.heap.size+3) 9 1 (.slice a2 (pre.length+1) c2) (pre.length+1) ((pre.map λi=>.string (uK ts n i))++[.string tx]):=aG z _ _ (by show w.heap.size+1<w.heap.size+3;omega);rw[<- C]at p o3 r;have s3:=o3.size;have H:∀k,k<b.heap.size->k≠w.heap.size+1->(Value.slice a pre.length c).ownBlock≠some k->l.heap[k]?=b.heap[k]?:=λk g o hf=>(o3.block k o).trans ((d.block k O0 (λe=>hf e.symm)).trans (u.block k g));have hf:=Qw (j:=1) m rfl;refine⟨Ew O0 (λk g o h _=>H k g o (hf▸h)) m.t (λq y=>⟨9,N9 ho (hf▸y)⟩) ?_,?_⟩
 ·rw[Qw p rfl,hf];rcases A with e|e
  ·exact .inl e
  exact .inr ⟨_,e,O0⟩
 have s:(pre++[x]).length=pre.length+1:=O4;refine⟨⟨a2,c2,?_,?_⟩,?_,?_,O0⟩
 ·rw[s];exact p
 ·rw[s,Gl,Hr,aF,<- v];exact r
 ·exact(H _ O0 O0 (λe=>by have:=Y6 ho e;omega)).trans h.rb
 exact⟨o3.os.trans (d.os.trans h.bw.os),o3.tape.trans (d.tape.trans h.bw.tape),o3.output.trans (d.output.trans h.bw.output),by have:=h.bw.size;omega,λk g=>(H k O0 O0 (λe=>by have:=Y6 ho e;omega)).trans (h.bw.block k g)⟩
theorem oQ(h:n=rs.length):(List.finRange n).map (Px rs n)=rs:=by
 subst h;apply Qy
 ·simp
 intro i hi1 a;simp[Px,List.getD,D9 a]
theorem PL(rs:List R3)(vs:List Value)(y:R3)(v:Value)(h:vs.length=rs.length):rC (rs++[y]) (vs++[v])=rC rs vs++[.string y.key,v,.string y.out]:=by
 unfold rC;rw[L9,Aj,yD,Vq]
 congr 1
 ·rw[List.flatMap_def,List.flatMap_def]
  congr 1
  apply Zu;intro i c;have b:=yt.1 c;have e1:(rs++[y]).getD i j_=rs.getD i j_:=by simp only[List.getD,R_ b]
  have a:(vs++[v]).getD i undef=vs.getD i undef:=by simp only[List.getD,R_ (show i<vs.length by omega)]
  rw[e1,a]
 have e1:(rs++[y]).getD rs.length j_=y:=by simp[List.getD]
 have a:(vs++[v]).getD rs.length undef=v:=by simp[List.getD,<- h]
 simp only[Ag,List.flatMap_nil,Gv,e1,a]
theorem V9{t:Nat}(h:Oj W b t)(a:Oj W b c):t=c:=by
 obtain⟨cur,fr,h⟩:=h;obtain⟨cur',fr',a⟩:=a;rw[h]at a;cases a;rfl
theorem LV{V1 O v r:World}{p o:OA}{D m l z:Nat}{pre:List (Fin n)}{x:Fin n}{y:R3}{vs:List Value}(h:S2 w W0 ts rs a c D n pre V1)(L:Cl V1 (w.heap.size+1) 49 [.int .i64 W0,.slice a ts.length c,.slice a2 pre.length c2])(ho:Yg V1 (w.heap.size+3) (.slice a2 pre.length c2) (pre.map (Px rs n)) vs)
 (hy:y=Px rs n x) (hBx:w.heap.size+3<=z) (lX:z<V1.heap.size) (P:Oj V1 z 176) (hfx:(Value.slice a2 pre.length c2).ownBlock≠some z) (C:Bw V1 f) (u:f.ownsRow V1.heap.size 256 3 (.slice p y.gs.length m) y.gs.length (gC y.gs))
 (H4:∀k,k<f.heap.size->k≠z->v.heap[k]?=f.heap[k]?) (s4:v.heap.size=f.heap.size+1) (Q:v.os=f.os/\v.tape=f.tape/\v.output=f.output)
 (hown:O.ownsRow (w.heap.size+3) 176 3 (.slice o (pre.length+1) l) (pre.length+1) (rC (pre.map (Px rs n)) vs++[.string y.key,(.slice p y.gs.length m),.string y.out])) (A:v.grownBy O (Value.slice a2 pre.length c2).ownBlock) (hloc:(Value.slice o (pre.length+1) l).ownBlock=(Value.slice a2 pre.length c2).ownBlock\/(Value.slice o (pre.length+1) l).ownBlock=some v.heap.size) (e6:r=O.setCell ⟨w.heap.size+1,2,none⟩ (.slice o (pre.length+1) l)):
 (KeepsFrom B V1 r/\Uz (w.heap.size+1) 2 176 V1 r)/\S2 w W0 ts rs a c D n (pre++[x]) r:=by
 have hz:=h.sz;have s12:=C.size;have s5:=A.size;have hrl:∀k,(Value.slice a2 pre.length c2).ownBlock=some k->k<V1.heap.size:=λk e=>Oe ho.row e;have neS:some (w.heap.size+1)≠(Value.slice a2 pre.length c2).ownBlock:=row_ne ho.row O0;have X:=(Cl.gr ((H4 _ O0 O0).trans (L.below C O0)) A neS).set 2 (.slice o (pre.length+1) l);have o3:=Tc O (w.heap.size+1) 2 (.slice o (pre.length+1) l);have N:=aG hown ⟨w.heap.size+1,2,none⟩ (.slice o (pre.length+1) l) (by show w.heap.size+1<w.heap.size+3;omega);rw[<- e6]at X o3 N;have s6:=o3.size;have H2:∀k,k<f.heap.size->k≠z->k≠w.heap.size+1->(Value.slice a2 pre.length c2).ownBlock≠some k->r.heap[k]?=f.heap[k]?:=λk s W F V=>(o3.block k F).trans ((A.block k O0 (λe=>V e.symm)).trans (H4 k s W));have J:∀k,k<V1.heap.size->k≠z->k≠w.heap.size+1->(Value.slice a2 pre.length c2).ownBlock≠some k->r.heap[k]?=V1.heap[k]?:=λk s W F V=>(H2 k O0 W F V).trans (C.block k s);have HT:∀k t,Oj V1 k t->t≠176->k≠w.heap.size+1->r.heap[k]?=V1.heap[k]?:=λk t hT ht F=>J k (by obtain⟨cur,fr,e⟩:=hT;exact(Ua.1 e).1) (λe=>ht (by subst e;exact V9 hT P)) F (λe=>ht (V9 hT (N9 ho.row e)));have bT:Bw w r:=⟨(o3.os.trans (A.os.trans (Q.1.trans C.os))).trans h.bw.os,(o3.tape.trans (A.tape.trans (Q.2.1.trans C.tape))).trans h.bw.tape,(o3.output.trans (A.output.trans (Q.2.2.trans C.output))).trans h.bw.output,by have:=h.bw.size;omega,λk s=>(J k O0 O0 O0 (λe=>by have:=Y6 ho.row e;omega)).trans (h.bw.block k s)⟩;have hf:=Qw (j:=2) L rfl;refine⟨Ew O0 (λk s hS h N=>J k s (λe=>N (e▸P)) hS (hf▸h)) L.t (λq b=>⟨176,N9 ho.row (hf▸b)⟩) ?_,?_⟩
 ·rw[Qw X rfl,hf];rcases hloc with e|e
  ·exact .inl e
  exact .inr ⟨_,e,O0⟩
 have el:(pre++[x]).length=pre.length+1:=O4;have em:(pre++[x]).map (Px rs n)=pre.map (Px rs n)++[y]:=by rw[Gl,hy];rfl
 have d:(pre.map (Px rs n)).length=pre.length:=Je ..;have h5T:=a_ (G7 u (λq b=>H2 q (Oe u b) (λe=>by have:=Y6 u b;omega) (λe=>by have:=Y6 u b;omega) (λe=>by have:=hrl q e;have:=Y6 u b;omega))) O0;have K:∀i,i<pre.length->(vs++[Value.slice p y.gs.length m]).getD i undef=vs.getD i undef:=λi g=>by simp only[List.getD,R_ (show i<vs.length by rw[ho.len,d];exact g)]
 have R:(vs++[Value.slice p y.gs.length m]).getD pre.length undef=(.slice p y.gs.length m):=by simp[List.getD,show pre.length=vs.length by rw[ho.len,d]]
 have hrl2:∀i,i<pre.length->(pre.map (Px rs n)++[y]).getD i j_=(pre.map (Px rs n)).getD i j_:=λi g=>by simp only[List.getD,R_ (show i<(pre.map (Px rs n)).length by rw[d];exact g)]
 have hrn:(pre.map (Px rs n)++[y]).getD pre.length j_=y:=by simp[List.getD]
 have Y:∀i,i<pre.length->∀q,(vs.getD i undef).ownBlock=some q->q<V1.heap.size:=λi g q b=>by
  obtain⟨a3,c3,e,H⟩:=ho.gl i (by rw[d];exact g);rw[e]at b;exact Oe H b
 refine⟨⟨o,l,vs++[(.slice p y.gs.length m)],by rw[el];exact X,?_⟩,?_,?_,bT,O0,by have:=h.dl;omega,?_⟩
 ·rw[el,em];refine⟨by simp[ho.len],?_,λi g=>?_,λi j g hj hij=>?_⟩
  ·rw[PL _ _ _ _ ho.len,L9,d];exact N
  ·rw[L9,d,Aj]at g;rcases P7 i pre.length with S|hge
   ·rw[K i S,hrl2 i S];obtain⟨a3,c3,e,H⟩:=ho.gl i (by rw[d];exact S);exact⟨a3,c3,e,G7 H (λq b=>HT q 256 (N9 H b) J6 (λe=>by have:=Y6 H b;omega))⟩
   obtain rfl:i=pre.length:=O0;rw[R,hrn];exact⟨p,m,rfl,h5T⟩
  rw[L9,d,Aj]at g hj;rcases P7 i pre.length with U|hgi
  ·rw[K i U];rcases P7 j pre.length with E|hgj
   ·rw[K j E];exact ho.apart i j (by rw[d];exact U) (by rw[d];exact E) hij
   obtain rfl:j=pre.length:=O0;rw[R]
   cases b:(vs.getD i undef).ownBlock with
   | none=>exact .inl rfl
   | some q=>
    refine .inr λe=>?_;have:=Y i U q b;have:=Y6 u e.symm;omega
  obtain rfl:i=pre.length:=O0;rw[R];have E:j<pre.length:=O0;rw[K j E]
  cases b:(Value.slice p y.gs.length m).ownBlock with
  | none=>exact .inl rfl
  | some q=>
   refine .inr λe=>?_;have:=Y j E q e.symm;have:=Y6 u b;omega
 ·exact G7 h.tr (λq b=>HT q 9 (N9 h.tr b) J6 (λe=>by have:=Y6 h.tr b;omega))
 ·exact(J w.heap.size O0 O0 O0 (λe=>by have:=Y6 ho.row e;omega)).trans h.rb
 have Z:=h.dd;refine(J D h.dl (λe=>?_) (λe=>?_) (λe=>?_)).trans h.dd
 ·obtain⟨cur,fr,I⟩:=P;rw[<- e,h.dd]at I;cases I
 ·rw[e,L]at Z;cases Z
 obtain⟨cur,fr,I⟩:=N9 ho.row e;rw[h.dd]at I;cases I
theorem a5a(B H bT bR bP:Nat)(W:Int)(ts:LB)(rs:List R3)(rv:List Value)(w:World)(hSh:Sh B H bT bR bP W (ts.map (gT W)) rs rv w)(hW:1<=W/\W<=8)(htl:ts.length<=1000)(hrl:rs.length<=1000)(hgs:∀i,(rs.getD i j_).gs.length<=1048576):
 Calls prog 118 #[.pointer (some ⟨H,0,none⟩)] w λe w'=>(∃ta tc ra rc',e=.returned (.agg #[.int .i64 W,.slice ta ts.length tc,.slice ra rs.length rc'])/\Bd w' w.heap.size ts rs (.slice ta ts.length tc) (.slice ra rs.length rc'))/\Bw w w':=by
 obtain⟨pl,O,hR⟩:=hSh;have a5G:=O.lt;have B0:Bw w (w.alloc (.cells #[.int .i64 0,.slice none 0 0,.slice none 0 0] 49)):=P6;have B1:Bw w ((w.alloc (.cells #[.int .i64 0,.slice none 0 0,.slice none 0 0] 49)).alloc (.cells #[.int .i64 W,.slice none 0 0,.slice none 0 0] 49)):=B0.alloc O4 _;have B2:Bw w (((w.alloc (.cells #[.int .i64 0,.slice none 0 0,.slice none 0 0] 49)).alloc (.cells #[.int .i64 W,.slice none 0 0,.slice none 0 0] 49)).alloc (.cells #[.map (some bT)] 272)):=B1.alloc X7 _;have z3:(((w.alloc (.cells #[.int .i64 0,.slice none 0 0,.slice none 0 0] 49)).alloc (.cells #[.int .i64 W,.slice none 0 0,.slice none 0 0] 49)).alloc (.cells #[.map (some bT)] 272)).heap.size=w.heap.size+3:=O4;have h0:=(O.below B0).blk 0 _ rfl;have h1:=(O.below B1).blk 1 _ rfl;have M2:=U0 (O.below B2).tx;have hfK:Fence.wide.fn 174:=trivial;have hfL:Fence.wide.fn 175:=trivial;have CS:Cl (((w.alloc (.cells #[.int .i64 0,.slice none 0 0,.slice none 0 0] 49)).alloc (.cells #[.int .i64 W,.slice none 0 0,.slice none 0 0] 49)).alloc (.cells #[.map (some bT)] 272)) (w.heap.size+1) 49 [.int .i64 W,.slice none 0 0,.slice none 0 0]:=G8 (by have h:=U3 (w.alloc (.cells #[.int .i64 0,.slice none 0 0,.slice none 0 0] 49)) [.int .i64 W,.slice none 0 0,.slice none 0 0] 49;simpa using h) _;have CM:Cl (((w.alloc (.cells #[.int .i64 0,.slice none 0 0,.slice none 0 0] 49)).alloc (.cells #[.int .i64 W,.slice none 0 0,.slice none 0 0] 49)).alloc (.cells #[.map (some bT)] 272)) (w.heap.size+2) 272 [.map (some bT)]:=by have h:=U3 ((w.alloc (.cells #[.int .i64 0,.slice none 0 0,.slice none 0 0] 49)).alloc (.cells #[.int .i64 W,.slice none 0 0,.slice none 0 0] 49)) [.map (some bT)] 272;simpa using h
 have hf0:=Qw (j:=1) CS rfl;have hks:∀p∈ts.map (gT W),p.1.size<=maxLen:=λp hp=>by
  obtain⟨t,_,rfl⟩:=Zm.1 hp;show(G6 t W).size<=maxLen;rw[pq hW];unfold maxLen;omega
 have a6C:=O.tx.lt;have I0:S1 w W ts (ts.map (gT W)).length [] (((w.alloc (.cells #[.int .i64 0,.slice none 0 0,.slice none 0 0] 49)).alloc (.cells #[.int .i64 W,.slice none 0 0,.slice none 0 0] 49)).alloc (.cells #[.map (some bT)] 272)):=⟨⟨none,0,CS,og _ _ _ _⟩,G8 (G8 (U3 w [.int .i64 0,.slice none 0 0,.slice none 0 0] 49) _) _,B2,O0⟩;obtain⟨i0,hi9,hz0,hz1,hz2⟩:=info_parts' info9;obtain⟨j0,hj9,jz0,jz1,jz2⟩:=info_parts' bQ;refine(callsIn_wide (n:=11)).1 ?_;refine callsIn_of_wp_marks func118 rfl trivial ?_ rfl;simp only[ntmps118,yB,x_,ve,Nat.reduceAdd,Nat.reduceSub,dA,Jy,UA,JA,Qb,Ff]
 gi_wp2_with (gi_at_call 174;refine(a4h _ _ _).mono ?_;rintro e w'⟨rfl,rfl⟩)
 generalize (((w.alloc (.cells #[.int .i64 0,.slice none 0 0,.slice none 0 0] 49)).alloc (.cells #[.int .i64 W,.slice none 0 0,.slice none 0 0] 49)).alloc (.cells #[.map (some bT)] 272))=U2 at*;have hm2:=CM.cell 0;refine wpIn_rangeFunc_ownH rfl O0 (gf:=244) (lb:=#[.pointer (some ⟨w.heap.size+2,0,none⟩)]) rfl trivial (enters_of func244 Y0 rfl)
  (a4q (w.heap.size+1) 1 (w.heap.size+2) bT _ (ts.map (gT W)) U2 O.ta hks (by simpa using htl) O0 hm2 M2.out CM.t O0 O0 O0 hf0)
  Uz.trans (ML O0) (J4 _ _) (λ_=>rfl)
  (λpre W'=>S1 w W ts (ts.map (gT W)).length pre W') (λ_ _ _=>False) (FP w W ts _ _ O0) (λ_ _ _ _ _ h _ _=>h) I0
  (λx a' W'=>∃g tx,tx=uK ts (ts.map (gT W)).length x/\w.heap.size+3<=g/\Cl W' g 280 [.string tx,.int .i64 (hC tx),.string (hT tx)]/\a'={ tmps:=#[.pointer (some ⟨H,0,none⟩),undef,.pointer (some ⟨w.heap.size,0,none⟩),.pointer (some ⟨w.heap.size+1,0,none⟩),.pointer (some ⟨g,0,none⟩),undef,.pointer (some ⟨H,0,none⟩),.pointer (some ⟨H,0,none⟩),.pointer (some ⟨H,0,none⟩),.int .i64 W,.agg #[.int .i64 W,.slice none 0 0,.slice none 0 0],.pointer (some ⟨H,0,none⟩),.pointer (some ⟨H,0,none⟩),.pointer (some ⟨H,1,none⟩),.map (some bT),.func (.func 244) #[] #[.pointer (some ⟨w.heap.size+2,0,none⟩)],.agg #[.string tx,.int .i64 (hC tx),.string (hT tx)],undef,undef,undef,undef,undef,undef,undef,undef,undef,undef,undef,undef,undef,undef,undef,undef,undef,undef,undef,undef,undef,undef,undef,undef],defers:=[] }) ?hax ?assign ?body ?done ?stop
 case hax=>
  rintro x a' s f W2 row⟨g,tx,h1,h2,Y,h5⟩ R hr;have hr2:∀r,row=some r->∃o:Obj,f.heap[r]?=some o/\o.isCells=false:=λr e=>(hr r e).2;exact⟨g,tx,h1,h2,Y.nc R hr2,h5⟩
 case assign=>
  intro l pre x f K d hK;have hvx:=a0s ts x;rw[hvx];generalize htx:uK ts (ts.map (gT W)).length x=tx at*;have R:=kJ f (.cells #[.string tx,.int .i64 (hC tx),.string (hT tx)] 280) none;have hi2:=FP w W ts (ts.map (gT W)).length (w.heap.size+3) Y8 pre f _ none d R (λ_ e=>by cases e);have hk2:=EC (W:=f) (w.heap.size+1) 1 280 (by have:=d.sz;omega) (.cells #[.string tx,.int .i64 (hC tx),.string (hT tx)] 280);have N:=U3 f [.string tx,.int .i64 (hC tx),.string (hT tx)] 280;have hz:=d.sz
  gi_wp2
  exact hK _ _ ((KeepsOthers.alloc _ _).from _) hk2 hi2 ⟨f.heap.size,tx,rfl,hz,N,rfl⟩
 case body=>
  rintro l pre x a' f hl⟨r,hr⟩ d ⟨g,tx,htx,hBx,S,rfl⟩ hlt;have HTX:=U0 htx;clear htx;obtain⟨a,c,u,I⟩:=d.ex;have hz:=d.sz;have x0:=S.cell 0;have y1:=u.cell 1;have f1:=u.opn 1;have HO:=U0 (I.alloc (.cells #[.string tx] 9));have HS0:=U0 d;have HB0:=U0 u;have HR0:=U0 I;have hpl:pre.length<=1000:=by have e:(ts.map (gT W)).length=ts.length:=Je ..;omega
  have bN:Bw f (f.alloc (.cells #[.string tx] 9)):=P6;have sN:(f.alloc (.cells #[.string tx] 9)).heap.size=f.heap.size+1:=O4;clear d u I S hr;have hmark:=trivial
  gi_wp2_with (gi_at_builtin;refine wpListIn_append_own_at _ rfl _ _ 22 rfl (w.heap.size+3) 9 i0 (.string ⟨#[]⟩) 1 16 underlying22 hi9 hz0 hz1 hz2 rfl J6 _ _ _ rfl HO.out ⟨f.heap.size,0,none⟩ 1 1 [.string tx] rfl rfl (cell_one_new _ _ _) (by simp[Value.oneCell']) (by unfold maxLen;omega) O0 O0 ?_;revert hmark)
  intro v2 w2 hown hgrow _ hloc;obtain⟨a2,c2,rfl⟩:=Z9 hown;have neS:=row_ne (k:=w.heap.size+1) HR0 O0;have b2:=(HB0.out.below bN O0).gr hgrow neS;have g1:=b2.cell 1;have fz:=b2.opn 1;have HST:=U0 (WU (B:=U2.heap.size) HS0 HB0 HR0 HTX hown hgrow hloc rfl)
  gi_wp2
  exact⟨HST.out.1.1,HST.out.1.2,HST.out.2⟩
 case done=>
  rintro D xs f hD hxs d hKd;subst hxs;obtain⟨a,c,u,I⟩:=kY d;have hz:=d.sz;have BW1:=d.bw;have hDl:=(Ua.1 hKd).1;have h2:=(O.below BW1).blk 2 _ rfl;have HM:=U0 ((O.below BW1).rc.alloc (.cells #[.map (some bR)] 273));have bX2:Bw f (f.alloc (.cells #[.map (some bR)] 273)):=P6;have sX2:(f.alloc (.cells #[.map (some bR)] 273)).heap.size=f.heap.size+1:=O4;have J0:S2 w W ts rs a c D rv.length [] (f.alloc (.cells #[.map (some bR)] 273)):=⟨⟨none,0,[],G8 u _,⟨rfl,og _ _ _ _,λi d=>absurd d (U7 _),λi j d=>absurd d (U7 _)⟩⟩,own_below I bX2,G8 d.rb _,d.bw.trans (bX2.mono O0),O0,O0,(bX2.block D hDl).trans hKd⟩;have CX:=U3 f [.map (some bR)] 273;have hbx2:=CX.cell 0;have hf2:=Qw (j:=2) (G8 u (.cells #[.map (some bR)] 273)) rfl;have a7r:=O.rc.lt;have hrec:∀i:Fin rv.length,∃m v,(rv[i.1]'(i.2))=.agg #[.string (Px rs rv.length i).key,.slice m (Px rs rv.length i).gs.length v,.string (Px rs rv.length i).out]/\W_ w m (Px rs rv.length i).gs:=λi=>WY hR i;have HRC:=U0 hrec;simp only[]
  gi_wp2_with (gi_at_call 175;refine(c175 _ _ _).mono ?_;rintro e w'⟨rfl,rfl⟩)
  generalize hX2:(f.alloc (.cells #[.map (some bR)] 273))=X2 at*;clear hX2;refine wpIn_rangeFunc_ownH rfl O0 (gf:=247) (lb:=#[.pointer (some ⟨f.heap.size,0,none⟩)]) rfl trivial (enters_of func247 Y0 rfl)
   (a3b (w.heap.size+1) 2 f.heap.size bR _ rv X2 (by have:=hR.len;omega) O0 hbx2 HM.out CX.t O0 O0 O0 hf2)
   Uz.trans (ML O0) (J4 _ _) (λ_=>rfl)
   (λpre W'=>S2 w W ts rs a c D rv.length pre W') (λ_ _ _=>False) (ZO w W ts rs a c D _ _ O0 O0) (λ_ _ _ _ _ h _ _=>h) J0
   (λx a' W'=>∃g y m v,y=Px rs rv.length x/\w.heap.size+3<=g/\W_ w m y.gs/\Cl W' g 176 [.string y.key,.slice m y.gs.length v,.string y.out]/\Oj W' (w.heap.size+1) 49/\fB W' (w.heap.size+1) 2≠some g/\a'={ tmps:=#[.pointer (some ⟨H,0,none⟩),undef,.pointer (some ⟨w.heap.size,0,none⟩),.pointer (some ⟨w.heap.size+1,0,none⟩),undef,.pointer (some ⟨g,0,none⟩),.pointer (some ⟨H,0,none⟩),.pointer (some ⟨H,0,none⟩),.pointer (some ⟨H,0,none⟩),.int .i64 W,.agg #[.int .i64 W,.slice none 0 0,.slice none 0 0],.pointer (some ⟨H,0,none⟩),.pointer (some ⟨H,0,none⟩),.pointer (some ⟨H,1,none⟩),.map (some bT),.func (.func 244) #[] #[.pointer (some ⟨w.heap.size+2,0,none⟩)],undef,undef,undef,undef,undef,undef,undef,undef,.pointer (some ⟨H,0,none⟩),.pointer (some ⟨H,0,none⟩),.pointer (some ⟨H,2,none⟩),.map (some bR),.func (.func 247) #[] #[.pointer (some ⟨f.heap.size,0,none⟩)],.agg #[.string y.key,.slice m y.gs.length v,.string y.out],undef,undef,undef,undef,undef,undef,undef,undef,undef,undef,undef],defers:=[] }) ?a6D ?assign2 ?body2 ?done2 ?stop2
  case a6D=>
   rintro x a' s V1 L row⟨g,y,m,v,h1,h2,Y,h4,h9,h10,h8⟩ R hr;have hr2:∀r,row=some r->∃o:Obj,V1.heap[r]?=some o/\o.isCells=false:=λr e=>(hr r e).2;have hb:=uT h9 hr2;obtain⟨cur,fr,e9⟩:=h9;have e10:=(R.block _ (Ua.1 e9).1 hb).trans e9;refine⟨g,y,m,v,h1,h2,Y,h4.nc R hr2,⟨cur,fr,e10⟩,?_,h8⟩;unfold fB World.cell? at h10 ⊢;rw[e10]
   rwa[e9]at h10
  case assign2=>
   intro l pre x V1 K d hK;obtain⟨m,v,hvx,J⟩:=HRC.out x;rw[hvx];generalize hy:Px rs rv.length x=y at*;have R:=kJ V1 (.cells #[.string y.key,.slice m y.gs.length v,.string y.out] 176) none;have hi2:=ZO w W ts rs a c D rv.length (D+1+(w.heap.size+3)) O0 O0 pre V1 _ none d R (λ_ e=>by cases e);have hk2:=EC (W:=V1) (w.heap.size+1) 2 176 (by have:=d.sz;omega) (.cells #[.string y.key,.slice m y.gs.length v,.string y.out] 176);have N:=U3 V1 [.string y.key,.slice m y.gs.length v,.string y.out] 176;have hz:=d.sz;obtain⟨a2,c2,vs,hb,ho⟩:=d.ex;have hb3:=G8 hb (.cells #[.string y.key,.slice m y.gs.length v,.string y.out] 176);have hfx:fB (V1.alloc (.cells #[.string y.key,.slice m y.gs.length v,.string y.out] 176)) (w.heap.size+1) 2≠some V1.heap.size:=by
    rw[Qw hb3 rfl];intro Z;have:=Oe ho.row Z;omega
   clear hvx
   gi_wp2
   exact hK _ _ ((KeepsOthers.alloc _ _).from _) hk2 hi2 ⟨V1.heap.size,y,m,v,rfl,hz,J,N,hb3.t,hfx,rfl⟩
  case body2=>
   rintro l pre x a' V1 hl⟨r,hr⟩ d ⟨g,y,m,v,hy,hBx,J,S,_,hfx,rfl⟩ hlt;have HY:=U0 hy;have hgl:y.gs.length<=1048576:=by rw[hy];exact hgs _
   clear hy;obtain⟨a2,c2,vs,u,I⟩:=d.ex;have hz:=d.sz;have x1:=S.cell 1;have f1:=S.opn 1;have lX:=S.lt;rw[Qw u rfl]at hfx;have HS0:=U0 d;have HB0:=U0 u;have HR0:=U0 I;have HBX:=U0 S;have HFX:=U0 hfx;have h69:=a2O m v y.gs V1 hgl (V8 J d.bw);have hpl:pre.length<=1000:=by have:=hR.len;omega
   clear d u I S hr hfx J;have hmark:=trivial;have hfC:Fence.wide.fn 176:=trivial
   gi_wp2_with (first|(gi_at_call 176;refine(CallsIn.inRound l (callsIn_wide.2 h69)).mono ?_;revert hmark)|(refine⟨trivial,?_⟩;gi_at_call 176;refine(CallsIn.inRound l (callsIn_wide.2 h69)).mono ?_;revert hmark))
   rintro _ e L⟨⟨E,C,rfl,h5⟩,N⟩;have s2:=N.size;have H5:=U0 h5;have b2:=HBX.out.below N lX;have g1:=b2.cell 1;have g2:=b2.opn 1;have b3:=b2.set 1 (.slice E y.gs.length C);have k0:=b3.cell 0;have k1:=b3.cell 1;have k2:=b3.cell 2;have q2:=((HB0.out.below N O0).on (Tc L g 1 (.slice E y.gs.length C)) O0).cell 2;have hrb:∀k,(Value.slice a2 pre.length c2).ownBlock=some k->k<V1.heap.size/\k≠g:=λk e=>⟨Oe HR0.out.row e,λZ=>HFX.out (Z▸e)⟩;have HO:Hid (((L.setCell ⟨g,1,none⟩ (.slice E y.gs.length C)).alloc (.cells #[.string y.key,.slice E y.gs.length C,.string y.out] 176)).ownsRow (w.heap.size+3) 176 3 (.slice a2 pre.length c2) pre.length (rC (pre.map (Px rs rv.length)) vs)):=by
    have h:=HR0.out.row;rw[Je]at h;exact G7 h (λq A=>((Lr _ _ q (by have:=(hrb q A).1;simp;omega)).trans (vz _ _ _ _ (by exact(hrb q A).2))).trans (N.block q (hrb q A).1))
   have HC4:Cl ((L.setCell ⟨g,1,none⟩ (.slice E y.gs.length C)).alloc (.cells #[.string y.key,.slice E y.gs.length C,.string y.out] 176)) L.heap.size 176 [.string y.key,.slice E y.gs.length C,.string y.out]:=by have h:=U3 (L.setCell ⟨g,1,none⟩ (.slice E y.gs.length C)) [.string y.key,.slice E y.gs.length C,.string y.out] 176;simpa using h
   have V:=U0 (jm HC4);have H4:Hid (∀k,k<L.heap.size->k≠g->((L.setCell ⟨g,1,none⟩ (.slice E y.gs.length C)).alloc (.cells #[.string y.key,.slice E y.gs.length C,.string y.out] 176)).heap[k]?=L.heap[k]?):=λk X hne=>(Lr _ _ k (by simpa using X)).trans (vz _ _ _ _ (by exact hne));have s4:((L.setCell ⟨g,1,none⟩ (.slice E y.gs.length C)).alloc (.cells #[.string y.key,.slice E y.gs.length C,.string y.out] 176)).heap.size=L.heap.size+1:=O4;have hmark:=trivial
   gi_wp2_with (gi_at_builtin;refine wpListIn_append_own_at _ rfl _ _ 47 rfl (w.heap.size+3) 176 j0 (.agg #[.string ⟨#[]⟩,.slice none 0 0,.string ⟨#[]⟩]) 3 56 underlying47 hj9 jz0 jz1 jz2 rfl J6 _ _ _ rfl HO.out ⟨L.heap.size,0,none⟩ 1 1 [.string y.key,.slice E y.gs.length C,.string y.out] rfl rfl V.out (by simp[Value.oneCell']) (by unfold maxLen;omega) O0 O0 ?_;revert hmark)
   intro v6 V5 hown hgrow _ hloc;obtain⟨a6,a7f,rfl⟩:=Z9 hown;have HST:=U0 (LV (B:=X2.heap.size) HS0 HB0 HR0 HY hBx lX HBX.out.t HFX N H5 H4 s4 ⟨rfl,rfl,rfl⟩ hown hgrow (by rw[s4];exact hloc) rfl);have b4:=Cl.gr ((H4 _ O0 O0).trans (HB0.out.below N O0)) hgrow (row_ne HO O0);have m1:=b4.cell 2;have m2:=b4.opn 2
   gi_wp2
   exact⟨HST.out.1.1,HST.out.1.2,HST.out.2⟩
  case done2=>
   rintro D2 xs W2 hD2 hxs d a5Z;subst hxs;obtain⟨a2,c2,vs,u,I⟩:=d.ex;have el:(List.finRange rv.length).length=rs.length:=by simp[hR.len]
   have em:=oQ hR.len;rw[el]at u I;rw[em]at I;have y0:=u.cell 0;have y1:=u.cell 1;have y2:=u.cell 2;have z0:=d.rb.cell 0;have z1':=d.rb.cell 1;have z2':=d.rb.cell 2;have r0:=d.rb.opn 0;have r1:=d.rb.opn 1;have r2:=d.rb.opn 2;have U:=U0 d;have V:=U0 I;have hzz:=U.out.sz;have hDD:D≠D2:=O0;obtain⟨F,hF⟩:∃F,F=(((W2.setCell ⟨w.heap.size,0,none⟩ (.int .i64 W)).setCell ⟨w.heap.size,1,none⟩ (.slice a ts.length c)).setCell ⟨w.heap.size,2,none⟩ (.slice a2 rs.length c2)):=⟨_,rfl⟩;have Q:Wx w.heap.size W2 F:=hF▸⟨rfl,rfl,rfl,O4,λk X=>(VD _ _ _ _ X).trans ((VD _ _ _ _ X).trans (VD _ _ _ _ X))⟩;have ZE:Cl F w.heap.size 49 [.int .i64 W,.slice a ts.length c,.slice a2 rs.length c2]:=hF▸((U.out.rb.set 0 (.int .i64 W)).set 1 (.slice a ts.length c)).set 2 (.slice a2 rs.length c2);have q2:=(Q.block D2 O0).trans a5Z;have q1:=(Q.block D O0).trans U.out.dd;obtain⟨G,J⟩:∃G,G=(F.putObj D2 (.deferred none)).putObj D (.deferred none):=⟨_,rfl⟩;have oG:∀q,q≠D->q≠D2->G.heap[q]?=F.heap[q]?:=λq h1 h2=>J▸(World.putObj_heap_other h1).trans (World.putObj_heap_other h2);have HFh:∀q t,Oj W2 q t->q≠w.heap.size->G.heap[q]?=W2.heap[q]?:=λq t hT A=>by
    obtain⟨cur,fr,e⟩:=hT;exact(oG q (λZ=>by rw[Z,U.out.dd]at e;cases e) (λZ=>by rw[Z,a5Z]at e;cases e)).trans (Q.block q A)
   have a6E:Hid (Bd G w.heap.size ts rs (.slice a ts.length c) (.slice a2 rs.length c2)):=by
    show Bd _ _ _ _ _ _;refine⟨a_ (G7 U.out.tr (λq A=>HFh q 9 (N9 U.out.tr A) (λe=>by have:=Y6 U.out.tr A;omega))) O0,vs,V.out.len,a_ (G7 V.out.row (λq A=>HFh q 176 (N9 V.out.row A) (λe=>by have:=Y6 V.out.row A;omega))) O0,λi d=>?_,V.out.apart⟩;obtain⟨a3,c3,e,Y⟩:=V.out.gl i d;exact⟨a3,c3,e,a_ (G7 Y (λq A=>HFh q 256 (N9 Y A) (λe=>by have:=Y6 Y A;omega))) O0⟩
   have HZE:Cl G w.heap.size 49 [.int .i64 W,.slice a ts.length c,.slice a2 rs.length c2]:=(oG _ O0 O0).trans ZE;have HBE:Hid (Bw w G):=by
    have b:=U.out.bw;have z:=Q.size;exact⟨by rw[J];exact Q.os.trans b.os,by rw[J];exact Q.tape.trans b.tape,by rw[J];exact Q.output.trans b.output,by rw[J];simp;have:=b.size;omega,λk X=>(oG k O0 O0).trans ((Q.block k O0).trans (b.block k X))⟩
   rw[hF]at q1 q2 J;simp only[]
   gi_wp2
   refine⟨O4,.inl ⟨_,_,rfl,run_takeDeferred q2,⟨O4,.inl ⟨_,_,rfl,run_takeDeferred ((World.putObj_heap_other hDD).trans q1),?_⟩⟩⟩⟩;rw[<- J];exact⟨_,I8 (P:=prog) (ty:=49) rfl _ _ w.heap.size [.int .i64 W,.slice a ts.length c,.slice a2 rs.length c2] _ rfl HZE.blk underlying49 rfl Y0,⟨a,c,a2,c2,rfl,a6E⟩,HBE⟩
  case stop2=>
   rintro D c' pre V1 _ _ h _;exact h.elim
 case stop=>
  rintro D c' pre f _ _ h _;exact h.elim

import Derived.Test.YtkccjgajimjjdaaGreatDooreYI
import Derived.Test.YtkccjgajimjjdaaGreatDoortT0
import Derived.Maps.RangeWalk
import Derived.Laws.IdiomRangeMap
import Derived.Test.YtkccjgajimjjdaaGreatDooreB5
set_option linter.unusedVariables false
set_option maxHeartbeats 8000000
set_option maxRecDepth 100000
namespace Go.Proofs.YtkccjgajimjjdaaGreatDoor
open Proofs.Tryz Go.RowKit Go.Maps
variable{B H b bP bR bT n p:Nat}{w w':World}{W:Int}{l pl:List (ByteArray×Value)}{rv:List Value}{v:Value}{zs:List Int}{rs:List R3}{P:Program}{ops:Array Oper}{o:Oper}{a:Act}{K:Act->World->Prop}{Q:Exit->Act->World->Prop}{x:R3}{key:BY}{is:List L4}
def Sh(B H bT bR bP:Nat)(W:Int)(l:List (ByteArray×Value))(rs:List R3)(rv:List Value)(w:World):Prop:=∃pl,XB B H bT bR bP W l rv pl w/\ShR B rs rv pl w
theorem Sv{es:Array MapEntry}{c:Nat}(hB:B<=b)(hm:w.heap[b]?=some (.map es c)):YK B w (some b):=λj e=>by
 cases e
 exact⟨hB,λcur fr e=>by rw[hm]at e;simp at e⟩
theorem XB.neH(h:XB B H bT bR bP W l rv pl w){k:TypeId}{R:Value->Option (DataW Value×List MemPlace)}{b n:Nat}{D:DataW Value}(hm:w.ownsMap prog k R b n D):some H≠some b:=λe=>by
 obtain⟨es,ck,a⟩:=Ii hm;exact yh (h.blk 0 _ rfl) a (I_ e)
theorem XB.upR{b:List Value}(h:XB B H bT bR bP W l rv pl w)(a:w.grownBy w' (some bR))(hm:w'.ownsMap prog 3 Ub bR b.length (intD b)):XB B H bT bR bP W l b pl w':=
 ⟨h.hH,h.hT,h.hR,h.hP,U9 h.lt a.size,h.n1,h.n2,h.n3,Ob h.blk a h.lt (h.neH h.rc),h.tx.kept a (λe=>h.n1 (I_ e)),h.ta,hm,h.pc.kept a (λe=>h.n3 (I_ e).symm),h.pa,h.ty.kept a (h.neH h.rc)⟩
theorem XB.upP{b:List (ByteArray×Value)}(h:XB B H bT bR bP W l rv pl w)(a:w.grownBy w' (some bP))(hm:w'.ownsMap prog 9 Ub bP b.length (mapD b))(ha:Asc b):XB B H bT bR bP W l rv b w':=
 ⟨h.hH,h.hT,h.hR,h.hP,U9 h.lt a.size,h.n1,h.n2,h.n3,Ob h.blk a h.lt (h.neH h.pc),h.tx.kept a (λe=>h.n2 (I_ e)),h.ta,h.rc.kept a (λe=>h.n3 (I_ e)),hm,ha,h.ty.kept a (h.neH h.pc)⟩
theorem XB.upT{b:List (ByteArray×Value)}(h:XB B H bT bR bP W l rv pl w)(a:w.grownBy w' (some bT))(hm:w'.ownsMap prog 9 Ub bT b.length (mapD b))(ha:Asc b):XB B H bT bR bP W b rv pl w':=
 ⟨h.hH,h.hT,h.hR,h.hP,U9 h.lt a.size,h.n1,h.n2,h.n3,Ob h.blk a h.lt (h.neH h.tx),hm,ha,h.rc.kept a (λe=>h.n1 (I_ e).symm),h.pc.kept a (λe=>h.n2 (I_ e).symm),h.pa,h.ty.kept a (h.neH h.tx)⟩
theorem Sm(h:w.ownsInts B 3 .i64 v zs){es:Array MapEntry}{c:Nat}(hm:w.heap[b]?=some (.map es c)):v.ownBlock≠some b:=λe=>by
 obtain⟨_,_,cur,hc⟩:=qh h e;rw[hm]at hc;simp at hc
theorem Yl{t:TypeId}(h:w.ownsInts B 3 .i64 v zs)(hT:Ah w b t)(ht:t≠3):some b≠v.ownBlock:=λe=>by
 obtain⟨_,_,cur,hc⟩:=qh h e.symm;obtain⟨cur',fr,hT⟩:=hT;rw[hT]at hc;simp at hc;exact ht hc.2.1
theorem Fj{k:TypeId}{R:Value->Option (DataW Value×List MemPlace)}{D:DataW Value}(h:w.ownsInts B 3 .i64 v zs)(hm:w.ownsMap prog k R b n D):some b≠v.ownBlock:=λe=>by
 obtain⟨es,ck,a⟩:=Ii hm;exact Sm h a e.symm
theorem ints_at{k:BY}(R:ShR B rs rv pl w)(hv:(Ya pl k).getD (.slice none 0 0)=v)(a:Bw w w'):w'.ownsInts B 3 .i64 v (gy rs k):=by
 cases hq:Ya pl k with
 | none=>
  rw[hq]at hv;subst hv;rw[R.non k hq];exact World.ownsInts_nil _ _ _ _
 | some u=>
  rw[hq]at hv;subst hv;exact(R.grp k u hq).kept (Yf a) (by cases u.ownBlock<;>simp)
theorem ul{E:Prop}
 (y:o.guard=none) (s x:Operand) (t:TypeId) (q:o.op=Op.call { callee:=Callee.builtin Builtin.append,args:=#[s,x],argTypes:=#[t,t] })
 (base:Nat) (e:TypeId) (i:TypeInfo) (z:Value) (size bytes:Nat) (h1:P.underlying t=some (.slice e)) (h2:P.info? e=some i) (I:i.zero=some z) (H:i.size=size) (F:i.bytes=bytes) (D:z.cells.size=size) (C:0<size)
 (v:Value) (n:Nat) (xs:List Value) (k:a.eval s=v) (p:w.ownsRow base e size v n xs)
 (d:Addr) (m c:Nat) (b:List Value) (hx:a.eval x=.slice (some d) m c) (r:b.length=m*size) (hc:∀j u,b[j]?=some u->w.cell? (d.add j)=some u) (J:∀u∈b,u.oneCell'=true)
 (N:n+m<=maxLen) (L:(n+m)*bytes<=140737488355328) (A:base<=w.heap.size)
 (B:∀v' w',w'.ownsRow base e size v' (n+m) (xs++b)->w.grownBy w' v.ownBlock->(v'.ownBlock=v.ownBlock\/v'.ownBlock=some w.heap.size)->K (a.put o.dst v') w'):
 if Region.wanted o (yielded ops a.tmps)=true then Oper.wp P o a w K Q else E:=by
 have hw:Region.wanted o (yielded ops a.tmps)=true:=by simp[Region.wanted,y]
 rw[L8 hw];obtain⟨v',w',l,h,g,_,f⟩:=run_append_own_at (P:=P) w base t o.type e i z size bytes h1 h2 I H F D C v n xs p d m c b r hc J N L A;unfold Oper.wp;simp[execOp,q,resolve,invoke,builtin,k,hx,l,Result.andThen];exact B v' w' h g f
theorem JL{E:Prop}(d:o.guard=none)(t:TypeId)(m x:Operand)(ok:Bool)(ho:o.op=Op.lookup t m x ok)(c b:Value){r:Value}
 (hm:a.eval m=c) (hx:a.eval x=b) (hr:(Instr.lookup t c b ok).run P w=.ok r w) (h:K (a.put o.dst r) w):
 if Region.wanted o (yielded ops a.tmps)=true then Oper.wp P o a w K Q else E:=by
 have hw:Region.wanted o (yielded ops a.tmps)=true:=by simp[Region.wanted,d]
 rw[L8 hw];unfold Oper.wp;simp[execOp,ho,hm,hx,hr,Result.andThen];exact h
theorem info3:(prog.info? 3).map (λi=>(i.zero,i.size,i.bytes))=some (some (.int .i64 0),1,8):=Y1
theorem ShR.push{u1 u2 u3 u4:World}{V v':Value}(R:ShR B rs rv pl u1)(X:qC B u1 V x)(hA:Asc pl)(hv:(Ya pl x.key).getD (.slice none 0 0)=v)(r:Bw u1 u2)(hs2:B<=u2.heap.size)
 (q:u2.grownBy u3 v.ownBlock) (ho:u3.ownsRow B 3 1 v' n ((gy rs x.key).map (Value.int .i64)++[.int .i64 (rs.length:Nat)])) (I:n=(gy rs x.key).length+1) (E:v'.ownBlock=v.ownBlock\/v'.ownBlock=some u2.heap.size) (g:u3.grownBy u4 (some bP)) (L:B<=bP) {es:Array MapEntry} {N:Nat} (hm:u3.heap[bP]?=some (.map es N)) (hrl:rs.length<=1048576):
 ShR B (rs++[x]) (rv++[V]) (oh (x.key,v') (pl.filter λp=>!decide (p.1=x.key))) u4:=by
 have F:=ints_at R hv r;have s:=R.below r;have O:=X.kept (Yf r) (λ_ e=>by cases e);obtain⟨_,f⟩:=vz hA x.key v';have H:(Lit.int .i64 ((rs.length:Nat):Int)).wf=true:=WalkArith.wf_i64 O0;have C:=F.appended (by rw[<- I];exact ho) H;have w:YK B u2 v.ownBlock:=λj e=>by
  obtain⟨h1,_,cur,l⟩:=qh F e;exact⟨h1,λcur' fr e=>by rw[l]at e;simp at e⟩
 have t:=Sv L hm;have z:∀{u:Value}{zs:List Int},u3.ownsInts B 3 .i64 u zs->u.ownBlock=none\/u.ownBlock≠some bP:=λh=>.inr (Sm h hm);have m:∀k u,k≠x.key->Ya pl k=some u->u.ownBlock=none\/u.ownBlock≠v.ownBlock:=λk u b a=>by
  cases hq:Ya pl x.key with
  | none=>
   rw[hq]at hv;subst hv
   cases hb:u.ownBlock with
   | none=>exact .inl rfl
   | some j=>exact .inr (by simp[Value.ownBlock])
  | some y=>
   rw[hq]at hv;subst hv;exact R.apart k x.key u y b a hq
 have A:∀k u,Ya pl k=some u->∀j,u.ownBlock=some j->j<u2.heap.size:=λk u a j J=>(qh (s.grp k u a) J).2.1;refine⟨by simp[R.len],λi K=>?_,λk u a=>?_,λk b=>?_,λk k' u u' D a c=>?_,?_⟩
 ·rcases D8 i rs.length with h|h
  ·have e1:(rv++[V]).getD i undef=rv.getD i undef:=by simp[List.getD,G_ (show i<rv.length by rw[R.len];exact h)]
   have d:(rs++[x]).getD i h_=rs.getD i h_:=by simp[List.getD,G_ h]
   rw[e1,d];exact((s.recs i h).kept q w).kept g t
  obtain rfl:i=rs.length:=by simp at K;omega
  have e1:(rv++[V]).getD rs.length undef=V:=by simp[List.getD,<- R.len]
  have d:(rs++[x]).getD rs.length h_=x:=by simp[List.getD]
  rw[e1,d];exact(O.kept q w).kept g t
 ·rw[f k]at a;rw[gI];by_cases b:k=x.key
  ·subst b;rw[L8 rfl]at a;cases a;rw[L8 rfl];exact C.kept g (z C)
  rw[Y7 b]at a;rw[Y7 (λe=>b e.symm),Ot];have l:=(s.grp k u a).kept q (m k u b a);exact l.kept g (z l)
 ·rw[f k]at b;by_cases o:k=x.key
  ·rw[L8 o]at b;cases b
  rw[Y7 o]at b;rw[gI,Y7 (λe=>o e.symm),R.non k b,Ot]
 ·rw[f k]at a;rw[f k']at c;by_cases h1:k=x.key
  ·have h2:k'≠x.key:=λe=>D (h1.trans e.symm);rw[L8 h1]at a;rw[Y7 h2]at c;cases a;rcases E with e|e
   ·rw[e];rcases m k' u' h2 c with h|h
    ·cases hq:v.ownBlock with
     | none=>exact .inl rfl
     | some j=>exact .inr (by rw[h];simp)
    exact .inr (λe=>h e.symm)
   refine .inr λd=>?_;have:=A k' u' c _ (d.symm.trans e);omega
  rw[Y7 h1]at a;by_cases h2:k'=x.key
  ·rw[L8 h2]at c;cases c;rcases E with e|e
   ·rw[e];exact m k u h1 a
   cases hq:u.ownBlock with
   | none=>exact .inl rfl
   | some j=>
    refine .inr λd=>?_;have:=A k u a j hq;rw[e]at d;cases d;omega
  rw[Y7 h2]at c;exact R.apart k k' u u' D a c
 rw[(Ce _ _).length_eq];have:=WJ (λp=>!decide (p.1=x.key)) pl;have:=R.pln;simp;omega
theorem a1Z(B H bT bR bP:Nat)(W:Int)(l:List (ByteArray×Value))(rs:List R3)(rv:List Value)(x:R3)(a:OA)(c:Nat)(w:World)(hSh:Sh B H bT bR bP W l rs rv w)(hx:qC B w (.agg #[.string x.key,.slice a x.gs.length c,.string x.out]) x)(hn:rs.length<=1000)(hk:x.key.size<=1048700):
 Calls prog 185 #[.pointer (some ⟨H,0,none⟩),.agg #[.string x.key,.slice a x.gs.length c,.string x.out]] w λe w'=>e=.returned (.tuple #[])/\Sh B H bT bR bP W l (rs++[x]) (rv++[.agg #[.string x.key,.slice a x.gs.length c,.string x.out]]) w'/\Below B w w'/\KF w w':=by
 obtain⟨pl,hC,hR⟩:=hSh;have HL:=U0 hR.len;have HPL:Hid (pl.length<maxLen):=by show _<_;have:=hR.pln;unfold maxLen;omega
 have hrn:rv.length<=1000:=by rw[HL.out];exact hn
 have a6x:=hC.lt;have hBH:=hC.hH;obtain⟨i0,hi,hz0,hz1,hz2⟩:=info_parts' info3;obtain⟨v,hv⟩:∃v,(Ya pl x.key).getD vN=v:=⟨_,rfl⟩;have N:=U0 hv;obtain⟨es,ck,U,hpF,hps,hpD⟩:=hC.pc;have hbP:=(Eb.1 U).1;have HB1:Hid ((gy rs x.key).length+1<=maxLen):=by show _<=_;have:=SE rs x.key;unfold maxLen;omega
 have HB2:Hid (((gy rs x.key).length+1)*8<=140737488355328):=by show _<=_;have:=SE rs x.key;omega
 have hkm:x.key.size<=maxLen:=by unfold maxLen;omega
 have HLK:Hid (∀u:World,u.heap[bP]?=some (.map es ck)->(Instr.lookup 234 (.map (some bP)) (vS x.key) false).run prog u=.ok v u):=λu hu=>by
  rw[<- hv];exact mJ (n:=pl.length) ⟨es,ck,hu,hpF,hps,hpD⟩ underlying234 Y1 hkm
 have t:Bw w (w.alloc (.cells #[vS x.key,vL a x.gs.length c,vS x.out] 162)):=Y6;have sz0:(w.alloc (.cells #[vS x.key,vL a x.gs.length c,vS x.out] 162)).heap.size=w.heap.size+1:=E5;have hp0:=(t.block bP hbP).trans U;have h67:Hid (Ah (w.alloc (.cells #[vS x.key,vL a x.gs.length c,vS x.out] 162)) w.heap.size 162):=U0 (wM w #[vS x.key,vL a x.gs.length c,vS x.out] 162);have F:=U0 (hC.below t);have R0:=U0 (hR.below t);have X0:=U0 (hx.kept (Yf t) (λ_ e=>by cases e));have O:Hid (U6 (w.alloc (.cells #[vS x.key,vL a x.gs.length c,vS x.out] 162)) w.heap.size [vS x.key,vL a x.gs.length c,vS x.out]):=U0 (a_ w [vS x.key,vL a x.gs.length c,vS x.out] 162);have f2:=F.out.blk 2 _ rfl;have f3:=F.out.blk 3 _ rfl;have e0:=O.out 0 _ rfl;have e1:=O.out 1 _ rfl;have e2:=O.out 2 _ rfl;obtain⟨es1,ck1,s⟩:=Ii (hC.rc)
 replace s:=(t.block bR (Eb.1 s).1).trans s
 have Y:some w.heap.size≠some bR:=λe=>yh e0 s (I_ e);have a7m:some H≠some bR:=λe=>yh (F.out.blk 0 _ rfl) s (I_ e);have a6M:some bP≠some bR:=λe=>hC.n3 (I_ e).symm;clear hC hR hx hv U hpF hps hpD
 go_in
 go_wp2_with(at_len;refine wpList_len_own _ rfl _ 233 rfl 3 162 underlying233 Ub bR _ (intD rv) rfl F.out.rc ?_;rw[Om])
 rename_i K0 hK0;generalize (w.alloc (.cells #[vS x.key,vL a x.gs.length c,vS x.out] 162))=u0 at*;have D:=U0 (F.out.below (G5 _ _).drew);have RD:=U0 (R0.out.below (G5 _ _).drew);have XD:=U0 (X0.out.kept (Yf (w':=u0.drew) (G5 _ _).drew) (λ_ e=>by cases e));have ED:Hid (U6 u0.drew w.heap.size [vS x.key,vL a x.gs.length c,vS x.out]):=U0 (O.out.below (G5 (w.heap.size+1) _).drew O0);have HN:Hid (rv.length<maxLen):=by show rv.length<maxLen;unfold maxLen;omega
 have a7n:rv.length<=1048576:=O0;have HN2:=HPL;refine wp_region_held_drew (S:=(λu=>u.cell? (aA H 2)=some (.map (some bR))/\u.cell? (aW w 0)=some (vS x.key)/\u.cell? (aW w 1)=some (vL a x.gs.length c)/\u.cell? (aW w 2)=some (vS x.out))) Y1 ?_ λhHeld=>?_
 ·exact⟨f2,e0,e1,e2⟩
 iterate 6 refine sq ?_
 refine rq 6 λK b=>?_;refine OT (vs:=rv) (vv:=.agg #[vS x.key,vL a x.gs.length c,vS x.out]) rfl 233 (.tmp 13) (.tmp 14) (.tmp 15) rfl rfl rfl rfl D.out.rc underlying233 HN.out a7n rfl ?_;intro u1 hm1 r;have HR1:Hid (some w.heap.size≠some bR/\some H≠some bR/\some bP≠some bR):=⟨Y,a7m,a6M⟩;have P:=U0 (D.out.upR r hm1);have L:=U0 (RD.out.map r D.out.hR s);have X1:=U0 (XD.out.kept r (Sv D.out.hR s));have B1:=((G5 B u0).drew).trans (N_ (w:=u0.drew) r (λj e=>by cases e;exact D.out.hR) (by show B<=u0.heap.size;omega));have K1:=U0 (((Zd t X7).trans (Zd (w':=u0.drew) (G5 u0.heap.size u0).drew X7)).trans (QA r s));have T1:=U0 ((h67.out.below (G5 (w.heap.size+1) u0).drew O0).kept r Y);have z:=U0 (Ob ED.out r (by show w.heap.size<u0.heap.size;omega) Y);have sz1:u0.heap.size<=u1.heap.size:=r.size;have g2:=P.out.blk 2 _ rfl;have g3:=P.out.blk 3 _ rfl;have g0:=z.out 0 _ rfl;have g1:=z.out 1 _ rfl;have g4:=z.out 2 _ rfl;have V:=(r.block bP (by show bP<u0.heap.size;omega) a6M).trans hp0;clear hHeld hm1 r;refine A8 b ⟨g2,g0,g1,g4⟩ λhHeld=>?_;clear b K hHeld;refine wdn ?_;refine hK0 _ _ ?_;clear hK0
 go_wp2_with fail
 refine wp_region_held_drew (S:=(λu=>u.cell? (aA H 3)=some (.map (some bP))/\u.cell? (aW w 0)=some (vS x.key))) Y1 ?_ λhHeld=>?_
 ·exact⟨g3,g0⟩
 refine p_ 0 ?_;refine p_ 1 ?_;refine p_ 2 ?_;refine p_ 3 ?_;refine p_ 4 ?_;refine p_ 5 ?_;refine p_ 6 ?_;refine p_ 7 ?_;refine p_ 8 ?_;refine p_ 9 ?_;refine p_ 10 ?_;refine p_ 11 ?_;refine p_ 13 ?_;refine wpAnyH_ready (rs:=[12,14]) Y1 E5 ?_;refine AllReadyH.cons (o:=⟨some 28,.lookup 234 (.tmp 25) (.tmp 27) false,31,_,_,none⟩) rfl (λK b=>?_) (AllReadyH.cons (o:=⟨some 30,.buildSlice 31 1 #[(0,.tmp 29)],31,_,_,none⟩) rfl (λK b=>?_) AllReadyH.nil)
 ·refine JL rfl 234 (.tmp 25) (.tmp 27) false rfl (.map (some bP)) (vS x.key) rfl rfl (HLK.out _ V) ?_;clear hHeld;refine A8 b ⟨g3,g0⟩ λhHeld=>?_;clear b K;refine rq 14 λK b=>?_;go_simp;have d:Bw u1 ((u1.alloc (.cells #[vI rv.length] 3)).drew):=Y6.drew;have I:=(d.cell (by exact(show H<u1.heap.size by omega))).trans g3;have J:=(d.cell (by exact(show w.heap.size<u1.heap.size by omega))).trans g0;have A:=(d.block bP O0).trans V;have c1:∀j u,[Value.int .i64 rv.length][j]?=some u->((u1.alloc (.cells #[vI rv.length] 3)).drew).cell? ((aW u1 0).add j)=some u:=λj u h=>cell_one_new u1 (vI rv.length) 3 j u h;have sz2:((u1.alloc (.cells #[vI rv.length] 3)).drew).heap.size=u1.heap.size+1:=E5;clear hHeld;refine A8 b ⟨I,J⟩ λhHeld=>?_;clear b K;have f:=U0 (ints_at L.out N.out d);have q:=U0 (P.out.below d);generalize ((u1.alloc (.cells #[vI rv.length] 3)).drew)=u2 at*;refine rq 15 λK b=>?_;refine ul rfl (.tmp 28) (.tmp 30) 31 rfl B 3 i0 vO 1 8 underlying31 hi hz0 hz1 hz2 rfl Z5 v _ _ rfl f.out.1 (aW u1 0) 1 1 [vI rv.length] rfl rfl c1 (by simp[Value.oneCell']) HB1.out HB2.out O0 ?_;intro v' u3 X g hl3;have Z:=Sm f.out A;have C:=U0 (T1.out.below d O0);have i:=U0 (q.out.kept g (Yl f.out q.out.ty Z5) (Fj f.out q.out.tx) (Fj f.out q.out.rc) (Fj f.out q.out.pc));have sz3:=g.size;have y:=(g.block bP O0 (λe=>Z e.symm)).trans A;have R:=i.out.blk 3 _ rfl;have m0:=(Ob (z.out.below d O0) g O0 (Yl f.out C.out Z5)) 0 _ rfl;clear hHeld;refine A8 b ⟨R,m0⟩ λhHeld=>?_;clear b K;refine rq 16 λK b=>?_;refine AA (l:=pl) (k:=x.key) (vv:=v') rfl 234 (.tmp 19) (.tmp 21) (.tmp 31) rfl rfl rfl rfl i.out.pc underlying234 HN2.out hkm rfl ?_;intro u4 m p;rw[zD]at m
  replace m:=Jk m
  rw[Ad]at m;have E:=U0 (i.out.upP p m (vz i.out.pa x.key v').1);have R4:=U0 (ShR.push L.out X1.out i.out.pa N.out d O0 g (by rw[<- HL.out];exact X) rfl hl3 p i.out.hP y O0);have B4:=((t.mono O0).trans B1).trans ((d.mono O0).trans ((N_ g (λj e=>(qh f.out e).1) O0).trans (N_ p (λj e=>by cases e;exact i.out.hP) O0)));have K4:=U0 (K1.out.trans ((Zd d X7).trans ((iL g f.out).trans (QA p y))));have n3:=E.out.blk 3 _ rfl;have Q:=(Ob (Ob (z.out.below d O0) g O0 (Yl f.out C.out Z5)) p O0 (λe=>yh m0 y (I_ e))) 0 _ rfl;clear hHeld;refine A8 b ⟨n3,Q⟩ λhHeld=>?_;clear b K;refine wdn ?_
  go_end0
  exact⟨rfl,⟨_,E.out,R4.out⟩,B4,K4.out⟩
 go_simp;have d:Bw u1 ((u1.alloc (.cells #[vI rv.length] 3)).drew):=Y6.drew;have I:=(d.cell (by exact(show H<u1.heap.size by omega))).trans g3;have J:=(d.cell (by exact(show w.heap.size<u1.heap.size by omega))).trans g0;have A:=(d.block bP O0).trans V;have c1:∀j u,[Value.int .i64 rv.length][j]?=some u->((u1.alloc (.cells #[vI rv.length] 3)).drew).cell? ((aW u1 0).add j)=some u:=λj u h=>cell_one_new u1 (vI rv.length) 3 j u h;have sz2:((u1.alloc (.cells #[vI rv.length] 3)).drew).heap.size=u1.heap.size+1:=E5;clear hHeld;refine A8 b ⟨I,J⟩ λhHeld=>?_;clear b K;have f:=U0 (ints_at L.out N.out d);have q:=U0 (P.out.below d);generalize ((u1.alloc (.cells #[vI rv.length] 3)).drew)=u2 at*;refine rq 12 λK b=>?_;refine JL rfl 234 (.tmp 25) (.tmp 27) false rfl (.map (some bP)) (vS x.key) rfl rfl (HLK.out _ A) ?_;clear hHeld;refine A8 b ⟨I,J⟩ λhHeld=>?_;clear b K;refine rq 15 λK b=>?_;refine ul rfl (.tmp 28) (.tmp 30) 31 rfl B 3 i0 vO 1 8 underlying31 hi hz0 hz1 hz2 rfl Z5 v _ _ rfl f.out.1 (aW u1 0) 1 1 [vI rv.length] rfl rfl c1 (by simp[Value.oneCell']) HB1.out HB2.out O0 ?_;intro v' u3 X g hl3;have Z:=Sm f.out A;have C:=U0 (T1.out.below d O0);have i:=U0 (q.out.kept g (Yl f.out q.out.ty Z5) (Fj f.out q.out.tx) (Fj f.out q.out.rc) (Fj f.out q.out.pc));have sz3:=g.size;have y:=(g.block bP O0 (λe=>Z e.symm)).trans A;have R:=i.out.blk 3 _ rfl;have m0:=(Ob (z.out.below d O0) g O0 (Yl f.out C.out Z5)) 0 _ rfl;clear hHeld;refine A8 b ⟨R,m0⟩ λhHeld=>?_;clear b K;refine rq 16 λK b=>?_;refine AA (l:=pl) (k:=x.key) (vv:=v') rfl 234 (.tmp 19) (.tmp 21) (.tmp 31) rfl rfl rfl rfl i.out.pc underlying234 HN2.out hkm rfl ?_;intro u4 m p;rw[zD]at m
 replace m:=Jk m
 rw[Ad]at m;have E:=U0 (i.out.upP p m (vz i.out.pa x.key v').1);have R4:=U0 (ShR.push L.out X1.out i.out.pa N.out d O0 g (by rw[<- HL.out];exact X) rfl hl3 p i.out.hP y O0);have B4:=((t.mono O0).trans B1).trans ((d.mono O0).trans ((N_ g (λj e=>(qh f.out e).1) O0).trans (N_ p (λj e=>by cases e;exact i.out.hP) O0)));have K4:=U0 (K1.out.trans ((Zd d X7).trans ((iL g f.out).trans (QA p y))));have n3:=E.out.blk 3 _ rfl;have Q:=(Ob (Ob (z.out.below d O0) g O0 (Yl f.out C.out Z5)) p O0 (λe=>yh m0 y (I_ e))) 0 _ rfl;clear hHeld;refine A8 b ⟨n3,Q⟩ λhHeld=>?_;clear b K;refine wdn ?_
 go_end0
 exact⟨rfl,⟨_,E.out,R4.out⟩,B4,K4.out⟩
theorem ZW{k:Nat}(h:k<(gy rs key).length):∃p:Nat,(gy rs key).getD k 0=(p:Int)/\p<rs.length/\(rs.getD p h_).key=key:=by
 unfold gy at h ⊢;rw[Cf]at h;have hm:=Zj h;refine⟨_,?_,Ip.1 (Iq.1 hm).1,by simpa using(Iq.1 hm).2⟩;rw[Sj,Rt,L9 h];rfl
theorem ZV(b:p<rs.length)(d:(rs.getD p h_).key=key):∃k,k<(gy rs key).length/\(gy rs key).getD k 0=(p:Int):=by
 unfold gy;have hm:p∈(List.range rs.length).filter λi=>decide ((rs.getD i h_).key=key):=Iq.2 ⟨Ip.2 b,by simpa using d⟩;obtain⟨k,a,c⟩:=Ze hm;refine⟨k,by rw[Cf];exact a,?_⟩;rw[Sj,Rt,L9 a,c];rfl
theorem mO(a:p<rs.length):rs.getD p h_∈rs:=by
 have:rs.getD p h_=rs[p]:=by simp[List.getD,L9 a]
 rw[this];exact Zj a
theorem jP(h:x∈rs):∃p,p<rs.length/\rs.getD p h_=x:=by
 obtain⟨p,a,e⟩:=Ze h;exact⟨p,a,by simp[List.getD,L9 a,e]⟩
theorem wJ{va:OA}{a:Nat}(h:w.ownsInts B 3 .i64 (.slice va n a) zs):n=zs.length/\(n=0\/∃g,va=some ⟨g,0,none⟩/\g<w.heap.size/\∀k,k<n->w.cell? ⟨g,k,none⟩=some (.int .i64 (zs.getD k 0))):=by
 have b:=h.1;rcases h.1.2 with⟨hv,h0⟩|⟨g,cap,cur,hv,hg,d,_⟩
 ·simp at hv;exact⟨O0,.inl O0⟩
 simp only[Xt]at hv;obtain⟨rfl,rfl,rfl⟩:=hv;refine⟨rfl,.inr ⟨g,rfl,(Eb.1 d).1,λk c=>?_⟩⟩;rw[b.cellAt k O0];simp[List.getD,L9 c]
theorem c234(B H bT bR bP:Nat)(W:Int)(l:List (ByteArray×Value))(rs:List R3)(rv:List Value)(x:R3)(a:OA)(c:Nat)(w:World)(hSh:Sh B H bT bR bP W l rs rv w)(hx:R_ w a x.gs)(hn:rs.length<=1000)(hk:x.key.size<=1048700)(hg:x.gs.length<=1048576)(hgs:∀i,(rs.getD i h_).gs.length<=1048576):
 Calls prog 234 #[.pointer (some ⟨H,0,none⟩),.agg #[.string x.key,.slice a x.gs.length c,.string x.out]] w λe w'=>Rb (x∈rs) e/\Bw w w':=by
 obtain⟨pl,hC,hR⟩:=hSh;have hrl:=hR.len;have a6x:=hC.lt;obtain⟨v,hv⟩:∃v,(Ya pl x.key).getD (.slice none 0 0)=v:=⟨_,rfl⟩;have t:=ints_at hR hv (G5 _ _);obtain⟨va,vc,Q⟩:=V9 t.1;rw[Q]at t hv;obtain⟨_,hcs⟩:=wJ t;have HCS:=U0 hcs;have hln:(gy rs x.key).length<=1000:=I8 (SE _ _) hn;obtain⟨es,N,J,hpF,Z,hpD⟩:=hC.pc;obtain⟨A,C,I,U,R,V⟩:=hC.rc;have hbP:=(Eb.1 J).1;have hbR:=(Eb.1 I).1;have hkm:x.key.size<=maxLen:=by unfold maxLen;omega
 have HLK:Hid (∀u:World,u.heap[bP]?=some (.map es N)->(Instr.lookup 234 (.map (some bP)) (.string x.key) false).run prog u=.ok (.slice va (gy rs x.key).length vc) u):=λu q=>by
  rw[<- hv];exact mJ (n:=pl.length) ⟨es,N,q,hpF,Z,hpD⟩ underlying234 Y1 hkm
 have HLA:Hid (∀(u:World)(p:Nat),p<rs.length->u.heap[bR]?=some (.map A C)->(Instr.lookup 233 (.map (some bR)) (.int .i64 p) false).run prog u=.ok (rv.getD p undef) u):=λu p o q=>
  KQ (n:=rv.length) (z:=.agg #[.string ⟨#[]⟩,.slice none 0 0,.string ⟨#[]⟩]) ⟨A,C,q,U,R,V⟩ underlying233 Y1 O0 O0
 have HRC:=U0 hR.recs;have d:Bw w (w.alloc (.cells #[.string x.key,.slice a x.gs.length c,.string x.out] 162)):=Y6;have sz0:(w.alloc (.cells #[.string x.key,.slice a x.gs.length c,.string x.out] 162)).heap.size=w.heap.size+1:=E5;have hp0:=(d.block bP hbP).trans J;have X:=(d.block bR hbR).trans I;have D:Hid (U6 (w.alloc (.cells #[.string x.key,.slice a x.gs.length c,.string x.out] 162)) w.heap.size [.string x.key,.slice a x.gs.length c,.string x.out]):=U0 (a_ w [.string x.key,.slice a x.gs.length c,.string x.out] 162);have f2:=(hC.below d).blk 2 _ rfl;have f3:=(hC.below d).blk 3 _ rfl;have e0:=D.out 0 _ rfl;have e1:=D.out 1 _ rfl;have e2:=D.out 2 _ rfl;have HX:=U0 (I9 hx d);have HW:=U0 d;clear hC hR hx hv Q t J hpF Z hpD I U R V hcs hrl D
 go_in
 go_wp2_with fail
 generalize (w.alloc (.cells #[.string x.key,.slice a x.gs.length c,.string x.out] 162))=b at*;refine wp_region_held_drew (S:=(λu=>u.cell? ⟨H,3,none⟩=some (.map (some bP))/\u.cell? ⟨w.heap.size,0,none⟩=some (.string x.key)/\u.heap[bP]?=some (.map es N))) Y1 ?_ λhHeld=>?_
 ·exact⟨f3,e0,hp0⟩
 iterate 6 refine sq ?_
 refine tq 6 hHeld ?_ (v:=?_) (hv:=?e)
 case e=>intro wq hSw;(try dsimp only at hSw);have hq:=HLK.out wq hSw.2.2;go_simp;try with_reducible rfl
 try simp only[qq]
 iterate 2 refine sq ?_
 refine wdn ?_;go_wp2;go_loopw[15] (λi wr=>∃(k:Nat),k<=(gy rs x.key).length/\i=.int .i64 k/\Hid (∀j,j<k->rs.getD ((gy rs x.key).getD j 0).toNat h_≠x)/\Below b.heap.size b wr) (λi _=>(gy rs x.key).length-(Go.RowKit.intOf i).toNat);exact⟨0,J4 _,rfl,λj r=>absurd r (y9 _),(G5 _ _).drew⟩;obtain⟨k,hk,rfl,HJ,s⟩:=hrel;by_cases hlt:k<(gy rs x.key).length
 ·rcases HCS.out with h0|⟨g,hva,hgw,hcell⟩
  ·omega
  subst hva;obtain⟨p,O,o,hkp⟩:=ZW hlt;have ck0:=(s.cell (by exact(show g<b.heap.size by omega))).trans ((d.cell (by exact hgw)).trans (hcell k hlt));rw[O]at ck0;obtain⟨a2,c2,F,L,_⟩:=HRC.out p o;have P:=hgs p;obtain⟨y,E⟩:∃y,rs.getD p h_=y:=⟨_,rfl⟩;rw[E]at F L P;have HY:=U0 E;clear E;have HLR:Hid (∀u:World,u.heap[bR]?=some (.map A C)->(Instr.lookup 233 (.map (some bR)) (.int .i64 p) false).run prog u=.ok (.agg #[.string y.key,.slice a2 y.gs.length c2,.string y.out]) u):=λu q=>by
   rw[<- F];exact HLA.out u p o q
  have f:=s.drew;have q2:=(f.cell (by exact(show H<b.heap.size by omega))).trans f2;have y0:=(f.cell (by exact(show w.heap.size<b.heap.size by omega))).trans e0;have y1:=(f.cell (by exact(show w.heap.size<b.heap.size by omega))).trans e1;have y2:=(f.cell (by exact(show w.heap.size<b.heap.size by omega))).trans e2;have hpr:=(f.block bR (show bR<b.heap.size by omega)).trans X;have G2:=I9 L (HW.out.trans (f.mono O0));have GX:=I9 HX.out f;clear hcell L F
  go_wp2_with fail
  refine wp_region_held_drew (S:=(λu=>u.cell? ⟨H,2,none⟩=some (.map (some bR))/\u.cell? ⟨w.heap.size,0,none⟩=some (.string x.key)/\u.cell? ⟨w.heap.size,1,none⟩=some (.slice a x.gs.length c)/\u.cell? ⟨w.heap.size,2,none⟩=some (.string x.out)/\u.heap[bR]?=some (.map A C))) Y1 ?_ λhHeld=>?_
  ·exact⟨q2,y0,y1,y2,hpr⟩
  iterate 5 refine sq ?_
  refine tq 5 hHeld ?_ (v:=?_) (hv:=?e)
  case e=>intro wq hSw;(try dsimp only at hSw);have hq:=HLR.out wq hSw.2.2.2.2;go_simp;try with_reducible rfl
  try simp only[qq]
  refine sq ?_;refine rq 7 λK hK=>?_;go_simp;refine(c196 y x a2 a c2 c _ P hg G2 GX).mono ?_;rintro e u1⟨⟨bb,rfl,hbb⟩,hb1⟩
  go_wp2_with fail
  have m:=f.trans (hb1.mono (by show b.heap.size<=wr.heap.size;exact s.size));have p2:=(m.cell (by exact(show H<b.heap.size by omega))).trans f2;have p0:=(m.cell (by exact(show w.heap.size<b.heap.size by omega))).trans e0;have p1:=(m.cell (by exact(show w.heap.size<b.heap.size by omega))).trans e1;have p3:=(m.cell (by exact(show w.heap.size<b.heap.size by omega))).trans e2;have pr:=(m.block bR (show bR<b.heap.size by omega)).trans X;clear hHeld;refine A8 hK ⟨p2,p0,p1,p3,pr⟩ λhHeld=>?_;clear hK K hHeld;refine wdn ?_;cases bb
  ·go_wp2;go_roundw;exact⟨k+1,O0,by go_num,λj r=>by
    rcases D8 j k with h|h
    ·exact HJ.out j h
    obtain rfl:j=k:=O0;rw[O];exact λe=>absurd (hbb.2 (HY.out.symm.trans e)) Ik,m⟩
   exact Z9
  go_wp2;go_ret;exact⟨⟨true,rfl,λ_=>(HY.out.trans (by simpa using hbb))▸mO o,λ_=>rfl⟩,d.trans (m.mono O0)⟩
 obtain rfl:k=(gy rs x.key).length:=O0;go_wp2;go_ret;refine⟨⟨false,rfl,λh=>absurd h Ik,λh=>?_⟩,d.trans (s.mono O0)⟩;obtain⟨p,o,Y⟩:=jP h;obtain⟨j,r,hjp⟩:=ZV o (by rw[Y]);have:=HJ.out j r;rw[hjp]at this;exact absurd Y this
open Go.WideElems (Fit rd rg pl rd_val rd_key)
def mk3(p:BY×Int×ByteArray):Value:=.agg #[.string p.1,.int .i64 p.2.1,.string p.2.2]
open Classical in
noncomputable def gW(v:Value):Option (DataW Value×List MemPlace):=if ∃p,v=mk3 p then some (.held v,[]) else none
theorem zK{y:DataW Value×List MemPlace}(h:gW v=some y):(∃p,v=mk3 p)/\y=(.held v,[]):=by
 unfold gW at h;split at h
 ·rename_i a;exact⟨a,(I_ h).symm⟩
 cases h
theorem yS{f:List (ByteArray×Value)}(h:w.ownsMap prog 9 Ub b n (mapD f))(hf:∀p∈f,∃q,p.2=mk3 q):w.ownsMap prog 9 gW b n (mapD f):=by
 obtain⟨es,clock,r,F,l,d⟩:=h;have k:∀x∈es.toList,∀z,Ub x.val=some z->gW x.val=some z:=λx hx z hz=>by
  obtain⟨y,c⟩:=F.reads x hx;have hm:rg prog 9 Ub x∈(es.toList.map (rg prog 9 Ub)).foldr DataW.insert []:=mem_sorted.2 (dF hx);have s:f.map eS=(es.toList.map (rg prog 9 Ub)).foldr DataW.insert []:=by
   have:=d;unfold mapD at this;exact DataW.map.inj this
  rw[<- s]at hm;obtain⟨p,o,e⟩:=zl.1 hm;have v:rg prog 9 Ub x=y:=by unfold rg;rw[c];rfl
  obtain⟨g,a,j⟩:=rd_val c;have i:g=(.held x.val,[]):=by unfold Ub at a;exact(Option.some.inj a).symm
  have u:DataW.held p.2=DataW.held x.val:=by
   have:=l7 Prod.snd (e.trans v);rw[j,i]at this;exact this
  have t:p.2=x.val:=by injection u
  obtain⟨q,m⟩:=hf p o;unfold Ub at hz;unfold gW;rw[L8 ⟨q,t▸m⟩];exact hz
 have h1:=World.ownsMap_of_fit (R:=gW) r F k;rw[<- d]at h1;exact h1.mono l
theorem a4j(a b i ns:Nat)(g:DataW Value)(f:List (ByteArray×Value))(w:World)(hd:w.ownsMap prog 9 Ub a i g)(y:w.ownsMap prog 9 Ub b ns (mapD f))(hf:∀p∈f,∃q,p.2=mk3 q)(P:a≠b)(hroom:i+Maps.size (mapD f)<=maxLen):
 Calls prog 235 #[.map (some a),.map (some b)] w λe w'=>e=.returned (.tuple #[])/\w'.ownsMap prog 9 Ub a (i+Maps.size (mapD f)) (Lib.mergeD g (mapD f))/\w.grownBy w' (some a):=by
 have o:=yS y hf;generalize mapD f=d at*;have hbd:=hd.lt;have hbs:=o.lt
 go_in
 go_wp2_with(first
  | (at_range;refine wpList_range_own _ rfl _ 232 rfl 9 240 zy underlying232 gW b ns _ rfl o ?_;intro w0 K F y)
  | go_in)
 go_frame
 go_loopw[8] (λ_ wr=>∃(n:Lit->Bool)(l:Nat)(t:DataW Value),wr.ranges prog 9 gW b w.heap.size ns d n l/\l<=Maps.size d/\
  wr.ownsMap prog 9 Ub a (i+(Maps.size d-l)) t/\Merged t g d n/\w.grownBy wr (some a))
  (λ_ wr=>wr.rangeLeft b w.heap.size)
 case atStart=>
  exact⟨_,_,g,K,J8 _,(hd.kept F E5).mono O0,merged_start g d,F.but _⟩
 obtain⟨n,l,t,A,hcs,k,hM,B⟩:=hrel
 go_wp2_with(first
  | (at_next;refine wpList_next_ranges _ rfl _ rfl 9 zy gW id mk3 (λkey _ _=>⟨key,rfl⟩) (λv _ h=>(zK h).1) b w.heap.size ns _ _ _ rfl A ?_ ?_)
  | go_in)
 ·intro U R;go_wp2
  go_end0
  subst U;have e:=merged_eq zy.one hM R (k.canon zy) (hd.canonK zy) (o.canonK zy);subst e;exact⟨rfl,by simpa using k,B⟩
 intro x ca s cb kl m yp w1 W r hlx hv V J Q E hs1 S;have u:=(zK hv).2;have O:=k.kept E (λe=>by have:=I_ e;omega);have D:=tJ w1 (.cells #[vS ca,vI s,vS cb] 240) none;have N:=U0 (O.alloc (.cells #[vS ca,vI s,vS cb] 240));have I:=U0 (J.kept D E5 E5);have H:Hid (Ub (.agg #[vS ca,vI s,vS cb])=some (m,[])):=by show Ub _=_;rw[show m=_ from l7 Prod.fst u];rfl
 simp only[mk3]at S r ⊢;clear u hv
 go_wp2_with(first
  | (at_mapUpdate;refine wpList_mapUpdate_own _ rfl _ _ _ 232 rfl 9 240 zy underlying232 Ub a _ _ rfl N.out O0 _ _ _ rfl rfl r m [] H.out ?_;intro w2 L C;go_frame)
  | go_in)
 have z:=I.out.kept C (λe=>P (I_ e).symm) (λe=>by have:=I_ e;omega);go_roundw
 ·exact⟨_,W,_,z,O0,L.mono O0,merged_step hM k.isMap (zy.key r) V,((B.andThen E (λj c=>.inl (by cases c;exact J8 _))).andThen D (λj c=>by cases c)).andThen C (λj c=>.inr c)⟩
 rw[z.left_eq,A.left_eq];exact Q
open Go.RowKit
def BI(is:List L4):List Value:=is.flatMap λx=>[.bool x.has,.string x.nm,.int .i64 x.cd,.string x.tx]
theorem rX(is:List L4):(BI is).length=is.length*4:=by
 induction is with
 | nil=>rfl
 | cons x is ih=>
  show([_,_,_,_]++BI is).length=_;rw[P9,ih];simp;omega
theorem NW(is:List L4):∀i,i<is.length->(BI is)[i*4]?=some (.bool (is.getD i M_).has)/\(BI is)[i*4+1]?=some (.string (is.getD i M_).nm)/\(BI is)[i*4+2]?=some (.int .i64 (is.getD i M_).cd)/\(BI is)[i*4+3]?=some (.string (is.getD i M_).tx):=by
 induction is with
 | nil=>intro i h;exact absurd h (y9 _)
 | cons x is ih=>
  intro i h
  cases i with
  | zero=>exact⟨rfl,rfl,rfl,rfl⟩
  | succ i=>
   have a:i<is.length:=by simpa using h
   have k:=ih i a;have e:∀j,(BI (x::is))[(i+1)*4+j]?=(BI is)[i*4+j]?:=λj=>by
    show([_,_,_,_]++BI is)[(i+1)*4+j]?=_;rw[Ue Q8]
    congr 1
    simp;omega
   have e0:=e 0;simp only[Qo]at e0;rw[e0,e 1,e 2,e 3];simpa using k
structure Xg(w:World)(B:Nat)(ao:OA)(is:List L4):Prop where
 at':S9 w ao is
 own:is=[]\/∃g,ao=some ⟨g,0,none⟩/\B<=g/\yA w g is.length
theorem QL(h:w.ownsRow B 138 4 v n (BI is))(f:n=is.length):∃ao c,v=.slice ao n c/\Xg w B ao is:=by
 subst f;have a:=h;obtain⟨h1,h2⟩:=h;rcases h2 with⟨rfl,h0⟩|⟨g,cp,cur,rfl,o,m,_⟩
 ·have e:=Qb.1 h0;subst e;exact⟨none,0,rfl,.inl rfl,.inl rfl⟩
 have b:=mg m;refine⟨some (aA g 0),cp,rfl,.inr ⟨g,0,rfl,b,λi l=>?_⟩,.inr ⟨g,rfl,o,b,λj d=>?_,λj=>a.frozenAt j⟩⟩
 ·have k:=NW is i l;simp only[o9];rw[a.cellAt _ O0,a.cellAt _ O0,a.cellAt _ O0,a.cellAt _ O0];exact k
 rw[a.cellAt j d];have:j<(BI is).length:=by rw[rX];exact d
 exact⟨_,L9 this⟩
theorem Xg.mono{B':Nat}{ao:OA}(h:Xg w B ao is)(hB:B'<=B):Xg w B' ao is:=
 ⟨h.at',h.own.imp id λ⟨g,h1,h2,a⟩=>⟨g,h1,I8 hB h2,a⟩⟩

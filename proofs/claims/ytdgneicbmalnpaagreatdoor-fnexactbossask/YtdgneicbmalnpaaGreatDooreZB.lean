import Derived.Test.YtdgneicbmalnpaaGreatDoortT0
import Derived.Test.YtdgneicbmalnpaaGreatDooreY8
set_option linter.all false
set_option maxHeartbeats 0
set_option maxRecDepth 99999
open Go.Value renaming slice->Sa,string->Sb,int->Sc,pointer->Sd
open Go.IntKind renaming i64->Se
open Go.Ending renaming returned->Sf
open Go.Obj renaming cells->Sg
namespace Go.Proofs.YtdgneicbmalnpaaGreatDoor
open Proofs.Tryz Go.RowKit Go.Maps
variable{B H b bP bR bT base k n:Nat}{w w':World}{W:Int}{l pl:List (ByteArray×Value)}{rv:List Value}{v:Value}{zs:List Int}{rs:List R3}{P:Program}{ops:Array Oper}{o:Oper}{a:Act}{K:Act->World->Prop}{Q:Exit->Act->World->Prop}{S rest t:List UInt8}{is:List L4}
def Sh(B H bT bR bP:Nat)(W:Int)(l:List (ByteArray×Value))(rs:List R3)(rv:List Value)(w:World):Prop:=∃pl,JC B H bT bR bP W l rv pl w/\ShR B rs rv pl w
theorem uy{es:Array MapEntry}{c:Nat}(hB:B<=b)(hm:w.heap[b]?=some (.map es c)):AL B w (some b):=λj e=>by
 cases e
 exact⟨hB,λcur fr e=>by rw[hm]at e;simp at e⟩
theorem JC.neH(h:JC B H bT bR bP W l rv pl w){k:TypeId}{R:Value->Option (DataW Value×List MemPlace)}{b n:Nat}{D:DataW Value}(hm:w.ownsMap prog k R b n D):some H≠some b:=λe=>by
 obtain⟨es,ck,a⟩:=Ic hm;exact Bh (h.blk 0 _ rfl) a (C_ e)
theorem JC.upR{b:List Value}(h:JC B H bT bR bP W l rv pl w)(a:w.grownBy w' (some bR))(hm:w'.ownsMap prog 3 h_ bR b.length (intD b)):JC B H bT bR bP W l b pl w':=
 ⟨h.hH,h.hT,h.hR,h.hP,P9 h.lt a.size,h.n1,h.n2,h.n3,Qb h.blk a h.lt (h.neH h.rc),h.tx.kept a (λe=>h.n1 (C_ e)),h.ta,hm,h.pc.kept a (λe=>h.n3 (C_ e).symm),h.pa,h.ty.kept a (h.neH h.rc)⟩
theorem JC.upP{b:List (ByteArray×Value)}(h:JC B H bT bR bP W l rv pl w)(a:w.grownBy w' (some bP))(hm:w'.ownsMap prog 9 h_ bP b.length (mapD b))(ha:Asc b):JC B H bT bR bP W l rv b w':=
 ⟨h.hH,h.hT,h.hR,h.hP,P9 h.lt a.size,h.n1,h.n2,h.n3,Qb h.blk a h.lt (h.neH h.pc),h.tx.kept a (λe=>h.n2 (C_ e)),h.ta,h.rc.kept a (λe=>h.n3 (C_ e)),hm,ha,h.ty.kept a (h.neH h.pc)⟩
theorem JC.upT{b:List (ByteArray×Value)}(h:JC B H bT bR bP W l rv pl w)(a:w.grownBy w' (some bT))(hm:w'.ownsMap prog 9 h_ bT b.length (mapD b))(ha:Asc b):JC B H bT bR bP W b rv pl w':=
 ⟨h.hH,h.hT,h.hR,h.hP,P9 h.lt a.size,h.n1,h.n2,h.n3,Qb h.blk a h.lt (h.neH h.tx),hm,ha,h.rc.kept a (λe=>h.n1 (C_ e).symm),h.pc.kept a (λe=>h.n2 (C_ e).symm),h.pa,h.ty.kept a (h.neH h.tx)⟩
theorem Qn(h:w.ownsInts B 3 .i64 v zs){es:Array MapEntry}{c:Nat}(hm:w.heap[b]?=some (.map es c)):v.ownBlock≠some b:=λe=>by
 obtain⟨_,_,cur,hc⟩:=Gh h e;rw[hm]at hc;simp at hc
theorem qm{t:TypeId}(h:w.ownsInts B 3 .i64 v zs)(hT:oh w b t)(ht:t≠3):some b≠v.ownBlock:=λe=>by
 obtain⟨_,_,cur,hc⟩:=Gh h e.symm;obtain⟨cur',fr,hT⟩:=hT;rw[hT]at hc;simp at hc;exact ht hc.2.1
theorem Lj{k:TypeId}{R:Value->Option (DataW Value×List MemPlace)}{D:DataW Value}(h:w.ownsInts B 3 .i64 v zs)(hm:w.ownsMap prog k R b n D):some b≠v.ownBlock:=λe=>by
 obtain⟨es,ck,a⟩:=Ic hm;exact Qn h a e.symm
theorem ints_at{k:BY}(R:ShR B rs rv pl w)(hv:(Y_ pl k).getD (Sa none 0 0)=v)(a:Bw w w'):w'.ownsInts B 3 .i64 v (vz rs k):=by
 cases hq:Y_ pl k with
 | none=>
  rw[hq]at hv;subst hv;rw[R.non k hq];exact World.ownsInts_nil _ _ _ _
 | some u=>
  rw[hq]at hv;subst hv;exact(R.grp k u hq).kept (Yd a) (by cases u.ownBlock<;>simp)
theorem ul{E:Prop}
 (r:o.guard=none) (s x:Operand) (t:TypeId) (p:o.op=Op.call { callee:=Callee.builtin Builtin.append,args:=#[s,x],argTypes:=#[t,t] })
 (base:Nat) (e:TypeId) (i:TypeInfo) (z:Value) (size bytes:Nat) (h1:P.underlying t=some (.slice e)) (h2:P.info? e=some i) (H:i.zero=some z) (F:i.size=size) (D:i.bytes=bytes) (C:z.cells.size=size) (B:0<size)
 (v:Value) (n:Nat) (xs:List Value) (hs:a.eval s=v) (l:w.ownsRow base e size v n xs)
 (d:Addr) (m c:Nat) (b:List Value) (hx:a.eval x=Sa (some d) m c) (q:b.length=m*size) (hc:∀j u,b[j]?=some u->w.cell? (d.add j)=some u) (I:∀u∈b,u.oneCell'=true)
 (L:n+m<=maxLen) (J:(n+m)*bytes<=140737488355328) (y:base<=w.heap.size)
 (A:∀v' w',w'.ownsRow base e size v' (n+m) (xs++b)->w.grownBy w' v.ownBlock->(v'.ownBlock=v.ownBlock\/v'.ownBlock=some w.heap.size)->K (a.put o.dst v') w'):
 if Region.wanted o (yielded ops a.tmps)=true then Oper.wp P o a w K Q else E:=by
 have hw:Region.wanted o (yielded ops a.tmps)=true:=by simp[Region.wanted,r]
 rw[D8 hw];obtain⟨v',w',k,h,g,_,f⟩:=run_append_own_at (P:=P) w base t o.type e i z size bytes h1 h2 H F D C B v n xs l d m c b q hc I L J y;unfold Oper.wp;simp[execOp,p,resolve,invoke,builtin,hs,hx,k,Result.andThen];exact A v' w' h g f
theorem wL{E:Prop}(d:o.guard=none)(t:TypeId)(m x:Operand)(ok:Bool)(ho:o.op=Op.lookup t m x ok)(c b:Value){r:Value}
 (hm:a.eval m=c) (hx:a.eval x=b) (hr:(Instr.lookup t c b ok).run P w=.ok r w) (h:K (a.put o.dst r) w):
 if Region.wanted o (yielded ops a.tmps)=true then Oper.wp P o a w K Q else E:=by
 have hw:Region.wanted o (yielded ops a.tmps)=true:=by simp[Region.wanted,d]
 rw[D8 hw];unfold Oper.wp;simp[execOp,ho,hm,hx,hr,Result.andThen];exact h
theorem info3:(prog.info? 3).map (λi=>(i.zero,i.size,i.bytes))=some (some (Sc Se 0),1,8):=Y0
theorem ShR.push{u1 u2 u3 u4:World}{x:R3}{V v':Value}(R:ShR B rs rv pl u1)(X:LC B u1 V x)(hA:Asc pl)(hv:(Y_ pl x.key).getD (Sa none 0 0)=v)(q:Bw u1 u2)(hs2:B<=u2.heap.size)
 (o:u2.grownBy u3 v.ownBlock) (ho:u3.ownsRow B 3 1 v' n ((vz rs x.key).map (Sc Se)++[Sc Se (rs.length:Nat)])) (F:n=(vz rs x.key).length+1) (C:v'.ownBlock=v.ownBlock\/v'.ownBlock=some u2.heap.size) (f:u3.grownBy u4 (some bP)) (J:B<=bP) {es:Array MapEntry} {K:Nat} (hm:u3.heap[bP]?=some (.map es K)) (hrl:rs.length<=1048576):
 ShR B (rs++[x]) (rv++[V]) (Yg (x.key,v') (pl.filter λp=>!decide (p.1=x.key))) u4:=by
 have D:=ints_at R hv q;have r:=R.below q;have L:=X.kept (Yd q) (λ_ e=>by cases e);obtain⟨_,d⟩:=iC hA x.key v';have E:(Lit.int .i64 ((rs.length:Nat):Int)).wf=true:=WalkArith.wf_i64 O0;have z:=D.appended (by rw[<- F];exact ho) E;have t:AL B u2 v.ownBlock:=λj e=>by
  obtain⟨h1,_,cur,g⟩:=Gh D e;exact⟨h1,λcur' fr e=>by rw[g]at e;simp at e⟩
 have s:=uy J hm;have w:∀{u:Value}{zs:List Int},u3.ownsInts B 3 .i64 u zs->u.ownBlock=none\/u.ownBlock≠some bP:=λh=>.inr (Qn h hm);have l:∀k u,k≠x.key->Y_ pl k=some u->u.ownBlock=none\/u.ownBlock≠v.ownBlock:=λk u hk a=>by
  cases hq:Y_ pl x.key with
  | none=>
   rw[hq]at hv;subst hv
   cases hb:u.ownBlock with
   | none=>exact .inl rfl
   | some j=>exact .inr (by simp[Value.ownBlock])
  | some y=>
   rw[hq]at hv;subst hv;exact R.apart k x.key u y hk a hq
 have new:∀k u,Y_ pl k=some u->∀j,u.ownBlock=some j->j<u2.heap.size:=λk u a j H=>(Gh (r.grp k u a) H).2.1;refine⟨by simp[R.len],λi I=>?_,λk u a=>?_,λk hk=>?_,λk k' u u' A a b=>?_,?_⟩
 ·rcases Z7 i rs.length with h|h
  ·have e1:(rv++[V]).getD i undef=rv.getD i undef:=by simp[List.getD,D_ (show i<rv.length by rw[R.len];exact h)]
   have c:(rs++[x]).getD i d_=rs.getD i d_:=by simp[List.getD,D_ h]
   rw[e1,c];exact((r.recs i h).kept o t).kept f s
  obtain rfl:i=rs.length:=by simp at I;omega
  have e1:(rv++[V]).getD rs.length undef=V:=by simp[List.getD,<- R.len]
  have c:(rs++[x]).getD rs.length d_=x:=by simp[List.getD]
  rw[e1,c];exact(L.kept o t).kept f s
 ·rw[d k]at a;rw[pI];by_cases hk:k=x.key
  ·subst hk;rw[D8 rfl]at a;cases a;rw[D8 rfl];exact z.kept f (w z)
  rw[U7 hk]at a;rw[U7 (λe=>hk e.symm),Vt];have g:=(r.grp k u a).kept o (l k u hk a);exact g.kept f (w g)
 ·rw[d k]at hk;by_cases m:k=x.key
  ·rw[D8 m]at hk;cases hk
  rw[U7 m]at hk;rw[pI,U7 (λe=>m e.symm),R.non k hk,Vt]
 ·rw[d k]at a;rw[d k']at b;by_cases h1:k=x.key
  ·have h2:k'≠x.key:=λe=>A (h1.trans e.symm);rw[D8 h1]at a;rw[U7 h2]at b;cases a;rcases C with e|e
   ·rw[e];rcases l k' u' h2 b with h|h
    ·cases hq:v.ownBlock with
     | none=>exact .inl rfl
     | some j=>exact .inr (by rw[h];simp)
    exact .inr (λe=>h e.symm)
   refine .inr λc=>?_;have:=new k' u' b _ (c.symm.trans e);omega
  rw[U7 h1]at a;by_cases h2:k'=x.key
  ·rw[D8 h2]at b;cases b;rcases C with e|e
   ·rw[e];exact l k u h1 a
   cases hq:u.ownBlock with
   | none=>exact .inl rfl
   | some j=>
    refine .inr λc=>?_;have:=new k u a j hq;rw[e]at c;cases c;omega
  rw[U7 h2]at b;exact R.apart k k' u u' A a b
 rw[(Fe _ _).length_eq];have:=tK (λp=>!decide (p.1=x.key)) pl;have:=R.pln;simp;omega
theorem a3s(B H bT bR bP:Nat)(W:Int)(l:List (ByteArray×Value))(rs:List R3)(rv:List Value)(x:R3)(a:OA)(c:Nat)(w:World)(hSh:Sh B H bT bR bP W l rs rv w)(hx:LC B w (.agg #[Sb x.key,Sa a x.gs.length c,Sb x.o]) x)(hn:rs.length<=1000)(hk:x.key.size<=1048700):
 Calls prog 216 #[Sd (some ⟨H,0,none⟩),.agg #[Sb x.key,Sa a x.gs.length c,Sb x.o]] w λe w'=>e=Sf (.tuple #[])/\Sh B H bT bR bP W l (rs++[x]) (rv++[.agg #[Sb x.key,Sa a x.gs.length c,Sb x.o]]) w'/\Below B w w'/\KF w w':=by
 obtain⟨pl,hC,hR⟩:=hSh;have HL:=U0 hR.len;have HPL:Hid (pl.length<maxLen):=by show _<_;have:=hR.pln;unfold maxLen;omega
 have hrn:rv.length<=1000:=by rw[HL.o];exact hn
 have a7s:=hC.lt;have hBH:=hC.hH;obtain⟨i0,hi,hz0,hz1,hz2⟩:=info_parts' info3;obtain⟨v,hv⟩:∃v,(Y_ pl x.key).getD vN=v:=⟨_,rfl⟩;have N:=U0 hv;obtain⟨es,ck,U,hpF,hps,hpD⟩:=hC.pc;have hbP:=(Ya.1 U).1;have HB1:Hid ((vz rs x.key).length+1<=maxLen):=by show _<=_;have:=PG rs x.key;unfold maxLen;omega
 have HB2:Hid (((vz rs x.key).length+1)*8<=140737488355328):=by show _<=_;have:=PG rs x.key;omega
 have hkm:x.key.size<=maxLen:=by unfold maxLen;omega
 have HLK:Hid (∀u:World,u.heap[bP]?=some (.map es ck)->(Instr.lookup 292 (.map (some bP)) (vS x.key) false).run prog u=.ok v u):=λu hu=>by
  rw[<- hv];exact BB (n:=pl.length) ⟨es,ck,hu,hpF,hps,hpD⟩ underlying292 Y0 hkm
 have t:Bw w (w.alloc (Sg #[vS x.key,vL a x.gs.length c,vS x.o] 179)):=U6;have sz0:(w.alloc (Sg #[vS x.key,vL a x.gs.length c,vS x.o] 179)).heap.size=w.heap.size+1:=J4;have hp0:=(t.block bP hbP).trans U;have h67:Hid (oh (w.alloc (Sg #[vS x.key,vL a x.gs.length c,vS x.o] 179)) w.heap.size 179):=U0 (zM w #[vS x.key,vL a x.gs.length c,vS x.o] 179);have F:=U0 (hC.below t);have R0:=U0 (hR.below t);have X0:=U0 (hx.kept (Yd t) (λ_ e=>by cases e));have O:Hid (J6 (w.alloc (Sg #[vS x.key,vL a x.gs.length c,vS x.o] 179)) w.heap.size [vS x.key,vL a x.gs.length c,vS x.o]):=U0 (X9 w [vS x.key,vL a x.gs.length c,vS x.o] 179);have f2:=F.o.blk 2 _ rfl;have f3:=F.o.blk 3 _ rfl;have e0:=O.o 0 _ rfl;have e1:=O.o 1 _ rfl;have e2:=O.o 2 _ rfl;obtain⟨es1,ck1,s⟩:=Ic (hC.rc)
 replace s:=(t.block bR (Ya.1 s).1).trans s
 have Y:some w.heap.size≠some bR:=λe=>Bh e0 s (C_ e);have a8h:some H≠some bR:=λe=>Bh (F.o.blk 0 _ rfl) s (C_ e);have a7H:some bP≠some bR:=λe=>hC.n3 (C_ e).symm;clear hC hR hx hv U hpF hps hpD
 go_in
 go_wp2_with(at_len;refine wpList_len_own _ rfl _ 291 rfl 3 179 underlying291 h_ bR _ (intD rv) rfl F.o.rc ?_;rw[lm])
 rename_i K0 hK0;generalize (w.alloc (Sg #[vS x.key,vL a x.gs.length c,vS x.o] 179))=u0 at*;have D:=U0 (F.o.below (O4 _ _).drew);have RD:=U0 (R0.o.below (O4 _ _).drew);have XD:=U0 (X0.o.kept (Yd (w':=u0.drew) (O4 _ _).drew) (λ_ e=>by cases e));have ED:Hid (J6 u0.drew w.heap.size [vS x.key,vL a x.gs.length c,vS x.o]):=U0 (O.o.below (O4 (w.heap.size+1) _).drew O0);have HN:Hid (rv.length<maxLen):=by show rv.length<maxLen;unfold maxLen;omega
 have a8i:rv.length<=1048576:=O0;have HN2:=HPL;refine wp_region_held_drew (S:=(λu=>u.cell? (aA H 2)=some (.map (some bR))/\u.cell? (aW w 0)=some (vS x.key)/\u.cell? (aW w 1)=some (vL a x.gs.length c)/\u.cell? (aW w 2)=some (vS x.o))) Y0 ?_ λhHeld=>?_
 ·exact⟨f2,e0,e1,e2⟩
 iterate 6 refine sq ?_
 refine rq 6 λK b=>?_;refine wU (vs:=rv) (vv:=.agg #[vS x.key,vL a x.gs.length c,vS x.o]) rfl 291 (.tmp 13) (.tmp 14) (.tmp 15) rfl rfl rfl rfl D.o.rc underlying291 HN.o a8i rfl ?_;intro u1 hm1 r;have HR1:Hid (some w.heap.size≠some bR/\some H≠some bR/\some bP≠some bR):=⟨Y,a8h,a7H⟩;have P:=U0 (D.o.upR r hm1);have L:=U0 (RD.o.map r D.o.hR s);have X1:=U0 (XD.o.kept r (uy D.o.hR s));have B1:=((O4 B u0).drew).trans (m_ (w:=u0.drew) r (λj e=>by cases e;exact D.o.hR) (by show B<=u0.heap.size;omega));have K1:=U0 (((Zd t A8).trans (Zd (w':=u0.drew) (O4 u0.heap.size u0).drew A8)).trans (MB r s));have T1:=U0 ((h67.o.below (O4 (w.heap.size+1) u0).drew O0).kept r Y);have z:=U0 (Qb ED.o r (by show w.heap.size<u0.heap.size;omega) Y);have sz1:u0.heap.size<=u1.heap.size:=r.size;have g2:=P.o.blk 2 _ rfl;have g3:=P.o.blk 3 _ rfl;have g0:=z.o 0 _ rfl;have g1:=z.o 1 _ rfl;have g4:=z.o 2 _ rfl;have V:=(r.block bP (by show bP<u0.heap.size;omega) a7H).trans hp0;clear hHeld hm1 r;refine G9 b ⟨g2,g0,g1,g4⟩ λhHeld=>?_;clear b K hHeld;refine wdn ?_;refine hK0 _ _ ?_;clear hK0
 go_wp2_with fail
 refine wp_region_held_drew (S:=(λu=>u.cell? (aA H 3)=some (.map (some bP))/\u.cell? (aW w 0)=some (vS x.key))) Y0 ?_ λhHeld=>?_
 ·exact⟨g3,g0⟩
 refine y_ 0 ?_;refine y_ 1 ?_;refine y_ 2 ?_;refine y_ 3 ?_;refine y_ 4 ?_;refine y_ 5 ?_;refine y_ 6 ?_;refine y_ 7 ?_;refine y_ 8 ?_;refine y_ 9 ?_;refine y_ 10 ?_;refine y_ 11 ?_;refine y_ 13 ?_;refine wpAnyH_ready (rs:=[12,14]) Y0 J4 ?_;refine AllReadyH.cons (o:=⟨some 28,.lookup 292 (.tmp 25) (.tmp 27) false,31,_,_,none⟩) rfl (λK b=>?_) (AllReadyH.cons (o:=⟨some 30,.buildSlice 31 1 #[(0,.tmp 29)],31,_,_,none⟩) rfl (λK b=>?_) AllReadyH.nil)
 ·refine wL rfl 292 (.tmp 25) (.tmp 27) false rfl (.map (some bP)) (vS x.key) rfl rfl (HLK.o _ V) ?_;clear hHeld;refine G9 b ⟨g3,g0⟩ λhHeld=>?_;clear b K;refine rq 14 λK b=>?_;go_simp;have d:Bw u1 ((u1.alloc (Sg #[vI rv.length] 3)).drew):=U6.drew;have I:=(d.cell (by exact(show H<u1.heap.size by omega))).trans g3;have J:=(d.cell (by exact(show w.heap.size<u1.heap.size by omega))).trans g0;have A:=(d.block bP O0).trans V;have c1:∀j u,[Sc Se rv.length][j]?=some u->((u1.alloc (Sg #[vI rv.length] 3)).drew).cell? ((aW u1 0).add j)=some u:=λj u h=>cell_one_new u1 (vI rv.length) 3 j u h;have sz2:((u1.alloc (Sg #[vI rv.length] 3)).drew).heap.size=u1.heap.size+1:=J4;clear hHeld;refine G9 b ⟨I,J⟩ λhHeld=>?_;clear b K;have f:=U0 (ints_at L.o N.o d);have q:=U0 (P.o.below d);generalize ((u1.alloc (Sg #[vI rv.length] 3)).drew)=u2 at*;refine rq 15 λK b=>?_;refine ul rfl (.tmp 28) (.tmp 30) 31 rfl B 3 i0 vO 1 8 underlying31 hi hz0 hz1 hz2 rfl U5 v _ _ rfl f.o.1 (aW u1 0) 1 1 [vI rv.length] rfl rfl c1 (by simp[Value.oneCell']) HB1.o HB2.o O0 ?_;intro v' u3 X g hl3;have Z:=Qn f.o A;have C:=U0 (T1.o.below d O0);have i:=U0 (q.o.kept g (qm f.o q.o.ty U5) (Lj f.o q.o.tx) (Lj f.o q.o.rc) (Lj f.o q.o.pc));have sz3:=g.size;have y:=(g.block bP O0 (λe=>Z e.symm)).trans A;have R:=i.o.blk 3 _ rfl;have m0:=(Qb (z.o.below d O0) g O0 (qm f.o C.o U5)) 0 _ rfl;clear hHeld;refine G9 b ⟨R,m0⟩ λhHeld=>?_;clear b K;refine rq 16 λK b=>?_;refine Np (l:=pl) (k:=x.key) (vv:=v') rfl 292 (.tmp 19) (.tmp 21) (.tmp 31) rfl rfl rfl rfl i.o.pc underlying292 HN2.o hkm rfl ?_;intro u4 m p;rw[fE]at m
  replace m:=Wj m
  rw[O_]at m;have E:=U0 (i.o.upP p m (iC i.o.pa x.key v').1);have R4:=U0 (ShR.push L.o X1.o i.o.pa N.o d O0 g (by rw[<- HL.o];exact X) rfl hl3 p i.o.hP y O0);have B4:=((t.mono O0).trans B1).trans ((d.mono O0).trans ((m_ g (λj e=>(Gh f.o e).1) O0).trans (m_ p (λj e=>by cases e;exact i.o.hP) O0)));have K4:=U0 (K1.o.trans ((Zd d A8).trans ((tN g f.o).trans (MB p y))));have n3:=E.o.blk 3 _ rfl;have Q:=(Qb (Qb (z.o.below d O0) g O0 (qm f.o C.o U5)) p O0 (λe=>Bh m0 y (C_ e))) 0 _ rfl;clear hHeld;refine G9 b ⟨n3,Q⟩ λhHeld=>?_;clear b K;refine wdn ?_
  go_end0
  exact⟨rfl,⟨_,E.o,R4.o⟩,B4,K4.o⟩
 go_simp;have d:Bw u1 ((u1.alloc (Sg #[vI rv.length] 3)).drew):=U6.drew;have I:=(d.cell (by exact(show H<u1.heap.size by omega))).trans g3;have J:=(d.cell (by exact(show w.heap.size<u1.heap.size by omega))).trans g0;have A:=(d.block bP O0).trans V;have c1:∀j u,[Sc Se rv.length][j]?=some u->((u1.alloc (Sg #[vI rv.length] 3)).drew).cell? ((aW u1 0).add j)=some u:=λj u h=>cell_one_new u1 (vI rv.length) 3 j u h;have sz2:((u1.alloc (Sg #[vI rv.length] 3)).drew).heap.size=u1.heap.size+1:=J4;clear hHeld;refine G9 b ⟨I,J⟩ λhHeld=>?_;clear b K;have f:=U0 (ints_at L.o N.o d);have q:=U0 (P.o.below d);generalize ((u1.alloc (Sg #[vI rv.length] 3)).drew)=u2 at*;refine rq 12 λK b=>?_;refine wL rfl 292 (.tmp 25) (.tmp 27) false rfl (.map (some bP)) (vS x.key) rfl rfl (HLK.o _ A) ?_;clear hHeld;refine G9 b ⟨I,J⟩ λhHeld=>?_;clear b K;refine rq 15 λK b=>?_;refine ul rfl (.tmp 28) (.tmp 30) 31 rfl B 3 i0 vO 1 8 underlying31 hi hz0 hz1 hz2 rfl U5 v _ _ rfl f.o.1 (aW u1 0) 1 1 [vI rv.length] rfl rfl c1 (by simp[Value.oneCell']) HB1.o HB2.o O0 ?_;intro v' u3 X g hl3;have Z:=Qn f.o A;have C:=U0 (T1.o.below d O0);have i:=U0 (q.o.kept g (qm f.o q.o.ty U5) (Lj f.o q.o.tx) (Lj f.o q.o.rc) (Lj f.o q.o.pc));have sz3:=g.size;have y:=(g.block bP O0 (λe=>Z e.symm)).trans A;have R:=i.o.blk 3 _ rfl;have m0:=(Qb (z.o.below d O0) g O0 (qm f.o C.o U5)) 0 _ rfl;clear hHeld;refine G9 b ⟨R,m0⟩ λhHeld=>?_;clear b K;refine rq 16 λK b=>?_;refine Np (l:=pl) (k:=x.key) (vv:=v') rfl 292 (.tmp 19) (.tmp 21) (.tmp 31) rfl rfl rfl rfl i.o.pc underlying292 HN2.o hkm rfl ?_;intro u4 m p;rw[fE]at m
 replace m:=Wj m
 rw[O_]at m;have E:=U0 (i.o.upP p m (iC i.o.pa x.key v').1);have R4:=U0 (ShR.push L.o X1.o i.o.pa N.o d O0 g (by rw[<- HL.o];exact X) rfl hl3 p i.o.hP y O0);have B4:=((t.mono O0).trans B1).trans ((d.mono O0).trans ((m_ g (λj e=>(Gh f.o e).1) O0).trans (m_ p (λj e=>by cases e;exact i.o.hP) O0)));have K4:=U0 (K1.o.trans ((Zd d A8).trans ((tN g f.o).trans (MB p y))));have n3:=E.o.blk 3 _ rfl;have Q:=(Qb (Qb (z.o.below d O0) g O0 (qm f.o C.o U5)) p O0 (λe=>Bh m0 y (C_ e))) 0 _ rfl;clear hHeld;refine G9 b ⟨n3,Q⟩ λhHeld=>?_;clear b K;refine wdn ?_
 go_end0
 exact⟨rfl,⟨_,E.o,R4.o⟩,B4,K4.o⟩
open Go.RowKit
theorem PX:∀n:Fin 16,hx (hexL.getD n.val 0)=(n.val:Int):=U5
theorem UF(n:Nat)(h:n<16):hx (hexL.getD n 0)=n:=PX ⟨n,h⟩
theorem Sv(b:UInt8):-1<=hx b/\hx b<=15:=by
 unfold hx
 (repeat' split)<;>omega
def UB(S t:List UInt8)(k:Nat):Prop:=∀l,S=Z5 l->∃r,l=t++r/\S.drop k=r.flatMap qb++[34]
theorem BP(S:List UInt8):UB S [] 1:=λl h=>⟨l,rfl,by rw[h];rfl⟩
theorem NY(h:UB S t k)(hk:S.length<=k+1)(l:List UInt8)(e:S=Z5 l):t=l:=by
 obtain⟨r,h1,h2⟩:=h l e
 cases r with
 | nil=>simpa using h1.symm
 | cons c r=>
  have hq:1<=(qb c).length:=dm.2 (nN c);have:=G7 List.length h2;simp only[Oj,Xf,Q9,f_,Fb]at this;omega
theorem a3Y{a b:UInt8}(h:UB S t k)(hd:S.drop k=92::a::b::rest):UB S (t++[UInt8.ofNat (16*hx a+hx b).toNat]) (k+3):=by
 intro l e;obtain⟨r,h1,h2⟩:=h l e
 cases r with
 | nil=>rw[hd]at h2;simp at h2
 | cons c r=>
  rw[hd,Xf]at h2;cases hc:U_ c
  ·rw[Ag hc]at h2;simp only[jd,Y9,Yi,yA]at h2;obtain⟨ha,d,hr⟩:=h2;have lc:=Nu c;have e1:hx a=(c.toNat / 16:Nat):=by rw[ha];exact UF _ O0
   have g:hx b=(c.toNat % 16:Nat):=by rw[d];exact UF _ O0
   have f:UInt8.ofNat (16*hx a+hx b).toNat=c:=by
    rw[e1,g];apply uj.1;have:(16*((c.toNat / 16:Nat):Int)+((c.toNat % 16:Nat):Int)).toNat=c.toNat:=O0;rw[this];simp
   refine⟨r,by rw[h1,f];simp,?_⟩;rw[<- kG,hd];exact hr
  rw[ng hc]at h2;simp only[jd,Y9,Yi]at h2;rw[<- h2.1,KA]at hc;cases hc
theorem ZL{x:UInt8}(h:UB S t k)(hd:S.drop k=x::rest)(g:rest≠[])
 (i:∀a b c q,x=92->rest=a::b::c::q->hx a<0\/hx b<0):UB S (t++[x]) (k+1):=by
 intro l e;obtain⟨r,h1,h2⟩:=h l e
 cases r with
 | nil=>rw[hd]at h2;simp at h2;exact absurd h2.2 g
 | cons c r=>
  rw[hd,Xf]at h2;cases hc:U_ c
  ·rw[Ag hc]at h2;simp only[jd,Y9,Yi]at h2;obtain⟨f,hr⟩:=h2;exfalso;have lc:=Nu c;have e1:=UF (c.toNat / 16) O0;have e2:=UF (c.toNat % 16) O0;rcases hq:r.flatMap qb++[34]with _|⟨d,q⟩
   ·simp at hq
   rw[hq]at hr;rcases i _ _ _ _ f hr with h|h<;>omega
  rw[ng hc]at h2;simp only[jd,Y9,Yi]at h2;refine⟨r,by rw[h1,h2.1];simp,?_⟩;rw[<- kG,hd];exact h2.2
theorem BQ(s:BY)(k:Nat)(h:k<s.size):s.data.toList.drop k=s[k]::s.data.toList.drop (k+1):=by
 rw[Ky (by simpa using h)];rfl
theorem lY(a b:UInt8)(h1:0<=hx a)(h2:0<=hx b):((UInt8.ofNat (16*hx a+hx b).toNat).toNat:Int)=16*hx a+hx b:=by
 have:=Sv a;have:=Sv b;simp;omega
theorem a3C{g cp:Nat}{l:List UInt8}(h:w.ownsRow base 5 1 (Sa (some ⟨g,0,none⟩) l.length cp) l.length (Lib.byteCells l)):(convert 211 9 (Sa (some ⟨g,0,none⟩) l.length cp)).run prog w=.ok (Sb (U3 l)) w:=by
 have:=run_convert_bytes_arg (P:=prog) w 211 5 underlying211 underlying5 g 0 l.length cp (l.map λb=>(b.toNat:Int)) J4 (λi a=>by
  rw[Y8,h.cellAt i O0];simp[Lib.byteCells,a]) 9 underlying9
 rw[this];have e:l.map ((λn:Int=>UInt8.ofNat n.toNat)∘λb=>(b.toNat:Int))=l:=(ku (λb _=>J4)).trans (yG l);simp only[strOfNums,Gp,e];rfl
theorem Vp{e:TypeId}{size:Nat}{xs:List Value}(h:w.ownsRow base e size v n xs)(hn:0<n):∃g cp,v=Sa (some ⟨g,0,none⟩) n cp:=by
 rcases h.2 with⟨_,h0⟩|⟨g,cap,cur,hv,_⟩
 ·omega
 exact⟨g,cap,hv⟩
theorem a1R(s:BY)(w:World)(hs:s.size<=1048700):
 Calls prog 149 #[Sb s] w λe w'=>(∃t,e=Sf (Sb (U3 t))/\t.length<=s.size+1/\∀l,s.data.toList=Z5 l->t=l)/\Bw w w':=by
 obtain⟨F,K,J,I,H⟩:=info_parts info5
 go_in
 go_wp2;go_loopw[3,4] (λv i wr=>∃(k:Nat)(t:List UInt8),1<=k/\k<=s.size+1/\i=Sc Se k/\t.length<=k/\wr.ownsRow w.heap.size 5 1 v t.length (Lib.byteCells t)/\Hid (∃g cp,v=Sa (some ⟨g,0,none⟩) t.length cp)/\Hid (UB s.data.toList t k)/\Below w.heap.size w wr/\w.heap.size+1<=wr.heap.size) (λ_ i _=>s.size+1-(RowKit.intOf i).toNat);exact⟨1,[],O0,O0,rfl,J4,ax _ #[] 0 A8 (Y4 _) rfl,⟨_,_,rfl⟩,BP _,U6,J4⟩;obtain⟨k,t,hk1,hk2,rfl,htk,o,hfm,E,p,hz⟩:=hrel;by_cases X:k+1<s.size
 ·have Z:k<s.size:=O0;have L:=U0 (BQ s k Z);have D:=U0 (BQ s (k+1) X);by_cases B:s[k]=92
  ·have e92:((s[k].toNat:Int)==92)=true:=by rw[B];rfl
   by_cases h3:k+3<s.size
   ·have Y:k+2<s.size:=O0;have Q:=U0 (BQ s (k+2) Y);have r1:=Sv s[k+1];have r2:=Sv s[k+2];by_cases W:0<=hx s[k+1]
    ·by_cases V:0<=hx s[k+2]
     ·have C:=U0 (a3Y E.o (by rw[L.o,D.o,Q.o,B]));have HB:=U0 (lY _ _ W V);clear B
      go_wp2_with(go_at_call 198;refine(c198 _ _).mono ?_;rintro e w1⟨rfl,n⟩;obtain rfl:=n.symm)
      have U:IntKind.i64.wrap ((k:Int)+1)=((k+1:Nat):Int):=by simp[IntKind.wrap,IntKind.signed,IntKind.bits];omega
      have S:IntKind.i64.wrap ((k:Int)+2)=((k+2:Nat):Int):=by simp[IntKind.wrap,IntKind.signed,IntKind.bits];omega
      have R:IntKind.i64.wrap (16*hx s[k+1])=16*hx s[k+1]:=by simp[IntKind.wrap,IntKind.signed,IntKind.bits];omega
      have O:IntKind.i64.wrap (16*hx s[k+1]+hx s[k+2])=16*hx s[k+1]+hx s[k+2]:=by simp[IntKind.wrap,IntKind.signed,IntKind.bits];omega
      have N:IntKind.u8.wrap (16*hx s[k+1]+hx s[k+2])=16*hx s[k+1]+hx s[k+2]:=by simp[IntKind.wrap,IntKind.signed,IntKind.bits];omega
      have WA:Hid (IntKind.u8.wrap (IntKind.i64.wrap (16*hx s[k+1]+hx s[k+2]))=16*hx s[k+1]+hx s[k+2]):=by rw[O,N];rfl
      have hc1:((k+1:Nat):Int)<(s.size:Int):=O0;have hc2:((k+2:Nat):Int)<(s.size:Int):=O0
      go_region_law (first|(refine Jv rfl (.tmp 40) (.tmp 54) 211 rfl w.heap.size 5 F (.int .u8 0) 1 1 underlying211 K J I H rfl U5 _ _ _ rfl ((o.drew).alloc _) (aW wr 0) 1 1 [_] rfl rfl (cell_one_new _ _ _) (by intro u d;simp at d;subst d;rfl) (by unfold maxLen;omega) O0 L8 ?_;intro v' r x m)|(go_simp;go_wp2_with(go_at_call 198;refine(c198 _ _).mono ?_;rintro e w1⟨rfl,n⟩;obtain rfl:=n.symm)))
      all_goals clear U S R O N hc1 hc2
      all_goals go_wp2
      all_goals go_roundw
      all_goals(try(simp[RowKit.intOf];omega;done))
      all_goals
       have A:=((p.drew).alloc p.size _).grown m L8 (λj y=>(o.lt j y).1);have f:r.ownsRow w.heap.size 5 1 v' (t++[UInt8.ofNat (16*hx s[k+1]+hx s[k+2]).toNat]).length (Lib.byteCells (t++[UInt8.ofNat (16*hx s[k+1]+hx s[k+2]).toNat])):=by
        rw[Na,Q9];rw[show Lib.byteCells [UInt8.ofNat (16*hx s[k+1]+hx s[k+2]).toNat]=[.int .u8 (16*hx s[k+1]+hx s[k+2])] from G7 (λz:Int=>[Value.int .u8 z]) HB.o];have P:=x;simp only[show((k:Int)+2).toNat=k+2 by omega,WA.o]at P;exact P
       exact⟨k+3,_,O0,O0,by go_num,L8,f,Vp f J4,C,A,by have:=m.size;simp at this;omega⟩
     have C:=U0 (ZL E.o (by rw[L.o]) (by rw[D.o];simp) (λa b c q _ h=>.inr (by rw[D.o,Q.o]at h;injection h with _ h;injection h with h _;rw[<- h];omega)));clear B
     go_wp2_with(first|(go_at_call 198;refine(c198 _ _).mono ?_;rintro e w1⟨rfl,n⟩;obtain rfl:=n.symm)|(at_builtin;refine wpList_append_own _ rfl _ _ 211 rfl w.heap.size 5 F (.int .u8 0) 1 1 underlying211 K J I H rfl U5 _ _ _ rfl (o.alloc _) ⟨wr.heap.size,0,none⟩ 1 1 [_] rfl rfl (cell_one_new _ _ _) (by intro u d;simp at d;subst d;rfl) (by unfold maxLen;omega) O0 L8 ?_;intro v' r x m _))
     go_roundw
     ·have A:=(p.alloc p.size _).grown m L8 (λj y=>(o.lt j y).1);have f:r.ownsRow w.heap.size 5 1 v' (t++[s[k]]).length (Lib.byteCells (t++[s[k]])):=by rw[Na,Q9];exact x
      exact⟨k+1,t++[s[k]],O0,O0,by go_num,L8,f,Vp f J4,C,A,by have:=m.size;simp at this;omega⟩
     exact V9
    have C:=U0 (ZL E.o (by rw[L.o]) (by rw[D.o];simp) (λa b c q _ h=>.inl (by rw[D.o]at h;injection h with h _;rw[<- h];omega)));clear B
    go_wp2_with(first|(go_at_call 198;refine(c198 _ _).mono ?_;rintro e w1⟨rfl,n⟩;obtain rfl:=n.symm)|(at_builtin;refine wpList_append_own _ rfl _ _ 211 rfl w.heap.size 5 F (.int .u8 0) 1 1 underlying211 K J I H rfl U5 _ _ _ rfl (o.alloc _) ⟨wr.heap.size,0,none⟩ 1 1 [_] rfl rfl (cell_one_new _ _ _) (by intro u d;simp at d;subst d;rfl) (by unfold maxLen;omega) O0 L8 ?_;intro v' r x m _))
    go_roundw
    ·have A:=(p.alloc p.size _).grown m L8 (λj y=>(o.lt j y).1);have f:r.ownsRow w.heap.size 5 1 v' (t++[s[k]]).length (Lib.byteCells (t++[s[k]])):=by rw[Na,Q9];exact x
     exact⟨k+1,t++[s[k]],O0,O0,by go_num,L8,f,Vp f J4,C,A,by have:=m.size;simp at this;omega⟩
    exact V9
   have C:=U0 (ZL E.o (by rw[L.o]) (by rw[D.o];simp) (λa b c q _ h=>by have hh:=G7 List.length h;simp at hh;omega));clear B
   go_wp2_with(first|(go_at_call 198;refine(c198 _ _).mono ?_;rintro e w1⟨rfl,n⟩;obtain rfl:=n.symm)|(at_builtin;refine wpList_append_own _ rfl _ _ 211 rfl w.heap.size 5 F (.int .u8 0) 1 1 underlying211 K J I H rfl U5 _ _ _ rfl (o.alloc _) ⟨wr.heap.size,0,none⟩ 1 1 [_] rfl rfl (cell_one_new _ _ _) (by intro u d;simp at d;subst d;rfl) (by unfold maxLen;omega) O0 L8 ?_;intro v' r x m _))
   go_roundw
   ·have A:=(p.alloc p.size _).grown m L8 (λj y=>(o.lt j y).1);have f:r.ownsRow w.heap.size 5 1 v' (t++[s[k]]).length (Lib.byteCells (t++[s[k]])):=by rw[Na,Q9];exact x
    exact⟨k+1,t++[s[k]],O0,O0,by go_num,L8,f,Vp f J4,C,A,by have:=m.size;simp at this;omega⟩
   exact V9
  have e92:((s[k].toNat:Int)==92)=false:=by
   simp only[S_];intro e;exact B (uj.1 (by
    have:s[k].toNat=92:=O0;rw[this];rfl))
  have C:=U0 (ZL E.o (by rw[L.o]) (by rw[D.o];simp) (λa b c q h _=>absurd h B));clear B
  go_wp2_with(first|(go_at_call 198;refine(c198 _ _).mono ?_;rintro e w1⟨rfl,n⟩;obtain rfl:=n.symm)|(at_builtin;refine wpList_append_own _ rfl _ _ 211 rfl w.heap.size 5 F (.int .u8 0) 1 1 underlying211 K J I H rfl U5 _ _ _ rfl (o.alloc _) ⟨wr.heap.size,0,none⟩ 1 1 [_] rfl rfl (cell_one_new _ _ _) (by intro u d;simp at d;subst d;rfl) (by unfold maxLen;omega) O0 L8 ?_;intro v' r x m _))
  go_roundw
  ·have A:=(p.alloc p.size _).grown m L8 (λj y=>(o.lt j y).1);have f:r.ownsRow w.heap.size 5 1 v' (t++[s[k]]).length (Lib.byteCells (t++[s[k]])):=by rw[Na,Q9];exact x
   exact⟨k+1,t++[s[k]],O0,O0,by go_num,L8,f,Vp f J4,C,A,by have:=m.size;simp at this;omega⟩
  exact V9
 have HE:=U0 (NY E.o L8);have HL:Hid (t.length<=s.size+1):=by show t.length<=s.size+1;omega
 obtain⟨g,cp,hv⟩:=hfm.o;subst hv;have hcv:=a3C o;go_wp2;go_ret;exact⟨⟨t,rfl,HL.o,HE.o⟩,p⟩
theorem a4S(n:Int)(w:World):
 Calls prog 409 #[Sc Se n] w λe w'=>Yn (1<=n/\n<=200) e/\Bw w w':=by
 go_in
 go_wp2_with fail
 refine(a6a n _).mono ?_;rintro e w1⟨rfl,rfl⟩;go_wp2;go_ret;exact⟨⟨_,rfl,J4⟩,O4 _ _⟩
theorem IW(a b:BY)(w:World)(ha:a.size<=1048700)(hb:b.size<=1048700):
 Calls prog 235 #[.agg #[Sb a,Sb b]] w λe w'=>Yn (Y5 a.data.toList=true/\b.size<=300) e/\Bw w w':=by
 have c:∀o,Bw w (w.alloc o):=λo=>U6
 go_in
 go_wp2_with fail
 refine(c80 a _ ha).mono ?_;rintro e w1⟨rfl,rfl⟩;cases hn:Y5 a.data.toList
 ·have g:Hid (Yn (Y5 a.data.toList=true/\b.size<=300) (Sf (.bool false))):=T_ (λh=>by rw[hn]at h;cases h.1);go_wp2;go_ret;exact⟨g.o,c _⟩
 by_cases d:b.size<=300
 ·have f:decide ((b.size:Int)<=300)=true:=L8;go_wp2;go_ret;exact⟨⟨true,rfl,⟨λ_=>⟨hn,d⟩,λ_=>rfl⟩⟩,c _⟩
 have f:decide ((b.size:Int)<=300)=false:=L8;go_wp2;go_ret;exact⟨⟨false,rfl,⟨(λh=>by cases h),λh=>absurd h.2 d⟩⟩,c _⟩
theorem jX(a b:BY)(w:World)(ha:a.size<=1048700)(hb:b.size<=1048700):
 Calls prog 200 #[.agg #[Sb a,Sb b]] w λe w'=>Yn (Y5 a.data.toList=true/\b.size<=300) e/\Bw w w':=by
 have c:∀o,Bw w (w.alloc o):=λo=>U6
 go_in
 go_wp2_with fail
 refine(c21 a _ ha).mono ?_;rintro e w1⟨rfl,rfl⟩;cases hn:Y5 a.data.toList
 ·have g:Hid (Yn (Y5 a.data.toList=true/\b.size<=300) (Sf (.bool false))):=T_ (λh=>by rw[hn]at h;cases h.1);go_wp2;go_ret;exact⟨g.o,c _⟩
 by_cases d:b.size<=300
 ·have f:decide ((b.size:Int)<=300)=true:=L8;go_wp2;go_ret;exact⟨⟨true,rfl,⟨λ_=>⟨hn,d⟩,λ_=>rfl⟩⟩,c _⟩
 have f:decide ((b.size:Int)<=300)=false:=L8;go_wp2;go_ret;exact⟨⟨false,rfl,⟨(λh=>by cases h),λh=>absurd h.2 d⟩⟩,c _⟩
theorem a6f(a b:BY)(w:World)(ha:a.size<=1048700)(d:b.size<=1048700):
 Calls prog 412 #[.agg #[Sb a,Sb b]] w λe w'=>Yn (Y5 a.data.toList=true/\b.size<=300) e/\Bw w w':=by
 have f:∀o,Bw w (w.alloc o):=λo=>U6
 go_in
 go_wp2_with fail
 refine(IW a b _ ha d).mono ?_;rintro e w1⟨⟨r,rfl,hr⟩,c⟩;go_wp2;go_ret;exact⟨⟨r,rfl,hr⟩,(f _).trans (c.mono J4)⟩
theorem a4x(a:BY)(w:World)(ha:a.size<=1048700):
 Calls prog 414 #[Sb a] w λe w'=>Yn (Y5 a.data.toList=true) e/\Bw w w':=by
 go_in
 go_wp2_with fail
 refine(c80 a _ ha).mono ?_;rintro e w1⟨rfl,rfl⟩;go_wp2;go_ret;exact⟨⟨_,rfl,Iff.rfl⟩,O4 _ _⟩
theorem a4Z(w:World):
 Calls prog 418 #[.agg #[]] w λe w'=>Yn True e/\Bw w w':=by
 have a:∀o,Bw w (w.alloc o):=λo=>U6
 go_in
 go_wp2;go_ret;exact⟨Yk trivial,by first|exact a _|exact O4 _ _⟩
theorem a4H(m:M3)(ls:List L4)(c:Int)(t:BY)(a:OA)(d:Nat)(w:World)(hm:m.le 1048576)(hl:ls.length<=1048576)(hs:∀i,(ls.getD i K_).le 1048576)(ht:t.size<=1048576)(v:O9 w a ls):
 Calls prog 416 #[.agg #[Sb m.nm,Sb m.tl,Sb m.ar,Sa a ls.length d,Sc Se c,Sb t]] w λe w'=>Yn (Fg m ls c t) e/\Bw w w':=by
 have y:∀o,Bw w (w.alloc o):=λo=>U6
 go_in
 go_wp2_with fail
 refine(zZ m _ ⟨X7 hm.1 O0,X7 hm.2.1 O0,X7 hm.2.2 O0⟩).mono ?_;rintro e w1⟨rfl,k⟩;have f:Below (w.heap.size+1) (w.alloc (Sg #[vS m.nm,vS m.tl,vS m.ar,vL a ls.length d,vI c,vS t] 310)) w1:=bG k;have p:=(X9 w [vS m.nm,vS m.tl,vS m.ar,vL a ls.length d,vI c,vS t] 310).below f O0;have j:=(y _).trans (f.mono O0);have q:w.heap.size<w1.heap.size:=by have h:=f.size;simp at h;omega
 have k3:=p 3 _ rfl;clear k;cases hn:ig m
 ·have b:Hid (Yn (Fg m ls c t) (Sf (.bool false))):=T_ (λh=>by have h1:=h.1;rw[hn]at h1;cases h1);go_wp2;go_ret;exact⟨b.o,j⟩
 go_wp2_with fail
 refine(c233 a d ls _ hl hs (Q7 v j)).mono ?_;rintro e w2⟨⟨r,rfl,hr⟩,g⟩;have l:=E5 j g;have n:=p.below g q;have k4:=n 4 _ rfl;have k5:=n 5 _ rfl;clear g;cases r
 ·have b:Hid (Yn (Fg m ls c t) (Sf (.bool false))):=T_ (λh=>absurd (hr.2 h.2.1) U5);clear hr;go_wp2;go_ret;exact⟨b.o,l⟩
 have s:=hr.1 rfl;clear hr
 go_wp2_with fail
 refine(c234 c t _ O0).mono ?_;rintro e w3⟨rfl,u⟩;have x:=E5 l u;have b:Hid (Yn (Fg m ls c t) (Sf (.bool (vr c t.data.toList)))):=⟨_,rfl,⟨λh=>⟨hn,s,h⟩,λh=>h.2.2⟩⟩;go_wp2;go_ret;exact⟨b.o,x⟩
open Go.WideElems (Fit rd rg pl rd_val rd_key)
def mk3(p:BY×Int×ByteArray):Value:=.agg #[Sb p.1,Sc Se p.2.1,Sb p.2.2]
open Classical in
noncomputable def WW(v:Value):Option (DataW Value×List MemPlace):=if ∃p,v=mk3 p then some (.held v,[]) else none
theorem UK{y:DataW Value×List MemPlace}(h:WW v=some y):(∃p,v=mk3 p)/\y=(.held v,[]):=by
 unfold WW at h;split at h
 ·rename_i a;exact⟨a,(C_ h).symm⟩
 cases h
theorem zS{f:List (ByteArray×Value)}(h:w.ownsMap prog 9 h_ b n (mapD f))(hf:∀p∈f,∃q,p.2=mk3 q):w.ownsMap prog 9 WW b n (mapD f):=by
 obtain⟨es,clock,m,F,hs,hD⟩:=h;have j:∀x∈es.toList,∀z,h_ x.val=some z->WW x.val=some z:=λx hx z hz=>by
  obtain⟨y,c⟩:=F.reads x hx;have hm:rg prog 9 h_ x∈(es.toList.map (rg prog 9 h_)).foldr DataW.insert []:=mem_sorted.2 (EG hx);have o:f.map eS=(es.toList.map (rg prog 9 h_)).foldr DataW.insert []:=by
   have:=hD;unfold mapD at this;exact DataW.map.inj this
  rw[<- o]at hm;obtain⟨p,l,e⟩:=Rh.1 hm;have t:rg prog 9 h_ x=y:=by unfold rg;rw[c];rfl
  obtain⟨d,a,i⟩:=rd_val c;have g:d=(.held x.val,[]):=by unfold h_ at a;exact(Option.some.inj a).symm
  have s:DataW.held p.2=DataW.held x.val:=by
   have:=G7 Prod.snd (e.trans t);rw[i,g]at this;exact this
  have r:p.2=x.val:=by injection s
  obtain⟨q,k⟩:=hf p l;unfold h_ at hz;unfold WW;rw[D8 ⟨q,r▸k⟩];exact hz
 have h1:=World.ownsMap_of_fit (R:=WW) m F j;rw[<- hD]at h1;exact h1.mono hs
theorem a4P(a b i ns:Nat)(g:DataW Value)(f:List (ByteArray×Value))(w:World)(hd:w.ownsMap prog 9 h_ a i g)(u:w.ownsMap prog 9 h_ b ns (mapD f))(hf:∀p∈f,∃q,p.2=mk3 q)(O:a≠b)(hroom:i+Maps.size (mapD f)<=maxLen):
 Calls prog 269 #[.map (some a),.map (some b)] w λe w'=>e=Sf (.tuple #[])/\w'.ownsMap prog 9 h_ a (i+Maps.size (mapD f)) (Lib.mergeD g (mapD f))/\w.grownBy w' (some a):=by
 have hs:=zS u hf;generalize mapD f=d at*;have hbd:=hd.lt;have hbs:=hs.lt
 go_in
 go_wp2_with(first
  | (at_range;refine wpList_range_own _ rfl _ 290 rfl 9 298 Bz underlying290 WW b ns _ rfl hs ?_;intro w0 J E u)
  | go_in)
 go_frame
 go_loopw[8] (λ_ wr=>∃(n:Lit->Bool)(l:Nat)(s:DataW Value),wr.ranges prog 9 WW b w.heap.size ns d n l/\l<=Maps.size d/\
  wr.ownsMap prog 9 h_ a (i+(Maps.size d-l)) s/\Merged s g d n/\w.grownBy wr (some a))
  (λ_ wr=>wr.rangeLeft b w.heap.size)
 case atStart=>
  exact⟨_,_,g,J,Y7 _,(hd.kept E J4).mono O0,merged_start g d,E.but _⟩
 obtain⟨n,l,s,z,hcs,k,hM,A⟩:=hrel
 go_wp2_with(first
  | (at_next;refine wpList_next_ranges _ rfl _ rfl 9 Bz WW id mk3 (λkey _ _=>⟨key,rfl⟩) (λv _ h=>(UK h).1) b w.heap.size ns _ _ _ rfl z ?_ ?_)
  | go_in)
 ·intro S Q;go_wp2
  go_end0
  subst S;have e:=merged_eq Bz.one hM Q (k.canon Bz) (hd.canonK Bz) (hs.canonK Bz);subst e;exact⟨rfl,by simpa using k,A⟩
 intro x ca r cb kl m yp w1 V o hlx hv U I P D hs1 R;have t:=(UK hv).2;have N:=k.kept D (λe=>by have:=C_ e;omega);have C:=gG w1 (Sg #[vS ca,vI r,vS cb] 298) none;have L:=U0 (N.alloc (Sg #[vS ca,vI r,vS cb] 298));have H:=U0 (I.kept C J4 J4);have F:Hid (h_ (.agg #[vS ca,vI r,vS cb])=some (m,[])):=by show h_ _=_;rw[show m=_ from G7 Prod.fst t];rfl
 simp only[mk3]at R o ⊢;clear t hv
 go_wp2_with(first
  | (at_mapUpdate;refine wpList_mapUpdate_own _ rfl _ _ _ 290 rfl 9 298 Bz underlying290 h_ a _ _ rfl L.o O0 _ _ _ rfl rfl o m [] F.o ?_;intro w2 K B;go_frame)
  | go_in)
 have y:=H.o.kept B (λe=>O (C_ e).symm) (λe=>by have:=C_ e;omega);go_roundw
 ·exact⟨_,V,_,y,O0,K.mono O0,merged_step hM k.isMap (Bz.key o) U,((A.andThen D (λj c=>.inl (by cases c;exact Y7 _))).andThen C (λj c=>by cases c)).andThen B (λj c=>.inr c)⟩
 rw[y.left_eq,z.left_eq];exact P
def YI(is:List L4):List Value:=is.flatMap λx=>[.bool x.has,Sb x.nm,Sc Se x.cd,Sb x.tx]
theorem YW(is:List L4):(YI is).length=is.length*4:=by
 induction is with
 | nil=>rfl
 | cons x is ih=>
  show([_,_,_,_]++YI is).length=_;rw[Q9,ih];simp;omega
theorem iY(is:List L4):∀i,i<is.length->(YI is)[i*4]?=some (.bool (is.getD i K_).has)/\(YI is)[i*4+1]?=some (Sb (is.getD i K_).nm)/\(YI is)[i*4+2]?=some (Sc Se (is.getD i K_).cd)/\(YI is)[i*4+3]?=some (Sb (is.getD i K_).tx):=by
 induction is with
 | nil=>intro i h;exact absurd h (U8 _)
 | cons x is ih=>
  intro i h
  cases i with
  | zero=>exact⟨rfl,rfl,rfl,rfl⟩
  | succ i=>
   have a:i<is.length:=by simpa using h
   have k:=ih i a;have e:∀j,(YI (x::is))[(i+1)*4+j]?=(YI is)[i*4+j]?:=λj=>by
    show([_,_,_,_]++YI is)[(i+1)*4+j]?=_;rw[Yf L8]
    congr 1
    simp;omega
   have e0:=e 0;simp only[Zo]at e0;rw[e0,e 1,e 2,e 3];simpa using k
structure Fh(w:World)(B:Nat)(ao:OA)(is:List L4):Prop where
 at':O9 w ao is
 own:is=[]\/∃g,ao=some ⟨g,0,none⟩/\B<=g/\EC w g is.length
theorem TK(h:w.ownsRow B 213 4 v n (YI is))(f:n=is.length):∃ao c,v=Sa ao n c/\Fh w B ao is:=by
 subst f;have a:=h;obtain⟨h1,h2⟩:=h;rcases h2 with⟨rfl,h0⟩|⟨g,cp,cur,rfl,o,m,_⟩
 ·have e:=Xb.1 h0;subst e;exact⟨none,0,rfl,.inl rfl,.inl rfl⟩
 have b:=xg m;refine⟨some (aA g 0),cp,rfl,.inr ⟨g,0,rfl,b,λi l=>?_⟩,.inr ⟨g,rfl,o,b,λj d=>?_,λj=>a.frozenAt j⟩⟩
 ·have k:=iY is i l;simp only[Y8];rw[a.cellAt _ O0,a.cellAt _ O0,a.cellAt _ O0,a.cellAt _ O0];exact k
 rw[a.cellAt j d];have:j<(YI is).length:=by rw[YW];exact d
 exact⟨_,V8 this⟩
theorem Fh.mono{B':Nat}{ao:OA}(h:Fh w B ao is)(hB:B'<=B):Fh w B' ao is:=
 ⟨h.at',h.own.imp id λ⟨g,h1,h2,a⟩=>⟨g,h1,X7 hB h2,a⟩⟩

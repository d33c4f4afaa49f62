import Derived.Test.YtbgdfcmeheaiiaaGreatDoorM2
import Derived.RangeFuncNested
import Derived.RangeFuncBound
import Derived.RangeFuncCalls
import Derived.RangeFuncLeaves
import Derived.Shelf.Abstract
import Derived.Shelf.AbstractIn
import Derived.Shelf.RegionOpen
import Derived.OwnWalkIn
import Derived.TacticsInMore
import Derived.LoopNIn
import Derived.LoopIn
import Derived.Test.YtbgdfcmeheaiiaaGreatDooreP2
import Derived.Shelf.Strings.Split
import Derived.Shelf.Small.Strs
set_option linter.unusedVariables false
set_option linter.unusedSimpArgs false
set_option maxHeartbeats 8000000
set_option maxRecDepth 100000
namespace Go.Proofs.YtbgdfcmeheaiiaaGreatDoor
open Proofs.Tryz Go.RowKit Go.Maps
variable{B H S X b bP bR bT j n:Nat}{A w w':World}{W c:Int}{f l pl:List (ByteArray×Value)}{rv:List Value}{v:Value}{zs:List Int}{rs:List R3}{P:Program}{ops:Array Oper}{o:Oper}{a:Act}{K:Act->World->Prop}{Q:Exit->Act->World->Prop}{t:BY}{ts:LB}
def Sh(B H bT bR bP:Nat)(W:Int)(l:List (ByteArray×Value))(rs:List R3)(rv:List Value)(w:World):Prop:=∃pl,JB B H bT bR bP W l rv pl w/\ShR B rs rv pl w
theorem Zv{es:Array MapEntry}{c:Nat}(hB:B<=b)(hm:w.heap[b]?=some (.map es c)):KL B w (some b):=λj e=>by
 cases e
 exact⟨hB,λcur fr e=>by rw[hm]at e;simp at e⟩
theorem JB.neH(h:JB B H bT bR bP W l rv pl w){k:TypeId}{R:Value->Option (DataW Value×List MemPlace)}{b n:Nat}{D:DataW Value}(hm:w.ownsMap prog k R b n D):some H≠some b:=λe=>by
 obtain⟨es,ck,a⟩:=Uh hm;exact Ug (h.blk 0 _ rfl) a (D_ e)
theorem JB.upR{b:List Value}(h:JB B H bT bR bP W l rv pl w)(a:w.grownBy w' (some bR))(hm:w'.ownsMap prog 3 Oa bR b.length (intD b)):JB B H bT bR bP W l b pl w':=
 ⟨h.hH,h.hT,h.hR,h.hP,G9 h.lt a.size,h.n1,h.n2,h.n3,Xa h.blk a h.lt (h.neH h.rc),h.tx.kept a (λe=>h.n1 (D_ e)),h.ta,hm,h.pc.kept a (λe=>h.n3 (D_ e).symm),h.pa,h.ty.kept a (h.neH h.rc)⟩
theorem JB.upP{b:List (ByteArray×Value)}(h:JB B H bT bR bP W l rv pl w)(a:w.grownBy w' (some bP))(hm:w'.ownsMap prog 9 Oa bP b.length (mapD b))(ha:Asc b):JB B H bT bR bP W l rv b w':=
 ⟨h.hH,h.hT,h.hR,h.hP,G9 h.lt a.size,h.n1,h.n2,h.n3,Xa h.blk a h.lt (h.neH h.pc),h.tx.kept a (λe=>h.n2 (D_ e)),h.ta,h.rc.kept a (λe=>h.n3 (D_ e)),hm,ha,h.ty.kept a (h.neH h.pc)⟩
theorem JB.upT{b:List (ByteArray×Value)}(h:JB B H bT bR bP W l rv pl w)(a:w.grownBy w' (some bT))(hm:w'.ownsMap prog 9 Oa bT b.length (mapD b))(ha:Asc b):JB B H bT bR bP W b rv pl w':=
 ⟨h.hH,h.hT,h.hR,h.hP,G9 h.lt a.size,h.n1,h.n2,h.n3,Xa h.blk a h.lt (h.neH h.tx),hm,ha,h.rc.kept a (λe=>h.n1 (D_ e).symm),h.pc.kept a (λe=>h.n2 (D_ e).symm),h.pa,h.ty.kept a (h.neH h.tx)⟩
theorem Vl(h:w.ownsInts B 3 .i64 v zs){es:Array MapEntry}{c:Nat}(hm:w.heap[b]?=some (.map es c)):v.ownBlock≠some b:=λe=>by
 obtain⟨_,_,cur,hc⟩:=Og h e;rw[hm]at hc;simp at hc
theorem Rk{t:TypeId}(h:w.ownsInts B 3 .i64 v zs)(hT:Oj w b t)(ht:t≠3):some b≠v.ownBlock:=λe=>by
 obtain⟨_,_,cur,hc⟩:=Og h e.symm;obtain⟨cur',fr,hT⟩:=hT;rw[hT]at hc;simp at hc;exact ht hc.2.1
theorem Ri{k:TypeId}{R:Value->Option (DataW Value×List MemPlace)}{D:DataW Value}(h:w.ownsInts B 3 .i64 v zs)(hm:w.ownsMap prog k R b n D):some b≠v.ownBlock:=λe=>by
 obtain⟨es,ck,a⟩:=Uh hm;exact Vl h a e.symm
theorem ints_at{k:BY}(R:ShR B rs rv pl w)(hv:(Z_ pl k).getD (.slice none 0 0)=v)(a:Bw w w'):w'.ownsInts B 3 .i64 v (qx rs k):=by
 cases hq:Z_ pl k with
 | none=>
  rw[hq]at hv;subst hv;rw[R.non k hq];exact World.ownsInts_nil _ _ _ _
 | some u=>
  rw[hq]at hv;subst hv;exact(R.grp k u hq).kept (Bf a) (by cases u.ownBlock<;>simp)
theorem Tj{E:Prop}
 (y:o.guard=none) (s x:Operand) (t:TypeId) (q:o.op=Op.call { callee:=Callee.builtin Builtin.append,args:=#[s,x],argTypes:=#[t,t] })
 (base:Nat) (e:TypeId) (i:TypeInfo) (z:Value) (size bytes:Nat) (h1:P.underlying t=some (.slice e)) (h2:P.info? e=some i) (I:i.zero=some z) (H:i.size=size) (F:i.bytes=bytes) (D:z.cells.size=size) (C:0<size)
 (v:Value) (n:Nat) (xs:List Value) (k:a.eval s=v) (p:w.ownsRow base e size v n xs)
 (d:Addr) (m c:Nat) (b:List Value) (hx:a.eval x=.slice (some d) m c) (r:b.length=m*size) (hc:∀j u,b[j]?=some u->w.cell? (d.add j)=some u) (J:∀u∈b,u.oneCell'=true)
 (N:n+m<=maxLen) (L:(n+m)*bytes<=140737488355328) (A:base<=w.heap.size)
 (B:∀v' w',w'.ownsRow base e size v' (n+m) (xs++b)->w.grownBy w' v.ownBlock->(v'.ownBlock=v.ownBlock\/v'.ownBlock=some w.heap.size)->K (a.put o.dst v') w'):
 if Region.wanted o (yielded ops a.tmps)=true then Oper.wp P o a w K Q else E:=by
 have hw:Region.wanted o (yielded ops a.tmps)=true:=by simp[Region.wanted,y]
 rw[D8 hw];obtain⟨v',w',l,h,g,_,f⟩:=run_append_own_at (P:=P) w base t o.type e i z size bytes h1 h2 I H F D C v n xs p d m c b r hc J N L A;unfold Oper.wp;simp[execOp,q,resolve,invoke,builtin,k,hx,l,Result.andThen];exact B v' w' h g f
theorem DL{E:Prop}(d:o.guard=none)(t:TypeId)(m x:Operand)(ok:Bool)(ho:o.op=Op.lookup t m x ok)(c b:Value){r:Value}
 (hm:a.eval m=c) (hx:a.eval x=b) (hr:(Instr.lookup t c b ok).run P w=.ok r w) (h:K (a.put o.dst r) w):
 if Region.wanted o (yielded ops a.tmps)=true then Oper.wp P o a w K Q else E:=by
 have hw:Region.wanted o (yielded ops a.tmps)=true:=by simp[Region.wanted,d]
 rw[D8 hw];unfold Oper.wp;simp[execOp,ho,hm,hx,hr,Result.andThen];exact h
theorem info3:(prog.info? 3).map (λi=>(i.zero,i.size,i.bytes))=some (some (.int .i64 0),1,8):=Y0
theorem ShR.push{u1 u2 u3 u4:World}{x:R3}{V v':Value}(R:ShR B rs rv pl u1)(X:YB B u1 V x)(hA:Asc pl)(hv:(Z_ pl x.key).getD (.slice none 0 0)=v)(r:Bw u1 u2)(hs2:B<=u2.heap.size)
 (q:u2.grownBy u3 v.ownBlock) (ho:u3.ownsRow B 3 1 v' n ((qx rs x.key).map (Value.int .i64)++[.int .i64 (rs.length:Nat)])) (I:n=(qx rs x.key).length+1) (E:v'.ownBlock=v.ownBlock\/v'.ownBlock=some u2.heap.size) (g:u3.grownBy u4 (some bP)) (L:B<=bP) {es:Array MapEntry} {N:Nat} (hm:u3.heap[bP]?=some (.map es N)) (hrl:rs.length<=1048576):
 ShR B (rs++[x]) (rv++[V]) (Gg (x.key,v') (pl.filter λp=>!decide (p.1=x.key))) u4:=by
 have F:=ints_at R hv r;have s:=R.below r;have O:=X.kept (Bf r) (λ_ e=>by cases e);obtain⟨_,f⟩:=XA hA x.key v';have H:(Lit.int .i64 ((rs.length:Nat):Int)).wf=true:=WalkArith.wf_i64 O0;have C:=F.appended (by rw[<- I];exact ho) H;have w:KL B u2 v.ownBlock:=λj e=>by
  obtain⟨h1,_,cur,l⟩:=Og F e;exact⟨h1,λcur' fr e=>by rw[l]at e;simp at e⟩
 have t:=Zv L hm;have z:∀{u:Value}{zs:List Int},u3.ownsInts B 3 .i64 u zs->u.ownBlock=none\/u.ownBlock≠some bP:=λh=>.inr (Vl h hm);have m:∀k u,k≠x.key->Z_ pl k=some u->u.ownBlock=none\/u.ownBlock≠v.ownBlock:=λk u b a=>by
  cases hq:Z_ pl x.key with
  | none=>
   rw[hq]at hv;subst hv
   cases hb:u.ownBlock with
   | none=>exact .inl rfl
   | some j=>exact .inr (by simp[Value.ownBlock])
  | some y=>
   rw[hq]at hv;subst hv;exact R.apart k x.key u y b a hq
 have A:∀k u,Z_ pl k=some u->∀j,u.ownBlock=some j->j<u2.heap.size:=λk u a j J=>(Og (s.grp k u a) J).2.1;refine⟨by simp[R.len],λi K=>?_,λk u a=>?_,λk b=>?_,λk k' u u' D a c=>?_,?_⟩
 ·rcases P7 i rs.length with h|h
  ·have e1:(rv++[V]).getD i undef=rv.getD i undef:=by simp[List.getD,R_ (show i<rv.length by rw[R.len];exact h)]
   have d:(rs++[x]).getD i j_=rs.getD i j_:=by simp[List.getD,R_ h]
   rw[e1,d];exact((s.recs i h).kept q w).kept g t
  obtain rfl:i=rs.length:=by simp at K;omega
  have e1:(rv++[V]).getD rs.length undef=V:=by simp[List.getD,<- R.len]
  have d:(rs++[x]).getD rs.length j_=x:=by simp[List.getD]
  rw[e1,d];exact(O.kept q w).kept g t
 ·rw[f k]at a;rw[LG];by_cases b:k=x.key
  ·subst b;rw[D8 rfl]at a;cases a;rw[D8 rfl];exact C.kept g (z C)
  rw[Y7 b]at a;rw[Y7 (λe=>b e.symm),Gv];have l:=(s.grp k u a).kept q (m k u b a);exact l.kept g (z l)
 ·rw[f k]at b;by_cases o:k=x.key
  ·rw[D8 o]at b;cases b
  rw[Y7 o]at b;rw[LG,Y7 (λe=>o e.symm),R.non k b,Gv]
 ·rw[f k]at a;rw[f k']at c;by_cases h1:k=x.key
  ·have h2:k'≠x.key:=λe=>D (h1.trans e.symm);rw[D8 h1]at a;rw[Y7 h2]at c;cases a;rcases E with e|e
   ·rw[e];rcases m k' u' h2 c with h|h
    ·cases hq:v.ownBlock with
     | none=>exact .inl rfl
     | some j=>exact .inr (by rw[h];simp)
    exact .inr (λe=>h e.symm)
   refine .inr λd=>?_;have:=A k' u' c _ (d.symm.trans e);omega
  rw[Y7 h1]at a;by_cases h2:k'=x.key
  ·rw[D8 h2]at c;cases c;rcases E with e|e
   ·rw[e];exact m k u h1 a
   cases hq:u.ownBlock with
   | none=>exact .inl rfl
   | some j=>
    refine .inr λd=>?_;have:=A k u a j hq;rw[e]at d;cases d;omega
  rw[Y7 h2]at c;exact R.apart k k' u u' D a c
 rw[(Md _ _).length_eq];have:=IJ (λp=>!decide (p.1=x.key)) pl;have:=R.pln;simp;omega
theorem c168(B H bT bR bP:Nat)(W:Int)(l:List (ByteArray×Value))(rs:List R3)(rv:List Value)(x:R3)(a:OA)(c:Nat)(w:World)(hSh:Sh B H bT bR bP W l rs rv w)(hx:YB B w (.agg #[.string x.key,.slice a x.gs.length c,.string x.out]) x)(hn:rs.length<=1000)(hk:x.key.size<=1048700):
 Calls prog 168 #[.pointer (some ⟨H,0,none⟩),.agg #[.string x.key,.slice a x.gs.length c,.string x.out]] w λe w'=>e=.returned (.tuple #[])/\Sh B H bT bR bP W l (rs++[x]) (rv++[.agg #[.string x.key,.slice a x.gs.length c,.string x.out]]) w'/\Below B w w'/\KF w w':=by
 obtain⟨pl,hC,hR⟩:=hSh;have HL:=U0 hR.len;have HPL:Hid (pl.length<maxLen):=by show _<_;have:=hR.pln;unfold maxLen;omega
 have hrn:rv.length<=1000:=by rw[HL.out];exact hn
 have a5G:=hC.lt;have hBH:=hC.hH;obtain⟨i0,hi,hz0,hz1,hz2⟩:=info_parts' info3;obtain⟨v,hv⟩:∃v,(Z_ pl x.key).getD vN=v:=⟨_,rfl⟩;have N:=U0 hv;obtain⟨es,ck,U,hpF,hps,hpD⟩:=hC.pc;have hbP:=(Ua.1 U).1;have HB1:Hid ((qx rs x.key).length+1<=maxLen):=by show _<=_;have:=ND rs x.key;unfold maxLen;omega
 have HB2:Hid (((qx rs x.key).length+1)*8<=140737488355328):=by show _<=_;have:=ND rs x.key;omega
 have hkm:x.key.size<=maxLen:=by unfold maxLen;omega
 have HLK:Hid (∀u:World,u.heap[bP]?=some (.map es ck)->(Instr.lookup 274 (.map (some bP)) (vS x.key) false).run prog u=.ok v u):=λu hu=>by
  rw[<- hv];exact wI (n:=pl.length) ⟨es,ck,hu,hpF,hps,hpD⟩ underlying274 Y0 hkm
 have t:Bw w (w.alloc (.cells #[vS x.key,vL a x.gs.length c,vS x.out] 176)):=P6;have sz0:(w.alloc (.cells #[vS x.key,vL a x.gs.length c,vS x.out] 176)).heap.size=w.heap.size+1:=O4;have hp0:=(t.block bP hbP).trans U;have h67:Hid (Oj (w.alloc (.cells #[vS x.key,vL a x.gs.length c,vS x.out] 176)) w.heap.size 176):=U0 (vK w #[vS x.key,vL a x.gs.length c,vS x.out] 176);have F:=U0 (hC.below t);have R0:=U0 (hR.below t);have X0:=U0 (hx.kept (Bf t) (λ_ e=>by cases e));have O:Hid (E5 (w.alloc (.cells #[vS x.key,vL a x.gs.length c,vS x.out] 176)) w.heap.size [vS x.key,vL a x.gs.length c,vS x.out]):=U0 (I9 w [vS x.key,vL a x.gs.length c,vS x.out] 176);have f2:=F.out.blk 2 _ rfl;have f3:=F.out.blk 3 _ rfl;have e0:=O.out 0 _ rfl;have e1:=O.out 1 _ rfl;have e2:=O.out 2 _ rfl;obtain⟨es1,ck1,s⟩:=Uh (hC.rc)
 replace s:=(t.block bR (Ua.1 s).1).trans s
 have Y:some w.heap.size≠some bR:=λe=>Ug e0 s (D_ e);have a6v:some H≠some bR:=λe=>Ug (F.out.blk 0 _ rfl) s (D_ e);have a5W:some bP≠some bR:=λe=>hC.n3 (D_ e).symm;clear hC hR hx hv U hpF hps hpD
 go_in
 go_wp2_with(at_len;refine wpList_len_own _ rfl _ 273 rfl 3 176 underlying273 Oa bR _ (intD rv) rfl F.out.rc ?_;rw[Bl])
 rename_i K0 hK0;generalize (w.alloc (.cells #[vS x.key,vL a x.gs.length c,vS x.out] 176))=u0 at*;have D:=U0 (F.out.below (J4 _ _).drew);have RD:=U0 (R0.out.below (J4 _ _).drew);have XD:=U0 (X0.out.kept (Bf (w':=u0.drew) (J4 _ _).drew) (λ_ e=>by cases e));have ED:Hid (E5 u0.drew w.heap.size [vS x.key,vL a x.gs.length c,vS x.out]):=U0 (O.out.below (J4 (w.heap.size+1) _).drew O0);have HN:Hid (rv.length<maxLen):=by show rv.length<maxLen;unfold maxLen;omega
 have a6w:rv.length<=1048576:=O0;have HN2:=HPL;refine wp_region_held_drew (S:=(λu=>u.cell? (aA H 2)=some (.map (some bR))/\u.cell? (aW w 0)=some (vS x.key)/\u.cell? (aW w 1)=some (vL a x.gs.length c)/\u.cell? (aW w 2)=some (vS x.out))) Y0 ?_ λhHeld=>?_
 ·exact⟨f2,e0,e1,e2⟩
 iterate 6 refine sq ?_
 refine rq 6 λK b=>?_;refine VQ (vs:=rv) (vv:=.agg #[vS x.key,vL a x.gs.length c,vS x.out]) rfl 273 (.tmp 13) (.tmp 14) (.tmp 15) rfl rfl rfl rfl D.out.rc underlying273 HN.out a6w rfl ?_;intro u1 hm1 r;have HR1:Hid (some w.heap.size≠some bR/\some H≠some bR/\some bP≠some bR):=⟨Y,a6v,a5W⟩;have P:=U0 (D.out.upR r hm1);have L:=U0 (RD.out.map r D.out.hR s);have X1:=U0 (XD.out.kept r (Zv D.out.hR s));have B1:=((J4 B u0).drew).trans (G_ (w:=u0.drew) r (λj e=>by cases e;exact D.out.hR) (by show B<=u0.heap.size;omega));have K1:=U0 (((Xc t Y8).trans (Xc (w':=u0.drew) (J4 u0.heap.size u0).drew Y8)).trans (Ry r s));have T1:=U0 ((h67.out.below (J4 (w.heap.size+1) u0).drew O0).kept r Y);have z:=U0 (Xa ED.out r (by show w.heap.size<u0.heap.size;omega) Y);have sz1:u0.heap.size<=u1.heap.size:=r.size;have g2:=P.out.blk 2 _ rfl;have g3:=P.out.blk 3 _ rfl;have g0:=z.out 0 _ rfl;have g1:=z.out 1 _ rfl;have g4:=z.out 2 _ rfl;have V:=(r.block bP (by show bP<u0.heap.size;omega) a5W).trans hp0;clear hHeld hm1 r;refine X8 b ⟨g2,g0,g1,g4⟩ λhHeld=>?_;clear b K hHeld;refine wdn ?_;refine hK0 _ _ ?_;clear hK0
 go_wp2_with fail
 refine wp_region_held_drew (S:=(λu=>u.cell? (aA H 3)=some (.map (some bP))/\u.cell? (aW w 0)=some (vS x.key))) Y0 ?_ λhHeld=>?_
 ·exact⟨g3,g0⟩
 refine U8 0 ?_;refine U8 1 ?_;refine U8 2 ?_;refine U8 3 ?_;refine U8 4 ?_;refine U8 5 ?_;refine U8 6 ?_;refine U8 7 ?_;refine U8 8 ?_;refine U8 9 ?_;refine U8 10 ?_;refine U8 11 ?_;refine U8 13 ?_;refine wpAnyH_ready (rs:=[12,14]) Y0 O4 ?_;refine AllReadyH.cons (o:=⟨some 28,.lookup 274 (.tmp 25) (.tmp 27) false,31,_,_,none⟩) rfl (λK b=>?_) (AllReadyH.cons (o:=⟨some 30,.buildSlice 31 1 #[(0,.tmp 29)],31,_,_,none⟩) rfl (λK b=>?_) AllReadyH.nil)
 ·refine DL rfl 274 (.tmp 25) (.tmp 27) false rfl (.map (some bP)) (vS x.key) rfl rfl (HLK.out _ V) ?_;clear hHeld;refine X8 b ⟨g3,g0⟩ λhHeld=>?_;clear b K;refine rq 14 λK b=>?_;go_simp;have d:Bw u1 ((u1.alloc (.cells #[vI rv.length] 3)).drew):=P6.drew;have I:=(d.cell (by exact(show H<u1.heap.size by omega))).trans g3;have J:=(d.cell (by exact(show w.heap.size<u1.heap.size by omega))).trans g0;have A:=(d.block bP O0).trans V;have c1:∀j u,[Value.int .i64 rv.length][j]?=some u->((u1.alloc (.cells #[vI rv.length] 3)).drew).cell? ((aW u1 0).add j)=some u:=λj u h=>cell_one_new u1 (vI rv.length) 3 j u h;have sz2:((u1.alloc (.cells #[vI rv.length] 3)).drew).heap.size=u1.heap.size+1:=O4;clear hHeld;refine X8 b ⟨I,J⟩ λhHeld=>?_;clear b K;have f:=U0 (ints_at L.out N.out d);have q:=U0 (P.out.below d);generalize ((u1.alloc (.cells #[vI rv.length] 3)).drew)=u2 at*;refine rq 15 λK b=>?_;refine Tj rfl (.tmp 28) (.tmp 30) 31 rfl B 3 i0 vO 1 8 underlying31 hi hz0 hz1 hz2 rfl J6 v _ _ rfl f.out.1 (aW u1 0) 1 1 [vI rv.length] rfl rfl c1 (by simp[Value.oneCell']) HB1.out HB2.out O0 ?_;intro v' u3 X g hl3;have Z:=Vl f.out A;have C:=U0 (T1.out.below d O0);have i:=U0 (q.out.kept g (Rk f.out q.out.ty J6) (Ri f.out q.out.tx) (Ri f.out q.out.rc) (Ri f.out q.out.pc));have sz3:=g.size;have y:=(g.block bP O0 (λe=>Z e.symm)).trans A;have R:=i.out.blk 3 _ rfl;have m0:=(Xa (z.out.below d O0) g O0 (Rk f.out C.out J6)) 0 _ rfl;clear hHeld;refine X8 b ⟨R,m0⟩ λhHeld=>?_;clear b K;refine rq 16 λK b=>?_;refine xA (l:=pl) (k:=x.key) (vv:=v') rfl 274 (.tmp 19) (.tmp 21) (.tmp 31) rfl rfl rfl rfl i.out.pc underlying274 HN2.out hkm rfl ?_;intro u4 m p;rw[qC]at m
  replace m:=Ej m
  rw[Ec]at m;have E:=U0 (i.out.upP p m (XA i.out.pa x.key v').1);have R4:=U0 (ShR.push L.out X1.out i.out.pa N.out d O0 g (by rw[<- HL.out];exact X) rfl hl3 p i.out.hP y O0);have B4:=((t.mono O0).trans B1).trans ((d.mono O0).trans ((G_ g (λj e=>(Og f.out e).1) O0).trans (G_ p (λj e=>by cases e;exact i.out.hP) O0)));have K4:=U0 (K1.out.trans ((Xc d Y8).trans ((VK g f.out).trans (Ry p y))));have n3:=E.out.blk 3 _ rfl;have Q:=(Xa (Xa (z.out.below d O0) g O0 (Rk f.out C.out J6)) p O0 (λe=>Ug m0 y (D_ e))) 0 _ rfl;clear hHeld;refine X8 b ⟨n3,Q⟩ λhHeld=>?_;clear b K;refine wdn ?_
  go_end0
  exact⟨rfl,⟨_,E.out,R4.out⟩,B4,K4.out⟩
 go_simp;have d:Bw u1 ((u1.alloc (.cells #[vI rv.length] 3)).drew):=P6.drew;have I:=(d.cell (by exact(show H<u1.heap.size by omega))).trans g3;have J:=(d.cell (by exact(show w.heap.size<u1.heap.size by omega))).trans g0;have A:=(d.block bP O0).trans V;have c1:∀j u,[Value.int .i64 rv.length][j]?=some u->((u1.alloc (.cells #[vI rv.length] 3)).drew).cell? ((aW u1 0).add j)=some u:=λj u h=>cell_one_new u1 (vI rv.length) 3 j u h;have sz2:((u1.alloc (.cells #[vI rv.length] 3)).drew).heap.size=u1.heap.size+1:=O4;clear hHeld;refine X8 b ⟨I,J⟩ λhHeld=>?_;clear b K;have f:=U0 (ints_at L.out N.out d);have q:=U0 (P.out.below d);generalize ((u1.alloc (.cells #[vI rv.length] 3)).drew)=u2 at*;refine rq 12 λK b=>?_;refine DL rfl 274 (.tmp 25) (.tmp 27) false rfl (.map (some bP)) (vS x.key) rfl rfl (HLK.out _ A) ?_;clear hHeld;refine X8 b ⟨I,J⟩ λhHeld=>?_;clear b K;refine rq 15 λK b=>?_;refine Tj rfl (.tmp 28) (.tmp 30) 31 rfl B 3 i0 vO 1 8 underlying31 hi hz0 hz1 hz2 rfl J6 v _ _ rfl f.out.1 (aW u1 0) 1 1 [vI rv.length] rfl rfl c1 (by simp[Value.oneCell']) HB1.out HB2.out O0 ?_;intro v' u3 X g hl3;have Z:=Vl f.out A;have C:=U0 (T1.out.below d O0);have i:=U0 (q.out.kept g (Rk f.out q.out.ty J6) (Ri f.out q.out.tx) (Ri f.out q.out.rc) (Ri f.out q.out.pc));have sz3:=g.size;have y:=(g.block bP O0 (λe=>Z e.symm)).trans A;have R:=i.out.blk 3 _ rfl;have m0:=(Xa (z.out.below d O0) g O0 (Rk f.out C.out J6)) 0 _ rfl;clear hHeld;refine X8 b ⟨R,m0⟩ λhHeld=>?_;clear b K;refine rq 16 λK b=>?_;refine xA (l:=pl) (k:=x.key) (vv:=v') rfl 274 (.tmp 19) (.tmp 21) (.tmp 31) rfl rfl rfl rfl i.out.pc underlying274 HN2.out hkm rfl ?_;intro u4 m p;rw[qC]at m
 replace m:=Ej m
 rw[Ec]at m;have E:=U0 (i.out.upP p m (XA i.out.pa x.key v').1);have R4:=U0 (ShR.push L.out X1.out i.out.pa N.out d O0 g (by rw[<- HL.out];exact X) rfl hl3 p i.out.hP y O0);have B4:=((t.mono O0).trans B1).trans ((d.mono O0).trans ((G_ g (λj e=>(Og f.out e).1) O0).trans (G_ p (λj e=>by cases e;exact i.out.hP) O0)));have K4:=U0 (K1.out.trans ((Xc d Y8).trans ((VK g f.out).trans (Ry p y))));have n3:=E.out.blk 3 _ rfl;have Q:=(Xa (Xa (z.out.below d O0) g O0 (Rk f.out C.out J6)) p O0 (λe=>Ug m0 y (D_ e))) 0 _ rfl;clear hHeld;refine X8 b ⟨n3,Q⟩ λhHeld=>?_;clear b K;refine wdn ?_
 go_end0
 exact⟨rfl,⟨_,E.out,R4.out⟩,B4,K4.out⟩
open Go.RowKit Go.Maps Go.Sort Go.Shelf
attribute [local go_sem] Oper.semAt_some
theorem jU(s:BY):encStr s.data.toList=.string s:=by
 unfold encStr
 congr 1
theorem wH{k:Nat}(h:k<n):(List.finRange n).take (k+1)=(List.finRange n).take k++[⟨k,h⟩]:=by
 rw[Rq,D9 (by simpa using h)];simp
def fB(W:World)(S j:Nat):Option Nat:=(W.cell? ⟨S,j,none⟩).bind Value.ownBlock
structure Uz(S j X:Nat)(W W':World):Prop where
 size:W.heap.size<=W'.heap.size
 same:∀k o,W.heap[k]?=some o->(o.isCells=true\/o.isWalk=true)->(∀cur fr,o≠.cells cur X fr)->k≠S->fB W S j≠some k->W'.heap[k]?=some o
 fld:fB W' S j=fB W S j\/∃q,fB W' S j=some q/\W.heap.size<=q
theorem Uz.refl(S j X:Nat)(W:World):Uz S j X W W:=⟨J9 _,λ_ _ h _ _ _ _=>h,.inl rfl⟩
theorem Uz.trans{B C:World}(h:Uz S j X A B)(k:Uz S j X B C):Uz S j X A C:=by
 refine⟨Q8 h.size k.size,λi o ho hc b c hf=>?_,?_⟩
 ·have hi:=(Ua.1 ho).1;refine k.same i o (h.same i o ho hc b c hf) hc b c ?_;rcases h.fld with e|⟨q,e,a⟩
  ·rw[e];exact hf
  rw[e];intro d;have:=D_ d;omega
 rcases k.fld with e|⟨q,e,a⟩
 ·rw[e];exact h.fld
 exact .inr ⟨q,e,Q8 h.size a⟩
theorem Uz.cell{B:World}(h:Uz S j X A B)(hf:fB A S j=none){p:Addr}(a:p.block≠S){t:TypeId}(hT:Oj A p.block t)(ht:t≠X):B.cell? p=A.cell? p:=by
 obtain⟨cur,fr,e⟩:=hT;have b:=h.same _ _ e (.inl rfl) (λcur' fr' c=>by cases c;exact ht rfl) a (by rw[hf];simp);unfold World.cell?;rw[e,b]
theorem Uz.map{B:World}(h:Uz S j X A B)(hf:fB A S j=none){k:TypeId}{R:Value->Option (DataW Value×List MemPlace)}{b n:Nat}{D:DataW Value}(c:b≠S)(hm:A.ownsMap prog k R b n D):B.ownsMap prog k R b n D:=by
 obtain⟨es,d,a,r⟩:=hm;exact⟨es,d,h.same b _ a (.inr rfl) (λ_ _ e=>by cases e) c (by rw[hf];simp),r⟩
theorem Kz{e:Nat}{va:OA}{xs:List Value}(h:w.ownsRow B e 1 (.slice va n b) n xs):n=0\/∃g,va=some ⟨g,0,none⟩/\B<=g/\g<w.heap.size/\Oj w g e/\∀k,k<n->w.cell? ⟨g,k,none⟩=some (xs.getD k undef):=by
 have c:=h;rcases h.2 with⟨hv,h0⟩|⟨g,cap,cur,hv,d,a,_⟩
 ·exact .inl h0
 simp only[Ir]at hv;obtain⟨rfl,_,rfl⟩:=hv;refine .inr ⟨g,rfl,d,(Ua.1 a).1,⟨cur,(0,0),a⟩,λk hk=>?_⟩;have hx:k<xs.length:=by have:=h.1;omega
 rw[c.cellAt k O0];simp only[List.getD,D9 hx,Hg]
theorem eY(l:List (ByteArray×Value)){k:Nat}(h:k<l.length):(l.map λp=>Value.string p.1).getD k undef=.string (l[k]'(h)).1:=by
 simp only[List.getD,Az,D9 h,yu,Hg]
theorem oW(l:List Value){k:Nat}(h:k<l.length):((List.range l.length).map λi:Nat=>Value.int .i64 (i:Int)).getD k undef=.int .i64 (k:Int):=by
 simp only[List.getD,Az,List.getElem?_range h,yu,Hg]
theorem a0m(m:Nat):AnyZ.SortsIn prog Tryz.sortedA_ren Fence.wide m:=
 ⟨λblk off a ss W hH c b=>callsIn_wide.2 (AnyM.slices_Sort_string Tryz.sortA blk off a ss W hH c b),
  λp a W=>callsIn_wide.2 (AnyM.slices_Sort_string_none Tryz.sortA p a W)⟩
theorem a4q(S j h b B:Nat)(l:List (ByteArray×Value))(w:World)(hA:Asc l)(hks:∀p∈l,p.1.size<=maxLen)(hl:l.length<=1000)(x:h<w.heap.size)(hm:w.cell? ⟨h,0,none⟩=some (.map (some b)))(t:w.ownsMap prog 9 Oa b B (mapD l))(hTm:Oj w h 272)(hSB:h≠S)(hSw:S<w.heap.size)(hbS:b≠S)(O:fB w S j=none):
 SeqStopsK Fence.wide 10 prog 244 #[.pointer (some ⟨h,0,none⟩)] (λi:Fin l.length=>#[(l[i.1]'(i.2)).2]) (Uz S j 280) (λxs=>xs=List.finRange l.length) (λ_=>True) l.length w:=λL J Jx W f hJ hJx R h0=>by
 have I:=(f.cell (by exact x)).trans hm;have q:=Yc t f t.lt;have K:fB W S j=none:=by unfold fB;rw[f.cell (p:=⟨S,j,none⟩) hSw];exact O
 have V:=G9 x f.size;have hbl:=q.lt;clear hm t O;have D:SeqGives Fence.wide 6 prog 300 #[.pointer (some ⟨W.heap.size,0,none⟩)] encStr (λss=>ss.Perm (strKeys (mapD l))) (Maps.size (mapD l)) (W.alloc (.cells #[.map (some b)] 272)):=
  AnyZ.keys_gives (ρ:=Tryz.keysA_ren) { Tryz.keysA with } Fence.wide _ trivial rfl O0 W.heap.size b B (mapD l) _ O4 O4 (q.alloc _)
 have Y:∀n W,CallsIn Fence.wide 9 prog 246 #[.map n] W λe w'=>e=.returned (.func (.func 300) #[] #[.pointer (some ⟨W.heap.size,0,none⟩)])/\w'=W.alloc (.cells #[.map n] 272):=λn W=>AnyZ.keys_in Tryz.keysA Fence.wide 9 trivial rfl n W;have y:=AnyZ.sorted_in Tryz.sortedA Fence.wide 9 trivial trivial trivial trivial rfl O0 (a0m _) (enters_of func299 Y0 rfl) 300 #[.pointer (some ⟨W.heap.size,0,none⟩)] trivial (enters_of func300 Y0 rfl) _ _ (by rw[Ec];unfold maxLen;omega) (by rw[Ec];omega) _ D;change CallsIn _ _ prog 245 _ _ _ at y;have X:CallsIn Fence.wide 9 prog 245 #[.func (.func 300) #[] #[.pointer (some ⟨W.heap.size,0,none⟩)]] (W.alloc (.cells #[.map (some b)] 272)) λe w'=>∃va m,e=.returned (vL va l.length m)/\Hid (w'.ownsRow (W.heap.size+1) 9 1 (vL va l.length m) l.length (l.map λp=>Value.string p.1))/\Bw W w':=by
  refine y.mono ?_;rintro e w'⟨v,ss,rfl,U,c,hnil,d⟩;have hlen:ss.length=l.length:=by rw[U.length_eq];rw[MC];simp
  rw[MH hA U]at c;rw[Ju,show(encStr∘λp:BY×Value=>p.1.data.toList)=λp=>Value.string p.1 from funext λp=>jU p.1]at c;rw[hlen]at c;have E:=a_ c (base':=W.heap.size+1) O4;obtain⟨va,m,rfl⟩:=Z9 E;exact⟨va,m,rfl,E,((J4 _ W).alloc Y8 _).trans (d.mono O4)⟩
 have hfK:Fence.wide.fn 246:=trivial;have hfS:Fence.wide.fn 245:=trivial;clear y D;refine callsIn_of_wp func244 rfl trivial ?_ rfl;simp only[ntmps244,yB,x_,ve,Nat.reduceAdd,Nat.reduceSub,dA,Jy,UA,JA,Qb,Ff]
 gi_wp2_with (first
  | (gi_at_call 246;refine(Y _ _).mono ?_;rintro e w'⟨rfl,rfl⟩)
  | (gi_at_call 245;refine X.mono ?_;rintro e s⟨va,m,rfl,c,d⟩))
 clear Y X;have hJ1:J [] s:=hJ [] W s none h0 (Bf d) (λ_ e=>by cases e);have hT1:=(hTm.below f x).below d V;have hm1:=(d.cell (by exact V)).trans I;have H:=Yc q d hbl;have N:fB s S j=none:=by unfold fB;rw[d.cell (p:=⟨S,j,none⟩) (Nat.lt_of_lt_of_le hSw f.size)];exact K
 have P:=Kz c.out;have hSW1:=G9 hSw f.size;have HO:=U0 H;have A:=U0 N;have HC:=U0 P;clear H N P c q K I
 gi_loopw[9] (λi wr=>∃k:Nat,k<=l.length/\i=vI k/\J ((List.finRange l.length).take k) wr/\Uz S j 280 s wr) (λi _=>l.length-(Go.RowKit.intOf i).toNat)
 case atStart=>exact⟨0,I4 _,rfl,hJ1,Uz.refl _ _ _ _⟩
 case round=>
  obtain⟨k,hk,rfl,u,r⟩:=hrel;by_cases a:k<l.length
  ·rcases HC.out with h0'|⟨g,Z,hgW,hgw,hTg,hcell⟩
   ·omega
   subst Z;have hgS:g≠S:=O0;have Q:=(r.cell A.out (p:=⟨g,k,none⟩) hgS hTg J6).trans (hcell k a);have hb3:=(r.cell A.out (p:=⟨h,0,none⟩) hSB hT1 J6).trans hm1;have F:=r.map A.out hbS HO.out;have o:=wI (k:=(l[k]'(a)).1) (z:=.agg #[vE,vO,vE]) F underlying272 Y0 (hks _ (ji a));rw[Yn hA (k:=(l[k]'(a)).1) (v:=(l[k]'(a)).2) (ji a)]at o;rw[Hg]at o;rw[eY l a]at Q;obtain⟨fn,tmps,assign,body,C,hR⟩:=R _ ⟨k,a⟩ wr u (by rw[L_,List.length_finRange];omega);dsimp only at C;clear R F;generalize hgk:(l[k]'(a)).1=kk at o Q;generalize hvk:(l[k]'(a)).2=vk at o C
   gi_wp2
   refine hR.mono ?_;rintro e W3 (⟨rfl,hJ3,hk3⟩|⟨rfl,hJx3⟩)
   ·gi_wp2
    go_roundw;exact⟨k+1,O0,by go_num,by rw[wH a];exact hJ3,r.trans hk3⟩;exact P9
   gi_wp2
   refine o7 (results_none rfl _ _ _) rfl ?_;exact⟨⟨_,rfl⟩,.inr ⟨_,trivial,hJx3⟩⟩
  obtain rfl:k=l.length:=O0
  gi_wp2
  go_end0
  exact⟨⟨_,rfl⟩,.inl ⟨_,rfl,by rw[p_ O4]at u;exact u⟩⟩
theorem a0h(m:Nat):AnyZI.SortsIn prog Tryz.sortedB_ren Fence.wide m:=
 ⟨λblk off a ss W hH c b=>callsIn_wide.2 (AnyM.slices_Sort_int Tryz.sortB blk off a ss W hH c b),
  λp a W=>callsIn_wide.2 (AnyM.slices_Sort_int_none Tryz.sortB p a W)⟩
theorem a3b(S j h b A:Nat)(l:List Value)(w:World)(hl:l.length<=1000)(u:h<w.heap.size)(hm:w.cell? ⟨h,0,none⟩=some (.map (some b)))(s:w.ownsMap prog 3 Oa b A (intD l))(hTm:Oj w h 273)(hSB:h≠S)(hSw:S<w.heap.size)(hbS:b≠S)(O:fB w S j=none):
 SeqStopsK Fence.wide 10 prog 247 #[.pointer (some ⟨h,0,none⟩)] (λi:Fin l.length=>#[(l[i.1]'(i.2))]) (Uz S j 176) (λxs=>xs=List.finRange l.length) (λ_=>True) l.length w:=λL J Jx W f hJ hJx Q h0=>by
 have I:=(f.cell (by exact u)).trans hm;have o:=Yc s f s.lt;have K:fB W S j=none:=by unfold fB;rw[f.cell (p:=⟨S,j,none⟩) hSw];exact O
 have U:=G9 u f.size;have hbl:=o.lt;clear hm s O;have C:SeqGives Fence.wide 6 prog 303 #[.pointer (some ⟨W.heap.size,0,none⟩)] encZ (λss=>ss.Perm (intKeys (intD l))) (Maps.size (intD l)) (W.alloc (.cells #[.map (some b)] 273)):=
  AnyZI.keys_gives (ρ:=Tryz.keysB_ren) { Tryz.keysB with } Fence.wide _ trivial rfl O0 W.heap.size b A (intD l) _ O4 O4 (o.alloc _)
 have X:∀n W,CallsIn Fence.wide 9 prog 249 #[.map n] W λe w'=>e=.returned (.func (.func 303) #[] #[.pointer (some ⟨W.heap.size,0,none⟩)])/\w'=W.alloc (.cells #[.map n] 273):=λn W=>AnyZI.keys_in Tryz.keysB Fence.wide 9 trivial rfl n W;have x:=AnyZI.sorted_in Tryz.sortedB Fence.wide 9 trivial trivial trivial trivial rfl O0 (a0h _) (enters_of func302 Y0 rfl) 303 #[.pointer (some ⟨W.heap.size,0,none⟩)] trivial (enters_of func303 Y0 rfl) _ _ (by rw[Bl];unfold maxLen;omega) (by rw[Bl];omega) _ C;change CallsIn _ _ prog 248 _ _ _ at x;have V:CallsIn Fence.wide 9 prog 248 #[.func (.func 303) #[] #[.pointer (some ⟨W.heap.size,0,none⟩)]] (W.alloc (.cells #[.map (some b)] 273)) λe w'=>∃va m,e=.returned (vL va l.length m)/\Hid (w'.ownsRow (W.heap.size+1) 3 1 (vL va l.length m) l.length ((List.range l.length).map λi:Nat=>Value.int .i64 (i:Int)))/\Bw W w':=by
  refine x.mono ?_;rintro e w'⟨v,ss,rfl,R,c,hnil,d⟩;have hlen:ss.length=l.length:=by rw[R.length_eq];rw[dD];simp
  rw[RG R]at c;rw[Ju]at c;rw[hlen]at c;have D:=a_ c (base':=W.heap.size+1) O4;obtain⟨va,m,rfl⟩:=Z9 D;exact⟨va,m,rfl,D,((J4 _ W).alloc Y8 _).trans (d.mono O4)⟩
 have hfK:Fence.wide.fn 249:=trivial;have hfS:Fence.wide.fn 248:=trivial;clear x C;refine callsIn_of_wp func247 rfl trivial ?_ rfl;simp only[ntmps247,yB,x_,ve,Nat.reduceAdd,Nat.reduceSub,dA,Jy,UA,JA,Qb,Ff]
 gi_wp2_with (first
  | (gi_at_call 249;refine(X _ _).mono ?_;rintro e w'⟨rfl,rfl⟩)
  | (gi_at_call 248;refine V.mono ?_;rintro e r⟨va,m,rfl,c,d⟩))
 clear X V;have hJ1:J [] r:=hJ [] W r none h0 (Bf d) (λ_ e=>by cases e);have hT1:=(hTm.below f u).below d U;have Z:=(d.cell (by exact U)).trans I;have H:=Yc o d hbl;have N:fB r S j=none:=by unfold fB;rw[d.cell (p:=⟨S,j,none⟩) (Nat.lt_of_lt_of_le hSw f.size)];exact K
 have P:=Kz c.out;have hSW1:=G9 hSw f.size;have HO:=U0 H;have y:=U0 N;have HC:=U0 P;clear H N P c o K I
 gi_loopw[9] (λi wr=>∃k:Nat,k<=l.length/\i=vI k/\J ((List.finRange l.length).take k) wr/\Uz S j 176 r wr) (λi _=>l.length-(Go.RowKit.intOf i).toNat)
 case atStart=>exact⟨0,I4 _,rfl,hJ1,Uz.refl _ _ _ _⟩
 case round=>
  obtain⟨k,hk,rfl,t,q⟩:=hrel;by_cases a:k<l.length
  ·rcases HC.out with h0'|⟨g,Y,hgW,hgw,hTg,hcell⟩
   ·omega
   subst Y;have hgS:g≠S:=O0;have hc3:=(q.cell y.out (p:=⟨g,k,none⟩) hgS hTg J6).trans (hcell k a);have hb3:=(q.cell y.out (p:=⟨h,0,none⟩) hSB hT1 J6).trans Z;have F:=q.map y.out hbS HO.out;have E:=jQ (k:=k) (z:=.agg #[vE,vN,vE]) F underlying273 Y0 O0 a;rw[show l.getD k undef=l[k]'(a) from by simp only[List.getD,D9 a,Hg]]at E;rw[oW l a]at hc3;obtain⟨fn,tmps,assign,body,B,hR⟩:=Q _ ⟨k,a⟩ wr t (by rw[L_,List.length_finRange];omega);dsimp only at B;clear Q F;generalize hvk:(l[k]'(a))=vk at E B
   gi_wp2
   refine hR.mono ?_;rintro e W3 (⟨rfl,hJ3,hk3⟩|⟨rfl,hJx3⟩)
   ·gi_wp2
    go_roundw;exact⟨k+1,O0,by go_num,by rw[wH a];exact hJ3,q.trans hk3⟩;exact P9
   gi_wp2
   refine o7 (results_none rfl _ _ _) rfl ?_;exact⟨⟨_,rfl⟩,.inr ⟨_,trivial,hJx3⟩⟩
  obtain rfl:k=l.length:=O0
  gi_wp2
  go_end0
  exact⟨⟨_,rfl⟩,.inl ⟨_,rfl,by rw[p_ O4]at t;exact t⟩⟩
def BB(c:Int)(t:BY):BY:=Y2 (S9 c t.data.toList)
def hC(t:BY):Int:=((t.data.toList.headD 0).toNat:Int)-48
def hT(t:BY):BY:=Y2 (t.data.toList.drop 2)
def hV(t:BY):Value:=.agg #[.string t,.int .i64 (hC t),.string (hT t)]
def gT(W:Int)(t:BY):BY×Value:=(G6 t W,hV t)
theorem fZ{a b:BY}(h:hV a=hV b):a=b:=by
 unfold hV at h;simp at h;exact h.1
theorem wG(l:List UInt8):(Y2 l).data.toList=l:=by simp[Y2]
theorem kK{l:List UInt8}{u:List UInt8}(h:YE l c u true):hC (Y2 l)=c/\hT (Y2 l)=Y2 u:=by
 obtain⟨hv,rfl⟩:=h.1 rfl;have:=Gh hv;unfold hC hT;rw[wG];refine⟨?_,rfl⟩;simp only[sJ,VF];omega
theorem TF(h:vr c t.data.toList=true):YE (BB c t).data.toList c t.data.toList true:=by
 refine⟨λ_=>⟨h,?_⟩,(λh=>by cases h)⟩;unfold BB;rw[wG];unfold S9;rw[D8 h]
theorem a2J(h:vr c t.data.toList=true):hV (BB c t)=.agg #[.string (BB c t),.int .i64 c,.string t]:=by
 obtain⟨h1,h2⟩:=kK (TF h);rw[Ep]at h1 h2;unfold hV;rw[h1,h2,Ep]
def Zl(W:Int)(t:BY):LB->LB
 | []=>[t]
 | y::r=>if Dq (G6 t W) (G6 y W) then t::y::r else y::Zl W t r
theorem Dz(W:Int)(t:BY)(ts:LB):(Zl W t ts).map (gT W)=Gg (gT W t) (ts.map (gT W)):=by
 induction ts with
 | nil=>rfl
 | cons y r ih=>
  unfold Zl;show _=if Dq (G6 t W) (G6 y W)=true then _ else _;split
  ·rfl
  simp[ih]
def Fb(W:Int)(t:BY)(ts:LB):LB×Bool:=
 match ts.find? (λy=>decide (G6 y W=G6 t W)) with
 | some y=>(ts,decide (y=t))
 | none=>(Zl W t ts,true)
def Q7(W:Int):LB->LB×Bool->LB×Bool
 | [],s=>s
 | t::r,s=>Q7 W r ((Fb W t s.1).1,s.2&&(Fb W t s.1).2)
theorem Am(W:Int)(a b:LB)(s:LB×Bool):Q7 W (a++b) s=Q7 W b (Q7 W a s):=by
 induction a generalizing s with
 | nil=>rfl
 | cons t r ih=>exact ih _
theorem zO(W:Int)(a:LB)(ts:LB):(Q7 W a (ts,false)).2=false:=by
 induction a generalizing ts with
 | nil=>rfl
 | cons t r ih=>exact ih _
def jk(W:Int)(ts:LB):Prop:=Asc (ts.map (gT W))
theorem JG{y:BY}(hA:jk W ts)(a:y∈ts)(b:G6 y W=G6 t W):ts.find? (λy=>decide (G6 y W=G6 t W))=some y:=by
 cases hq:ts.find? (λy=>decide (G6 y W=G6 t W)) with
 | none=>exact absurd (by simpa using b) (Hy.1 hq y a)
 | some z=>
  have h1:=yS hq;have h2:G6 z W=G6 t W:=by simpa using bJ hq
  have e1:=Yn hA (rE (f:=gT W) a);have e:=Yn hA (rE (f:=gT W) h1);have d:=e1;have c:=e;rw[b]at d;rw[h2,d]at c;rw[fZ (D_ c)]
theorem dL:ts.find? (λy=>decide (G6 y W=G6 t W))=none↔Z_ (ts.map (gT W)) (G6 t W)=none:=by
 rw[Ea,Hy];constructor
 ·intro h p b;obtain⟨y,a,rfl⟩:=Zm.1 b;simpa[gT]using h y a
 intro h y a;simpa[gT]using h _ (rE (f:=gT W) a)
theorem vG(hA:jk W ts):jk W (Fb W t ts).1:=by
 unfold Fb
 cases hq:ts.find? (λy=>decide (G6 y W=G6 t W)) with
 | some y=>exact hA
 | none=>
  show Asc ((Zl W t ts).map (gT W));rw[Dz];exact Rt hA (λp a=>Ea.1 (dL.1 hq) p a)
theorem Fz{a:LB}{b:Bool}(hA:jk W ts):jk W (Q7 W a (ts,b)).1:=by
 induction a generalizing ts b with
 | nil=>exact hA
 | cons t r ih=>exact ih (vG hA)
structure Fr(W:Int)(l f:List (ByteArray×Value))(ts:LB):Prop where
 asc:jk W ts
 perm:(ts.map (gT W)).Perm (f++l)
 la:Asc l
 fa:Asc f
 dis:∀p∈f,Z_ l p.1=none
theorem Fr.start(h:jk W ts):Fr W (ts.map (gT W)) [] ts:=⟨h,vF _,h,List.Pairwise.nil,O4⟩
theorem Fr.met(h:Fr W l f ts){t:BY}{v:Value}(hv:Z_ l (G6 t W)=some v\/Z_ f (G6 t W)=some v):∃y,v=hV y/\Fb W t ts=(ts,decide (y=t)):=by
 have hm:(G6 t W,v)∈ts.map (gT W):=h.perm.mem_iff.2 (by
  rcases hv with hv|hv
  ·exact List.mem_append_right _ (Ez hv)
  exact List.mem_append_left _ (Ez hv))
 obtain⟨y,a,e⟩:=Zm.1 hm;have e1:G6 y W=G6 t W:=U6 Prod.fst e;have b:hV y=v:=U6 Prod.snd e;refine⟨y,b.symm,?_⟩;unfold Fb;rw[JG h.asc a e1]
theorem Fr.add(h:Fr W l f ts){t:BY}(h1:Z_ l (G6 t W)=none)(h2:Z_ f (G6 t W)=none):Fb W t ts=(Zl W t ts,true)/\Fr W l (Gg (gT W t) f) (Zl W t ts):=by
 have b:Z_ (ts.map (gT W)) (G6 t W)=none:=Ea.2 (λp a=>by
  rcases Cf.1 (h.perm.mem_iff.1 a)with a|a
  ·exact Ea.1 h2 p a
  exact Ea.1 h1 p a)
 have e:Fb W t ts=(Zl W t ts,true):=by unfold Fb;rw[dL.2 b]
 refine⟨e,?_,?_,h.la,Rt h.fa (λp a=>Ea.1 h2 p a),λp a=>?_⟩
 ·have:=vG (t:=t) h.asc;rw[e]at this;exact this
 ·rw[Dz];exact(Md _ _).trans ((h.perm.cons _).trans ((Md (gT W t) f).symm.append_right l))
 rcases je.1 ((Md _ _).mem_iff.1 a)with rfl|a
 ·exact h1
 exact h.dis p a
theorem Fr.done(h:Fr W l f ts):Lib.mergeD (mapD l) (mapD f)=mapD (ts.map (gT W))/\l.length+f.length=ts.length:=by
 obtain⟨c,b,a⟩:=nJ f l h.fa h.la h.dis;refine⟨?_,?_⟩
 ·rw[a,rZ c h.asc (b.trans h.perm.symm)]
 have:=h.perm.length_eq;simp at this;omega
def Sl(ls:List L4)(c:Int)(t:BY):LB:=(B_ ls++[(c,t)]).map λr=>BB r.1 r.2
def Ux(W:Int)(x:L4):G3:=⟨x.has,x.nm,G6 (iq x) W⟩
def Wh(W:Int)(m:M3)(ls:List L4)(c:Int)(t:BY):R3:=⟨Fe m,ls.map (Ux W),G6 (BB c t) W⟩
def st0:St:=⟨0,[],[]⟩
open Classical in
noncomputable def yg(rs:List R3)(x:R3):List R3:=if x∈rs then rs else rs++[x]
open Classical in
noncomputable def J_(s:St)(m:M3)(ls:List L4)(c:Int)(t:BY):St×Int:=
 if ¬Zg s then(st0,1) else if ¬bg m ls c t then(st0,2) else
 if (Q7 s.wd (Sl ls c t) (s.ts,true)).2=false then(st0,3) else
 if 300<(Q7 s.wd (Sl ls c t) (s.ts,true)).1.length\/150<(yg s.rs (Wh s.wd m ls c t)).length then(st0,4) else
 (⟨s.wd,(Q7 s.wd (Sl ls c t) (s.ts,true)).1,yg s.rs (Wh s.wd m ls c t)⟩,0)
theorem lK:∀(a b:List UInt8),Op.bytesLess a b=bytesBefore a b
 | [],[]=>by simp[Op.bytesLess,bytesBefore]
 | [],_::_=>by simp[Op.bytesLess,bytesBefore]
 | _::_,[]=>by simp[Op.bytesLess,bytesBefore]
 | x::r,y::s=>by
  have:=lK r s;simp only[Op.bytesLess,bytesBefore];rw[this]
theorem Wp{s:St}(h:Zg s):jk s.wd s.ts:=by
 obtain⟨_,⟨_,h2⟩,_⟩:=h;have key:∀(ts:LB),(∀k,k<ts.length->k=0\/Dq (G6 (ts.getD (k-1) ByteArray.empty) s.wd) (G6 (ts.getD k ByteArray.empty) s.wd)=true)->jk s.wd ts:=by
  intro ts
  induction ts with
  | nil=>intro _;exact List.Pairwise.nil
  | cons y r ih=>
   intro h;have hr:jk s.wd r:=ih (λk b=>by
    by_cases h0:k=0
    ·exact .inl h0
    refine .inr ?_;have:=(h (k+1) X7).resolve_left O0;simp only[dJ]at this;have e1:(y::r).getD (k+1) ByteArray.empty=r.getD k ByteArray.empty:=rfl;have d:(y::r).getD k ByteArray.empty=r.getD (k-1) ByteArray.empty:=by
     obtain⟨j,rfl⟩:∃j,k=j+1:=⟨k-1,O0⟩;rfl
    rw[e1,d]at this;exact this)
   refine Dy.2 ⟨λp a=>?_,hr⟩
   cases r with
   | nil=>cases a
   | cons z q=>
    have h1:=(h 1 O4).resolve_left O0;have c:Dq (G6 y s.wd) (G6 z s.wd)=true:=h1;rcases je.1 a with rfl|a
    ·exact c
    exact Zy c ((Dy.1 hr).1 p a)
 refine key s.ts λk b=>?_;rcases(h2 k b).2 with h0|h0
 ·exact .inl h0
 refine .inr ?_;rw[lK]at h0;unfold Dq;rw[<- ByteArray.toList_eq,<- ByteArray.toList_eq];exact h0
end Go.Proofs.YtbgdfcmeheaiiaaGreatDoor
namespace Go.Proofs
open Go.Shelf
def Tryz.lays146_ren:Go.Shelf.Ren:=⟨λ| 146=>233|221=>286|268=>325|138=>254|143=>309|195=>307|197=>341|218=>308|219=>323|260=>368|217=>337|225=>338|224=>339|267=>340|266=>366|314=>367|n=>n, λ| 9=>9|3=>3|31=>22|4=>4|0=>0|105=>466|21=>21|5=>5|46=>374|119=>499|139=>502|138=>501|146=>429|51=>428|n=>n, λ| 1=>5|3=>9|4=>10|n=>n⟩
theorem Tryz.lays146:Go.Proofs.Lays.n146 prog Tryz.lays146_ren:={
 mixed:=Y0
 f138:=func254.trans (U6 some Y0)
 f143:=func309.trans (U6 some Y0)
 f146:=func233.trans (U6 some Y0)
 f195:=func307.trans (U6 some Y0)
 f197:=func341.trans (U6 some Y0)
 f217:=func337.trans (U6 some Y0)
 f218:=func308.trans (U6 some Y0)
 f219:=func323.trans (U6 some Y0)
 f221:=func286.trans (U6 some Y0)
 f224:=func339.trans (U6 some Y0)
 f225:=func338.trans (U6 some Y0)
 f260:=func368.trans (U6 some Y0)
 f266:=func366.trans (U6 some Y0)
 f267:=func340.trans (U6 some Y0)
 f268:=func325.trans (U6 some Y0)
 f314:=func367.trans (U6 some Y0)
 t0:=underlying0
 a0:=Tryz.isAgg0
 z0:=Tryz.sizeOf0
 v0:=Tryz.zeroValue0
 t3:=underlying3
 a3:=Tryz.isAgg3
 z3:=Tryz.sizeOf3
 v3:=Tryz.zeroValue3
 t4:=underlying4
 a4:=Tryz.isAgg4
 z4:=Tryz.sizeOf4
 v4:=Tryz.zeroValue4
 t5:=underlying5
 a5:=Tryz.isAgg5
 z5:=Tryz.sizeOf5
 v5:=Tryz.zeroValue5
 t9:=underlying9
 a9:=Tryz.isAgg9
 z9:=Tryz.sizeOf9
 v9:=Tryz.zeroValue9
 t21:=underlying21
 a21:=Tryz.isAgg21
 z21:=Tryz.sizeOf21
 v21:=Tryz.zeroValue21
 t31:=underlying22
 a31:=Tryz.isAgg22
 z31:=Tryz.sizeOf22
 v31:=Tryz.zeroValue22
 t46:=underlying374
 a46:=Tryz.isAgg374
 z46:=Tryz.sizeOf374
 v46:=Tryz.zeroValue374
 t51:=underlying428
 a51:=Tryz.isAgg428
 z51:=Tryz.sizeOf428
 v51:=Tryz.zeroValue428
 t105:=underlying466
 a105:=Tryz.isAgg466
 z105:=Tryz.sizeOf466
 v105:=Tryz.zeroValue466
 t119:=underlying499
 a119:=Tryz.isAgg499
 z119:=Tryz.sizeOf499
 t138:=underlying501
 a138:=Tryz.isAgg501
 z138:=Tryz.sizeOf501
 v138:=Tryz.zeroValue501
 t139:=underlying502
 a139:=Tryz.isAgg502
 z139:=Tryz.sizeOf502
 v139:=Tryz.zeroValue502
 t146:=underlying429
 a146:=Tryz.isAgg429
 z146:=Tryz.sizeOf429
 v146:=Tryz.zeroValue429
 g1:=Y0
 g3:=Y0
 g4:=by kernel_rfl }
theorem Tryz.strings_Split(s a:BY)(m:Int)(w:World)(b:s.size<4294967281)(hm:w.cell? ⟨5,0,none⟩=some (.int .i64 m))(h1:1<=a.size):
 Calls prog 233 #[.string s,.string a] w λe w'=>
  e=.returned (.slice (some ⟨w.heap.size,0,none⟩) (Lib.countB s a+1) (Lib.countB s a+1))/\w'=w.alloc (.cells ((Lib.splitB a 0 (Lib.countB s a) s).map Value.string).toArray 9):=Any.strings_Split Tryz.lays146 Y0 s a m w b hm h1
end Go.Proofs
namespace Go.Proofs.YtbgdfcmeheaiiaaGreatDoor
open Proofs.Tryz Go.RowKit
def lookW(h:Bool):BY:=if h then⟨#[104,97,115]⟩ else⟨#[97,115,107]⟩

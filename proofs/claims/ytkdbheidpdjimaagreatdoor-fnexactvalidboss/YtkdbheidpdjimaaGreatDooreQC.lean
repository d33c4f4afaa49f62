import Derived.Test.YtkdbheidpdjimaaGreatDoorK5
import Derived.Test.YtkdbheidpdjimaaGreatDooreP4
import Derived.Test.YtkdbheidpdjimaaGreatDoortT0
set_option linter.unusedVariables false
set_option maxHeartbeats 8000000
set_option maxRecDepth 100000
namespace Go.Proofs.YtkdbheidpdjimaaGreatDoor
open Proofs.Tryz Go.RowKit Go.Maps
variable {B H b bP bR bT k n:Nat} {w w':World} {W:Int} {l pl:List (ByteArray×Value)} {rv:List Value} {v:Value} {zs:List Int} {rs:List R3} {P:Program} {ops:Array Oper} {o:Oper} {a:Act} {K:Act->World->Prop} {Q:Exit->Act->World->Prop} {x:R3} {ts:LB} {c:UInt8} {t:List UInt8}
def Sh (B H bT bR bP:Nat) (W:Int) (l:List (ByteArray×Value)) (rs:List R3) (rv:List Value) (w:World):Prop:=∃ pl,SA B H bT bR bP W l rv pl w/\ShR B rs rv pl w
theorem Ot {es:Array MapEntry} {c:Nat} (hB:B<=b) (hm:w.heap[b]?=some (.map es c)):vJ B w (some b):=fun j e=>by
 cases e
 exact ⟨hB,fun cur fr e=>by rw [hm] at e;simp at e⟩
theorem SA.UY (h:SA B H bT bR bP W l rv pl w) {k:TypeId} {R:Value->Option (DataW Value×List MemPlace)} {b n:Nat} {D:DataW Value} (hm:w.ownsMap prog k R b n D):some H≠some b:=fun e=>by
 obtain ⟨es,ck,a⟩:=Ph hm;exact Vg (h.blk 0 _ rfl) a (Q9 e)
theorem SA.upR {b:List Value} (h:SA B H bT bR bP W l rv pl w) (a:w.grownBy w' (some bR)) (hm:w'.ownsMap prog 3 Y_ bR b.length (intD b)):SA B H bT bR bP W l b pl w':=
 ⟨h.hH,h.hT,h.hR,h.hP,m_ h.lt a.size,h.n1,h.n2,h.n3,D9 h.blk a h.lt (h.UY h.rc),h.tx.kept a (fun e=>h.n1 (Q9 e)),h.ta,hm,h.pc.kept a (fun e=>h.n3 (Q9 e).symm),h.pa,h.ty.kept a (h.UY h.rc)⟩
theorem SA.upP {b:List (ByteArray×Value)} (h:SA B H bT bR bP W l rv pl w) (a:w.grownBy w' (some bP)) (hm:w'.ownsMap prog 9 Y_ bP b.length (mapD b)) (ha:Asc b):SA B H bT bR bP W l rv b w':=
 ⟨h.hH,h.hT,h.hR,h.hP,m_ h.lt a.size,h.n1,h.n2,h.n3,D9 h.blk a h.lt (h.UY h.pc),h.tx.kept a (fun e=>h.n2 (Q9 e)),h.ta,h.rc.kept a (fun e=>h.n3 (Q9 e)),hm,ha,h.ty.kept a (h.UY h.pc)⟩
theorem SA.upT {b:List (ByteArray×Value)} (h:SA B H bT bR bP W l rv pl w) (a:w.grownBy w' (some bT)) (hm:w'.ownsMap prog 9 Y_ bT b.length (mapD b)) (ha:Asc b):SA B H bT bR bP W b rv pl w':=
 ⟨h.hH,h.hT,h.hR,h.hP,m_ h.lt a.size,h.n1,h.n2,h.n3,D9 h.blk a h.lt (h.UY h.tx),hm,ha,h.rc.kept a (fun e=>h.n1 (Q9 e).symm),h.pc.kept a (fun e=>h.n2 (Q9 e).symm),h.pa,h.ty.kept a (h.UY h.tx)⟩
theorem qm (h:w.ownsInts B 3 .i64 v zs) {es:Array MapEntry} {c:Nat} (hm:w.heap[b]?=some (.map es c)):v.ownBlock≠some b:=fun e=>by
 obtain ⟨_,_,cur,hc⟩:=Hg h e;rw [hm] at hc;simp at hc
theorem Hl {t:TypeId} (h:w.ownsInts B 3 .i64 v zs) (hT:Gf w b t) (ht:t≠3):some b≠v.ownBlock:=fun e=>by
 obtain ⟨_,_,cur,hc⟩:=Hg h e.symm;obtain ⟨cur',fr,hT⟩:=hT;rw [hT] at hc;simp at hc;exact ht hc.2.1
theorem Ui {k:TypeId} {R:Value->Option (DataW Value×List MemPlace)} {D:DataW Value} (h:w.ownsInts B 3 .i64 v zs) (hm:w.ownsMap prog k R b n D):some b≠v.ownBlock:=fun e=>by
 obtain ⟨es,ck,a⟩:=Ph hm;exact qm h a e.symm
theorem ints_at {k:BY} (R:ShR B rs rv pl w) (hv:(X_ pl k).getD (.slice none 0 0)=v) (a:Bw w w'):w'.ownsInts B 3 .i64 v (Jw rs k):=by
 cases hq:X_ pl k with
 | none=>
  rw [hq] at hv;subst hv;rw [R.non k hq];exact World.ownsInts_nil _ _ _ _
 | some u=>
  rw [hq] at hv;subst hv;exact (R.grp k u hq).kept (Tf a) (by cases u.ownBlock <;> simp)
theorem Vj {E:Prop}
 (y:o.guard=none) (s x:Operand) (t:TypeId) (q:o.op=Op.call { callee:=Callee.builtin Builtin.append,args:=#[s,x],argTypes:=#[t,t] })
 (base:Nat) (e:TypeId) (i:TypeInfo) (z:Value) (size bytes:Nat) (h1:P.underlying t=some (.slice e)) (h2:P.info? e=some i) (I:i.zero=some z) (H:i.size=size) (F:i.bytes=bytes) (D:z.cells.size=size) (C:0<size)
 (v:Value) (n:Nat) (xs:List Value) (k:a.eval s=v) (p:w.ownsRow base e size v n xs)
 (d:Addr) (m c:Nat) (b:List Value) (hx:a.eval x=.slice (some d) m c) (r:b.length=m*size) (hc:∀ j u,b[j]?=some u->w.cell? (d.add j)=some u) (J:∀ u∈b,u.oneCell'=true)
 (N:n+m<=maxLen) (L:(n+m)*bytes<=140737488355328) (A:base<=w.heap.size)
 (B:∀ v' w',w'.ownsRow base e size v' (n+m) (xs++b)->w.grownBy w' v.ownBlock->(v'.ownBlock=v.ownBlock\/v'.ownBlock=some w.heap.size)->K (a.put o.dst v') w'):
 if Region.wanted o (yielded ops a.tmps)=true then Oper.wp P o a w K Q else E:=by
 have hw:Region.wanted o (yielded ops a.tmps)=true:=by simp [Region.wanted,y]
 rw [G8 hw];obtain ⟨v',w',l,h,g,_,f⟩:=run_append_own_at (P:=P) w base t o.type e i z size bytes h1 h2 I H F D C v n xs p d m c b r hc J N L A;unfold Oper.wp;simp [execOp,q,resolve,invoke,builtin,k,hx,l,Result.andThen];exact B v' w' h g f
theorem PK {E:Prop} (d:o.guard=none) (t:TypeId) (m x:Operand) (ok:Bool) (ho:o.op=Op.lookup t m x ok) (c b:Value) {r:Value}
 (hm:a.eval m=c) (hx:a.eval x=b) (hr:(Instr.lookup t c b ok).run P w=.ok r w) (h:K (a.put o.dst r) w):
 if Region.wanted o (yielded ops a.tmps)=true then Oper.wp P o a w K Q else E:=by
 have hw:Region.wanted o (yielded ops a.tmps)=true:=by simp [Region.wanted,d]
 rw [G8 hw];unfold Oper.wp;simp [execOp,ho,hm,hx,hr,Result.andThen];exact h
theorem info3:(prog.info? 3).map (fun i=>(i.zero,i.size,i.bytes))=some (some (.int .i64 0),1,8):=J3
theorem ShR.push {u1 u2 u3 u4:World} {V v':Value} (R:ShR B rs rv pl u1) (X:YA B u1 V x) (hA:Asc pl) (hv:(X_ pl x.key).getD (.slice none 0 0)=v) (r:Bw u1 u2) (hs2:B<=u2.heap.size)
 (q:u2.grownBy u3 v.ownBlock) (ho:u3.ownsRow B 3 1 v' n ((Jw rs x.key).map (Value.int .i64)++[.int .i64 (rs.length:Nat)])) (I:n=(Jw rs x.key).length+1) (E:v'.ownBlock=v.ownBlock\/v'.ownBlock=some u2.heap.size) (g:u3.grownBy u4 (some bP)) (L:B<=bP) {es:Array MapEntry} {N:Nat} (hm:u3.heap[bP]?=some (.map es N)) (hrl:rs.length<=1048576):
 ShR B (rs++[x]) (rv++[V]) (Rf (x.key,v') (pl.filter fun p=>!decide (p.1=x.key))) u4:=by
 have F:=ints_at R hv r;have s:=R.below r;have O:=X.kept (Tf r) (fun _ e=>by cases e);obtain ⟨_,f⟩:=Vx hA x.key v';have H:(Lit.int .i64 ((rs.length:Nat):Int)).wf=true:=WalkArith.wf_i64 O0;have C:=F.appended (by rw [<- I];exact ho) H;have w:vJ B u2 v.ownBlock:=fun j e=>by
  obtain ⟨h1,_,cur,l⟩:=Hg F e;exact ⟨h1,fun cur' fr e=>by rw [l] at e;simp at e⟩
 have t:=Ot L hm;have z:∀ {u:Value} {zs:List Int},u3.ownsInts B 3 .i64 u zs->u.ownBlock=none\/u.ownBlock≠some bP:=fun h=>.inr (qm h hm);have m:∀ k u,k≠x.key->X_ pl k=some u->u.ownBlock=none\/u.ownBlock≠v.ownBlock:=fun k u b a=>by
  cases hq:X_ pl x.key with
  | none=>
   rw [hq] at hv;subst hv
   cases hb:u.ownBlock with
   | none=>exact .inl rfl
   | some j=>exact .inr (by simp [Value.ownBlock])
  | some y=>
   rw [hq] at hv;subst hv;exact R.apart k x.key u y b a hq
 have A:∀ k u,X_ pl k=some u->∀ j,u.ownBlock=some j->j<u2.heap.size:=fun k u a j J=>(Hg (s.grp k u a) J).2.1;refine ⟨by simp [R.len],fun i K=>?_,fun k u a=>?_,fun k b=>?_,fun k k' u u' D a c=>?_,?_⟩
 · rcases o8 i rs.length with h | h
   · have e1:(rv++[V]).getD i undef=rv.getD i undef:=by simp [List.getD,I_ (show i<rv.length by rw [R.len];exact h)]
     have d:(rs++[x]).getD i g_=rs.getD i g_:=by simp [List.getD,I_ h]
     rw [e1,d];exact ((s.recs i h).kept q w).kept g t
   · obtain rfl:i=rs.length:=by simp at K;omega
     have e1:(rv++[V]).getD rs.length undef=V:=by simp [List.getD,<- R.len]
     have d:(rs++[x]).getD rs.length g_=x:=by simp [List.getD]
     rw [e1,d];exact (O.kept q w).kept g t
 · rw [f k] at a;rw [uG];by_cases b:k=x.key
   · subst b;rw [G8 rfl] at a;cases a;rw [G8 rfl];exact C.kept g (z C)
   · rw [A8 b] at a;rw [A8 (fun e=>b e.symm),Tz];have l:=(s.grp k u a).kept q (m k u b a);exact l.kept g (z l)
 · rw [f k] at b;by_cases o:k=x.key
   · rw [G8 o] at b;cases b
   · rw [A8 o] at b;rw [uG,A8 (fun e=>o e.symm),R.non k b,Tz]
 · rw [f k] at a;rw [f k'] at c;by_cases h1:k=x.key
   · have h2:k'≠x.key:=fun e=>D (h1.trans e.symm);rw [G8 h1] at a;rw [A8 h2] at c;cases a;rcases E with e | e
     · rw [e];rcases m k' u' h2 c with h | h
       · cases hq:v.ownBlock with
         | none=>exact .inl rfl
         | some j=>exact .inr (by rw [h];simp)
       · exact .inr (fun e=>h e.symm)
     · refine .inr fun d=>?_;have:=A k' u' c _ (d.symm.trans e);omega
   · rw [A8 h1] at a;by_cases h2:k'=x.key
     · rw [G8 h2] at c;cases c;rcases E with e | e
       · rw [e];exact m k u h1 a
       · cases hq:u.ownBlock with
         | none=>exact .inl rfl
         | some j=>
          refine .inr fun d=>?_;have:=A k u a j hq;rw [e] at d;cases d;omega
     · rw [A8 h2] at c;exact R.apart k k' u u' D a c
 · rw [(Dc _ _).length_eq];have:=NH (fun p=>!decide (p.1=x.key)) pl;have:=R.pln;simp;omega
theorem AZ (B H bT bR bP:Nat) (W:Int) (l:List (ByteArray×Value)) (rs:List R3) (rv:List Value) (x:R3) (a:OA) (c:Nat) (w:World) (hSh:Sh B H bT bR bP W l rs rv w) (hx:YA B w (.agg #[.string x.key,.slice a x.gs.length c,.string x.out]) x) (hn:rs.length<=1000) (hk:x.key.size<=1048700):
 Calls prog 113 #[.pointer (some ⟨H,0,none⟩),.agg #[.string x.key,.slice a x.gs.length c,.string x.out]] w fun e w'=>e=.returned (.tuple #[])/\Sh B H bT bR bP W l (rs++[x]) (rv++[.agg #[.string x.key,.slice a x.gs.length c,.string x.out]]) w'/\Below B w w'/\KF w w':=by
 obtain ⟨pl,hC,hR⟩:=hSh;have HL:=U0 hR.len;have HPL:Hid (pl.length<maxLen):=by show _<_;have:=hR.pln;unfold maxLen;omega
 have hrn:rv.length<=1000:=by rw [HL.out];exact hn
 have a4C:=hC.lt;have hBH:=hC.hH;obtain ⟨i0,hi,hz0,hz1,hz2⟩:=info_parts' info3;obtain ⟨v,hv⟩:∃ v,(X_ pl x.key).getD vN=v:=⟨_,rfl⟩;have O:=U0 hv;obtain ⟨es,ck,V,hpF,hps,hpD⟩:=hC.pc;have hbP:=(D_.1 V).1;have HB1:Hid ((Jw rs x.key).length+1<=maxLen):=by show _<=_;have:=yE rs x.key;unfold maxLen;omega
 have HB2:Hid (((Jw rs x.key).length+1)*8<=140737488355328):=by show _<=_;have:=yE rs x.key;omega
 have hkm:x.key.size<=maxLen:=by unfold maxLen;omega
 have HLK:Hid (∀ u:World,u.heap[bP]?=some (.map es ck)->(Instr.lookup 186 (.map (some bP)) (vS x.key) false).run prog u=.ok v u):=fun u hu=>by
  rw [<- hv];exact oI (n:=pl.length) ⟨es,ck,hu,hpF,hps,hpD⟩ underlying186 J3 hkm
 have y:Bw w (w.alloc (.cells #[vS x.key,vL a x.gs.length c,vS x.out] 113)):=o7;have sz0:(w.alloc (.cells #[vS x.key,vL a x.gs.length c,vS x.out] 113)).heap.size=w.heap.size+1:=I4;have hp0:=(y.block bP hbP).trans V;have h67:Hid (Gf (w.alloc (.cells #[vS x.key,vL a x.gs.length c,vS x.out] 113)) w.heap.size 113):=U0 (Xc w #[vS x.key,vL a x.gs.length c,vS x.out] 113);have I:=U0 (hC.below y);have R0:=U0 (hR.below y);have X0:=U0 (hx.kept (Tf y) (fun _ e=>by cases e));have P:Hid (X4 (w.alloc (.cells #[vS x.key,vL a x.gs.length c,vS x.out] 113)) w.heap.size [vS x.key,vL a x.gs.length c,vS x.out]):=U0 (I5 w [vS x.key,vL a x.gs.length c,vS x.out] 113);have f2:=I.out.blk 2 _ rfl;have f3:=I.out.blk 3 _ rfl;have e0:=P.out 0 _ rfl;have e1:=P.out 1 _ rfl;have e2:=P.out 2 _ rfl;obtain ⟨es1,ck1,t⟩:=Ph (hC.rc)
 replace t:=(y.block bR (D_.1 t).1).trans t
 have Z:some w.heap.size≠some bR:=fun e=>Vg e0 t (Q9 e);have a5Z:some H≠some bR:=fun e=>Vg (I.out.blk 0 _ rfl) t (Q9 e);have a5r:some bP≠some bR:=fun e=>hC.n3 (Q9 e).symm;clear hC hR hx hv V hpF hps hpD;go_enter func113,ntmps113
 go_wp2_with (at_len;refine wpList_len_own _ rfl _ 185 rfl 3 113 underlying185 Y_ bR _ (intD rv) rfl I.out.rc ?_;rw [Ll])
 rename_i K0 hK0;generalize (w.alloc (.cells #[vS x.key,vL a x.gs.length c,vS x.out] 113))=u0 at*;have E:=U0 (I.out.below (Z4 _ _).drew);have RD:=U0 (R0.out.below (Z4 _ _).drew);have XD:=U0 (X0.out.kept (Tf (w':=u0.drew) (Z4 _ _).drew) (fun _ e=>by cases e));have ED:Hid (X4 u0.drew w.heap.size [vS x.key,vL a x.gs.length c,vS x.out]):=U0 (P.out.below (Z4 (w.heap.size+1) _).drew O0);have HN:Hid (rv.length<maxLen):=by show rv.length<maxLen;unfold maxLen;omega
 have a6a:rv.length<=1048576:=O0;have HN2:=HPL;refine wp_region_held_drew (S:=(fun u=>u.cell? (aA H 2)=some (.map (some bR))/\u.cell? (aW w 0)=some (vS x.key)/\u.cell? (aW w 1)=some (vL a x.gs.length c)/\u.cell? (aW w 2)=some (vS x.out))) J3 ?_ fun hHeld=>?_
 · exact ⟨f2,e0,e1,e2⟩
 refine Y0 0 ?_;refine Y0 1 ?_;refine Y0 2 ?_;refine Y0 3 ?_;refine Y0 4 ?_;refine Y0 5 ?_;refine rq 6 fun K b=>?_;refine YO (vs:=rv) (vv:=.agg #[vS x.key,vL a x.gs.length c,vS x.out]) rfl 185 (.tmp 13) (.tmp 14) (.tmp 15) rfl rfl rfl rfl E.out.rc underlying185 HN.out a6a rfl ?_;intro u1 hm1 s;have HR1:Hid (some w.heap.size≠some bR/\some H≠some bR/\some bP≠some bR):=⟨Z,a5Z,a5r⟩;have Q:=U0 (E.out.upR s hm1);have N:=U0 (RD.out.map s E.out.hR t);have X1:=U0 (XD.out.kept s (Ot E.out.hR t));have B1:=((Z4 B u0).drew).trans (a_ (w:=u0.drew) s (fun j e=>by cases e;exact E.out.hR) (by show B<=u0.heap.size;omega));have K1:=U0 (((Ed y x9).trans (Ed (w':=u0.drew) (Z4 u0.heap.size u0).drew x9)).trans (jy s t));have T1:=U0 ((h67.out.below (Z4 (w.heap.size+1) u0).drew O0).kept s Z);have A:=U0 (D9 ED.out s (by show w.heap.size<u0.heap.size;omega) Z);have sz1:u0.heap.size<=u1.heap.size:=s.size;have g2:=Q.out.blk 2 _ rfl;have g3:=Q.out.blk 3 _ rfl;have g0:=A.out 0 _ rfl;have g1:=A.out 1 _ rfl;have g4:=A.out 2 _ rfl;have X:=(s.block bP (by show bP<u0.heap.size;omega) a5r).trans hp0;clear hHeld hm1 s;refine J8 b ⟨g2,g0,g1,g4⟩ fun hHeld=>?_;clear b K hHeld;refine wdn ?_;refine hK0 _ _ ?_;clear hK0
 go_wp2_with fail
 refine wp_region_held_drew (S:=(fun u=>u.cell? (aA H 3)=some (.map (some bP))/\u.cell? (aW w 0)=some (vS x.key))) J3 ?_ fun hHeld=>?_
 · exact ⟨g3,g0⟩
 refine Y0 0 ?_;refine Y0 1 ?_;refine Y0 2 ?_;refine Y0 3 ?_;refine Y0 4 ?_;refine Y0 5 ?_;refine Y0 6 ?_;refine Y0 7 ?_;refine Y0 8 ?_;refine Y0 9 ?_;refine Y0 10 ?_;refine Y0 11 ?_;refine Y0 13 ?_;refine wpAnyH_ready (rs:=[12,14]) J3 I4 ?_;refine AllReadyH.cons (o:=⟨some 28,.lookup 186 (.tmp 25) (.tmp 27) false,31,_,_,none⟩) rfl (fun K b=>?_) (AllReadyH.cons (o:=⟨some 30,.buildSlice 31 1 #[(0,.tmp 29)],31,_,_,none⟩) rfl (fun K b=>?_) AllReadyH.nil)
 · refine PK rfl 186 (.tmp 25) (.tmp 27) false rfl (.map (some bP)) (vS x.key) rfl rfl (HLK.out _ X) ?_;clear hHeld;refine J8 b ⟨g3,g0⟩ fun hHeld=>?_;clear b K;refine rq 14 fun K b=>?_;go_simp;have d:Bw u1 ((u1.alloc (.cells #[vI rv.length] 3)).drew):=o7.drew;have J:=(d.cell (p:=(aA H 3)) (show H<u1.heap.size by omega)).trans g3;have L:=(d.cell (p:=(aW w 0)) (show w.heap.size<u1.heap.size by omega)).trans g0;have C:=(d.block bP O0).trans X;have c1:∀ j u,[Value.int .i64 rv.length][j]?=some u->((u1.alloc (.cells #[vI rv.length] 3)).drew).cell? ((aW u1 0).add j)=some u:=fun j u h=>cell_one_new u1 (vI rv.length) 3 j u h;have sz2:((u1.alloc (.cells #[vI rv.length] 3)).drew).heap.size=u1.heap.size+1:=I4;clear hHeld;refine J8 b ⟨J,L⟩ fun hHeld=>?_;clear b K;have f:=U0 (ints_at N.out O.out d);have r:=U0 (Q.out.below d);generalize ((u1.alloc (.cells #[vI rv.length] 3)).drew)=u2 at*;refine rq 15 fun K b=>?_;refine Vj rfl (.tmp 28) (.tmp 30) 31 rfl B 3 i0 vO 1 8 underlying31 hi hz0 hz1 hz2 rfl O6 v _ _ rfl f.out.1 (aW u1 0) 1 1 [vI rv.length] rfl rfl c1 (by simp [Value.oneCell']) HB1.out HB2.out O0 ?_;intro v' u3 Y g hl3;have hnb:=qm f.out C;have D:=U0 (T1.out.below d O0);have i:=U0 (r.out.kept g (Hl f.out r.out.ty O6) (Ui f.out r.out.tx) (Ui f.out r.out.rc) (Ui f.out r.out.pc));have sz3:=g.size;have z:=(g.block bP O0 (fun e=>hnb e.symm)).trans C;have U:=i.out.blk 3 _ rfl;have m0:=(D9 (A.out.below d O0) g O0 (Hl f.out D.out O6)) 0 _ rfl;clear hHeld;refine J8 b ⟨U,m0⟩ fun hHeld=>?_;clear b K;refine rq 16 fun K b=>?_;refine Jy (l:=pl) (k:=x.key) (vv:=v') rfl 186 (.tmp 19) (.tmp 21) (.tmp 31) rfl rfl rfl rfl i.out.pc underlying186 HN2.out hkm rfl ?_;intro u4 m q;rw [EC] at m
   replace m:=Nh m
   rw [Eb] at m;have F:=U0 (i.out.upP q m (Vx i.out.pa x.key v').1);have R4:=U0 (ShR.push N.out X1.out i.out.pa O.out d O0 g (by rw [<- HL.out];exact Y) rfl hl3 q i.out.hP z O0);have B4:=((y.mono O0).trans B1).trans ((d.mono O0).trans ((a_ g (fun j e=>(Hg f.out e).1) O0).trans (a_ q (fun j e=>by cases e;exact i.out.hP) O0)));have K4:=U0 (K1.out.trans ((Ed d x9).trans ((IK g f.out).trans (jy q z))));have n3:=F.out.blk 3 _ rfl;have R:=(D9 (D9 (A.out.below d O0) g O0 (Hl f.out D.out O6)) q O0 (fun e=>Vg m0 z (Q9 e))) 0 _ rfl;clear hHeld;refine J8 b ⟨n3,R⟩ fun hHeld=>?_;clear b K;refine wdn ?_
   go_end0
   exact ⟨rfl,⟨_,F.out,R4.out⟩,B4,K4.out⟩
 · go_simp;have d:Bw u1 ((u1.alloc (.cells #[vI rv.length] 3)).drew):=o7.drew;have J:=(d.cell (p:=(aA H 3)) (show H<u1.heap.size by omega)).trans g3;have L:=(d.cell (p:=(aW w 0)) (show w.heap.size<u1.heap.size by omega)).trans g0;have C:=(d.block bP O0).trans X;have c1:∀ j u,[Value.int .i64 rv.length][j]?=some u->((u1.alloc (.cells #[vI rv.length] 3)).drew).cell? ((aW u1 0).add j)=some u:=fun j u h=>cell_one_new u1 (vI rv.length) 3 j u h;have sz2:((u1.alloc (.cells #[vI rv.length] 3)).drew).heap.size=u1.heap.size+1:=I4;clear hHeld;refine J8 b ⟨J,L⟩ fun hHeld=>?_;clear b K;have f:=U0 (ints_at N.out O.out d);have r:=U0 (Q.out.below d);generalize ((u1.alloc (.cells #[vI rv.length] 3)).drew)=u2 at*;refine rq 12 fun K b=>?_;refine PK rfl 186 (.tmp 25) (.tmp 27) false rfl (.map (some bP)) (vS x.key) rfl rfl (HLK.out _ C) ?_;clear hHeld;refine J8 b ⟨J,L⟩ fun hHeld=>?_;clear b K;refine rq 15 fun K b=>?_;refine Vj rfl (.tmp 28) (.tmp 30) 31 rfl B 3 i0 vO 1 8 underlying31 hi hz0 hz1 hz2 rfl O6 v _ _ rfl f.out.1 (aW u1 0) 1 1 [vI rv.length] rfl rfl c1 (by simp [Value.oneCell']) HB1.out HB2.out O0 ?_;intro v' u3 Y g hl3;have hnb:=qm f.out C;have D:=U0 (T1.out.below d O0);have i:=U0 (r.out.kept g (Hl f.out r.out.ty O6) (Ui f.out r.out.tx) (Ui f.out r.out.rc) (Ui f.out r.out.pc));have sz3:=g.size;have z:=(g.block bP O0 (fun e=>hnb e.symm)).trans C;have U:=i.out.blk 3 _ rfl;have m0:=(D9 (A.out.below d O0) g O0 (Hl f.out D.out O6)) 0 _ rfl;clear hHeld;refine J8 b ⟨U,m0⟩ fun hHeld=>?_;clear b K;refine rq 16 fun K b=>?_;refine Jy (l:=pl) (k:=x.key) (vv:=v') rfl 186 (.tmp 19) (.tmp 21) (.tmp 31) rfl rfl rfl rfl i.out.pc underlying186 HN2.out hkm rfl ?_;intro u4 m q;rw [EC] at m
   replace m:=Nh m
   rw [Eb] at m;have F:=U0 (i.out.upP q m (Vx i.out.pa x.key v').1);have R4:=U0 (ShR.push N.out X1.out i.out.pa O.out d O0 g (by rw [<- HL.out];exact Y) rfl hl3 q i.out.hP z O0);have B4:=((y.mono O0).trans B1).trans ((d.mono O0).trans ((a_ g (fun j e=>(Hg f.out e).1) O0).trans (a_ q (fun j e=>by cases e;exact i.out.hP) O0)));have K4:=U0 (K1.out.trans ((Ed d x9).trans ((IK g f.out).trans (jy q z))));have n3:=F.out.blk 3 _ rfl;have R:=(D9 (D9 (A.out.below d O0) g O0 (Hl f.out D.out O6)) q O0 (fun e=>Vg m0 z (Q9 e))) 0 _ rfl;clear hHeld;refine J8 b ⟨n3,R⟩ fun hHeld=>?_;clear b K;refine wdn ?_
   go_end0
   exact ⟨rfl,⟨_,F.out,R4.out⟩,B4,K4.out⟩
theorem a0x {x:BY} {c:Int} {u:List UInt8} (w:World) (d:x.size<=1048700) (hm:Tc w) (h:lD x.data.toList c u true):
 Calls prog 111 #[.string x] w fun e w'=>e=.returned (.tuple #[.agg #[.int .i64 (hC x),.string (hT x)],.bool true])/\Bw w w':=by
 have a:=a0J x.data.toList w (by simpa using d) hm;rw [qp] at a;refine a.mono ?_;rintro e w' ⟨⟨c',t',ok,rfl,hr,_⟩,f⟩;obtain ⟨rfl,rfl,rfl⟩:=sJ hr h;obtain ⟨e1,b⟩:=YK h;rw [qp] at e1 b;exact ⟨by rw [e1,b],f⟩
theorem BL {x:BY×Value} (h:∀ p∈l,Aq p.1 x.1=true):Rf x l=l++[x]:=by
 induction l with
 | nil=>rfl
 | cons y r ih=>
  unfold Rf;have a:=h y (Gq ..);have:Aq x.1 y.1=false:=by
   cases hq:Aq x.1 y.1 with
   | false=>rfl
   | true=>have:=Pz a hq;rw [jm] at this;cases this
  rw [this,ih (fun p b=>h p (ug _ b))];simp
theorem WM (h:k<ts.length):ts.take (k+1)=ts.take k++[ts.getD k ByteArray.empty]:=by
 rw [pq,y9 h];simp [List.getD,y9 h]
theorem DC (h:Zh W ts) (k:Nat):Zh W (ts.take k):=by
 unfold Zh Asc at h ⊢;rw [List.map_take];exact h.sublist (List.take_sublist _ _)
theorem TR (h:Zh W ts) {k:Nat} (c:k<ts.length):(mapD ((ts.take k).map (gT W))).put (kS (E5 (ts.getD k ByteArray.empty) W)) (.held (hV (ts.getD k ByteArray.empty)))=mapD ((ts.take (k+1)).map (gT W)):=by
 have hA:=DC h (k+1);rw [WM c] at hA ⊢;unfold Zh Asc at hA;rw [Fg,List.pairwise_append] at hA;have b:∀ p∈(ts.take k).map (gT W),Aq p.1 (E5 (ts.getD k ByteArray.empty) W)=true:=fun p a=>hA.2.2 p a (gT W (ts.getD k ByteArray.empty)) I4;rw [Es _ (Ja.2 (fun p a e=>by have:=b p a;rw [e,jm] at this;cases this))];rw [BL (x:=(E5 (ts.getD k ByteArray.empty) W,hV (ts.getD k ByteArray.empty))) b,Fg];rfl
theorem ShR.XW (h:ShR B rs rv pl w) (b:w.grownBy w' (some bT)) (hC:SA B H bT bR bP W l rv pl w):ShR B rs rv pl w':=by
 obtain ⟨es,ck,a⟩:=Ph hC.tx;exact h.map b hC.hT a
theorem aX {o:Nat} (h:jC w b o x) (d:Bw w w') (e:b<w.heap.size):∃ c a,w'.cell? ⟨b,o,none⟩=some (.string x.key)/\w'.cell? ⟨b,o+1,none⟩=some (.slice c x.gs.length a)/\w'.cell? ⟨b,o+2,none⟩=some (.string x.out)/\YA w.heap.size w' (.agg #[.string x.key,.slice c x.gs.length a,.string x.out]) x:=by
 obtain ⟨c,a,h0,h1,h2,f⟩:=h;refine ⟨c,a,(d.cell (p:=(aA b o)) e).trans h0,(d.cell (p:=(aA b (o+1))) e).trans h1,(d.cell (p:=(aA b (o+2))) e).trans h2,c,a,rfl,O8 f d,?_⟩;rcases f with h | ⟨b',off,ha,hl,_⟩
 · exact .inl h
 · exact .inr ⟨b',off,ha,.inl hl⟩
theorem wO (h:k<rs.length):rs.take (k+1)=rs.take k++[rs.getD k g_]:=by
 rw [pq,y9 h];simp [List.getD,y9 h]
theorem Sh.below (h:Sh B H bT bR bP W l rs rv w) (a:Bw w w'):Sh B H bT bR bP W l rs rv w':=by
 obtain ⟨pl,h1,h2⟩:=h;exact ⟨pl,h1.below a,h2.below a⟩
def a1V (s:St) (w w':World) (e:Ending):Prop:=∃ H bT bR bP rv,e=.returned (.pointer (some ⟨H,0,none⟩))/\Sh w.heap.size H bT bR bP s.wd (s.ts.map (gT s.wd)) s.rs rv w'
theorem c68 (s:St) (ta ra:OA) (tc rc:Nat) (w:World) (f:dh s) (hs:s.le 1048576) (L:Zg w ta ra s) (hm:Tc w):
 Calls prog 68 #[.agg #[.int .i64 s.wd,.slice ta s.ts.length tc,.slice ra s.rs.length rc]] w fun e w'=>a1V s w w' e/\Bw w w':=by
 have hm0:=hm.1;have HA:=U0 (Dl f);have HT:=U0 f.2.1.2;have htl:=f.2.1.1;have HWD:=U0 f.1;have hrl:=f.2.2.1;have HRO:=U0 f.2.2.2;have HSZ:=U0 hs.1.2;have HM:=U0 hm;obtain ⟨b,off,hc⟩:=Q_ L.1;have HC:=U0 hc;have HR:=U0 L.2;have hmm:=@run_makeMap prog;have sz4:(((((w.alloc (.cells #[vI s.wd,vL ta s.ts.length tc,vL ra s.rs.length rc] 44)).alloc (.map #[] 0)).alloc (.map #[] 0)).alloc (.map #[] 0)).alloc (.cells #[vI s.wd,.map (some (w.heap.size+1)),.map (some (w.heap.size+2)),.map (some (w.heap.size+3))] 188)).heap.size=w.heap.size+5:=I4;have B0:Bw w (((((w.alloc (.cells #[vI s.wd,vL ta s.ts.length tc,vL ra s.rs.length rc] 44)).alloc (.map #[] 0)).alloc (.map #[] 0)).alloc (.map #[] 0)).alloc (.cells #[vI s.wd,.map (some (w.heap.size+1)),.map (some (w.heap.size+2)),.map (some (w.heap.size+3))] 188)):=(((o7.alloc I4 _).alloc U7 _).alloc U7 _).alloc U7 _;have s0:(w.alloc (.cells #[vI s.wd,vL ta s.ts.length tc,vL ra s.rs.length rc] 44)).heap.size=w.heap.size+1:=I4;have s1:((w.alloc (.cells #[vI s.wd,vL ta s.ts.length tc,vL ra s.rs.length rc] 44)).alloc (.map #[] 0)).heap.size=w.heap.size+2:=I4;have s2:(((w.alloc (.cells #[vI s.wd,vL ta s.ts.length tc,vL ra s.rs.length rc] 44)).alloc (.map #[] 0)).alloc (.map #[] 0)).heap.size=w.heap.size+3:=I4;have s3:((((w.alloc (.cells #[vI s.wd,vL ta s.ts.length tc,vL ra s.rs.length rc] 44)).alloc (.map #[] 0)).alloc (.map #[] 0)).alloc (.map #[] 0)).heap.size=w.heap.size+4:=I4;have J:=World.ownsMap_made (w.alloc (.cells #[vI s.wd,vL ta s.ts.length tc,vL ra s.rs.length rc] 44)) prog 9 Y_;have I:=World.ownsMap_made ((w.alloc (.cells #[vI s.wd,vL ta s.ts.length tc,vL ra s.rs.length rc] 44)).alloc (.map #[] 0)) prog 3 Y_;have H:=World.ownsMap_made (((w.alloc (.cells #[vI s.wd,vL ta s.ts.length tc,vL ra s.rs.length rc] 44)).alloc (.map #[] 0)).alloc (.map #[] 0)) prog 9 Y_;have P:=I5 ((((w.alloc (.cells #[vI s.wd,vL ta s.ts.length tc,vL ra s.rs.length rc] 44)).alloc (.map #[] 0)).alloc (.map #[] 0)).alloc (.map #[] 0)) [vI s.wd,.map (some (w.heap.size+1)),.map (some (w.heap.size+2)),.map (some (w.heap.size+3))] 188;have D:=Xc ((((w.alloc (.cells #[vI s.wd,vL ta s.ts.length tc,vL ra s.rs.length rc] 44)).alloc (.map #[] 0)).alloc (.map #[] 0)).alloc (.map #[] 0)) #[vI s.wd,.map (some (w.heap.size+1)),.map (some (w.heap.size+2)),.map (some (w.heap.size+3))] 188;rw [s0] at J;rw [s1] at I;rw [s2] at H;rw [s3] at P D;have C0:Hid (SA w.heap.size (w.heap.size+4) (w.heap.size+1) (w.heap.size+2) (w.heap.size+3) s.wd ((s.ts.take 0).map (gT s.wd)) [] [] (((((w.alloc (.cells #[vI s.wd,vL ta s.ts.length tc,vL ra s.rs.length rc] 44)).alloc (.map #[] 0)).alloc (.map #[] 0)).alloc (.map #[] 0)).alloc (.cells #[vI s.wd,.map (some (w.heap.size+1)),.map (some (w.heap.size+2)),.map (some (w.heap.size+3))] 188))):=U0 ⟨O0,O0,O0,O0,O0,O0,O0,O0,P,(J.alloc _).alloc _ |>.alloc _,List.Pairwise.nil,(I.alloc _).alloc _,H.alloc _,List.Pairwise.nil,D⟩;have R0:Hid (ShR w.heap.size [] [] [] (((((w.alloc (.cells #[vI s.wd,vL ta s.ts.length tc,vL ra s.rs.length rc] 44)).alloc (.map #[] 0)).alloc (.map #[] 0)).alloc (.map #[] 0)).alloc (.cells #[vI s.wd,.map (some (w.heap.size+1)),.map (some (w.heap.size+2)),.map (some (w.heap.size+3))] 188))):=U0 ⟨rfl,fun i h=>absurd h (o9 _),fun k v e=>by simp [X_] at e,fun k _=>rfl,fun k k' v v' _ e=>by simp [X_] at e,Y9 _⟩;have V:Hid (X4 (((((w.alloc (.cells #[vI s.wd,vL ta s.ts.length tc,vL ra s.rs.length rc] 44)).alloc (.map #[] 0)).alloc (.map #[] 0)).alloc (.map #[] 0)).alloc (.cells #[vI s.wd,.map (some (w.heap.size+1)),.map (some (w.heap.size+2)),.map (some (w.heap.size+3))] 188)) w.heap.size [vI s.wd,vL ta s.ts.length tc,vL ra s.rs.length rc]):=U0 ((I5 w [vI s.wd,vL ta s.ts.length tc,vL ra s.rs.length rc] 44).below (N:=w.heap.size+1) (((((Z4 _ _).alloc I4 _).alloc I4 _).alloc I4 _).alloc I4 _) O0);have y0:=V.out 0 _ rfl;have y1:=V.out 1 _ rfl;clear f hs L hm hc J I H P D;go_enter func68,ntmps68
 go_wp2_with fail
 generalize (((((w.alloc (.cells #[vI s.wd,vL ta s.ts.length tc,vL ra s.rs.length rc] 44)).alloc (.map #[] 0)).alloc (.map #[] 0)).alloc (.map #[] 0)).alloc (.cells #[vI s.wd,.map (some (w.heap.size+1)),.map (some (w.heap.size+2)),.map (some (w.heap.size+3))] 188))=U4 at*;go_loopw [20] (fun i wr=>∃ (k:Nat),k<=s.ts.length/\i=.int .i64 k/\Hid (SA w.heap.size (w.heap.size+4) (w.heap.size+1) (w.heap.size+2) (w.heap.size+3) s.wd ((s.ts.take k).map (gT s.wd)) [] [] wr)/\Hid (ShR w.heap.size [] [] [] wr)/\Hid (X4 wr w.heap.size [.int .i64 s.wd,.slice ta s.ts.length tc,.slice ra s.rs.length rc])/\Below w.heap.size w wr/\w.heap.size+5<=wr.heap.size) (fun i _=>s.ts.length - (Go.RowKit.intOf i).toNat)
 case atStart=>exact ⟨0,D5 _,rfl,C0,R0,V,B0,O0⟩
 case round=>
  obtain ⟨k,hk,rfl,z,y,r,B,szr⟩:=hrel;by_cases a:k<s.ts.length
  · obtain ⟨ha,hbw,hcell⟩:=Nc HC.out a;subst ha;have g0:=(B.cell (p:=(aA b (off+k))) hbw).trans (hcell k a);obtain ⟨cc,tt,hI⟩:=(HT.out k a).1;have hxs:=HSZ.out k;have a6b:=U0 (TR HA.out a);have a6c:=U0 (DC HA.out (k+1));have HNL:Hid (((s.ts.take k).map (gT s.wd)).length<maxLen):=by show _<_;simp;unfold maxLen;omega
    have HKM:Hid ((E5 (s.ts.getD k ByteArray.empty) s.wd).size<=maxLen):=by show _<=_;have:=Wp (s:=s.ts.getD k ByteArray.empty) HWD.out;have:=HWD.out;unfold maxLen;omega
    generalize hx:s.ts.getD k ByteArray.empty=x at*;clear hx hcell;have hx7:x.size<=1048700:=O0;have h57:=a0x wr hx7 (G9 HM.out B) hI;clear hI
    go_wp2_with fail
    refine h57.mono ?_;rintro e u1 ⟨rfl,q⟩;clear h57;have su1:=q.size;have BA:Bw w (u1.alloc (.cells #[vI (hC x),vS (hT x)] 103)):=(B.trans (q.mono O0)).alloc O0 _;have R:Bw wr (u1.alloc (.cells #[vI (hC x),vS (hT x)] 103)):=q.alloc su1 _;have W:=U0 (z.out.below R);have RA:=U0 (y.out.below R);have yx:=U0 (r.out.below R O0);have F:=U0 (I5 u1 [vI (hC x),vS (hT x)] 103);have szA:(u1.alloc (.cells #[vI (hC x),vS (hT x)] 103)).heap.size=u1.heap.size+1:=I4;have hD:u1.heap.size<(u1.alloc (.cells #[vI (hC x),vS (hT x)] 103)).heap.size:=O0;clear z y r q
    go_wp2_with fail
    generalize (u1.alloc (.cells #[vI (hC x),vS (hT x)] 103))=C at*;have f0:=W.out.blk 0 _ rfl;have f1:=W.out.blk 1 _ rfl;have d0:=F.out 0 _ rfl;have d1:=F.out 1 _ rfl;refine wp_region_held_drew (S:=(fun u=>u.cell? (aA (w.heap.size+4) 0)=some (vI s.wd)/\u.cell? (aA (w.heap.size+4) 1)=some (.map (some (w.heap.size+1)))/\u.cell? (aW u1 0)=some (vI (hC x))/\u.cell? (aW u1 1)=some (vS (hT x)))) J3 ?_ fun hHeld=>?_
    · exact ⟨f0,f1,d0,d1⟩
    refine Y0 0 ?_;refine Y0 1 ?_;refine Y0 2 ?_;refine Y0 3 ?_;refine Y0 4 ?_;refine Y0 5 ?_;refine Y0 6 ?_;refine Y0 7 ?_;refine Y0 8 ?_;refine Y0 10 ?_;refine Y0 11 ?_;refine Y0 12 ?_;refine rq 9 fun K o=>?_;go_simp;refine (MI x s.wd _ hx7).mono ?_;rintro e v1 ⟨rfl,hbv⟩
    go_wp2_with fail
    have d:Bw C v1:=((Z4 _ _).drew).trans hbv;have sv1:=d.size;have m:=U0 (W.out.below d);have RV:=U0 (RA.out.below d);have BV:=BA.trans (d.mono O0);have h0:=m.out.blk 0 _ rfl;have h1:=m.out.blk 1 _ rfl;have Z:=(d.cell (p:=(aW u1 0)) (show u1.heap.size<C.heap.size by omega)).trans d0;have Y:=(d.cell (p:=(aW u1 1)) (show u1.heap.size<C.heap.size by omega)).trans d1;have X:=U0 (yx.out.below d O0);have E:=U0 (F.out.below d O0);clear hHeld hbv;refine J8 o ⟨h0,h1,Z,Y⟩ fun hHeld=>?_;clear o K;refine rq 13 fun K o=>?_;refine Jy (l:=(s.ts.take k).map (gT s.wd)) (k:=E5 x s.wd) (vv:=hV x) rfl 184 (.tmp 32) (.tmp 38) (.tmp 41) rfl rfl rfl rfl m.out.tx underlying184 HNL.out HKM.out rfl ?_;intro v2 g c;rw [a6b.out] at g
    replace g:=Nh g
    rw [Eb] at g;have n:=U0 (m.out.upT c g a6c.out);have R2:=U0 (RV.out.XW c m.out);have B2:=BV.trans (a_ c (fun j e=>by cases e;omega) O0);have sv2:=c.size;have neT:some w.heap.size≠some (w.heap.size+1):=fun e=>by have:=Q9 e;omega
    have y2:=U0 (D9 X.out c O0 neT);have j0:=n.out.blk 0 _ rfl;have j1:=n.out.blk 1 _ rfl;have neD:some u1.heap.size≠some (w.heap.size+1):=fun e=>by have:=Q9 e;omega
    have z0:=(D9 (vs:=[vI (hC x),vS (hT x)]) E.out c O0 neD) 0 _ rfl;have z1:=(D9 (vs:=[vI (hC x),vS (hT x)]) E.out c O0 neD) 1 _ rfl;clear hHeld g c;refine J8 o ⟨j0,j1,z0,z1⟩ fun hHeld=>?_;clear o K hHeld;refine wdn ?_;clear h0 h1 Z Y X E m RV BV;go_wp2;go_roundw
    case rel=>exact ⟨k+1,O0,by go_num,n,R2,y2,B2,O0⟩
    case measure=>simp [Go.RowKit.intOf];omega
  · obtain rfl:k=s.ts.length:=O0;have n:Hid (SA w.heap.size (w.heap.size+4) (w.heap.size+1) (w.heap.size+2) (w.heap.size+3) s.wd (s.ts.map (gT s.wd)) [] [] wr):=by have h:=z.out;rw [Uj] at h;exact h
    have z2:=r.out 2 _ rfl;have S2:Hid (Sh w.heap.size (w.heap.size+4) (w.heap.size+1) (w.heap.size+2) (w.heap.size+3) s.wd (s.ts.map (gT s.wd)) (s.rs.take 0) [] wr):=⟨[],n.out,y.out⟩;clear z n y r
    go_wp2_with fail
    go_loopw [46] (fun i wr=>∃ (k:Nat) (rv:List Value),k<=s.rs.length/\i=.int .i64 k/\Hid (Sh w.heap.size (w.heap.size+4) (w.heap.size+1) (w.heap.size+2) (w.heap.size+3) s.wd (s.ts.map (gT s.wd)) (s.rs.take k) rv wr)/\Below w.heap.size w wr) (fun i _=>s.rs.length - (Go.RowKit.intOf i).toNat)
    case atStart=>exact ⟨0,[],D5 _,rfl,S2,B⟩
    case round=>
     obtain ⟨k,rv,hk,rfl,t,A⟩:=hrel;by_cases a:k<s.rs.length
     · obtain ⟨rb,ro,hra,hrb,hrec⟩:=Nc HR.out a;subst hra;obtain ⟨U,O,r0,r1,r2,hV⟩:=aX (hrec k a) A hrb;have HTK:=U0 (wO a);have hkey:(s.rs.getD k g_).key.size<=1048700:=by have:=(HRO.out k a).1.1;omega
       have htk:(s.rs.take k).length<=1000:=U7;generalize s.rs.getD k g_=x at*;clear hrec;have Q:Bw wr (wr.alloc (.cells #[vS x.key,vL U x.gs.length O,vS x.out] 113)):=o7;have S4:=U0 (t.out.below Q);have V4:=hV.kept (Tf Q) (fun _ e=>by cases e);have h59:=AZ _ _ _ _ _ _ _ _ _ x U O _ S4.out V4 htk hkey;have hZq:=A.size;clear t hV V4
       go_wp2_with fail
       refine h59.mono ?_;rintro e u5 ⟨rfl,S5,B5,_⟩;have S6:Hid (Sh w.heap.size (w.heap.size+4) (w.heap.size+1) (w.heap.size+2) (w.heap.size+3) s.wd (s.ts.map (gT s.wd)) (s.rs.take (k+1)) (rv++[.agg #[vS x.key,vL U x.gs.length O,vS x.out]]) u5):=by show Sh _ _ _ _ _ _ _ _ _ _;rw [HTK.out];exact S5
       have B6:=(A.trans (Q.mono hZq)).trans B5;clear h59 S5 S4 B5;go_wp2;go_roundw
       case rel=>exact ⟨k+1,_,O0,by go_num,S6,B6⟩
       case measure=>simp [Go.RowKit.intOf];omega
     · obtain rfl:k=s.rs.length:=O0;have S7:Hid (Sh w.heap.size (w.heap.size+4) (w.heap.size+1) (w.heap.size+2) (w.heap.size+3) s.wd (s.ts.map (gT s.wd)) s.rs rv wr):=by have h:=t.out;rw [Uj] at h;exact h
       clear t;go_wp2;go_ret;exact ⟨⟨_,_,_,_,rv,rfl,S7.out⟩,A⟩
open Go.RowKit
theorem XG (s:BY) (w:World) (a:s.size<=1048700):
 Calls prog 152 #[.string s] w fun e w'=>e=.returned (.string (Y2 (X5 s.data.toList)))/\Bw w w':=c152 s w a
theorem xN (c:UInt8):N_ c=true↔32<=c.toNat/\c.toNat<=126/\c.toNat≠34/\c.toNat≠92:=by
 unfold N_;simp only [Fa,Fe,nI,n_];omega
theorem uP:∀ a b:Fin 16,hexL.getD a.val 0=hexL.getD b.val 0->a=b:=O6
theorem Dx {a:Nat} (ha:a<16) (c:b<16) (h:hexL.getD a 0=hexL.getD b 0):a=b:=by
 have:=uP ⟨a,ha⟩ ⟨b,c⟩ h;exact Fin.mk.inj this
theorem Us (c:UInt8):c.toNat<256:=c.toNat_lt
theorem Jf (h:N_ c=true):qb c=[c]:=by unfold qb;rw [if_pos h]
theorem Yf (h:N_ c=false):qb c=[92,hexL.getD (c.toNat / 16) 0,hexL.getD (c.toNat % 16) 0]:=by unfold qb;rw [if_neg (by simp [h])]
theorem Sz:N_ 92=false:=O6
theorem EK (c:UInt8):qb c≠[]:=by
 cases h:N_ c
 · rw [Yf h];simp
 · rw [Jf h];simp
theorem gX {d:UInt8} {r q:List UInt8} (h:qb c++r=qb d++q):c=d/\r=q:=by
 cases hc:N_ c <;> cases hd:N_ d
 · rw [Yf hc,Yf hd] at h;simp only [Uf,M_,Ci,zy] at h;obtain ⟨h1,h2,a⟩:=h;have lc:=Us c;have ld:=Us d;have e1:=Dx O0 O0 h1;have e2:=Dx O0 O0 h2;exact ⟨Ei.1 O0,a⟩
 · rw [Yf hc,Jf hd] at h;simp only [Uf,M_,Ci] at h;rw [<- h.1,Sz] at hd;cases hd
 · rw [Jf hc,Yf hd] at h;simp only [Uf,M_,Ci] at h;rw [h.1,Sz] at hc;cases hc
 · rw [Jf hc,Jf hd] at h;simpa using h
theorem zH {l R:List UInt8} (h:t.flatMap qb++R=l.flatMap qb):∃ r,R=r.flatMap qb/\l=t++r:=by
 induction t generalizing l with
 | nil=>exact ⟨l,by simpa using h,rfl⟩
 | cons c t ih=>
  cases l with
  | nil=>
   have:=EK c;simp at h;exact absurd h.1 this
  | cons d l=>
   simp only [Pg,oq] at h;obtain ⟨rfl,h2⟩:=gX h;obtain ⟨r,hr,hl⟩:=ih h2;exact ⟨r,hr,by rw [hl];rfl⟩
theorem TN {l:List UInt8} (h:t.flatMap qb=l.flatMap qb):t=l:=by
 obtain ⟨r,hr,hl⟩:=zH (t:=t) (l:=l) (R:=[]) (by simpa using h)
 cases r with
 | nil=>simpa using hl.symm
 | cons c r=>
  have:=EK c;simp at hr;exact absurd hr.1 this
theorem Xm {l:List UInt8} (h:X5 t=X5 l):t=l:=by
 unfold X5 at h;simp only [Ci,zy,List.append_cancel_right_eq] at h;exact TN h
theorem nU (l:List UInt8):l.length<=(l.flatMap qb).length:=by
 induction l with
 | nil=>simp
 | cons c l ih=>
  have:1<=(qb c).length:=Gt.2 (EK c);simp only [Pg,N9,A_];omega
theorem Yo (l:List UInt8):l.length+2<=(X5 l).length:=by
 have:=nU l;unfold X5;simp only [List.length_cons,List.length_append,List.length_nil];omega
theorem wC:∀ a:Fin 16,hexL.getD a.val 0≠10/\hexL.getD a.val 0≠32:=O6
theorem wV (c:UInt8):(10:UInt8)∉qb c:=by
 cases h:N_ c
 · rw [Yf h];have lc:=Us c;have h1:=(wC ⟨c.toNat / 16,O0⟩).1;have h2:=(wC ⟨c.toNat % 16,O0⟩).1;simp only [ve,Kt,or_false,Qm];exact ⟨O6,fun e=>h1 e.symm,fun e=>h2 e.symm⟩
 · rw [Jf h];have:=(xN c).1 h;simp only [ve,Kt,or_false];intro e;rw [<- e] at this;simp at this
theorem aj (l:List UInt8):(10:UInt8)∉X5 l:=by
 unfold X5;simp only [ve,jh,SE,Kt,or_false,Qm];refine ⟨O6,fun ⟨c,_,h⟩=>wV c h,O6⟩
def hx (b:UInt8):Int:=if 48<=(b.toNat:Int)/\(b.toNat:Int)<=57 then (b.toNat:Int) - 48 else if 97<=(b.toNat:Int)/\(b.toNat:Int)<=102 then (b.toNat:Int) - 97+10 else -1
theorem ZV {a b:Int} (h:a=b):Ending.returned (.int .i64 a)=.returned (.int .i64 b):=by rw [h]
theorem XL (c:UInt8) (w:World):
 Calls prog 149 #[.int .u8 c.toNat] w fun e w'=>e=.returned (.int .i64 (hx c))/\w'=w:=by
 have hc:=Us c;have a:Hid (hx c=if 48<=(c.toNat:Int)/\(c.toNat:Int)<=57 then (c.toNat:Int) - 48 else if 97<=(c.toNat:Int)/\(c.toNat:Int)<=102 then (c.toNat:Int) - 97+10 else -1):=rfl;generalize (c.toNat:Int)=n at*;go_enter func149,ntmps149;go_wp2
 all_goals go_ret
 all_goals refine ⟨ZV ?_,rfl⟩
 all_goals rw [a.out]
 all_goals (repeat' split)
 all_goals omega
theorem NC (b:UInt8):(Lib.indexByte hexL b=-1/\∀ n,n<16->hexL.getD n 0≠b)\/∃ n:Nat,n<16/\Lib.indexByte hexL b=n/\hexL.getD n 0=b:=by
 have hge:=Lib.indexByte_ge hexL b;by_cases h:Lib.indexByte hexL b=-1
 · refine .inl ⟨h,fun n a e=>Lib.indexByte_none h n ?_⟩;have hl:n<hexL.length:=a;rw [<- e];simp [List.getD,y9 hl]
 · obtain ⟨o,ho⟩:∃ o:Nat,Lib.indexByte hexL b=o:=⟨(Lib.indexByte hexL b).toNat,O0⟩;obtain ⟨h1,_⟩:=Lib.indexByte_some ho;have hl:o<hexL.length:=by
    rcases o8 o hexL.length with h | h
    · exact h
    · rw [Ec h] at h1;cases h1
   exact .inr ⟨o,hl,ho,by simp [List.getD,h1]⟩
theorem WY (b:UInt8) (w:World):
 Calls prog 251 #[.string ⟨#[48,49,50,51,52,53,54,55,56,57,97,98,99,100,101,102]⟩,.int .u8 b.toNat] w fun e w'=>e=.returned (.int .i64 (Lib.indexByte hexL b))/\w'=w:=by
 refine (Tryz.strings_IndexByte _ _ w).mono ?_;rintro e w' ⟨rfl,rfl⟩;refine ⟨ZV ?_,rfl⟩;have e1:(b.toNat:Int).toNat.toUInt8=b:=I4;rw [e1];rfl
theorem AV {a b:Int} {x y:Bool} (h:a=b) (c:x=y):Ending.returned (.tuple #[.int .u8 a,.bool x])=.returned (.tuple #[.int .u8 b,.bool y]):=by rw [h,c]
def XF (l:List UInt8) (c:UInt8) (ok:Bool):Prop:=(ok=true->N_ c=false/\∃ r,l=qb c++r)/\(ok=false->∀ d r,N_ d=false->l≠qb d++r)
theorem dR:∀ h l:Fin 16,bits BinOp.or IntKind.i64 (((h.val:Nat):Int)*16) ((l.val:Nat):Int)=16*((h.val:Nat):Int)+((l.val:Nat):Int):=by decide +kernel
theorem XU (h l:Nat) (a:h<16) (hl:l<16):bits BinOp.or IntKind.i64 ((h:Int)*16) (l:Int) % 256=((UInt8.ofNat (16*h+l)).toNat:Int):=by
 have:=dR ⟨h,a⟩ ⟨l,hl⟩;simp only at this;rw [this];simp
theorem lG (h l:Nat) (hh:h<16) (hl:l<16):(UInt8.ofNat (16*h+l)).toNat / 16=h/\(UInt8.ofNat (16*h+l)).toNat % 16=l:=by
 have e:(UInt8.ofNat (16*h+l)).toNat=16*h+l:=U7;rw [e];omega
theorem KA (s:BY) (h:2<s.size):∃ r,s.data.toList=s[0]::s[1]::s[2]::r:=by
 have hl:s.data.toList.length=s.size:=I4;have g:∀ (k:Nat) (d:k<s.size),s.data.toList[k]'(by simpa using d)=s[k]:=fun k d=>by simp [ZI]
 rcases hd:s.data.toList with _ | ⟨a,_ | ⟨b,_ | ⟨c,r⟩⟩⟩
 · rw [hd] at hl;simp at hl;omega
 · rw [hd] at hl;simp at hl;omega
 · rw [hd] at hl;simp at hl;omega
 · have g0:=g 0 O0;have g1:=g 1 O0;have g2:=g 2 h;simp only [hd,List.getElem_cons_zero,List.getElem_cons_succ] at g0 g1 g2;exact ⟨r,by rw [<- g0,<- g1,<- g2]⟩
theorem IA {s:BY} (h:2<s.size) (a:s[0]≠92\/(∀ n,n<16->hexL.getD n 0≠s[1])\/(∀ n,n<16->hexL.getD n 0≠s[2])) (c:UInt8):XF s.data.toList c false:=by
 refine ⟨(fun h=>by cases h),fun _ d r hd e=>?_⟩;obtain ⟨q,b⟩:=KA s h;rw [b,Yf hd] at e;simp only [Uf,M_,Ci] at e;have ld:=Us d;rcases a with a | a | a
 · exact a e.1
 · exact a _ O0 e.2.1.symm
 · exact a _ O0 e.2.2.1.symm
def a1w (l:List UInt8) (e:Ending):Prop:=∃ c ok,e=.returned (.tuple #[.int .u8 (c:UInt8).toNat,.bool ok])/\XF l c ok
theorem a2h (s:BY) (w:World) (hs:s.size<=1048700):
 Calls prog 219 #[.string s] w fun e w'=>a1w s.data.toList e/\w'=w:=by
 by_cases h3:s.size<3
 · have a:Hid (XF s.data.toList 0 false):=by
    refine ⟨(fun h=>by cases h),fun _ d r hd e=>?_⟩;have:=P5 List.length e;rw [Yf hd] at this;simp at this;omega
   go_enter func219,ntmps219;go_wp2;go_ret2;exact ⟨⟨0,false,rfl,a.out⟩,rfl⟩
 · have hz0:0<s.size:=O0;have hz1:1<s.size:=O0;have j:2<s.size:=O0;by_cases i:s[0]=92
   · have e0:((s[0].toNat:Int) !=92)=false:=by rw [i];rfl
     have x:=U0 i;clear i;go_enter func219,ntmps219
     go_wp2_with fail
     refine (WY _ _).mono ?_;rintro e w' ⟨rfl,rfl⟩
     go_wp2_with fail
     refine (WY _ _).mono ?_;rintro e w' ⟨rfl,rfl⟩;rcases NC s[1] with ⟨m,f⟩ | ⟨h,n,m,f⟩
     · have a:=U0 (IA j (.inr (.inl f)) 0);clear f;rw [m];go_wp2;go_ret2;exact ⟨⟨0,false,rfl,a.out⟩,rfl⟩
     · rw [m];rcases NC s[2] with ⟨lo,g⟩ | ⟨l,hl,lo,g⟩
       · have a:=U0 (IA j (.inr (.inr g)) 0);clear f g;rw [lo];go_wp2;go_ret2;exact ⟨⟨0,false,rfl,a.out⟩,rfl⟩
       · rw [lo];have ho:=XU h l n hl;obtain ⟨p,o⟩:=lG h l n hl;have v:Hid (N_ (UInt8.ofNat (16*h+l))=false->qb (UInt8.ofNat (16*h+l))=([92,s[1],s[2]]:List UInt8)):=fun b=>by
          rw [Yf b,p,o,f,g]
         have u:Hid (N_ (UInt8.ofNat (16*h+l))=true->∀ d r,N_ d=false->s.data.toList≠qb d++r):=fun b d r hd e=>by
          obtain ⟨q,k⟩:=KA s j;rw [k,Yf hd] at e;simp only [Uf,M_,Ci] at e;have ld:=Us d;have e1:=Dx O0 n (e.2.1.symm.trans f.symm);have e2:=Dx O0 hl (e.2.2.1.symm.trans g.symm);have t:d=UInt8.ofNat (16*h+l):=Ei.1 (by have:=Us (UInt8.ofNat (16*h+l));omega);rw [<- t,hd] at b;cases b
         clear f g p o;generalize UInt8.ofNat (16*h+l)=c at*
         go_wp2_with fail
         rw [ho];refine (a0n c _).mono ?_;rintro e w' ⟨rfl,hw⟩;obtain rfl:=hw.symm;cases b:N_ c
         · have a:Hid (XF s.data.toList c true):=by
            refine ⟨fun _=>⟨b,?_⟩,(fun h=>by cases h)⟩;obtain ⟨q,k⟩:=KA s j;exact ⟨q,by rw [k,v.out b,x.out];rfl⟩
           clear b;go_wp2;go_ret2;exact ⟨⟨c,true,AV rfl rfl,a.out⟩,rfl⟩
         · have a:Hid (XF s.data.toList 0 false):=⟨(fun h=>by cases h),fun _=>u.out b⟩;clear b;go_wp2;go_ret2;exact ⟨⟨0,false,rfl,a.out⟩,rfl⟩
   · have a:=U0 (IA j (.inl i) 0);have e0:((s[0].toNat:Int) !=92)=true:=by
      simp only [Nq];intro e;exact i (Ei.1 (by
       have:s[0].toNat=92:=O0;rw [this];rfl))
     clear i;go_enter func219,ntmps219;go_wp2;go_ret2;exact ⟨⟨0,false,rfl,a.out⟩,rfl⟩

import Derived.Test.YtchjpjmcnhjbcaaGreatDoorK5
import Derived.Test.YtchjpjmcnhjbcaaGreatDooreQF
set_option linter.unusedVariables false
set_option maxHeartbeats 8000000
set_option maxRecDepth 100000
namespace Go.Proofs.YtchjpjmcnhjbcaaGreatDoor
open Proofs.Tryz Go.RowKit Go.Maps
variable {B H b bP bR bT n:Nat} {w w':World} {W:Int} {l pl:List (ByteArray×Value)} {rv:List Value} {v:Value} {zs:List Int} {rs:List R3} {P:Program} {ops:Array Oper} {o:Oper} {a:Act} {K:Act->World->Prop} {Q:Exit->Act->World->Prop}
def Sh (B H bT bR bP:Nat) (W:Int) (l:List (ByteArray×Value)) (rs:List R3) (rv:List Value) (w:World):Prop:=∃ pl,VA B H bT bR bP W l rv pl w/\ShR B rs rv pl w
theorem gu {es:Array MapEntry} {c:Nat} (hB:B<=b) (hm:w.heap[b]?=some (.map es c)):oK B w (some b):=fun j e=>by
 cases e
 exact ⟨hB,fun cur fr e=>by rw [hm] at e;simp at e⟩
theorem VA.neH (h:VA B H bT bR bP W l rv pl w) {k:TypeId} {R:Value->Option (DataW Value×List MemPlace)} {b n:Nat} {D:DataW Value} (hm:w.ownsMap prog k R b n D):some H≠some b:=fun e=>by
 obtain ⟨es,ck,a⟩:=Nh hm;exact Eg (h.blk 0 _ rfl) a (w_ e)
theorem VA.upR {b:List Value} (h:VA B H bT bR bP W l rv pl w) (a:w.grownBy w' (some bR)) (hm:w'.ownsMap prog 3 Ja bR b.length (intD b)):VA B H bT bR bP W l b pl w':=
 ⟨h.hH,h.hT,h.hR,h.hP,O9 h.lt a.size,h.n1,h.n2,h.n3,N9 h.blk a h.lt (h.neH h.rc),h.tx.kept a (fun e=>h.n1 (w_ e)),h.ta,hm,h.pc.kept a (fun e=>h.n3 (w_ e).symm),h.pa,h.ty.kept a (h.neH h.rc)⟩
theorem VA.upP {b:List (ByteArray×Value)} (h:VA B H bT bR bP W l rv pl w) (a:w.grownBy w' (some bP)) (hm:w'.ownsMap prog 9 Ja bP b.length (mapD b)) (ha:Asc b):VA B H bT bR bP W l rv b w':=
 ⟨h.hH,h.hT,h.hR,h.hP,O9 h.lt a.size,h.n1,h.n2,h.n3,N9 h.blk a h.lt (h.neH h.pc),h.tx.kept a (fun e=>h.n2 (w_ e)),h.ta,h.rc.kept a (fun e=>h.n3 (w_ e)),hm,ha,h.ty.kept a (h.neH h.pc)⟩
theorem VA.upT {b:List (ByteArray×Value)} (h:VA B H bT bR bP W l rv pl w) (a:w.grownBy w' (some bT)) (hm:w'.ownsMap prog 9 Ja bT b.length (mapD b)) (ha:Asc b):VA B H bT bR bP W b rv pl w':=
 ⟨h.hH,h.hT,h.hR,h.hP,O9 h.lt a.size,h.n1,h.n2,h.n3,N9 h.blk a h.lt (h.neH h.tx),hm,ha,h.rc.kept a (fun e=>h.n1 (w_ e).symm),h.pc.kept a (fun e=>h.n2 (w_ e).symm),h.pa,h.ty.kept a (h.neH h.tx)⟩
theorem Ql (h:w.ownsInts B 3 .i64 v zs) {es:Array MapEntry} {c:Nat} (hm:w.heap[b]?=some (.map es c)):v.ownBlock≠some b:=fun e=>by
 obtain ⟨_,_,cur,hc⟩:=Hg h e;rw [hm] at hc;simp at hc
theorem Il {t:TypeId} (h:w.ownsInts B 3 .i64 v zs) (hT:ng w b t) (ht:t≠3):some b≠v.ownBlock:=fun e=>by
 obtain ⟨_,_,cur,hc⟩:=Hg h e.symm;obtain ⟨cur',fr,hT⟩:=hT;rw [hT] at hc;simp at hc;exact ht hc.2.1
theorem Ji {k:TypeId} {R:Value->Option (DataW Value×List MemPlace)} {D:DataW Value} (h:w.ownsInts B 3 .i64 v zs) (hm:w.ownsMap prog k R b n D):some b≠v.ownBlock:=fun e=>by
 obtain ⟨es,ck,a⟩:=Nh hm;exact Ql h a e.symm
theorem ints_at {k:BY} (R:ShR B rs rv pl w) (hv:(T_ pl k).getD (.slice none 0 0)=v) (a:Bw w w'):w'.ownsInts B 3 .i64 v (Kw rs k):=by
 cases hq:T_ pl k with
 | none=>
  rw [hq] at hv;subst hv;rw [R.non k hq];exact World.ownsInts_nil _ _ _ _
 | some u=>
  rw [hq] at hv;subst hv;exact (R.grp k u hq).kept (Bf a) (by cases u.ownBlock <;> simp)
theorem Sj {E:Prop}
 (y:o.guard=none) (s x:Operand) (t:TypeId) (q:o.op=Op.call { callee:=Callee.builtin Builtin.append,args:=#[s,x],argTypes:=#[t,t] })
 (base:Nat) (e:TypeId) (i:TypeInfo) (z:Value) (size bytes:Nat) (h1:P.underlying t=some (.slice e)) (h2:P.info? e=some i) (I:i.zero=some z) (H:i.size=size) (F:i.bytes=bytes) (D:z.cells.size=size) (C:0<size)
 (v:Value) (n:Nat) (xs:List Value) (k:a.eval s=v) (p:w.ownsRow base e size v n xs)
 (d:Addr) (m c:Nat) (b:List Value) (hx:a.eval x=.slice (some d) m c) (r:b.length=m*size) (hc:∀ j u,b[j]?=some u->w.cell? (d.add j)=some u) (J:∀ u∈b,u.oneCell'=true)
 (N:n+m<=maxLen) (L:(n+m)*bytes<=140737488355328) (A:base<=w.heap.size)
 (B:∀ v' w',w'.ownsRow base e size v' (n+m) (xs++b)->w.grownBy w' v.ownBlock->(v'.ownBlock=v.ownBlock\/v'.ownBlock=some w.heap.size)->K (a.put o.dst v') w'):
 if Region.wanted o (yielded ops a.tmps)=true then Oper.wp P o a w K Q else E:=by
 have hw:Region.wanted o (yielded ops a.tmps)=true:=by simp [Region.wanted,y]
 rw [X7 hw];obtain ⟨v',w',l,h,g,_,f⟩:=run_append_own_at (P:=P) w base t o.type e i z size bytes h1 h2 I H F D C v n xs p d m c b r hc J N L A;unfold Oper.wp;simp [execOp,q,resolve,invoke,builtin,k,hx,l,Result.andThen];exact B v' w' h g f
theorem yJ {E:Prop} (d:o.guard=none) (t:TypeId) (m x:Operand) (ok:Bool) (ho:o.op=Op.lookup t m x ok) (c b:Value) {r:Value}
 (hm:a.eval m=c) (hx:a.eval x=b) (hr:(Instr.lookup t c b ok).run P w=.ok r w) (h:K (a.put o.dst r) w):
 if Region.wanted o (yielded ops a.tmps)=true then Oper.wp P o a w K Q else E:=by
 have hw:Region.wanted o (yielded ops a.tmps)=true:=by simp [Region.wanted,d]
 rw [X7 hw];unfold Oper.wp;simp [execOp,ho,hm,hx,hr,Result.andThen];exact h
theorem info3:(prog.info? 3).map (fun i=>(i.zero,i.size,i.bytes))=some (some (.int .i64 0),1,8):=Y2
theorem ShR.push {u1 u2 u3 u4:World} {x:R3} {V v':Value} (R:ShR B rs rv pl u1) (X:jB B u1 V x) (hA:Asc pl) (hv:(T_ pl x.key).getD (.slice none 0 0)=v) (r:Bw u1 u2) (hs2:B<=u2.heap.size)
 (q:u2.grownBy u3 v.ownBlock) (ho:u3.ownsRow B 3 1 v' n ((Kw rs x.key).map (Value.int .i64)++[.int .i64 (rs.length:Nat)])) (I:n=(Kw rs x.key).length+1) (E:v'.ownBlock=v.ownBlock\/v'.ownBlock=some u2.heap.size) (g:u3.grownBy u4 (some bP)) (L:B<=bP) {es:Array MapEntry} {N:Nat} (hm:u3.heap[bP]?=some (.map es N)) (hrl:rs.length<=1048576):
 ShR B (rs++[x]) (rv++[V]) (yg (x.key,v') (pl.filter fun p=>!decide (p.1=x.key))) u4:=by
 have F:=ints_at R hv r;have s:=R.below r;have O:=X.kept (Bf r) (fun _ e=>by cases e);obtain ⟨_,f⟩:=qy hA x.key v';have H:(Lit.int .i64 ((rs.length:Nat):Int)).wf=true:=WalkArith.wf_i64 O0;have C:=F.appended (by rw [<- I];exact ho) H;have w:oK B u2 v.ownBlock:=fun j e=>by
  obtain ⟨h1,_,cur,l⟩:=Hg F e;exact ⟨h1,fun cur' fr e=>by rw [l] at e;simp at e⟩
 have t:=gu L hm;have z:∀ {u:Value} {zs:List Int},u3.ownsInts B 3 .i64 u zs->u.ownBlock=none\/u.ownBlock≠some bP:=fun h=>.inr (Ql h hm);have m:∀ k u,k≠x.key->T_ pl k=some u->u.ownBlock=none\/u.ownBlock≠v.ownBlock:=fun k u b a=>by
  cases hq:T_ pl x.key with
  | none=>
   rw [hq] at hv;subst hv
   cases hb:u.ownBlock with
   | none=>exact .inl rfl
   | some j=>exact .inr (by simp [Value.ownBlock])
  | some y=>
   rw [hq] at hv;subst hv;exact R.apart k x.key u y b a hq
 have A:∀ k u,T_ pl k=some u->∀ j,u.ownBlock=some j->j<u2.heap.size:=fun k u a j J=>(Hg (s.grp k u a) J).2.1;refine ⟨by simp [R.len],fun i K=>?_,fun k u a=>?_,fun k b=>?_,fun k k' u u' D a c=>?_,?_⟩
 · rcases Q7 i rs.length with h | h
   · have e1:(rv++[V]).getD i undef=rv.getD i undef:=by simp [List.getD,S_ (show i<rv.length by rw [R.len];exact h)]
     have d:(rs++[x]).getD i f_=rs.getD i f_:=by simp [List.getD,S_ h]
     rw [e1,d];exact ((s.recs i h).kept q w).kept g t
   · obtain rfl:i=rs.length:=by simp at K;omega
     have e1:(rv++[V]).getD rs.length undef=V:=by simp [List.getD,<- R.len]
     have d:(rs++[x]).getD rs.length f_=x:=by simp [List.getD]
     rw [e1,d];exact (O.kept q w).kept g t
 · rw [f k] at a;rw [EG];by_cases b:k=x.key
   · subst b;rw [X7 rfl] at a;cases a;rw [X7 rfl];exact C.kept g (z C)
   · rw [I7 b] at a;rw [I7 (fun e=>b e.symm),Wy];have l:=(s.grp k u a).kept q (m k u b a);exact l.kept g (z l)
 · rw [f k] at b;by_cases o:k=x.key
   · rw [X7 o] at b;cases b
   · rw [I7 o] at b;rw [EG,I7 (fun e=>o e.symm),R.non k b,Wy]
 · rw [f k] at a;rw [f k'] at c;by_cases h1:k=x.key
   · have h2:k'≠x.key:=fun e=>D (h1.trans e.symm);rw [X7 h1] at a;rw [I7 h2] at c;cases a;rcases E with e | e
     · rw [e];rcases m k' u' h2 c with h | h
       · cases hq:v.ownBlock with
         | none=>exact .inl rfl
         | some j=>exact .inr (by rw [h];simp)
       · exact .inr (fun e=>h e.symm)
     · refine .inr fun d=>?_;have:=A k' u' c _ (d.symm.trans e);omega
   · rw [I7 h1] at a;by_cases h2:k'=x.key
     · rw [X7 h2] at c;cases c;rcases E with e | e
       · rw [e];exact m k u h1 a
       · cases hq:u.ownBlock with
         | none=>exact .inl rfl
         | some j=>
          refine .inr fun d=>?_;have:=A k u a j hq;rw [e] at d;cases d;omega
     · rw [I7 h2] at c;exact R.apart k k' u u' D a c
 · rw [(Yc _ _).length_eq];have:=SH (fun p=>!decide (p.1=x.key)) pl;have:=R.pln;simp;omega
theorem c152 (B H bT bR bP:Nat) (W:Int) (l:List (ByteArray×Value)) (rs:List R3) (rv:List Value) (x:R3) (a:OA) (c:Nat) (w:World) (hSh:Sh B H bT bR bP W l rs rv w) (hx:jB B w (.agg #[.string x.key,.slice a x.gs.length c,.string x.out]) x) (hn:rs.length<=1000) (hk:x.key.size<=1048700):
 Calls prog 152 #[.pointer (some ⟨H,0,none⟩),.agg #[.string x.key,.slice a x.gs.length c,.string x.out]] w fun e w'=>e=.returned (.tuple #[])/\Sh B H bT bR bP W l (rs++[x]) (rv++[.agg #[.string x.key,.slice a x.gs.length c,.string x.out]]) w'/\Below B w w'/\KF w w':=by
 obtain ⟨pl,hC,hR⟩:=hSh;have HL:=U0 hR.len;have HPL:Hid (pl.length<maxLen):=by show _<_;have:=hR.pln;unfold maxLen;omega
 have hrn:rv.length<=1000:=by rw [HL.out];exact hn
 have a4M:=hC.lt;have hBH:=hC.hH;obtain ⟨i0,hi,hz0,hz1,hz2⟩:=info_parts' info3;obtain ⟨v,hv⟩:∃ v,(T_ pl x.key).getD vN=v:=⟨_,rfl⟩;have O:=U0 hv;obtain ⟨es,ck,V,hpF,hps,hpD⟩:=hC.pc;have hbP:=(r_.1 V).1;have HB1:Hid ((Kw rs x.key).length+1<=maxLen):=by show _<=_;have:=UC rs x.key;unfold maxLen;omega
 have HB2:Hid (((Kw rs x.key).length+1)*8<=140737488355328):=by show _<=_;have:=UC rs x.key;omega
 have hkm:x.key.size<=maxLen:=by unfold maxLen;omega
 have HLK:Hid (∀ u:World,u.heap[bP]?=some (.map es ck)->(Instr.lookup 211 (.map (some bP)) (vS x.key) false).run prog u=.ok v u):=fun u hu=>by
  rw [<- hv];exact OH (n:=pl.length) ⟨es,ck,hu,hpF,hps,hpD⟩ underlying211 Y2 hkm
 have y:Bw w (w.alloc (.cells #[vS x.key,vL a x.gs.length c,vS x.out] 145)):=P6;have sz0:(w.alloc (.cells #[vS x.key,vL a x.gs.length c,vS x.out] 145)).heap.size=w.heap.size+1:=X4;have hp0:=(y.block bP hbP).trans V;have h67:Hid (ng (w.alloc (.cells #[vS x.key,vL a x.gs.length c,vS x.out] 145)) w.heap.size 145):=U0 (Gi w #[vS x.key,vL a x.gs.length c,vS x.out] 145);have I:=U0 (hC.below y);have R0:=U0 (hR.below y);have X0:=U0 (hx.kept (Bf y) (fun _ e=>by cases e));have P:Hid (D5 (w.alloc (.cells #[vS x.key,vL a x.gs.length c,vS x.out] 145)) w.heap.size [vS x.key,vL a x.gs.length c,vS x.out]):=U0 (Z7 w [vS x.key,vL a x.gs.length c,vS x.out] 145);have f2:=I.out.blk 2 _ rfl;have f3:=I.out.blk 3 _ rfl;have e0:=P.out 0 _ rfl;have e1:=P.out 1 _ rfl;have e2:=P.out 2 _ rfl;obtain ⟨es1,ck1,t⟩:=Nh (hC.rc)
 replace t:=(y.block bR (r_.1 t).1).trans t
 have Z:some w.heap.size≠some bR:=fun e=>Eg e0 t (w_ e);have a5H:some H≠some bR:=fun e=>Eg (I.out.blk 0 _ rfl) t (w_ e);have a5d:some bP≠some bR:=fun e=>hC.n3 (w_ e).symm;clear hC hR hx hv V hpF hps hpD;go_enter func152,ntmps152
 go_wp2_with (at_len;refine wpList_len_own _ rfl _ 210 rfl 3 145 underlying210 Ja bR _ (intD rv) rfl I.out.rc ?_;rw [Rk])
 rename_i K0 hK0;generalize (w.alloc (.cells #[vS x.key,vL a x.gs.length c,vS x.out] 145))=u0 at*;have E:=U0 (I.out.below (Z4 _ _).drew);have RD:=U0 (R0.out.below (Z4 _ _).drew);have XD:=U0 (X0.out.kept (Bf (w':=u0.drew) (Z4 _ _).drew) (fun _ e=>by cases e));have ED:Hid (D5 u0.drew w.heap.size [vS x.key,vL a x.gs.length c,vS x.out]):=U0 (P.out.below (Z4 (w.heap.size+1) _).drew O0);have HN:Hid (rv.length<maxLen):=by show rv.length<maxLen;unfold maxLen;omega
 have a5I:rv.length<=1048576:=O0;have HN2:=HPL;refine wp_region_held_drew (S:=(fun u=>u.cell? (aA H 2)=some (.map (some bR))/\u.cell? (aW w 0)=some (vS x.key)/\u.cell? (aW w 1)=some (vL a x.gs.length c)/\u.cell? (aW w 2)=some (vS x.out))) Y2 ?_ fun hHeld=>?_
 · exact ⟨f2,e0,e1,e2⟩
 refine Y0 0 ?_;refine Y0 1 ?_;refine Y0 2 ?_;refine Y0 3 ?_;refine Y0 4 ?_;refine Y0 5 ?_;refine rq 6 fun K b=>?_;refine SS (vs:=rv) (vv:=.agg #[vS x.key,vL a x.gs.length c,vS x.out]) rfl 210 (.tmp 13) (.tmp 14) (.tmp 15) rfl rfl rfl rfl E.out.rc underlying210 HN.out a5I rfl ?_;intro u1 hm1 s;have HR1:Hid (some w.heap.size≠some bR/\some H≠some bR/\some bP≠some bR):=⟨Z,a5H,a5d⟩;have Q:=U0 (E.out.upR s hm1);have N:=U0 (RD.out.map s E.out.hR t);have X1:=U0 (XD.out.kept s (gu E.out.hR t));have B1:=((Z4 B u0).drew).trans (P9 (w:=u0.drew) s (fun j e=>by cases e;exact E.out.hR) (by show B<=u0.heap.size;omega));have K1:=U0 (((Nc y H8).trans (Nc (w':=u0.drew) (Z4 u0.heap.size u0).drew H8)).trans (Ez s t));have T1:=U0 ((h67.out.below (Z4 (w.heap.size+1) u0).drew O0).kept s Z);have A:=U0 (N9 ED.out s (by show w.heap.size<u0.heap.size;omega) Z);have sz1:u0.heap.size<=u1.heap.size:=s.size;have g2:=Q.out.blk 2 _ rfl;have g3:=Q.out.blk 3 _ rfl;have g0:=A.out 0 _ rfl;have g1:=A.out 1 _ rfl;have g4:=A.out 2 _ rfl;have X:=(s.block bP (by show bP<u0.heap.size;omega) a5d).trans hp0;clear hHeld hm1 s;refine E8 b ⟨g2,g0,g1,g4⟩ fun hHeld=>?_;clear b K hHeld;refine wdn ?_;refine hK0 _ _ ?_;clear hK0
 go_wp2_with fail
 refine wp_region_held_drew (S:=(fun u=>u.cell? (aA H 3)=some (.map (some bP))/\u.cell? (aW w 0)=some (vS x.key))) Y2 ?_ fun hHeld=>?_
 · exact ⟨g3,g0⟩
 refine Y0 0 ?_;refine Y0 1 ?_;refine Y0 2 ?_;refine Y0 3 ?_;refine Y0 4 ?_;refine Y0 5 ?_;refine Y0 6 ?_;refine Y0 7 ?_;refine Y0 8 ?_;refine Y0 9 ?_;refine Y0 10 ?_;refine Y0 11 ?_;refine Y0 13 ?_;refine wpAnyH_ready (rs:=[12,14]) Y2 X4 ?_;refine AllReadyH.cons (o:=⟨some 28,.lookup 211 (.tmp 25) (.tmp 27) false,31,_,_,none⟩) rfl (fun K b=>?_) (AllReadyH.cons (o:=⟨some 30,.buildSlice 31 1 #[(0,.tmp 29)],31,_,_,none⟩) rfl (fun K b=>?_) AllReadyH.nil)
 · refine yJ rfl 211 (.tmp 25) (.tmp 27) false rfl (.map (some bP)) (vS x.key) rfl rfl (HLK.out _ X) ?_;clear hHeld;refine E8 b ⟨g3,g0⟩ fun hHeld=>?_;clear b K;refine rq 14 fun K b=>?_;go_simp;have d:Bw u1 ((u1.alloc (.cells #[vI rv.length] 3)).drew):=P6.drew;have J:=(d.cell (p:=(aA H 3)) (show H<u1.heap.size by omega)).trans g3;have L:=(d.cell (p:=(aW w 0)) (show w.heap.size<u1.heap.size by omega)).trans g0;have C:=(d.block bP O0).trans X;have c1:∀ j u,[Value.int .i64 rv.length][j]?=some u->((u1.alloc (.cells #[vI rv.length] 3)).drew).cell? ((aW u1 0).add j)=some u:=fun j u h=>cell_one_new u1 (vI rv.length) 3 j u h;have sz2:((u1.alloc (.cells #[vI rv.length] 3)).drew).heap.size=u1.heap.size+1:=X4;clear hHeld;refine E8 b ⟨J,L⟩ fun hHeld=>?_;clear b K;have f:=U0 (ints_at N.out O.out d);have r:=U0 (Q.out.below d);generalize ((u1.alloc (.cells #[vI rv.length] 3)).drew)=u2 at*;refine rq 15 fun K b=>?_;refine Sj rfl (.tmp 28) (.tmp 30) 31 rfl B 3 i0 vO 1 8 underlying31 hi hz0 hz1 hz2 rfl o6 v _ _ rfl f.out.1 (aW u1 0) 1 1 [vI rv.length] rfl rfl c1 (by simp [Value.oneCell']) HB1.out HB2.out O0 ?_;intro v' u3 Y g hl3;have hnb:=Ql f.out C;have D:=U0 (T1.out.below d O0);have i:=U0 (r.out.kept g (Il f.out r.out.ty o6) (Ji f.out r.out.tx) (Ji f.out r.out.rc) (Ji f.out r.out.pc));have sz3:=g.size;have z:=(g.block bP O0 (fun e=>hnb e.symm)).trans C;have U:=i.out.blk 3 _ rfl;have m0:=(N9 (A.out.below d O0) g O0 (Il f.out D.out o6)) 0 _ rfl;clear hHeld;refine E8 b ⟨U,m0⟩ fun hHeld=>?_;clear b K;refine rq 16 fun K b=>?_;refine Iz (l:=pl) (k:=x.key) (vv:=v') rfl 211 (.tmp 19) (.tmp 21) (.tmp 31) rfl rfl rfl rfl i.out.pc underlying211 HN2.out hkm rfl ?_;intro u4 m q;rw [QB] at m
   replace m:=aj m
   rw [Zb] at m;have F:=U0 (i.out.upP q m (qy i.out.pa x.key v').1);have R4:=U0 (ShR.push N.out X1.out i.out.pa O.out d O0 g (by rw [<- HL.out];exact Y) rfl hl3 q i.out.hP z O0);have B4:=((y.mono O0).trans B1).trans ((d.mono O0).trans ((P9 g (fun j e=>(Hg f.out e).1) O0).trans (P9 q (fun j e=>by cases e;exact i.out.hP) O0)));have K4:=U0 (K1.out.trans ((Nc d H8).trans ((vK g f.out).trans (Ez q z))));have n3:=F.out.blk 3 _ rfl;have R:=(N9 (N9 (A.out.below d O0) g O0 (Il f.out D.out o6)) q O0 (fun e=>Eg m0 z (w_ e))) 0 _ rfl;clear hHeld;refine E8 b ⟨n3,R⟩ fun hHeld=>?_;clear b K;refine wdn ?_
   go_end0
   exact ⟨rfl,⟨_,F.out,R4.out⟩,B4,K4.out⟩
 · go_simp;have d:Bw u1 ((u1.alloc (.cells #[vI rv.length] 3)).drew):=P6.drew;have J:=(d.cell (p:=(aA H 3)) (show H<u1.heap.size by omega)).trans g3;have L:=(d.cell (p:=(aW w 0)) (show w.heap.size<u1.heap.size by omega)).trans g0;have C:=(d.block bP O0).trans X;have c1:∀ j u,[Value.int .i64 rv.length][j]?=some u->((u1.alloc (.cells #[vI rv.length] 3)).drew).cell? ((aW u1 0).add j)=some u:=fun j u h=>cell_one_new u1 (vI rv.length) 3 j u h;have sz2:((u1.alloc (.cells #[vI rv.length] 3)).drew).heap.size=u1.heap.size+1:=X4;clear hHeld;refine E8 b ⟨J,L⟩ fun hHeld=>?_;clear b K;have f:=U0 (ints_at N.out O.out d);have r:=U0 (Q.out.below d);generalize ((u1.alloc (.cells #[vI rv.length] 3)).drew)=u2 at*;refine rq 12 fun K b=>?_;refine yJ rfl 211 (.tmp 25) (.tmp 27) false rfl (.map (some bP)) (vS x.key) rfl rfl (HLK.out _ C) ?_;clear hHeld;refine E8 b ⟨J,L⟩ fun hHeld=>?_;clear b K;refine rq 15 fun K b=>?_;refine Sj rfl (.tmp 28) (.tmp 30) 31 rfl B 3 i0 vO 1 8 underlying31 hi hz0 hz1 hz2 rfl o6 v _ _ rfl f.out.1 (aW u1 0) 1 1 [vI rv.length] rfl rfl c1 (by simp [Value.oneCell']) HB1.out HB2.out O0 ?_;intro v' u3 Y g hl3;have hnb:=Ql f.out C;have D:=U0 (T1.out.below d O0);have i:=U0 (r.out.kept g (Il f.out r.out.ty o6) (Ji f.out r.out.tx) (Ji f.out r.out.rc) (Ji f.out r.out.pc));have sz3:=g.size;have z:=(g.block bP O0 (fun e=>hnb e.symm)).trans C;have U:=i.out.blk 3 _ rfl;have m0:=(N9 (A.out.below d O0) g O0 (Il f.out D.out o6)) 0 _ rfl;clear hHeld;refine E8 b ⟨U,m0⟩ fun hHeld=>?_;clear b K;refine rq 16 fun K b=>?_;refine Iz (l:=pl) (k:=x.key) (vv:=v') rfl 211 (.tmp 19) (.tmp 21) (.tmp 31) rfl rfl rfl rfl i.out.pc underlying211 HN2.out hkm rfl ?_;intro u4 m q;rw [QB] at m
   replace m:=aj m
   rw [Zb] at m;have F:=U0 (i.out.upP q m (qy i.out.pa x.key v').1);have R4:=U0 (ShR.push N.out X1.out i.out.pa O.out d O0 g (by rw [<- HL.out];exact Y) rfl hl3 q i.out.hP z O0);have B4:=((y.mono O0).trans B1).trans ((d.mono O0).trans ((P9 g (fun j e=>(Hg f.out e).1) O0).trans (P9 q (fun j e=>by cases e;exact i.out.hP) O0)));have K4:=U0 (K1.out.trans ((Nc d H8).trans ((vK g f.out).trans (Ez q z))));have n3:=F.out.blk 3 _ rfl;have R:=(N9 (N9 (A.out.below d O0) g O0 (Il f.out D.out o6)) q O0 (fun e=>Eg m0 z (w_ e))) 0 _ rfl;clear hHeld;refine E8 b ⟨n3,R⟩ fun hHeld=>?_;clear b K;refine wdn ?_
   go_end0
   exact ⟨rfl,⟨_,F.out,R4.out⟩,B4,K4.out⟩
open Go.RowKit
def hx (b:UInt8):Int:=if 48<=(b.toNat:Int)/\(b.toNat:Int)<=57 then (b.toNat:Int) - 48 else if 97<=(b.toNat:Int)/\(b.toNat:Int)<=102 then (b.toNat:Int) - 97+10 else -1
theorem LX {a b:Int} (h:a=b):Ending.returned (.int .i64 a)=.returned (.int .i64 b):=by rw [h]
theorem ZM (c:UInt8) (w:World):
 Calls prog 184 #[.int .u8 c.toNat] w fun e w'=>e=.returned (.int .i64 (hx c))/\w'=w:=by
 have hc:=Gt c;have a:Hid (hx c=if 48<=(c.toNat:Int)/\(c.toNat:Int)<=57 then (c.toNat:Int) - 48 else if 97<=(c.toNat:Int)/\(c.toNat:Int)<=102 then (c.toNat:Int) - 97+10 else -1):=rfl;generalize (c.toNat:Int)=n at*;go_enter func184,ntmps184;go_wp2
 all_goals go_ret
 all_goals refine ⟨LX ?_,rfl⟩
 all_goals rw [a.out]
 all_goals (repeat' split)
 all_goals omega
theorem kC (b:UInt8):(Lib.indexByte hexL b=-1/\∀ n,n<16->hexL.getD n 0≠b)\/∃ n:Nat,n<16/\Lib.indexByte hexL b=n/\hexL.getD n 0=b:=by
 have hge:=Lib.indexByte_ge hexL b;by_cases h:Lib.indexByte hexL b=-1
 · refine .inl ⟨h,fun n a e=>Lib.indexByte_none h n ?_⟩;have hl:n<hexL.length:=a;rw [<- e];simp [List.getD,Z8 hl]
 · obtain ⟨o,ho⟩:∃ o:Nat,Lib.indexByte hexL b=o:=⟨(Lib.indexByte hexL b).toNat,O0⟩;obtain ⟨h1,_⟩:=Lib.indexByte_some ho;have hl:o<hexL.length:=by
    rcases Q7 o hexL.length with h | h
    · exact h
    · rw [Yb h] at h1;cases h1
   exact .inr ⟨o,hl,ho,by simp [List.getD,h1]⟩
theorem a0Z (b:UInt8) (w:World):
 Calls prog 280 #[.string ⟨#[48,49,50,51,52,53,54,55,56,57,97,98,99,100,101,102]⟩,.int .u8 b.toNat] w fun e w'=>e=.returned (.int .i64 (Lib.indexByte hexL b))/\w'=w:=by
 refine (Tryz.strings_IndexByte _ _ w).mono ?_;rintro e w' ⟨rfl,rfl⟩;refine ⟨LX ?_,rfl⟩;have e1:(b.toNat:Int).toNat.toUInt8=b:=X4;rw [e1];rfl
theorem QU {a b:Int} {x y:Bool} (h:a=b) (c:x=y):Ending.returned (.tuple #[.int .u8 a,.bool x])=.returned (.tuple #[.int .u8 b,.bool y]):=by rw [h,c]
def lG (l:List UInt8) (c:UInt8) (ok:Bool):Prop:=(ok=true->H_ c=false/\∃ r,l=qb c++r)/\(ok=false->∀ d r,H_ d=false->l≠qb d++r)
theorem vT:∀ h l:Fin 16,bits BinOp.or IntKind.i64 (((h.val:Nat):Int)*16) ((l.val:Nat):Int)=16*((h.val:Nat):Int)+((l.val:Nat):Int):=by decide +kernel
theorem DW (h l:Nat) (a:h<16) (hl:l<16):bits BinOp.or IntKind.i64 ((h:Int)*16) (l:Int) % 256=((UInt8.ofNat (16*h+l)).toNat:Int):=by
 have:=vT ⟨h,a⟩ ⟨l,hl⟩;simp only at this;rw [this];simp
theorem YG (h l:Nat) (hh:h<16) (hl:l<16):(UInt8.ofNat (16*h+l)).toNat / 16=h/\(UInt8.ofNat (16*h+l)).toNat % 16=l:=by
 have e:(UInt8.ofNat (16*h+l)).toNat=16*h+l:=U7;rw [e];omega
theorem Hy (s:BY) (h:2<s.size):∃ r,s.data.toList=s[0]::s[1]::s[2]::r:=by
 have hl:s.data.toList.length=s.size:=X4;have g:∀ (k:Nat) (d:k<s.size),s.data.toList[k]'(by simpa using d)=s[k]:=fun k d=>by simp [uI]
 rcases hd:s.data.toList with _ | ⟨a,_ | ⟨b,_ | ⟨c,r⟩⟩⟩
 · rw [hd] at hl;simp at hl;omega
 · rw [hd] at hl;simp at hl;omega
 · rw [hd] at hl;simp at hl;omega
 · have g0:=g 0 O0;have g1:=g 1 O0;have g2:=g 2 h;simp only [hd,List.getElem_cons_zero,List.getElem_cons_succ] at g0 g1 g2;exact ⟨r,by rw [<- g0,<- g1,<- g2]⟩
theorem Ry {s:BY} (h:2<s.size) (a:s[0]≠92\/(∀ n,n<16->hexL.getD n 0≠s[1])\/(∀ n,n<16->hexL.getD n 0≠s[2])) (c:UInt8):lG s.data.toList c false:=by
 refine ⟨(fun h=>by cases h),fun _ d r hd e=>?_⟩;obtain ⟨q,b⟩:=Hy s h;rw [b,Gf hd] at e;simp only [rf,Ua,zi] at e;have ld:=Gt d;rcases a with a | a | a
 · exact a e.1
 · exact a _ O0 e.2.1.symm
 · exact a _ O0 e.2.2.1.symm
def a3d (l:List UInt8) (e:Ending):Prop:=∃ c ok,e=.returned (.tuple #[.int .u8 (c:UInt8).toNat,.bool ok])/\lG l c ok
theorem a3i (s:BY) (w:World) (hs:s.size<=1048700):
 Calls prog 251 #[.string s] w fun e w'=>a3d s.data.toList e/\w'=w:=by
 by_cases h3:s.size<3
 · have a:Hid (lG s.data.toList 0 false):=by
    refine ⟨(fun h=>by cases h),fun _ d r hd e=>?_⟩;have:=U6 List.length e;rw [Gf hd] at this;simp at this;omega
   go_enter func251,ntmps251;go_wp2;go_ret2;exact ⟨⟨0,false,rfl,a.out⟩,rfl⟩
 · have hz0:0<s.size:=O0;have hz1:1<s.size:=O0;have j:2<s.size:=O0;by_cases i:s[0]=92
   · have e0:((s[0].toNat:Int) !=92)=false:=by rw [i];rfl
     have x:=U0 i;clear i;go_enter func251,ntmps251
     go_wp2_with fail
     refine (a0Z _ _).mono ?_;rintro e w' ⟨rfl,rfl⟩
     go_wp2_with fail
     refine (a0Z _ _).mono ?_;rintro e w' ⟨rfl,rfl⟩;rcases kC s[1] with ⟨m,f⟩ | ⟨h,n,m,f⟩
     · have a:=U0 (Ry j (.inr (.inl f)) 0);clear f;rw [m];go_wp2;go_ret2;exact ⟨⟨0,false,rfl,a.out⟩,rfl⟩
     · rw [m];rcases kC s[2] with ⟨lo,g⟩ | ⟨l,hl,lo,g⟩
       · have a:=U0 (Ry j (.inr (.inr g)) 0);clear f g;rw [lo];go_wp2;go_ret2;exact ⟨⟨0,false,rfl,a.out⟩,rfl⟩
       · rw [lo];have ho:=DW h l n hl;obtain ⟨p,o⟩:=YG h l n hl;have v:Hid (H_ (UInt8.ofNat (16*h+l))=false->qb (UInt8.ofNat (16*h+l))=([92,s[1],s[2]]:List UInt8)):=fun b=>by
          rw [Gf b,p,o,f,g]
         have u:Hid (H_ (UInt8.ofNat (16*h+l))=true->∀ d r,H_ d=false->s.data.toList≠qb d++r):=fun b d r hd e=>by
          obtain ⟨q,k⟩:=Hy s j;rw [k,Gf hd] at e;simp only [rf,Ua,zi] at e;have ld:=Gt d;have e1:=Vw O0 n (e.2.1.symm.trans f.symm);have e2:=Vw O0 hl (e.2.2.1.symm.trans g.symm);have t:d=UInt8.ofNat (16*h+l):=Yh.1 (by have:=Gt (UInt8.ofNat (16*h+l));omega);rw [<- t,hd] at b;cases b
         clear f g p o;generalize UInt8.ofNat (16*h+l)=c at*
         go_wp2_with fail
         rw [ho];refine (a1B c _).mono ?_;rintro e w' ⟨rfl,hw⟩;obtain rfl:=hw.symm;cases b:H_ c
         · have a:Hid (lG s.data.toList c true):=by
            refine ⟨fun _=>⟨b,?_⟩,(fun h=>by cases h)⟩;obtain ⟨q,k⟩:=Hy s j;exact ⟨q,by rw [k,v.out b,x.out];rfl⟩
           clear b;go_wp2;go_ret2;exact ⟨⟨c,true,QU rfl rfl,a.out⟩,rfl⟩
         · have a:Hid (lG s.data.toList 0 false):=⟨(fun h=>by cases h),fun _=>u.out b⟩;clear b;go_wp2;go_ret2;exact ⟨⟨0,false,rfl,a.out⟩,rfl⟩
   · have a:=U0 (Ry j (.inl i) 0);have e0:((s[0].toNat:Int) !=92)=true:=by
      simp only [Tq];intro e;exact i (Yh.1 (by
       have:s[0].toNat=92:=O0;rw [this];rfl))
     clear i;go_enter func251,ntmps251;go_wp2;go_ret2;exact ⟨⟨0,false,rfl,a.out⟩,rfl⟩
def Unq (q t:List UInt8) (ok:Bool):Prop:=(ok=true->q=P5 t)/\(ok=false->∀ l,q≠P5 l)
def xN (q:List UInt8) (e:Ending):Prop:=∃ t ok,e=.returned (.tuple #[.string (J3 t),.bool ok])/\Unq q t ok
theorem ext_list (s:BY) (a b:Nat):(s.extract a b).data.toList=(s.data.toList.take b).drop a:=by
 rw [ByteArray.data_extract,Array.toList_extract,yO,gJ]
theorem drop_at (s:BY) (k:Nat) (h:k<s.size):s.data.toList.drop k=s[k]::s.data.toList.drop (k+1):=by
 rw [Xz (by simpa using h)];rfl
theorem vP (q:BY) (h2:2<=q.size) (hf:(q[0].toNat:Int)=34) (hl:(q[q.size - 1].toNat:Int)=34):q.data.toList=34::((q.extract 1 (q.size - 1)).data.toList++[34]):=by
 have e0:q[0]=34:=Yh.1 (by
  have:q[0].toNat=34:=O0;rw [this];rfl)
 have e1:q[q.size - 1]=34:=Yh.1 (by
  have:q[q.size - 1].toNat=34:=O0;rw [this];rfl)
 have hlen:q.data.toList.length=q.size:=X4;have t1:q.data.toList=q.data.toList.take (q.size - 1)++q.data.toList.drop (q.size - 1):=(Hl _ _).symm;have b:=drop_at q (q.size - 1) O0;rw [e1,jq (show q.data.toList.length<=q.size - 1+1 by omega)] at b;have a:=drop_at q 0 O0;rw [e0] at a;simp only [KE,L8] at a;rw [ext_list];have t2:q.data.toList.take (q.size - 1)=34::(q.data.toList.take (q.size - 1)).drop 1:=by
  obtain ⟨m,hm⟩:∃ m,q.size - 1=m+1:=⟨q.size - 2,O0⟩;rw [hm]
  conv=>lhs;rw [a]
  rw [a];simp
 rw [<- rf,<- t2,<- b];exact t1
theorem Ju {q:List UInt8} (h:q.length<2\/q.headD 0≠34\/q.getLastD 0≠34):∀ l,q≠P5 l:=by
 intro l e;subst e;rcases h with h | h | h
 · have:=Xm l;omega
 · exact h rfl
 · apply h;show (34::(l.flatMap qb++[34])).getLastD 0=34;rw [<- rf,ZI]
theorem KQ (s:BY) (k:Nat) (_:k<=s.size):s.data.toList=s.data.toList.take k++(s.extract k s.size).data.toList:=by
 rw [ext_list,l_ (show s.data.toList.length<=s.size by simp),Hl]
theorem JU (q:BY) (w:World) (hs:q.size<=1048700) (h2:2<=q.size) (hf:(q[0].toNat:Int)=34) (hl:(q[q.size - 1].toNat:Int)=34):
 Calls prog 207 #[.string q] w fun e w'=>xN q.data.toList e/\Bw w w':=by
 have L:=U0 (Lib.fresh_isBuilder 340 5 w);have C:=U0 (vP q h2 hf hl);have hz:(q.extract 1 (q.size - 1)).size<=1048700:=U7;go_enter func207,ntmps207
 go_wp2_with fail
 clear hf hl;generalize q.extract 1 (q.size - 1)=I at*;go_loopw [6] (fun i wr=>∃ (k:Nat) (t:List UInt8),k<=I.size/\i=.int .i64 k/\t.length<=k/\Hid (I.data.toList.take k=t.flatMap qb)/\Hid (Lib.IsBuilder 340 5 w.heap.size w.heap.size (Lib.byteCells t) wr)/\Below w.heap.size w wr/\w.heap.size+1<=wr.heap.size) (fun i _=>I.size - (RowKit.intOf i).toNat)
 case atStart=>exact ⟨0,[],J4 _,rfl,v_ _,rfl,L,P6,X4⟩
 case round=>
  obtain ⟨k,t,H,rfl,htk,j,s,m,z⟩:=hrel;by_cases A:k<I.size
  · go_wp2_with fail
    refine (a1B I[k] _).mono ?_;rintro e E ⟨rfl,p⟩;obtain rfl:=p.symm;cases hp:H_ I[k]
    · have K:=U0 hp;clear hp
      go_wp2_with fail
      refine (a3i _ _ U7).mono ?_;rintro e E ⟨⟨c,ok,rfl,g⟩,p⟩;obtain rfl:=p.symm;have D:Hid (I.data.toList=t.flatMap qb++(I.extract k I.size).data.toList):=by rw [<- j.out];exact KQ I k H
      cases ok
      · have v:Hid (Unq q.data.toList [] false):=by
         refine ⟨(fun h=>by cases h),fun _ l e=>?_⟩;rw [C.out] at e;unfold P5 at e;simp only [zi,Oy,OT] at e;rw [D.out] at e;obtain ⟨r,hr,_⟩:=IG e;have b:(I.extract k I.size).data.toList=I[k]::I.data.toList.drop (k+1):=by
          rw [ext_list,l_ X4,drop_at I k A]
         cases r with
         | nil=>rw [hr] at b;cases b
         | cons d r=>
          rw [hr,vg] at b;cases hd:H_ d
          · exact g.2 rfl d _ hd hr
          · rw [uf hd] at b;simp only [rf,Ua,zi] at b;rw [b.1,K.out] at hd;cases hd
        clear g;go_wp2;go_ret2;exact ⟨⟨[],false,rfl,v.out⟩,m⟩
      · have B:=U0 (g.1 rfl);clear g;have F:k+3<=I.size:=by
         obtain ⟨h1,r,h2⟩:=B.out;have:=U6 List.length h2;rw [Gf h1] at this;simp at this;omega
        have x:Hid (I.data.toList.take (k+3)=(t++[c]).flatMap qb):=by
         obtain ⟨h1,r,h2⟩:=B.out;have hl:(t.flatMap qb).length=k:=by rw [<- j.out];simp;omega
         rw [D.out,h2,<- iq,WH (by rw [D9,hl,Gf h1];simp),l_ (by rw [D9,hl,Gf h1];simp),Ns];simp [Hid]
        go_wp2_with fail
        refine (a1q w.heap.size w.heap.size (Lib.byteCells t) c.toNat _ s.out (by rw [Yo];omega) O0).mono ?_;rintro e n ⟨rfl,f,a⟩;have y:Hid (Lib.IsBuilder 340 5 w.heap.size w.heap.size (Lib.byteCells (t++[c])) n):=by rw [O_];exact f
        have u:=m.trans a;have o:=G7 z a.size;clear f a;go_wp2;go_roundw
        case rel=>exact ⟨k+3,t++[c],F,by go_num,U7,x,y,u,o⟩
        case measure=>simp [RowKit.intOf];omega
    · have x:Hid (I.data.toList.take (k+1)=(t++[I[k]]).flatMap qb):=by
       rw [take_snoc I k A,j.out,Ns];simp [Hid,uf hp]
      clear hp
      go_wp2_with fail
      refine (a1q w.heap.size w.heap.size (Lib.byteCells t) _ _ s.out (by rw [Yo];omega) O0).mono ?_;rintro e n ⟨rfl,f,a⟩;have y:Hid (Lib.IsBuilder 340 5 w.heap.size w.heap.size (Lib.byteCells (t++[I[k]])) n):=by rw [O_];exact f
      have u:=m.trans a;have o:=G7 z a.size;clear f a;go_wp2;go_roundw
      case rel=>exact ⟨k+1,t++[I[k]],O0,by go_num,U7,x,y,u,o⟩
      case measure=>simp [RowKit.intOf];omega
  · have v:Hid (Unq q.data.toList t true):=by
     refine ⟨fun _=>?_,(fun h=>by cases h)⟩;have:=j.out;rw [l_ U7] at this;rw [C.out,this];rfl
    go_wp2_with fail
    refine (Tryz.Builder_String_any w.heap.size w.heap.size t _ s.out O0).mono ?_;rintro e w4 ⟨rfl,J⟩;go_wp2;go_ret2;exact ⟨⟨t,true,rfl,v.out⟩,m.trans J⟩
theorem a2a (q:BY) (w:World) (d:q.size<=1048700):
 Calls prog 207 #[.string q] w fun e w'=>xN q.data.toList e/\Bw w w':=by
 by_cases h2:2<=q.size
 · have hz0:0<q.size:=O0;have hz1:q.size - 1<q.size:=O0;by_cases hf:(q[0].toNat:Int)=34
   · by_cases hl:(q[q.size - 1].toNat:Int)=34
     · exact JU q w d h2 hf hl
     · have a:Hid (xN q.data.toList (.returned (.tuple #[vE,.bool false]))):=by
        refine ⟨[],false,rfl,(fun h=>by cases h),fun _=>Ju (.inr (.inr fun e=>hl ?_))⟩;have c:=drop_at q (q.size - 1) O0;rw [jq (show q.data.toList.length<=q.size - 1+1 by simp;omega)] at c;have:q.data.toList=q.data.toList.take (q.size - 1)++[q[q.size - 1]]:=by rw [<- c];exact (Hl _ _).symm
        rw [this] at e;simp at e;rw [e];rfl
       have e1:((q[q.size - 1].toNat:Int) !=34)=true:=by simpa using hl
       clear hl;go_enter func207,ntmps207;go_wp2;go_ret2;exact ⟨a.out,Z4 _ _⟩
   · have a:Hid (xN q.data.toList (.returned (.tuple #[vE,.bool false]))):=by
      refine ⟨[],false,rfl,(fun h=>by cases h),fun _=>Ju (.inr (.inl fun e=>hf ?_))⟩;have b:=drop_at q 0 O0;simp only [KE] at b;rw [b] at e;simp at e;rw [e];rfl
     have e1:((q[0].toNat:Int) !=34)=true:=by simpa using hf
     clear hf;go_enter func207,ntmps207;go_wp2;go_ret2;exact ⟨a.out,Z4 _ _⟩
 · have a:Hid (xN q.data.toList (.returned (.tuple #[vE,.bool false]))):=⟨[],false,rfl,(fun h=>by cases h),fun _=>Ju (.inl U7)⟩;go_enter func207,ntmps207;go_wp2;go_ret2;exact ⟨a.out,Z4 _ _⟩

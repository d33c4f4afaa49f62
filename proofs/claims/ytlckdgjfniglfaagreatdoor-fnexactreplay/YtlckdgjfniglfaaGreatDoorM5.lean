import Derived.Test.YtlckdgjfniglfaaGreatDooreYI
import Derived.Test.YtlckdgjfniglfaaGreatDoorK5
set_option linter.unusedVariables false
set_option maxHeartbeats 8000000
set_option maxRecDepth 100000
namespace Go.Proofs.YtlckdgjfniglfaaGreatDoor
open Proofs.Tryz
open Go.RowKit Go.Maps
def Sh (B H bT bR bP:Nat) (W:Int) (l:List (ByteArray×Value)) (rs:List R3) (rv:List Value) (w:World):Prop:=∃ pl,ShC B H bT bR bP W l rv pl w/\ShR B rs rv pl w
theorem noRow_map {B b:Nat} {w:World} {es:Array MapEntry} {c:Nat} (hB:B<=b) (hm:w.heap[b]?=some (.map es c)):NoRow B w (some b):=fun j e=>by
 cases e
 exact ⟨hB,fun cur fr e=>by rw [hm] at e;simp at e⟩
theorem ShC.neH {B H bT bR bP:Nat} {W:Int} {l pl:List (ByteArray×Value)} {rv:List Value} {w:World} (h:ShC B H bT bR bP W l rv pl w) {k:TypeId} {R:Value->Option (DataW Value×List MemPlace)} {b n:Nat} {D:DataW Value} (hm:w.ownsMap prog k R b n D):some H≠some b:=fun e=>by
 obtain ⟨es,ck,hh⟩:=mp_isMap hm;exact cells_ne_map (h.blk 0 _ rfl) hh (Option.some.inj e)
theorem ShC.upR {B H bT bR bP:Nat} {W:Int} {l pl:List (ByteArray×Value)} {rv rv':List Value} {w w':World} (h:ShC B H bT bR bP W l rv pl w) (hg:w.grownBy w' (some bR)) (hm:w'.ownsMap prog 3 tokR bR rv'.length (intD rv')):ShC B H bT bR bP W l rv' pl w':=
 ⟨h.hH,h.hT,h.hR,h.hP,Nat.lt_of_lt_of_le h.lt hg.size,h.n1,h.n2,h.n3,blk_kept h.blk hg h.lt (h.neH h.rc),h.tx.kept hg (fun e=>h.n1 (Option.some.inj e)),h.ta,hm,h.pc.kept hg (fun e=>h.n3 (Option.some.inj e).symm),h.pa,h.ty.kept hg (h.neH h.rc)⟩
theorem ShC.upP {B H bT bR bP:Nat} {W:Int} {l pl pl':List (ByteArray×Value)} {rv:List Value} {w w':World} (h:ShC B H bT bR bP W l rv pl w) (hg:w.grownBy w' (some bP)) (hm:w'.ownsMap prog 9 tokR bP pl'.length (mapD pl')) (ha:Asc pl'):ShC B H bT bR bP W l rv pl' w':=
 ⟨h.hH,h.hT,h.hR,h.hP,Nat.lt_of_lt_of_le h.lt hg.size,h.n1,h.n2,h.n3,blk_kept h.blk hg h.lt (h.neH h.pc),h.tx.kept hg (fun e=>h.n2 (Option.some.inj e)),h.ta,h.rc.kept hg (fun e=>h.n3 (Option.some.inj e)),hm,ha,h.ty.kept hg (h.neH h.pc)⟩
theorem ShC.upT {B H bT bR bP:Nat} {W:Int} {l l' pl:List (ByteArray×Value)} {rv:List Value} {w w':World} (h:ShC B H bT bR bP W l rv pl w) (hg:w.grownBy w' (some bT)) (hm:w'.ownsMap prog 9 tokR bT l'.length (mapD l')) (ha:Asc l'):ShC B H bT bR bP W l' rv pl w':=
 ⟨h.hH,h.hT,h.hR,h.hP,Nat.lt_of_lt_of_le h.lt hg.size,h.n1,h.n2,h.n3,blk_kept h.blk hg h.lt (h.neH h.tx),hm,ha,h.rc.kept hg (fun e=>h.n1 (Option.some.inj e).symm),h.pc.kept hg (fun e=>h.n2 (Option.some.inj e).symm),h.pa,h.ty.kept hg (h.neH h.tx)⟩
theorem ints_nomap {w:World} {B b:Nat} {v:Value} {zs:List Int} (h:w.ownsInts B 3 .i64 v zs) {es:Array MapEntry} {c:Nat} (hm:w.heap[b]?=some (.map es c)):v.ownBlock≠some b:=fun e=>by
 obtain ⟨_,_,cur,hc⟩:=ints_row h e;rw [hm] at hc;simp at hc
theorem ints_noT {w:World} {B b:Nat} {t:TypeId} {v:Value} {zs:List Int} (h:w.ownsInts B 3 .i64 v zs) (hT:OfT w b t) (ht:t≠3):some b≠v.ownBlock:=fun e=>by
 obtain ⟨_,_,cur,hc⟩:=ints_row h e.symm;obtain ⟨cur',fr,hT⟩:=hT;rw [hT] at hc;simp at hc;exact ht hc.2.1
theorem ints_nomp {w:World} {B b n:Nat} {v:Value} {zs:List Int} {k:TypeId} {R:Value->Option (DataW Value×List MemPlace)} {D:DataW Value} (h:w.ownsInts B 3 .i64 v zs) (hm:w.ownsMap prog k R b n D):some b≠v.ownBlock:=fun e=>by
 obtain ⟨es,ck,hh⟩:=mp_isMap hm;exact ints_nomap h hh e.symm
theorem ints_at {B:Nat} {rs:List R3} {rv:List Value} {pl:List (ByteArray×Value)} {w w':World} {k:ByteArray} {v:Value} (R:ShR B rs rv pl w) (hv:(getK pl k).getD (.slice none 0 0)=v) (hb:Below w.heap.size w w'):w'.ownsInts B 3 .i64 v (plc rs k):=by
 cases hq:getK pl k with
 | none=>
  rw [hq] at hv;subst hv;rw [R.non k hq];exact World.ownsInts_nil _ _ _ _
 | some u=>
  rw [hq] at hv;subst hv;exact (R.grp k u hq).kept (below_gb hb) (by cases u.ownBlock <;> simp)
theorem step_app_at {P:Program} {ops:Array Oper} {o:Oper} {a:Act} {w:World} {K:Act->World->Prop} {Q:Exit->Act->World->Prop} {E:Prop}
 (hg:o.guard=none) (s x:Operand) (t:TypeId) (hop:o.op=Op.call { callee:=Callee.builtin Builtin.append,args:=#[s,x],argTypes:=#[t,t] })
 (base:Nat) (e:TypeId) (i:TypeInfo) (z:Value) (size bytes:Nat) (h1:P.underlying t=some (.slice e)) (h2:P.info? e=some i) (h3:i.zero=some z) (h4:i.size=size) (h5:i.bytes=bytes) (h6:z.cells.size=size) (h7:0<size)
 (v:Value) (n:Nat) (xs:List Value) (hs:a.eval s=v) (hown:w.ownsRow base e size v n xs)
 (ad:Addr) (m c:Nat) (news:List Value) (hx:a.eval x=.slice (some ad) m c) (hn:news.length=m*size) (hc:∀ j u,news[j]?=some u->w.cell? (ad.add j)=some u) (h1c:∀ u∈news,u.oneCell'=true)
 (b1:n+m<=maxLen) (b2:(n+m)*bytes<=140737488355328) (hb:base<=w.heap.size)
 (hK:∀ v' w',w'.ownsRow base e size v' (n+m) (xs++news)->w.grownBy w' v.ownBlock->(v'.ownBlock=v.ownBlock\/v'.ownBlock=some w.heap.size)->K (a.put o.dst v') w'):
 if Region.wanted o (yielded ops a.tmps)=true then Oper.wp P o a w K Q else E:=by
 have hw:Region.wanted o (yielded ops a.tmps)=true:=by simp [Region.wanted,hg]
 rw [if_pos hw];obtain ⟨v',w',hrun,r1,r2,_,r4⟩:=run_append_own_at (P:=P) w base t o.type e i z size bytes h1 h2 h3 h4 h5 h6 h7 v n xs hown ad m c news hn hc h1c b1 b2 hb;unfold Oper.wp;simp [execOp,hop,resolve,invoke,builtin,hs,hx,hrun,Result.andThen];exact hK v' w' r1 r2 r4
theorem step_lk {P:Program} {ops:Array Oper} {o:Oper} {a:Act} {w:World} {K:Act->World->Prop} {Q:Exit->Act->World->Prop} {E:Prop} (hg:o.guard=none) (t:TypeId) (m x:Operand) (ok:Bool) (ho:o.op=Op.lookup t m x ok) (vm vx:Value) {r:Value}
 (hm:a.eval m=vm) (hx:a.eval x=vx) (hr:(Instr.lookup t vm vx ok).run P w=.ok r w) (h:K (a.put o.dst r) w):
 if Region.wanted o (yielded ops a.tmps)=true then Oper.wp P o a w K Q else E:=by
 have hw:Region.wanted o (yielded ops a.tmps)=true:=by simp [Region.wanted,hg]
 rw [if_pos hw];unfold Oper.wp;simp [execOp,ho,hm,hx,hr,Result.andThen];exact h
theorem info3:(prog.info? 3).map (fun i=>(i.zero,i.size,i.bytes))=some (some (.int .i64 0),1,8):=kr_
theorem ShR.push {B bP:Nat} {rs:List R3} {rv:List Value} {pl:List (ByteArray×Value)} {u1 u2 u3 u4:World} {x:R3} {V v v':Value} {n:Nat} (R:ShR B rs rv pl u1) (X:RecV B u1 V x) (hA:Asc pl) (hv:(getK pl x.key).getD (.slice none 0 0)=v) (h12:Below u1.heap.size u1 u2) (hs2:B<=u2.heap.size)
 (h23:u2.grownBy u3 v.ownBlock) (ho:u3.ownsRow B 3 1 v' n ((plc rs x.key).map (Value.int .i64)++[.int .i64 (rs.length:Nat)])) (hn:n=(plc rs x.key).length+1) (hloc:v'.ownBlock=v.ownBlock\/v'.ownBlock=some u2.heap.size) (h34:u3.grownBy u4 (some bP)) (hBP:B<=bP) {es:Array MapEntry} {ck:Nat} (hm:u3.heap[bP]?=some (.map es ck)) (hrl:rs.length<=1048576):
 ShR B (rs++[x]) (rv++[V]) (insK (x.key,v') (pl.filter fun p=>!decide (p.1=x.key))) u4:=by
 have O2:=ints_at R hv h12;have R2:=R.below h12;have X2:=X.kept (below_gb h12) (fun _ e=>by cases e);obtain ⟨_,hget⟩:=getK_put hA x.key v';have hwf:(Lit.int .i64 ((rs.length:Nat):Int)).wf=true:=WalkArith.wf_i64 om_;have ho':u3.ownsInts B 3 .i64 v' (plc rs x.key++[((rs.length:Nat):Int)]):=O2.appended (by rw [<- hn];exact ho) hwf;have nr:NoRow B u2 v.ownBlock:=fun j e=>by
  obtain ⟨h1,_,cur,h3⟩:=ints_row O2 e;exact ⟨h1,fun cur' fr e=>by rw [h3] at e;simp at e⟩
 have nrm:NoRow B u3 (some bP):=noRow_map hBP hm;have nom:∀ {u:Value} {zs:List Int},u3.ownsInts B 3 .i64 u zs->u.ownBlock=none\/u.ownBlock≠some bP:=fun h=>.inr (ints_nomap h hm);have oth:∀ k u,k≠x.key->getK pl k=some u->u.ownBlock=none\/u.ownBlock≠v.ownBlock:=fun k u hk hu=>by
  cases hq:getK pl x.key with
  | none=>
   rw [hq] at hv;subst hv
   cases hb:u.ownBlock with
   | none=>exact .inl rfl
   | some j=>exact .inr (by simp [Value.ownBlock])
  | some y=>
   rw [hq] at hv;subst hv;exact R.apart k x.key u y hk hu hq
 have new:∀ k u,getK pl k=some u->∀ j,u.ownBlock=some j->j<u2.heap.size:=fun k u hu j hj=>(ints_row (R2.grp k u hu) hj).2.1;refine ⟨by simp [R.len],fun i hi=>?_,fun k u hu=>?_,fun k hk=>?_,fun k k' u u' hne hu hu'=>?_,?_⟩
 · rcases Nat.lt_or_ge i rs.length with h | h
   · have e1:(rv++[V]).getD i undef=rv.getD i undef:=by simp [List.getD,List.getElem?_append_left (show i<rv.length by rw [R.len];exact h)]
     have e2:(rs++[x]).getD i r3z=rs.getD i r3z:=by simp [List.getD,List.getElem?_append_left h]
     rw [e1,e2];exact ((R2.recs i h).kept h23 nr).kept h34 nrm
   · obtain rfl:i=rs.length:=by simp at hi;omega
     have e1:(rv++[V]).getD rs.length undef=V:=by simp [List.getD,<- R.len]
     have e2:(rs++[x]).getD rs.length r3z=x:=by simp [List.getD]
     rw [e1,e2];exact (X2.kept h23 nr).kept h34 nrm
 · rw [hget k] at hu
   rw [plc_snoc];by_cases hk:k=x.key
   · subst hk
     rw [if_pos rfl] at hu;cases hu;rw [if_pos rfl];exact ho'.kept h34 (nom ho')
   · rw [if_neg hk] at hu
     rw [if_neg (fun e=>hk e.symm),List.append_nil];have h3:=(R2.grp k u hu).kept h23 (oth k u hk hu);exact h3.kept h34 (nom h3)
 · rw [hget k] at hk
   by_cases hk':k=x.key
   · rw [if_pos hk'] at hk;cases hk
   · rw [if_neg hk'] at hk
     rw [plc_snoc,if_neg (fun e=>hk' e.symm),R.non k hk,List.append_nil]
 · rw [hget k] at hu
   rw [hget k'] at hu';by_cases h1:k=x.key
   · have h2:k'≠x.key:=fun e=>hne (h1.trans e.symm)
     rw [if_pos h1] at hu;rw [if_neg h2] at hu';cases hu;rcases hloc with e | e
     · rw [e]
       rcases oth k' u' h2 hu' with h | h
       · cases hq:v.ownBlock with
         | none=>exact .inl rfl
         | some j=>exact .inr (by rw [h];simp)
       · exact .inr (fun e=>h e.symm)
     · refine .inr fun e2=>?_
       have:=new k' u' hu' _ (e2.symm.trans e);omega
   · rw [if_neg h1] at hu
     by_cases h2:k'=x.key
     · rw [if_pos h2] at hu'
       cases hu'
       rcases hloc with e | e
       · rw [e]
         exact oth k u h1 hu
       · cases hq:u.ownBlock with
         | none=>exact .inl rfl
         | some j=>
          refine .inr fun e2=>?_;have:=new k u hu j hq;rw [e] at e2;cases e2;omega
     · rw [if_neg h2] at hu'
       exact R.apart k k' u u' hne hu hu'
 · rw [(insK_perm _ _).length_eq]
   have:=List.length_filter_le (fun p=>!decide (p.1=x.key)) pl;have:=R.pln;simp;omega
theorem c41 (B H bT bR bP:Nat) (W:Int) (l:List (ByteArray×Value)) (rs:List R3) (rv:List Value) (x:R3) (a:Option Addr) (c:Nat) (w:World) (hSh:Sh B H bT bR bP W l rs rv w) (hx:RecV B w (.agg #[.string x.key,.slice a x.gs.length c,.string x.out]) x) (hn:rs.length<=1000) (hk:x.key.size<=1048700):
 Calls prog 41 #[.pointer (some ⟨H,0,none⟩),.agg #[.string x.key,.slice a x.gs.length c,.string x.out]] w fun e w'=>e=.returned (.tuple #[])/\Sh B H bT bR bP W l (rs++[x]) (rv++[.agg #[.string x.key,.slice a x.gs.length c,.string x.out]]) w'/\Below B w w'/\KF w w':=by
 obtain ⟨pl,hC,hR⟩:=hSh;have HL:=hI_ hR.len;have HPL:Hid (pl.length<maxLen):=by show _<_;have:=hR.pln;unfold maxLen;omega
 have hrn:rv.length<=1000:=by rw [HL.out];exact hn
 have hHlt:=hC.lt;have hBH:=hC.hH;obtain ⟨i0,hi,hz0,hz1,hz2⟩:=info_parts' info3;obtain ⟨v,hv⟩:∃ v,(getK pl x.key).getD (.slice none 0 0)=v:=⟨_,rfl⟩;have HV:=hI_ hv;obtain ⟨es,ck,hpw,hpF,hps,hpD⟩:=hC.pc;have hbP:bP<w.heap.size:=(Array.getElem?_eq_some_iff.1 hpw).1;have HB1:Hid ((plc rs x.key).length+1<=maxLen):=by show _<=_;have:=plc_len rs x.key;unfold maxLen;omega
 have HB2:Hid (((plc rs x.key).length+1)*8<=140737488355328):=by show _<=_;have:=plc_len rs x.key;omega
 have hkm:x.key.size<=maxLen:=by unfold maxLen;omega
 have HLK:Hid (∀ u:World,u.heap[bP]?=some (.map es ck)->(Instr.lookup 86 (.map (some bP)) (.string x.key) false).run prog u=.ok v u):=fun u hu=>by
  rw [<- hv];exact look_S (n:=pl.length) ⟨es,ck,hu,hpF,hps,hpD⟩ underlying86 kr_ hkm
 have hB0:Below w.heap.size w (w.alloc (.cells #[.string x.key,.slice a x.gs.length c,.string x.out] 96)):=bA_;have sz0:(w.alloc (.cells #[.string x.key,.slice a x.gs.length c,.string x.out] 96)).heap.size=w.heap.size+1:=sm_;have hp0:(w.alloc (.cells #[.string x.key,.slice a x.gs.length c,.string x.out] 96)).heap[bP]?=some (.map es ck):=(hB0.block bP hbP).trans hpw;have h67:Hid (OfT (w.alloc (.cells #[.string x.key,.slice a x.gs.length c,.string x.out] 96)) w.heap.size 96):=hI_ (ofT_new w #[.string x.key,.slice a x.gs.length c,.string x.out] 96);have C0:=hI_ (hC.below hB0);have R0:=hI_ (hR.below hB0);have X0:=hI_ (hx.kept (below_gb hB0) (fun _ e=>by cases e));have E0:Hid (BlkAt (w.alloc (.cells #[.string x.key,.slice a x.gs.length c,.string x.out] 96)) w.heap.size [.string x.key,.slice a x.gs.length c,.string x.out]):=hI_ (blk_new w [.string x.key,.slice a x.gs.length c,.string x.out] 96);have f2:=C0.out.blk 2 _ rfl;have f3:=C0.out.blk 3 _ rfl;have e0:=E0.out 0 _ rfl;have e1:=E0.out 1 _ rfl;have e2:=E0.out 2 _ rfl;obtain ⟨es1,ck1,hmap1⟩:=mp_isMap (hC.rc)
 replace hmap1:=(hB0.block bR (Array.getElem?_eq_some_iff.1 hmap1).1).trans hmap1
 have hne0:some w.heap.size≠some bR:=fun e=>cells_ne_map e0 hmap1 (Option.some.inj e);have hneH:some H≠some bR:=fun e=>cells_ne_map (C0.out.blk 0 _ rfl) hmap1 (Option.some.inj e);have hneP:some bP≠some bR:=fun e=>hC.n3 (Option.some.inj e).symm;clear hC hR hx hv hpw hpF hps hpD;go_enter func41,ntmps41
 go_wp2_with (at_len;refine wpList_len_own _ rfl _ 85 rfl 3 96 underlying85 tokR bR _ (intD rv) rfl C0.out.rc ?_;rw [intD_size])
 rename_i K0 hK0;generalize (w.alloc (.cells #[.string x.key,.slice a x.gs.length c,.string x.out] 96))=u0 at*;have CD:=hI_ (C0.out.below (Below.refl _ _).drew);have RD:=hI_ (R0.out.below (Below.refl _ _).drew);have XD:=hI_ (X0.out.kept (below_gb (w':=u0.drew) (Below.refl _ _).drew) (fun _ e=>by cases e));have ED:Hid (BlkAt u0.drew w.heap.size [.string x.key,.slice a x.gs.length c,.string x.out]):=hI_ (E0.out.below (Below.refl (w.heap.size+1) _).drew om_);have HN:Hid (rv.length<maxLen):=by show rv.length<maxLen;unfold maxLen;omega
 have hrn2:rv.length<=1048576:=om_;have HN2:=HPL;refine wp_region_held_drew (S:=(fun u=>u.cell? ⟨H,2,none⟩=some (.map (some bR))/\u.cell? ⟨w.heap.size,0,none⟩=some (.string x.key)/\u.cell? ⟨w.heap.size,1,none⟩=some (.slice a x.gs.length c)/\u.cell? ⟨w.heap.size,2,none⟩=some (.string x.out))) kr_ ?_ fun hHeld=>?_
 · exact ⟨f2,e0,e1,e2⟩
 refine tq 0 hHeld ?_
 try simp only [qq]
 refine tq 1 hHeld ?_
 try simp only [qq]
 refine tq 2 hHeld ?_
 try simp only [qq]
 refine tq 3 hHeld ?_
 try simp only [qq]
 refine tq 4 hHeld ?_
 try simp only [qq]
 refine tq 5 hHeld ?_
 try simp only [qq]
 refine rq 6 fun K hK=>?_;refine step_upI (vs:=rv) (vv:=.agg #[.string x.key,.slice a x.gs.length c,.string x.out]) rfl 85 (.tmp 13) (.tmp 14) (.tmp 15) rfl rfl rfl rfl CD.out.rc underlying85 HN.out hrn2 rfl ?_;intro u1 hm1 hg1;have HR1:Hid (some w.heap.size≠some bR/\some H≠some bR/\some bP≠some bR):=⟨hne0,hneH,hneP⟩;have C1:=hI_ (CD.out.upR hg1 hm1);have R1:=hI_ (RD.out.map hg1 CD.out.hR hmap1);have X1:=hI_ (XD.out.kept hg1 (noRow_map CD.out.hR hmap1));have B1:Below B u0 u1:=((Below.refl B u0).drew).trans (gb_below (w:=u0.drew) hg1 (fun j e=>by cases e;exact CD.out.hR) (by show B<=u0.heap.size;omega));have K1:Hid (KF w u1):=((kf_below hB0 lr_).trans (kf_below (w':=u0.drew) (Below.refl u0.heap.size u0).drew lr_)).trans (kf_map hg1 hmap1);have T1:=hI_ ((h67.out.below (Below.refl (w.heap.size+1) u0).drew om_).kept hg1 hne0);have E1:=hI_ (blk_kept ED.out hg1 (by show w.heap.size<u0.heap.size;omega) hne0);have sz1:u0.heap.size<=u1.heap.size:=hg1.size;have g2:=C1.out.blk 2 _ rfl;have g3:=C1.out.blk 3 _ rfl;have g0:=E1.out 0 _ rfl;have g1:=E1.out 1 _ rfl;have g4:=E1.out 2 _ rfl;have hp1:u1.heap[bP]?=some (.map es ck):=(hg1.block bP (by show bP<u0.heap.size;omega) hneP).trans hp0;clear hHeld hm1 hg1;refine hK.out _ _ ⟨g2,g0,g1,g4⟩ fun hHeld=>?_;clear hK K hHeld
 try simp only [qq]
 refine wpAnyH_done kr_ ?_ _;refine hK0 _ _ ?_;clear hK0
 go_wp2_with fail
 refine wp_region_held_drew (S:=(fun u=>u.cell? ⟨H,3,none⟩=some (.map (some bP))/\u.cell? ⟨w.heap.size,0,none⟩=some (.string x.key))) kr_ ?_ fun hHeld=>?_
 · exact ⟨g3,g0⟩
 refine tq 0 hHeld ?_
 try simp only [qq]
 refine tq 1 hHeld ?_
 try simp only [qq]
 refine tq 2 hHeld ?_
 try simp only [qq]
 refine tq 3 hHeld ?_
 try simp only [qq]
 refine tq 4 hHeld ?_
 try simp only [qq]
 refine tq 5 hHeld ?_
 try simp only [qq]
 refine tq 6 hHeld ?_
 try simp only [qq]
 refine tq 7 hHeld ?_
 try simp only [qq]
 refine tq 8 hHeld ?_
 try simp only [qq]
 refine tq 9 hHeld ?_
 try simp only [qq]
 refine tq 10 hHeld ?_
 try simp only [qq]
 refine tq 11 hHeld ?_
 try simp only [qq]
 refine tq 13 hHeld ?_
 try simp only [qq]
 refine wpAnyH_ready (rs:=[12,14]) kr_ sm_ ?_;refine AllReadyH.cons (o:=⟨some 28,.lookup 86 (.tmp 25) (.tmp 27) false,149,_,_,none⟩) rfl (fun K hK=>?_) (AllReadyH.cons (o:=⟨some 30,.buildSlice 149 1 #[(0,.tmp 29)],149,_,_,none⟩) rfl (fun K hK=>?_) AllReadyH.nil)
 · refine step_lk rfl 86 (.tmp 25) (.tmp 27) false rfl (.map (some bP)) (.string x.key) rfl rfl (HLK.out _ hp1) ?_
   clear hHeld;refine hK.out _ _ ⟨g3,g0⟩ fun hHeld=>?_;clear hK K
   try simp only [qq]
   refine rq 14 fun K hK=>?_;go_simp;have B2:Below u1.heap.size u1 ((u1.alloc (.cells #[.int .i64 rv.length] 3)).drew):=bA_.drew;have k3:=(B2.cell (p:=⟨H,3,none⟩) (show H<u1.heap.size by omega)).trans g3;have k0:=(B2.cell (p:=⟨w.heap.size,0,none⟩) (show w.heap.size<u1.heap.size by omega)).trans g0;have hp2:=(B2.block bP om_).trans hp1;have c1:∀ j u,[Value.int .i64 rv.length][j]?=some u->((u1.alloc (.cells #[.int .i64 rv.length] 3)).drew).cell? ((⟨u1.heap.size,0,none⟩:Addr).add j)=some u:=fun j u h=>cell_one_new u1 (.int .i64 rv.length) 3 j u h;have sz2:((u1.alloc (.cells #[.int .i64 rv.length] 3)).drew).heap.size=u1.heap.size+1:=sm_;clear hHeld;refine hK.out _ _ ⟨k3,k0⟩ fun hHeld=>?_;clear hK K
   try simp only [qq]
   have O2':=hI_ (ints_at R1.out HV.out B2);have C2:=hI_ (C1.out.below B2);generalize ((u1.alloc (.cells #[.int .i64 rv.length] 3)).drew)=u2 at*;refine rq 15 fun K hK=>?_;refine step_app_at rfl (.tmp 28) (.tmp 30) 149 rfl B 3 i0 (.int .i64 0) 1 8 underlying149 hi hz0 hz1 hz2 rfl dc_ v _ _ rfl O2'.out.1 ⟨u1.heap.size,0,none⟩ 1 1 [.int .i64 rv.length] rfl rfl c1 (by simp [Value.oneCell']) HB1.out HB2.out om_ ?_;intro v' u3 ho3 hg3 hl3;have hnb:v.ownBlock≠some bP:=ints_nomap O2'.out hp2;have T2:=hI_ (T1.out.below B2 om_);have C3:=hI_ (C2.out.kept hg3 (ints_noT O2'.out C2.out.ty dc_) (ints_nomp O2'.out C2.out.tx) (ints_nomp O2'.out C2.out.rc) (ints_nomp O2'.out C2.out.pc));have sz3:=hg3.size;have hp3:u3.heap[bP]?=some (.map es ck):=(hg3.block bP om_ (fun e=>hnb e.symm)).trans hp2;have m3:=C3.out.blk 3 _ rfl;have m0:=(blk_kept (E1.out.below B2 om_) hg3 om_ (ints_noT O2'.out T2.out dc_)) 0 _ rfl;clear hHeld;refine hK.out _ _ ⟨m3,m0⟩ fun hHeld=>?_;clear hK K
   try simp only [qq]
   refine rq 16 fun K hK=>?_;refine step_upS (l:=pl) (k:=x.key) (vv:=v') rfl 86 (.tmp 19) (.tmp 21) (.tmp 31) rfl rfl rfl rfl C3.out.pc underlying86 HN2.out hkm rfl ?_;intro u4 hm4 hg4;rw [mapD_put'] at hm4
   replace hm4:=mp_tight hm4
   rw [mapD_size] at hm4;have C4:=hI_ (C3.out.upP hg4 hm4 (getK_put C3.out.pa x.key v').1);have R4:=hI_ (ShR.push R1.out X1.out C3.out.pa HV.out B2 om_ hg3 (by rw [<- HL.out];exact ho3) rfl hl3 hg4 C3.out.hP hp3 om_);have B4:Below B w u4:=((hB0.mono om_).trans B1).trans ((B2.mono om_).trans ((gb_below hg3 (fun j e=>(ints_row O2'.out e).1) om_).trans (gb_below hg4 (fun j e=>by cases e;exact C3.out.hP) om_)));have K4:Hid (KF w u4):=K1.out.trans ((kf_below B2 lr_).trans ((kf_ints hg3 O2'.out).trans (kf_map hg4 hp3)));have n3:=C4.out.blk 3 _ rfl;have n0:=(blk_kept (blk_kept (E1.out.below B2 om_) hg3 om_ (ints_noT O2'.out T2.out dc_)) hg4 om_ (fun e=>cells_ne_map m0 hp3 (Option.some.inj e))) 0 _ rfl;clear hHeld;refine hK.out _ _ ⟨n3,n0⟩ fun hHeld=>?_;clear hK K
   try simp only [qq]
   refine wpAnyH_done kr_ ?_ _
   go_end0
   exact ⟨rfl,⟨_,C4.out,R4.out⟩,B4,K4.out⟩
 · go_simp
   have B2:Below u1.heap.size u1 ((u1.alloc (.cells #[.int .i64 rv.length] 3)).drew):=bA_.drew;have k3:=(B2.cell (p:=⟨H,3,none⟩) (show H<u1.heap.size by omega)).trans g3;have k0:=(B2.cell (p:=⟨w.heap.size,0,none⟩) (show w.heap.size<u1.heap.size by omega)).trans g0;have hp2:=(B2.block bP om_).trans hp1;have c1:∀ j u,[Value.int .i64 rv.length][j]?=some u->((u1.alloc (.cells #[.int .i64 rv.length] 3)).drew).cell? ((⟨u1.heap.size,0,none⟩:Addr).add j)=some u:=fun j u h=>cell_one_new u1 (.int .i64 rv.length) 3 j u h;have sz2:((u1.alloc (.cells #[.int .i64 rv.length] 3)).drew).heap.size=u1.heap.size+1:=sm_;clear hHeld;refine hK.out _ _ ⟨k3,k0⟩ fun hHeld=>?_;clear hK K
   try simp only [qq]
   have O2':=hI_ (ints_at R1.out HV.out B2);have C2:=hI_ (C1.out.below B2);generalize ((u1.alloc (.cells #[.int .i64 rv.length] 3)).drew)=u2 at*;refine rq 12 fun K hK=>?_;refine step_lk rfl 86 (.tmp 25) (.tmp 27) false rfl (.map (some bP)) (.string x.key) rfl rfl (HLK.out _ hp2) ?_;clear hHeld;refine hK.out _ _ ⟨k3,k0⟩ fun hHeld=>?_;clear hK K
   try simp only [qq]
   refine rq 15 fun K hK=>?_;refine step_app_at rfl (.tmp 28) (.tmp 30) 149 rfl B 3 i0 (.int .i64 0) 1 8 underlying149 hi hz0 hz1 hz2 rfl dc_ v _ _ rfl O2'.out.1 ⟨u1.heap.size,0,none⟩ 1 1 [.int .i64 rv.length] rfl rfl c1 (by simp [Value.oneCell']) HB1.out HB2.out om_ ?_;intro v' u3 ho3 hg3 hl3;have hnb:v.ownBlock≠some bP:=ints_nomap O2'.out hp2;have T2:=hI_ (T1.out.below B2 om_);have C3:=hI_ (C2.out.kept hg3 (ints_noT O2'.out C2.out.ty dc_) (ints_nomp O2'.out C2.out.tx) (ints_nomp O2'.out C2.out.rc) (ints_nomp O2'.out C2.out.pc));have sz3:=hg3.size;have hp3:u3.heap[bP]?=some (.map es ck):=(hg3.block bP om_ (fun e=>hnb e.symm)).trans hp2;have m3:=C3.out.blk 3 _ rfl;have m0:=(blk_kept (E1.out.below B2 om_) hg3 om_ (ints_noT O2'.out T2.out dc_)) 0 _ rfl;clear hHeld;refine hK.out _ _ ⟨m3,m0⟩ fun hHeld=>?_;clear hK K
   try simp only [qq]
   refine rq 16 fun K hK=>?_;refine step_upS (l:=pl) (k:=x.key) (vv:=v') rfl 86 (.tmp 19) (.tmp 21) (.tmp 31) rfl rfl rfl rfl C3.out.pc underlying86 HN2.out hkm rfl ?_;intro u4 hm4 hg4;rw [mapD_put'] at hm4
   replace hm4:=mp_tight hm4
   rw [mapD_size] at hm4;have C4:=hI_ (C3.out.upP hg4 hm4 (getK_put C3.out.pa x.key v').1);have R4:=hI_ (ShR.push R1.out X1.out C3.out.pa HV.out B2 om_ hg3 (by rw [<- HL.out];exact ho3) rfl hl3 hg4 C3.out.hP hp3 om_);have B4:Below B w u4:=((hB0.mono om_).trans B1).trans ((B2.mono om_).trans ((gb_below hg3 (fun j e=>(ints_row O2'.out e).1) om_).trans (gb_below hg4 (fun j e=>by cases e;exact C3.out.hP) om_)));have K4:Hid (KF w u4):=K1.out.trans ((kf_below B2 lr_).trans ((kf_ints hg3 O2'.out).trans (kf_map hg4 hp3)));have n3:=C4.out.blk 3 _ rfl;have n0:=(blk_kept (blk_kept (E1.out.below B2 om_) hg3 om_ (ints_noT O2'.out T2.out dc_)) hg4 om_ (fun e=>cells_ne_map m0 hp3 (Option.some.inj e))) 0 _ rfl;clear hHeld;refine hK.out _ _ ⟨n3,n0⟩ fun hHeld=>?_;clear hK K
   try simp only [qq]
   refine wpAnyH_done kr_ ?_ _
   go_end0
   exact ⟨rfl,⟨_,C4.out,R4.out⟩,B4,K4.out⟩
theorem c39k {x:ByteArray} {c:Int} {u:List UInt8} (w:World) (hs:x.size<=1048700) (hm:MaxAt w) (h:IsR x.data.toList c u true):
 Calls prog 39 #[.string x] w fun e w'=>e=.returned (.tuple #[.agg #[.int .i64 (hC x),.string (hT x)],.bool true])/\Below w.heap.size w w':=by
 have h6:=c39 x.data.toList w (by simpa using hs) hm;rw [ofL_self] at h6;refine h6.mono ?_;rintro e w' ⟨⟨c',t',ok,rfl,hr,_⟩,hb⟩;obtain ⟨rfl,rfl,rfl⟩:=isR_one hr h;obtain ⟨e1,e2⟩:=hV_read h;rw [ofL_self] at e1 e2;exact ⟨by rw [e1,e2],hb⟩
theorem insK_last {x:ByteArray×Value} {l:List (ByteArray×Value)} (h:∀ p∈l,bef p.1 x.1=true):insK x l=l++[x]:=by
 induction l with
 | nil=>rfl
 | cons y r ih=>
  unfold insK;have hy:=h y (List.mem_cons_self ..);have:bef x.1 y.1=false:=by
   cases hq:bef x.1 y.1 with
   | false=>rfl
   | true=>have:=bef_tr hy hq;rw [bef_irr] at this;cases this
  rw [this,ih (fun p hp=>h p (List.mem_cons_of_mem _ hp))];simp
theorem take_text {ts:List ByteArray} {k:Nat} (h:k<ts.length):ts.take (k+1)=ts.take k++[ts.getD k ByteArray.empty]:=by
 rw [List.take_add_one,List.getElem?_eq_getElem h];simp [List.getD,List.getElem?_eq_getElem h]
theorem ascT_take {W:Int} {ts:List ByteArray} (h:AscT W ts) (k:Nat):AscT W (ts.take k):=by
 unfold AscT Asc at h ⊢;rw [List.map_take];exact h.sublist (List.take_sublist _ _)
theorem put_next {W:Int} {ts:List ByteArray} (h:AscT W ts) {k:Nat} (hk:k<ts.length):(mapD ((ts.take k).map (gT W))).put (kS (sumS (ts.getD k ByteArray.empty) W)) (.held (hV (ts.getD k ByteArray.empty)))=mapD ((ts.take (k+1)).map (gT W)):=by
 have hA:=ascT_take h (k+1);rw [take_text hk] at hA ⊢;unfold AscT Asc at hA;rw [List.map_append,List.pairwise_append] at hA;have hb:∀ p∈(ts.take k).map (gT W),bef p.1 (sumS (ts.getD k ByteArray.empty) W)=true:=fun p hp=>hA.2.2 p hp (gT W (ts.getD k ByteArray.empty)) sm_;rw [mapD_put _ (getK_none.2 (fun p hp e=>by have:=hb p hp;rw [e,bef_irr] at this;cases this))];rw [insK_last (x:=(sumS (ts.getD k ByteArray.empty) W,hV (ts.getD k ByteArray.empty))) hb,List.map_append];rfl
theorem ShR.mapT {B H bT bR bP:Nat} {W:Int} {l pl:List (ByteArray×Value)} {rs:List R3} {rv:List Value} {w w':World} (h:ShR B rs rv pl w) (hg:w.grownBy w' (some bT)) (hC:ShC B H bT bR bP W l rv pl w):ShR B rs rv pl w':=by
 obtain ⟨es,ck,hh⟩:=mp_isMap hC.tx;exact h.map hg hC.hT hh
theorem max_gb {w w':World} {N:Nat} (h:MaxAt w) (hb:Below N w w') (hN:0<N):MaxAt w':=by
 obtain ⟨h0,m,hm⟩:=h;exact ⟨Nat.lt_of_lt_of_le h0 hb.size,m,(hb.cell (p:=⟨0,0,none⟩) hN).trans hm⟩
theorem rec_at {w w':World} {b o:Nat} {x:R3} (h:RecAt w b o x) (hb:Below w.heap.size w w') (hlt:b<w.heap.size):∃ ai ci,w'.cell? ⟨b,o,none⟩=some (.string x.key)/\w'.cell? ⟨b,o+1,none⟩=some (.slice ai x.gs.length ci)/\w'.cell? ⟨b,o+2,none⟩=some (.string x.out)/\RecV w.heap.size w' (.agg #[.string x.key,.slice ai x.gs.length ci,.string x.out]) x:=by
 obtain ⟨ai,ci,h0,h1,h2,hG⟩:=h;refine ⟨ai,ci,(hb.cell (p:=⟨b,o,none⟩) hlt).trans h0,(hb.cell (p:=⟨b,o+1,none⟩) hlt).trans h1,(hb.cell (p:=⟨b,o+2,none⟩) hlt).trans h2,ai,ci,rfl,gls_below hG hb,?_⟩;rcases hG with h | ⟨b',off,ha,hl,_⟩
 · exact .inl h
 · exact .inr ⟨b',off,ha,.inl hl⟩
theorem take_rec {rs:List R3} {k:Nat} (h:k<rs.length):rs.take (k+1)=rs.take k++[rs.getD k r3z]:=by
 rw [List.take_add_one,List.getElem?_eq_getElem h];simp [List.getD,List.getElem?_eq_getElem h]
theorem Sh.below {B H bT bR bP:Nat} {W:Int} {l:List (ByteArray×Value)} {rs:List R3} {rv:List Value} {w w':World} (h:Sh B H bT bR bP W l rs rv w) (hb:Below w.heap.size w w'):Sh B H bT bR bP W l rs rv w':=by
 obtain ⟨pl,h1,h2⟩:=h;exact ⟨pl,h1.below hb,h2.below hb⟩
def IsSh (s:St) (w w':World) (e:Ending):Prop:=∃ H bT bR bP rv,e=.returned (.pointer (some ⟨H,0,none⟩))/\Sh w.heap.size H bT bR bP s.wd (s.ts.map (gT s.wd)) s.rs rv w'
theorem c17 (s:St) (ta ra:Option Addr) (tc rc:Nat) (w:World) (hok:StOk s) (hs:s.le 1048576) (hat:StAt w ta ra s) (hm:MaxAt w):
 Calls prog 17 #[.agg #[.int .i64 s.wd,.slice ta s.ts.length tc,.slice ra s.rs.length rc]] w fun e w'=>IsSh s w w' e/\Below w.heap.size w w':=by
 have hm0:=hm.1;have HA:=hI_ (asc_of_ok hok);have HT:=hI_ hok.2.1.2;have htl:=hok.2.1.1;have HWD:=hI_ hok.1;have hrl:=hok.2.2.1;have HRO:=hI_ hok.2.2.2;have HSZ:=hI_ hs.1.2;have HM:=hI_ hm;obtain ⟨b,off,hc⟩:=strs_some hat.1;have HC:=hI_ hc;have HR:=hI_ hat.2;have hmm:=@run_makeMap prog;have sz4:(((((w.alloc (.cells #[.int .i64 s.wd,.slice ta s.ts.length tc,.slice ra s.rs.length rc] 29)).alloc (.map #[] 0)).alloc (.map #[] 0)).alloc (.map #[] 0)).alloc (.cells #[.int .i64 s.wd,.map (some (w.heap.size+1)),.map (some (w.heap.size+2)),.map (some (w.heap.size+3))] 88)).heap.size=w.heap.size+5:=sm_;have B0:Below w.heap.size w (((((w.alloc (.cells #[.int .i64 s.wd,.slice ta s.ts.length tc,.slice ra s.rs.length rc] 29)).alloc (.map #[] 0)).alloc (.map #[] 0)).alloc (.map #[] 0)).alloc (.cells #[.int .i64 s.wd,.map (some (w.heap.size+1)),.map (some (w.heap.size+2)),.map (some (w.heap.size+3))] 88)):=(((bA_.alloc sm_ _).alloc so_ _).alloc so_ _).alloc so_ _;have s0:(w.alloc (.cells #[.int .i64 s.wd,.slice ta s.ts.length tc,.slice ra s.rs.length rc] 29)).heap.size=w.heap.size+1:=sm_;have s1:((w.alloc (.cells #[.int .i64 s.wd,.slice ta s.ts.length tc,.slice ra s.rs.length rc] 29)).alloc (.map #[] 0)).heap.size=w.heap.size+2:=sm_;have s2:(((w.alloc (.cells #[.int .i64 s.wd,.slice ta s.ts.length tc,.slice ra s.rs.length rc] 29)).alloc (.map #[] 0)).alloc (.map #[] 0)).heap.size=w.heap.size+3:=sm_;have s3:((((w.alloc (.cells #[.int .i64 s.wd,.slice ta s.ts.length tc,.slice ra s.rs.length rc] 29)).alloc (.map #[] 0)).alloc (.map #[] 0)).alloc (.map #[] 0)).heap.size=w.heap.size+4:=sm_;have m1:=World.ownsMap_made (w.alloc (.cells #[.int .i64 s.wd,.slice ta s.ts.length tc,.slice ra s.rs.length rc] 29)) prog 9 tokR;have m2:=World.ownsMap_made ((w.alloc (.cells #[.int .i64 s.wd,.slice ta s.ts.length tc,.slice ra s.rs.length rc] 29)).alloc (.map #[] 0)) prog 3 tokR;have m3:=World.ownsMap_made (((w.alloc (.cells #[.int .i64 s.wd,.slice ta s.ts.length tc,.slice ra s.rs.length rc] 29)).alloc (.map #[] 0)).alloc (.map #[] 0)) prog 9 tokR;have bH:=blk_new ((((w.alloc (.cells #[.int .i64 s.wd,.slice ta s.ts.length tc,.slice ra s.rs.length rc] 29)).alloc (.map #[] 0)).alloc (.map #[] 0)).alloc (.map #[] 0)) [.int .i64 s.wd,.map (some (w.heap.size+1)),.map (some (w.heap.size+2)),.map (some (w.heap.size+3))] 88;have tH:=ofT_new ((((w.alloc (.cells #[.int .i64 s.wd,.slice ta s.ts.length tc,.slice ra s.rs.length rc] 29)).alloc (.map #[] 0)).alloc (.map #[] 0)).alloc (.map #[] 0)) #[.int .i64 s.wd,.map (some (w.heap.size+1)),.map (some (w.heap.size+2)),.map (some (w.heap.size+3))] 88;rw [s0] at m1;rw [s1] at m2;rw [s2] at m3;rw [s3] at bH tH;have C0:Hid (ShC w.heap.size (w.heap.size+4) (w.heap.size+1) (w.heap.size+2) (w.heap.size+3) s.wd ((s.ts.take 0).map (gT s.wd)) [] [] (((((w.alloc (.cells #[.int .i64 s.wd,.slice ta s.ts.length tc,.slice ra s.rs.length rc] 29)).alloc (.map #[] 0)).alloc (.map #[] 0)).alloc (.map #[] 0)).alloc (.cells #[.int .i64 s.wd,.map (some (w.heap.size+1)),.map (some (w.heap.size+2)),.map (some (w.heap.size+3))] 88))):=hI_ ⟨om_,om_,om_,om_,om_,om_,om_,om_,bH,(m1.alloc _).alloc _ |>.alloc _,List.Pairwise.nil,(m2.alloc _).alloc _,m3.alloc _,List.Pairwise.nil,tH⟩;have R0:Hid (ShR w.heap.size [] [] [] (((((w.alloc (.cells #[.int .i64 s.wd,.slice ta s.ts.length tc,.slice ra s.rs.length rc] 29)).alloc (.map #[] 0)).alloc (.map #[] 0)).alloc (.map #[] 0)).alloc (.cells #[.int .i64 s.wd,.map (some (w.heap.size+1)),.map (some (w.heap.size+2)),.map (some (w.heap.size+3))] 88))):=hI_ ⟨rfl,fun i h=>absurd h (Nat.not_lt_zero _),fun k v e=>by simp [getK] at e,fun k _=>rfl,fun k k' v v' _ e=>by simp [getK] at e,Nat.le_refl _⟩;have Y0:Hid (BlkAt (((((w.alloc (.cells #[.int .i64 s.wd,.slice ta s.ts.length tc,.slice ra s.rs.length rc] 29)).alloc (.map #[] 0)).alloc (.map #[] 0)).alloc (.map #[] 0)).alloc (.cells #[.int .i64 s.wd,.map (some (w.heap.size+1)),.map (some (w.heap.size+2)),.map (some (w.heap.size+3))] 88)) w.heap.size [.int .i64 s.wd,.slice ta s.ts.length tc,.slice ra s.rs.length rc]):=hI_ ((blk_new w [.int .i64 s.wd,.slice ta s.ts.length tc,.slice ra s.rs.length rc] 29).below (N:=w.heap.size+1) (((((Below.refl _ _).alloc sm_ _).alloc sm_ _).alloc sm_ _).alloc sm_ _) om_);have y0:=Y0.out 0 _ rfl;have y1:=Y0.out 1 _ rfl;clear hok hs hat hm hc m1 m2 m3 bH tH;go_enter func17,ntmps17
 go_wp2_with fail
 generalize (((((w.alloc (.cells #[.int .i64 s.wd,.slice ta s.ts.length tc,.slice ra s.rs.length rc] 29)).alloc (.map #[] 0)).alloc (.map #[] 0)).alloc (.map #[] 0)).alloc (.cells #[.int .i64 s.wd,.map (some (w.heap.size+1)),.map (some (w.heap.size+2)),.map (some (w.heap.size+3))] 88))=U4 at*;go_loopw [20] (fun i wr=>∃ (k:Nat),k<=s.ts.length/\i=.int .i64 k/\Hid (ShC w.heap.size (w.heap.size+4) (w.heap.size+1) (w.heap.size+2) (w.heap.size+3) s.wd ((s.ts.take k).map (gT s.wd)) [] [] wr)/\Hid (ShR w.heap.size [] [] [] wr)/\Hid (BlkAt wr w.heap.size [.int .i64 s.wd,.slice ta s.ts.length tc,.slice ra s.rs.length rc])/\Below w.heap.size w wr/\w.heap.size+5<=wr.heap.size) (fun i _=>s.ts.length - (Go.RowKit.intOf i).toNat)
 case atStart=>exact ⟨0,Nat.zero_le _,rfl,C0,R0,Y0,B0,om_⟩
 case round=>
  obtain ⟨k,hk,rfl,C1,R1,Y1,B1,szr⟩:=hrel;by_cases hlt:k<s.ts.length
  · rcases HC.out with hss | ⟨ha,hbw,hcell⟩
    · rw [hss] at hlt;exact absurd hlt (Nat.not_lt_zero _)
    subst ha;have g0:=(B1.cell (p:=⟨b,off+k,none⟩) hbw).trans (hcell k hlt);obtain ⟨cc,tt,hI⟩:=(HT.out k hlt).1;have hxs:=HSZ.out k;have HPUT:=hI_ (put_next HA.out hlt);have HASC:=hI_ (ascT_take HA.out (k+1));have HNL:Hid (((s.ts.take k).map (gT s.wd)).length<maxLen):=by show _<_;simp;unfold maxLen;omega
    have HKM:Hid ((sumS (s.ts.getD k ByteArray.empty) s.wd).size<=maxLen):=by show _<=_;have:=sumS_size (s:=s.ts.getD k ByteArray.empty) HWD.out;have:=HWD.out;unfold maxLen;omega
    generalize hx:s.ts.getD k ByteArray.empty=x at*;clear hx hcell;have hx7:x.size<=1048700:=om_;have h57:=c39k wr hx7 (max_gb HM.out B1 om_) hI;clear hI
    go_wp2_with fail
    refine h57.mono ?_;rintro e u1 ⟨rfl,hb1⟩;clear h57;have su1:=hb1.size;have BA:Below w.heap.size w (u1.alloc (.cells #[.int .i64 (hC x),.string (hT x)] 45)):=(B1.trans (hb1.mono om_)).alloc om_ _;have bA:Below wr.heap.size wr (u1.alloc (.cells #[.int .i64 (hC x),.string (hT x)] 45)):=hb1.alloc su1 _;have CA:=hI_ (C1.out.below bA);have RA:=hI_ (R1.out.below bA);have yx:=hI_ (Y1.out.below bA om_);have tA:=hI_ (blk_new u1 [.int .i64 (hC x),.string (hT x)] 45);have szA:(u1.alloc (.cells #[.int .i64 (hC x),.string (hT x)] 45)).heap.size=u1.heap.size+1:=sm_;have hD:u1.heap.size<(u1.alloc (.cells #[.int .i64 (hC x),.string (hT x)] 45)).heap.size:=om_;clear C1 R1 Y1 hb1
    go_wp2_with fail
    generalize (u1.alloc (.cells #[.int .i64 (hC x),.string (hT x)] 45))=uA at*;have f0:=CA.out.blk 0 _ rfl;have f1:=CA.out.blk 1 _ rfl;have d0:=tA.out 0 _ rfl;have d1:=tA.out 1 _ rfl;refine wp_region_held_drew (S:=(fun u=>u.cell? ⟨w.heap.size+4,0,none⟩=some (.int .i64 s.wd)/\u.cell? ⟨w.heap.size+4,1,none⟩=some (.map (some (w.heap.size+1)))/\u.cell? ⟨u1.heap.size,0,none⟩=some (.int .i64 (hC x))/\u.cell? ⟨u1.heap.size,1,none⟩=some (.string (hT x)))) kr_ ?_ fun hHeld=>?_
    · exact ⟨f0,f1,d0,d1⟩
    refine tq 0 hHeld ?_
    try simp only [qq]
    refine tq 1 hHeld ?_
    try simp only [qq]
    refine tq 2 hHeld ?_
    try simp only [qq]
    refine tq 3 hHeld ?_
    try simp only [qq]
    refine tq 4 hHeld ?_
    try simp only [qq]
    refine tq 5 hHeld ?_
    try simp only [qq]
    refine tq 6 hHeld ?_
    try simp only [qq]
    refine tq 7 hHeld ?_
    try simp only [qq]
    refine tq 8 hHeld ?_
    try simp only [qq]
    refine tq 10 hHeld ?_
    try simp only [qq]
    refine tq 11 hHeld ?_
    try simp only [qq]
    refine tq 12 hHeld ?_
    try simp only [qq]
    refine rq 9 fun K hK=>?_;go_simp;refine (c40 x s.wd _ hx7).mono ?_;rintro e v1 ⟨rfl,hbv⟩
    go_wp2_with fail
    have hbv':Below uA.heap.size uA v1:=((Below.refl _ _).drew).trans hbv;have sv1:=hbv'.size;have CV:=hI_ (CA.out.below hbv');have RV:=hI_ (RA.out.below hbv');have BV:=BA.trans (hbv'.mono om_);have h0:=CV.out.blk 0 _ rfl;have h1:=CV.out.blk 1 _ rfl;have w0:=(hbv'.cell (p:=⟨u1.heap.size,0,none⟩) (show u1.heap.size<uA.heap.size by omega)).trans d0;have w1:=(hbv'.cell (p:=⟨u1.heap.size,1,none⟩) (show u1.heap.size<uA.heap.size by omega)).trans d1;have yb:=hI_ (yx.out.below hbv' om_);have tD:=hI_ (tA.out.below hbv' om_);clear hHeld hbv;refine hK.out _ _ ⟨h0,h1,w0,w1⟩ fun hHeld=>?_;clear hK K
    try simp only [qq]
    refine rq 13 fun K hK=>?_;refine step_upS (l:=(s.ts.take k).map (gT s.wd)) (k:=sumS x s.wd) (vv:=hV x) rfl 84 (.tmp 32) (.tmp 38) (.tmp 41) rfl rfl rfl rfl CV.out.tx underlying84 HNL.out HKM.out rfl ?_;intro v2 hm2 hg2;rw [HPUT.out] at hm2
    replace hm2:=mp_tight hm2
    rw [mapD_size] at hm2;have C2:=hI_ (CV.out.upT hg2 hm2 HASC.out);have R2:=hI_ (RV.out.mapT hg2 CV.out);have B2:=BV.trans (gb_below hg2 (fun j e=>by cases e;omega) om_);have sv2:=hg2.size;have neT:some w.heap.size≠some (w.heap.size+1):=fun e=>by have:=Option.some.inj e;omega
    have y2:=hI_ (blk_kept yb.out hg2 om_ neT);have j0:=C2.out.blk 0 _ rfl;have j1:=C2.out.blk 1 _ rfl;have neD:some u1.heap.size≠some (w.heap.size+1):=fun e=>by have:=Option.some.inj e;omega
    have z0:=(blk_kept (vs:=[.int .i64 (hC x),.string (hT x)]) tD.out hg2 om_ neD) 0 _ rfl;have z1:=(blk_kept (vs:=[.int .i64 (hC x),.string (hT x)]) tD.out hg2 om_ neD) 1 _ rfl;clear hHeld hm2 hg2;refine hK.out _ _ ⟨j0,j1,z0,z1⟩ fun hHeld=>?_;clear hK K hHeld
    try simp only [qq]
    refine wpAnyH_done kr_ ?_ _;clear h0 h1 w0 w1 yb tD CV RV BV;go_wp2;go_roundw
    case rel=>exact ⟨k+1,om_,by go_num,C2,R2,y2,B2,om_⟩
    case measure=>simp [Go.RowKit.intOf];omega
  · obtain rfl:k=s.ts.length:=om_
    have C2:Hid (ShC w.heap.size (w.heap.size+4) (w.heap.size+1) (w.heap.size+2) (w.heap.size+3) s.wd (s.ts.map (gT s.wd)) [] [] wr):=by have h:=C1.out;rw [List.take_length] at h;exact h
    have z2:=Y1.out 2 _ rfl;have S2:Hid (Sh w.heap.size (w.heap.size+4) (w.heap.size+1) (w.heap.size+2) (w.heap.size+3) s.wd (s.ts.map (gT s.wd)) (s.rs.take 0) [] wr):=⟨[],C2.out,R1.out⟩;clear C1 C2 R1 Y1
    go_wp2_with fail
    go_loopw [46] (fun i wr=>∃ (k:Nat) (rv:List Value),k<=s.rs.length/\i=.int .i64 k/\Hid (Sh w.heap.size (w.heap.size+4) (w.heap.size+1) (w.heap.size+2) (w.heap.size+3) s.wd (s.ts.map (gT s.wd)) (s.rs.take k) rv wr)/\Below w.heap.size w wr) (fun i _=>s.rs.length - (Go.RowKit.intOf i).toNat)
    case atStart=>exact ⟨0,[],Nat.zero_le _,rfl,S2,B1⟩
    case round=>
     obtain ⟨k,rv,hk,rfl,S3,B3⟩:=hrel;by_cases hlt:k<s.rs.length
     · rcases HR.out with hss | ⟨rb,ro,hra,hrb,hrec⟩
       · rw [hss] at hlt;exact absurd hlt (Nat.not_lt_zero _)
       subst hra;obtain ⟨ai,ci,r0,r1,r2,hV⟩:=rec_at (hrec k hlt) B3 hrb;have HTK:=hI_ (take_rec hlt);have hkey:(s.rs.getD k r3z).key.size<=1048700:=by have:=(HRO.out k hlt).1.1;omega
       have htk:(s.rs.take k).length<=1000:=so_;generalize s.rs.getD k r3z=x at*;clear hrec;have bB:Below wr.heap.size wr (wr.alloc (.cells #[.string x.key,.slice ai x.gs.length ci,.string x.out] 96)):=bA_;have S4:Hid (Sh w.heap.size (w.heap.size+4) (w.heap.size+1) (w.heap.size+2) (w.heap.size+3) s.wd (s.ts.map (gT s.wd)) (s.rs.take k) rv (wr.alloc (.cells #[.string x.key,.slice ai x.gs.length ci,.string x.out] 96))):=S3.out.below bB;have V4:=hV.kept (below_gb bB) (fun _ e=>by cases e);have h59:=c41 _ _ _ _ _ _ _ _ _ x ai ci _ S4.out V4 htk hkey;have hZq:w.heap.size<=wr.heap.size:=B3.size;clear S3 hV V4
       go_wp2_with fail
       refine h59.mono ?_;rintro e u5 ⟨rfl,S5,B5,_⟩;have S6:Hid (Sh w.heap.size (w.heap.size+4) (w.heap.size+1) (w.heap.size+2) (w.heap.size+3) s.wd (s.ts.map (gT s.wd)) (s.rs.take (k+1)) (rv++[.agg #[.string x.key,.slice ai x.gs.length ci,.string x.out]]) u5):=by show Sh _ _ _ _ _ _ _ _ _ _;rw [HTK.out];exact S5
       have B6:Below w.heap.size w u5:=(B3.trans (bB.mono hZq)).trans B5;clear h59 S5 S4 B5;go_wp2;go_roundw
       case rel=>exact ⟨k+1,_,om_,by go_num,S6,B6⟩
       case measure=>simp [Go.RowKit.intOf];omega
     · obtain rfl:k=s.rs.length:=om_
       have S7:Hid (Sh w.heap.size (w.heap.size+4) (w.heap.size+1) (w.heap.size+2) (w.heap.size+3) s.wd (s.ts.map (gT s.wd)) s.rs rv wr):=by have h:=S3.out;rw [List.take_length] at h;exact h
       clear S3;go_wp2;go_ret;exact ⟨⟨_,_,_,_,rv,rfl,S7.out⟩,B3⟩
end Go.Proofs.YtlckdgjfniglfaaGreatDoor

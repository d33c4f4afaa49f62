import Derived.Maps.AppendAt
import Derived.Laws.OwnMore
import Derived.Test.YtkdbheidpdjimaaGreatDoorK4
import Derived.Test.YtkdbheidpdjimaaGreatDooreP3
import Derived.Maps.OwnRows
set_option maxRecDepth 100000
set_option linter.unusedVariables false
namespace Go.Proofs.YtkdbheidpdjimaaGreatDoor
open Proofs.Tryz Go.RowKit
def oC (P:Program) (md:Region.Mode) (ops:Array Oper) (Q:Exit->Act->World->Prop) (S:World->Prop) (T:Nat):Nat->Array Bool->Act->World->Prop
 | 0,l,a,w=>Region.ready md ops l=[]/\Q .normal a w
 | n+1,l,a,w=>(Region.ready md ops l=[]->Q .normal a w)/\∀ i∈Region.ready md ops l,wpOp P ops Q i (fun a' w'=>(i≠T->S w')/\oC P md ops Q S T n (l.setIfInBounds i true) a' w') a w
section
variable {P:Program} {ops:Array Oper} {Q:Exit->Act->World->Prop} {md:Region.Mode} {S:World->Prop} {T:Nat}
theorem jU (n:Nat):∀ (l:Array Bool) (a:Act) (w:World),oC P md ops Q S T n l a w->wpAny P md ops Q n l a w:=by
 induction n with
 | zero=>exact fun _ _ _ h=>h
 | succ n ih=>exact fun _ _ _ h=>⟨h.1,fun i b=>wpOp_mono (fun d w' c=>ih _ d w' c.2) (h.2 i b)⟩
def Zu (md:Region.Mode) (ops:Array Oper) (T i:Nat):Bool:=(ops[T]?).any fun o=>o.after.any fun e=>Region.binds md e&&e.on==i
theorem zS {l:Array Bool} {T i:Nat} (hT:Zu md ops T i=true) (d:i∈Region.ready md ops l):T∉Region.ready md ops l:=fun h=>by
 obtain ⟨_,o,ho,e⟩:=mem_ready.1 h;unfold Zu at hT;rw [ho] at hT;simp only [Option.any_some,Array.any_eq_true] at hT;obtain ⟨k,c,a⟩:=hT;simp only [Fa,Zn] at a;have h1:=e _ (Array.getElem_mem c) a.1;have h0:=(mem_ready.1 d).1;rw [a.2] at h1;rcases o8 i l.size with b | b
 · simp [b] at h0 h1;rw [h0] at h1;cases h1
 simp [Bq b] at h1
theorem FM {i:Nat} {oi:Oper} {v:Value} (r:ops[i]?=some oi) (hT:Zu md ops T i=true) (u:∀ (j:Nat) (o:Oper) cs b,ops[j]?=some o->o.op≠.select cs b)
 (hQ:∀ c a w,Q (.panic c) (a.put oi.dst v) w->Q (.panic c) a w) (n:Nat):∀ (l:Array Bool) (a:Act) (w:World),
  (∀ j f,ops[j]?=some f->j≠i->l.getD j true=false->(∀ e∈f.after,Region.binds md e=true->e.on≠i)->oi.apart ops f=true)->
  i∈Region.ready md ops l->YieldsIf P ops S oi v a->S w->
  oC P md ops Q S T n (l.setIfInBounds i true) (a.put oi.dst v) w->oC P md ops Q S T (n+1) l a w:=by
 have D:∀ (l:Array Bool) j,i∈Region.ready md ops l->j∈Region.ready md ops l->j≠T:=fun l j h1 h2 e=>zS hT h1 (e▸h2)
 induction n with
 | zero=>
  refine fun l a w _ hr p m H=>⟨fun h=>absurd (h▸hr) Kt,fun j g=>?_⟩;by_cases d:j=i
  · subst d;exact p.wpOp r m ⟨fun _=>m,H⟩
  exact absurd (H.1▸ready_mono g d) Kt
 | succ n ih=>
  refine fun l a w z hr p m H=>⟨fun h=>absurd (h▸hr) Kt,fun j g=>?_⟩;by_cases d:j=i
  · subst d;exact p.wpOp r m ⟨fun _=>m,H⟩
  have K:=D l j hr g;obtain ⟨t,f,q,O⟩:=mem_ready.1 g;have E:∀ e∈f.after,Region.binds md e=true->e.on≠i:=fun e he N L=>by
   have h1:=O e he N;have h0:=(mem_ready.1 hr).1;rw [L] at h1;rcases o8 i l.size with s | s
   · simp [s] at h0 h1;rw [h0] at h1;cases h1
   simp [Bq s] at h1
  refine wpOp_mono (fun R w' h=>?_) (wpOp_putIf q (z j f q d t E) (fun cs b=>u i oi cs b r) (fun cs b=>u j f cs b q) hQ p (H.2 j (ready_mono g d)));obtain ⟨A,x,B⟩:=h;refine ⟨x,ih _ R w' (fun k ok J I C F=>z k ok J I ?_ F) (ready_mono hr (Ne.symm d)) A (x K) ?_⟩
  · by_cases y:j=k
    · exact y▸t
    rwa [getD_set_ne true y] at C
  rw [Array.setIfInBounds_comm _ _ d];exact B
theorem yc {i:Nat} (hT:Zu md ops T i=true) {oi:Oper} {v:Value} {n:Nat} {l:Array Bool} {a:Act} {w:World} (b:ops[i]?=some oi)
 (e:Region.noSelect ops=true) (hf:Region.free md ops l i=true) (hr:(Region.ready md ops l).contains i=true)
 (hQ:∀ c a w,Q (.panic c) (a.put oi.dst v) w->Q (.panic c) a w) (d:YieldsIf P ops S oi v a) (f:S w)
 (h:oC P md ops Q S T n (l.setIfInBounds i true) (a.put oi.dst v) w):oC P md ops Q S T (n+1) l a w:=
 FM b hT (Region.noSelect_spec e) hQ n l a w (Region.free_spec b hf) (by simpa using hr) d f h
def Y6 (P:Program) (md:Region.Mode) (ops:Array Oper) (Q:Exit->Act->World->Prop) (S:World->Prop) (T n:Nat) (l:Array Bool) (a:Act) (w:World) (rs:List Nat):Prop:=
 ∀ i∈rs,wpOp P ops Q i (fun a' w'=>(i≠T->S w')/\oC P md ops Q S T n (l.setIfInBounds i true) a' w') a w
theorem Y6.nil {n:Nat} {l:Array Bool} {a:Act} {w:World}:Y6 P md ops Q S T n l a w []:=fun _ h=>absurd h Kt
theorem Y6.cons {n:Nat} {l:Array Bool} {a:Act} {w:World} {i:Nat} (hne:i≠T) {o:Oper} {rs:List Nat} (ho:ops[i]?=some o)
 (h:∀ b:Act->World->Prop,Shut (∀ a w,S w->(S w->oC P md ops Q S T n (l.setIfInBounds i true) a w)->b a w)->if Region.wanted o (yielded ops a.tmps)=true then Oper.wp P o a w b Q else b (a.put o.dst undef) w)
 (e:Y6 P md ops Q S T n l a w rs):Y6 P md ops Q S T n l a w (i::rs):=fun j c=>by
 rcases ve.1 c with rfl | c
 · exact wpOp_step ho (fun b g=>h b (fun a w d f=>g a w ⟨fun _=>d,f d⟩))
 exact e j c
theorem Y6.last {n:Nat} {l:Array Bool} {a:Act} {w:World} {o:Oper} (ho:ops[T]?=some o)
 (h:∀ b:Act->World->Prop,Shut (∀ a w,oC P md ops Q S T n (l.setIfInBounds T true) a w->b a w)->if Region.wanted o (yielded ops a.tmps)=true then Oper.wp P o a w b Q else b (a.put o.dst undef) w):Y6 P md ops Q S T n l a w [T]:=fun j c=>by
 obtain rfl:=dw.1 c;exact wpOp_step ho (fun b f=>h b (fun a w d=>f a w ⟨fun e=>absurd rfl e,d⟩))
theorem o_ {rs:List Nat} {n:Nat} {l:Array Bool} {a:Act} {w:World} (hr:Region.ready md ops l=rs) (b:rs≠[]) (h:Y6 P md ops Q S T n l a w rs):oC P md ops Q S T (n+1) l a w:=
 ⟨fun h0=>absurd (hr▸h0) b,hr▸h⟩
theorem Ns {l:Array Bool} {a:Act} {w:World} (hr:Region.ready md ops l=[]) (h:Q .normal a w) (n:Nat):oC P md ops Q S T n l a w:=by
 cases n with
 | zero=>exact ⟨hr,h⟩
 | succ n=>exact ⟨fun _=>h,by rw [hr];simp⟩
theorem Kv {b:Nat} {a:Act} {w:World} (T:Nat) (hm:P.follows .mixedOrders=true) (c:S w.drew)
 (h:S w.drew->oC P .any ops Q S T ops.size (Array.replicate ops.size false) a w.drew):(Code.region b ops true).wp P Q a w:=
 wp_region_any hm (jU _ _ _ _ (h c))
theorem lk {i:Nat} {oi:Oper} {v:Value} {n:Nat} {l:Array Bool} {a:Act} {w:World} (d:ops[i]?=some oi) (b:(Zu md ops T i&&Region.noSelect ops&&Region.free md ops l i&&(Region.ready md ops l).contains i)=true) (hw:Region.wanted oi (yielded ops a.tmps)=true) (hv:∀ u,S u->(execOp a.eval oi).run P u=.ok (.value v) u) (e:S w) (h:oC P md ops Q S T n (l.setIfInBounds i true) (a.put oi.dst v) w) (hQ:∀ c a w,Q (.panic c) (a.put oi.dst v) w->Q (.panic c) a w:=by exact fun _ _ _ h=>h):oC P md ops Q S T (n+1) l a w:=by
 simp only [Fa] at b;exact yc b.1.1.1 d b.1.1.2 b.1.2 b.2 hQ (.inl ⟨hw,hv⟩) e h
theorem lq {v:Value} {n:Nat} {l:Array Bool} {a:Act} {w:World} {d:Option Nat} {op:Op} {ty:TypeId} {p:String} {af:Array Edge} {g:Option (Nat×Bool)} (i:Nat) (f:S w) (h:oC P md ops Q S T n (l.setIfInBounds i true) (a.put d v) w) (b:ops[i]?=some ⟨d,op,ty,p,af,g⟩:=by exact rfl) (e:(Zu md ops T i&&Region.noSelect ops&&Region.free md ops l i&&(Region.ready md ops l).contains i)=true:=by kernel_rfl) (hw:Region.wanted ⟨d,op,ty,p,af,g⟩ (yielded ops a.tmps)=true:=by exact rfl) (hv:∀ u,S u->(execOp a.eval ⟨d,op,ty,p,af,g⟩).run P u=.ok (.value v) u:=by intro wq hSw;(try dsimp only at hSw);go_simp;try with_reducible rfl) (hQ:∀ c a w,Q (.panic c) (a.put d v) w->Q (.panic c) a w:=by first | exact fun _ _ _ h=>h | exact fun _ _ _ h=>hQ _ _ _ _ _ h):oC P md ops Q S T (n+1) l a w:=lk b e hw hv f h hQ
theorem lr {i:Nat} {o:Oper} {n:Nat} {l:Array Bool} {a:Act} {w:World} (ho:ops[i]?=some o) (c:i≠T) (hr:Region.ready md ops l=[i]) (h:∀ b:Act->World->Prop,Shut (∀ a w,S w->(S w->oC P md ops Q S T n (l.setIfInBounds i true) a w)->b a w)->if Region.wanted o (yielded ops a.tmps)=true then Oper.wp P o a w b Q else b (a.put o.dst undef) w):oC P md ops Q S T (n+1) l a w:=o_ hr I4 (Y6.cons c ho h Y6.nil)
theorem lz {o:Oper} {n:Nat} {l:Array Bool} {a:Act} {w:World} (ho:ops[T]?=some o) (hr:Region.ready md ops l=[T]) (h:∀ b:Act->World->Prop,Shut (∀ a w,oC P md ops Q S T n (l.setIfInBounds T true) a w->b a w)->if Region.wanted o (yielded ops a.tmps)=true then Oper.wp P o a w b Q else b (a.put o.dst undef) w):oC P md ops Q S T (n+1) l a w:=o_ hr I4 (Y6.last ho h)
theorem UR {o:Oper} {a:Act} {w w':World} {v:Value} {K:Act->World->Prop} {E:Prop} (b:o.guard=none) (hr:(execOp a.eval o).run P w=.ok (.value v) w') (c:K (a.put o.dst v) w'):if Region.wanted o (yielded ops a.tmps)=true then Oper.wp P o a w K Q else E:=by
 rw [G8 (by simp [Region.wanted,b])];unfold Oper.wp;rw [hr];exact c
theorem AY {o:Oper} {a:Act} {w w':World} {K:Act->World->Prop} {E:Prop} (b:o.guard=none) (hr:(execOp a.eval o).run P w=.ok .skip w') (c:K (a.put o.dst undef) w'):if Region.wanted o (yielded ops a.tmps)=true then Oper.wp P o a w K Q else E:=by
 rw [G8 (by simp [Region.wanted,b])];unfold Oper.wp;rw [hr];exact c
theorem Z9 {b:List Oper} {o:Oper} {a:Act} {w w':World} {v:Value} (c:o.guard=none) (hr:(execOp a.eval o).run P w=.ok (.value v) w') (h:wpList P ops Q b (a.put o.dst v) w'):wpList P ops Q (o::b) a w:=by
 refine ou c fun K d=>?_;unfold Oper.wp;rw [hr];exact d _ _ h
theorem qX {b:List Oper} {o:Oper} {a:Act} {w w':World} (c:o.guard=none) (hr:(execOp a.eval o).run P w=.ok .skip w') (h:wpList P ops Q b (a.put o.dst undef) w'):wpList P ops Q (o::b) a w:=by
 refine ou c fun K d=>?_;unfold Oper.wp;rw [hr];exact d _ _ h
end
def Cl (w:World) (b:Nat) (t:TypeId) (xs:List Value):Prop:=w.heap[b]?=some (.cells xs.toArray t (0,0))
structure vF (B:Nat) (w w':World):Prop where
 os:w'.os=w.os
 tape:w'.tape=w.tape
 output:w'.output=w.output
 size:w'.heap.size=w.heap.size
 block:∀ k,k≠B->w'.heap[k]?=w.heap[k]?
theorem Cl.lt {w:World} {b:Nat} {t:TypeId} {xs:List Value} (h:Cl w b t xs):b<w.heap.size:=(D_.1 h).1
theorem Cl.cell {w:World} {b:Nat} {t:TypeId} {xs:List Value} (h:Cl w b t xs) (j:Nat):w.cell? ⟨b,j,none⟩=xs[j]?:=by
 rw [Lib.cell_of_heap h j];simp
theorem Cl.opn {w:World} {b:Nat} {t:TypeId} {xs:List Value} (h:Cl w b t xs) (j:Nat):w.frozen? ⟨b,j,none⟩=false:=Lib.frozen_of_heap h j
theorem Cl.blk {w:World} {b:Nat} {t:TypeId} {xs:List Value} (h:Cl w b t xs):X4 w b xs:=fun j v e=>(h.cell j).trans e
theorem Cl.on {w w':World} {b B:Nat} {t:TypeId} {xs:List Value} (h:Cl w b t xs) (ho:vF B w w') (a:b≠B):Cl w' b t xs:=(ho.block b a).trans h
theorem Cl.below {w w':World} {b N:Nat} {t:TypeId} {xs:List Value} (h:Cl w b t xs) (a:Below N w w') (c:b<N):Cl w' b t xs:=(a.block b c).trans h
theorem Cl.set {w:World} {b:Nat} {t:TypeId} {xs:List Value} (h:Cl w b t xs) (j:Nat) (v:Value):Cl (w.setCell ⟨b,j,none⟩ v) b t (xs.set j v):=by
 have:=heap_setCell_same w b j _ t v h;unfold Cl;rw [this,List.setIfInBounds_toArray]
theorem uh (w:World) (b j:Nat) (v:Value):vF b w (w.setCell ⟨b,j,none⟩ v):=⟨rfl,rfl,rfl,I4,fun k a=>heap_setCell_other _ _ _ _ a⟩
theorem vF.below {B N:Nat} {w w':World} (h:vF B w w') (hN:N<=B):Below N w w':=⟨h.os,h.tape,h.output,jq h.size.symm,fun k hk=>h.block k O0⟩
theorem G6 (w:World) (xs:List Value) (t:TypeId):Cl (w.alloc (.cells xs.toArray t)) w.heap.size t xs:=heap_alloc_new w _
theorem Oa {w:World} {b:Nat} {t:TypeId} {xs:List Value} (h:Cl w b t xs) (o:Obj):Cl (w.alloc o) b t xs:=(Lib.alloc_old w o b h.lt).trans h
theorem pI {w:World} {b:Nat} {t:TypeId} {xs:List Value} (h:Cl w b t xs):∀ j u,xs[j]?=some u->w.cell? ((⟨b,0,none⟩:Addr).add j)=some u:=fun j u e=>by
 have ha:(aA b 0).add j=(aA b j):=by unfold Addr.add;split <;> simp_all
 rw [ha];exact (h.cell j).trans e
theorem Cl.fil {w:World} {B:Nat} {t:TypeId} {xs:List Value} (vs:List Value):∀ (j:Nat),Cl w B t xs->∃ ys,Cl (fill w B j vs) B t ys/\ys.length=xs.length/\∀ i,ys[i]?=if j<=i/\i<j+vs.length/\i<xs.length then vs[i - j]? else xs[i]?:=by
 induction vs generalizing w xs with
 | nil=>exact fun j h=>⟨xs,h,rfl,fun i=>by rw [A8];simp;omega⟩
 | cons v vs ih=>
  intro j h;obtain ⟨ys,h1,h2,b⟩:=ih (j+1) (h.set j v);refine ⟨ys,h1,by simpa using h2,fun i=>?_⟩;rw [b i];simp only [List.length_set,A_];by_cases a:i=j
  · subst a;rw [A8 O0];by_cases hl:i<xs.length
    · rw [G8 ⟨O0,O0,hl⟩,List.getElem?_set_self hl];simp
    rw [A8 O0];simp [Ec (show (xs.set i v).length<=i by simp;omega),Ec (show xs.length<=i by omega)]
  by_cases hc:j<=i/\i<j+(vs.length+1)/\i<xs.length
  · rw [G8 hc,G8 O0];obtain ⟨d,rfl⟩:∃ d,i=j+1+d:=⟨i - (j+1),O0⟩;have e1:j+1+d - j=d+1:=O0;have c:j+1+d - (j+1)=d:=O0;rw [e1,c];simp
  rw [A8 hc,A8 O0,List.getElem?_set_ne O0]
theorem vK (B:Nat) (vs:List Value):∀ (w:World) (j:Nat),vF B w (fill w B j vs):=by
 induction vs with
 | nil=>exact fun w j=>⟨rfl,rfl,rfl,rfl,fun _ _=>rfl⟩
 | cons v vs ih=>
  intro w j;have h1:=uh w B j v;have h2:=ih (w.setCell (aA B j) v) (j+1);exact ⟨h2.os.trans h1.os,h2.tape.trans h1.tape,h2.output.trans h1.output,h2.size.trans h1.size,fun k a=>(h2.block k a).trans (h1.block k a)⟩
def Zp (xs:List Value) (j:Nat) (vs:List Value):List Value:=xs.take j++vs++xs.drop (j+vs.length)
theorem Cl.EW {w:World} {B:Nat} {t:TypeId} {xs vs:List Value} {j:Nat} (h:Cl w B t xs) (hl:j+vs.length<=xs.length):Cl (fill w B j vs) B t (Zp xs j vs):=by
 obtain ⟨ys,h1,h2,c⟩:=h.fil vs j;have:ys=Zp xs j vs:=by
  apply List.ext_getElem?;intro i;rw [c i];unfold Zp;by_cases b:i<j
  · rw [A8 O0,oq,I_ U7,QB b]
  by_cases a:i<j+vs.length
  · rw [G8 ⟨O0,a,O0⟩,oq,Cf U7,I_ U7]
    congr 1
    simp;omega
  rw [A8 O0,Cf U7,OD]
  congr 1
  simp;omega
 rw [<- this];exact h1
section
variable {P:Program} {ops:Array Oper} {Q:Exit->Act->World->Prop}
theorem KP {o:Oper} {a:Act} {w:World} (ty:TypeId) (x y:Operand) (ho:o.op=.store ty x y) {B j:Nat} {t:TypeId} {xs vs:List Value} (hx:a.eval x=.pointer (some ⟨B,j,none⟩)) (b:a.eval y=.agg vs.toArray) (hB:Cl w B t xs) (hl:j+vs.length<=xs.length) (h1:∀ v∈vs,v.oneCell'=true) (c:(P.info? ty).map (·.size)=some vs.length):
 (execOp a.eval o).run P w=.ok .skip (fill w B j vs):=by
 unfold execOp;simp only [ho,hx,b,Instr.storeAt,Instr.sureAddr,Qk,Uo,Un,yh w B j ty vs (fun i h=>by rw [hB.cell];simp;omega) (fun j=>hB.opn j) h1 c]
theorem Ik {o:Oper} {a:Act} {w:World} {K:Act->World->Prop} {E:Prop} (d:o.guard=none) (ty:TypeId) (x y:Operand) (ho:o.op=.store ty x y) {B j:Nat} {t:TypeId} {xs vs:List Value} (hx:a.eval x=.pointer (some ⟨B,j,none⟩)) (b:a.eval y=.agg vs.toArray) (hB:Cl w B t xs) (hl:j+vs.length<=xs.length) (h1:∀ v∈vs,v.oneCell'=true) (c:(P.info? ty).map (·.size)=some vs.length)
 (e:∀ w',Cl w' B t (Zp xs j vs)->vF B w w'->K (a.put o.dst undef) w'):if Region.wanted o (yielded ops a.tmps)=true then Oper.wp P o a w K Q else E:=
 AY d (KP ty x y ho hx b hB hl h1 c) (e _ (hB.EW hl) (vK _ _ _ _))
theorem Z8 {b:List Oper} {o:Oper} {a:Act} {w:World} (e:o.guard=none) (ty:TypeId) (x y:Operand) (ho:o.op=.store ty x y) {B j:Nat} {t:TypeId} {xs vs:List Value} (hx:a.eval x=.pointer (some ⟨B,j,none⟩)) (c:a.eval y=.agg vs.toArray) (hB:Cl w B t xs) (hl:j+vs.length<=xs.length) (h1:∀ v∈vs,v.oneCell'=true) (d:(P.info? ty).map (·.size)=some vs.length)
 (f:∀ w',Cl w' B t (Zp xs j vs)->vF B w w'->wpList P ops Q b (a.put o.dst undef) w'):wpList P ops Q (o::b) a w:=
 qX e (KP ty x y ho hx c hB hl h1 d) (f _ (hB.EW hl) (vK _ _ _ _))
theorem Y8 {o:Oper} {a:Act} {w:World} (ty:TypeId) (x:Operand) (ho:o.op=.load ty x) {B j:Nat} {cs:List Value} {d:TypeDesc} (hx:a.eval x=.pointer (some ⟨B,j,none⟩)) (hc:∀ i v,cs[i]?=some v->w.cell? ⟨B,j+i,none⟩=some v) (c:P.underlying ty=some d) (hd:(match d with | .struct _ | .array _ _=>true | _=>false)=true) (b:(P.info? ty).map (·.size)=some cs.length):
 (execOp a.eval o).run P w=.ok (.value (.agg cs.toArray)) w:=by
 have hl:(loadCells (aA B j) cs.length).run P w=.ok cs.toArray w:=
  run_loadCells_list (P:=P) w (aA B j) cs (fun i v hv=>by rw [Nb];exact hc i v hv)
 have hr:(loadVar ty (aA B j)).run P w=.ok (.agg cs.toArray) w:=by
  cases hq:P.info? ty with
  | none=>simp [hq] at b
  | some i=>
   have e:i.size=cs.length:=by simpa [hq] using b
   have f:(isAgg ty).run P w=.ok true w:=by
    unfold isAgg;rw [Qk,Xo c w];cases d <;> simp_all
   simp [loadVar,f,sizeOf,typeInfo,hq,e,hl]
 unfold execOp;simp only [ho,hx,Instr.loadAt,Instr.sureAddr,Qk,Uo,Un,hr]
def Inf (P:Program) (e:TypeId) (size:Nat):Prop:=∃ i z,P.info? e=some i/\i.zero=some z/\i.size=size/\z.cells.size=size/\i.bytes<=1000
theorem Wy {e:TypeId} {size:Nat} (h:((P.info? e).map fun i=>(i.zero.map fun z=>z.cells.size,i.size,decide (i.bytes<=1000)))=some (some size,size,true)):Inf P e size:=by
 cases hq:P.info? e with
 | none=>rw [hq] at h;cases h
 | some i=>
  rw [hq] at h;simp only [Fv,jv,OI,Fe] at h;obtain ⟨h1,h2,c⟩:=h;obtain ⟨z,b,a⟩:=zD.1 h1;exact ⟨i,z,hq,b,h2,a,c⟩
def Src (w:World) (sv:Value) (size m:Nat) (news:List Value):Prop:=((∃ c,sv=.slice none 0 c)/\m=0/\news=[])\/∃ ad c,sv=.slice (some ad) m c/\news.length=m*size/\∀ j u,news[j]?=some u->w.cell? (ad.add j)=some u
theorem xH (w:World) (base:Nat) (t ty e:TypeId) (size:Nat) (ht:P.underlying t=some (.slice e)) (s:Inf P e size) (k:0<size) (v:Value) (n:Nat) (xs:List Value) (b:w.ownsRow base e size v n xs) (f:Value) (m:Nat) (a:List Value) (o:Src w f size m a) (h1:∀ u∈a,u.oneCell'=true) (r:n+m<=1000000) (y:base<=w.heap.size):
 ∃ v' w',(Builtin.append_ #[t,t] ty #[v,f]).run P w=.ok v' w'/\w'.ownsRow base e size v' (n+m) (xs++a)/\w.grownBy w' v.ownBlock/\(v'.ownBlock=v.ownBlock\/v'.ownBlock=some w.heap.size):=by
 obtain ⟨i,z,d,j,l,h,x⟩:=s;rcases o with ⟨⟨c,rfl⟩,rfl,rfl⟩ | ⟨C,c,rfl,hl,p⟩
 · refine ⟨v,w,?_,by simpa using b,⟨rfl,rfl,rfl,Y9 _,fun _ _ _=>rfl⟩,.inl rfl⟩;rcases b.2 with ⟨rfl,rfl⟩ | ⟨g,cap,cur,rfl,hbg,hg,q,hcm,hcs,htake⟩
   · simp [Builtin.append_,Xo ht,sizeOf,typeInfo,d,Builtin.lenOf,Builtin.firstCells]
   simp [Builtin.append_,Xo ht,sizeOf,typeInfo,d,Builtin.lenOf,Builtin.firstCells,loadCells,q,storeCells]
 obtain ⟨v',w',hr,h2,B,h4,A⟩:=run_append_own_at (P:=P) w base t ty e i z size i.bytes ht d j l rfl h k v n xs b C m c a hl p h1 (by simp only [maxLen];omega) (Q7 (Nat.mul_le_mul r x) O6) y;exact ⟨v',w',hr,h2,B,A⟩
theorem Pm {o:Oper} {a:Act} {w:World} {K:Act->World->Prop} {E:Prop} (l:o.guard=none) (s x:Operand) (t:TypeId) (ho:o.op=.call { callee:=.builtin .append,args:=#[s,x],argTypes:=#[t,t] })
 (base:Nat) (e:TypeId) (size:Nat) (ht:P.underlying t=some (.slice e)) (k:Inf P e size) (d:0<size) (v:Value) (n:Nat) (xs:List Value) (g:a.eval s=v) (i:w.ownsRow base e size v n xs) (c:Value) (m:Nat) (b:List Value) (hx:a.eval x=c) (f:Src w c size m b) (h1:∀ u∈b,u.oneCell'=true) (j:n+m<=1000000) (p:base<=w.heap.size)
 (h:∀ v' w',w'.ownsRow base e size v' (n+m) (xs++b)->w.grownBy w' v.ownBlock->(v'.ownBlock=v.ownBlock\/v'.ownBlock=some w.heap.size)->K (a.put o.dst v') w'):if Region.wanted o (yielded ops a.tmps)=true then Oper.wp P o a w K Q else E:=by
 obtain ⟨v',w',hr,h2,r,q⟩:=xH w base t o.type e size ht k d v n xs i c m b f h1 j p;refine UR l (v:=v') (w':=w') ?_ (h v' w' h2 r q);unfold execOp;simp only [ho,resolve,invoke,builtin,Qk,Uo,Un,Zx,Cm,Qu,g,hx,hr]
theorem dI {d:List Oper} {o:Oper} {a:Act} {w:World} (p:o.guard=none) (s x:Operand) (t:TypeId) (ho:o.op=.call { callee:=.builtin .append,args:=#[s,x],argTypes:=#[t,t] })
 (base:Nat) (e:TypeId) (size:Nat) (ht:P.underlying t=some (.slice e)) (l:Inf P e size) (f:0<size) (v:Value) (n:Nat) (xs:List Value) (i:a.eval s=v) (j:w.ownsRow base e size v n xs) (c:Value) (m:Nat) (b:List Value) (hx:a.eval x=c) (g:Src w c size m b) (h1:∀ u∈b,u.oneCell'=true) (k:n+m<=1000000) (q:base<=w.heap.size)
 (h:∀ v' w',w'.ownsRow base e size v' (n+m) (xs++b)->w.grownBy w' v.ownBlock->(v'.ownBlock=v.ownBlock\/v'.ownBlock=some w.heap.size)->wpList P ops Q d (a.put o.dst v') w'):wpList P ops Q (o::d) a w:=by
 obtain ⟨v',w',hr,h2,y,r⟩:=xH w base t o.type e size ht l f v n xs j c m b g h1 k q;refine Z9 p (v:=v') (w':=w') ?_ (h v' w' h2 y r);unfold execOp;simp only [ho,resolve,invoke,builtin,Qk,Uo,Un,Zx,Cm,Qu,i,hx,hr]
end
section
variable {P:Program} (w:World)
end
section
variable {P:Program} {ops:Array Oper} {Q:Exit->Act->World->Prop}
end
end Go.Proofs.YtkdbheidpdjimaaGreatDoor
namespace Go.Proofs.YtkdbheidpdjimaaGreatDoor
open Proofs.Tryz Go.RowKit
section
variable {P:Program} {ops:Array Oper} {Q:Exit->Act->World->Prop} {md:Region.Mode} {S:World->Prop} {T:Nat}
end
end Go.Proofs.YtkdbheidpdjimaaGreatDoor
namespace Go.Proofs.YtkdbheidpdjimaaGreatDoor
open Go.RowKit Go.Maps
variable {W c:Int} {e t:TypeId} {ts:LB} {f l pl:List (ByteArray×Value)} {k:BY} {w w':World} {R:Value->Option (DataW Value×List MemPlace)} {B H N b bP bR bT n:Nat} {D:DataW Value} {v z:Value} {rv vs:List Value} {ops:Array Oper} {o:Oper} {a:Act} {K:Act->World->Prop} {Q:Exit->Act->World->Prop} {E:Prop} {row:Option Nat} {rs:List R3} {zs:List Int}
def QA (c:Int) (t:BY):BY:=Y2 (l7 c t.data.toList)
def hC (t:BY):Int:=((t.data.toList.headD 0).toNat:Int) - 48
def hT (t:BY):BY:=Y2 (t.data.toList.drop 2)
def hV (t:BY):Value:=.agg #[.string t,.int .i64 (hC t),.string (hT t)]
def gT (W:Int) (t:BY):BY×Value:=(E5 t W,hV t)
theorem dY {a b:BY} (h:hV a=hV b):a=b:=by
 unfold hV at h;simp at h;exact h.1
theorem oG (l:List UInt8):(Y2 l).data.toList=l:=by simp [Y2]
theorem YK {l:List UInt8} {u:List UInt8} (h:lD l c u true):hC (Y2 l)=c/\hT (Y2 l)=Y2 u:=by
 obtain ⟨hv,rfl⟩:=h.1 rfl;have:=Bh hv;unfold hC hT;rw [oG];refine ⟨?_,rfl⟩;simp only [fJ,wE];omega
theorem sD {t:BY} (h:vr c t.data.toList=true):lD (QA c t).data.toList c t.data.toList true:=by
 refine ⟨fun _=>⟨h,?_⟩,(fun h=>by cases h)⟩;unfold QA;rw [oG];unfold l7;rw [G8 h]
theorem oZ {t:BY} (h:vr c t.data.toList=true):hV (QA c t)=.agg #[.string (QA c t),.int .i64 c,.string t]:=by
 obtain ⟨h1,h2⟩:=YK (sD h);rw [qp] at h1 h2;unfold hV;rw [h1,h2,qp]
def Tj (W:Int) (t:BY):LB->LB
 | []=>[t]
 | y::r=>if Aq (E5 t W) (E5 y W) then t::y::r else y::Tj W t r
theorem Vy (W:Int) (t:BY) (ts:LB):(Tj W t ts).map (gT W)=Rf (gT W t) (ts.map (gT W)):=by
 induction ts with
 | nil=>rfl
 | cons y r ih=>
  unfold Tj;show _=if Aq (E5 t W) (E5 y W)=true then _ else _;split
  · rfl
  · simp [ih]
def W_ (W:Int) (t:BY) (ts:LB):LB×Bool:=
 match ts.find? (fun y=>decide (E5 y W=E5 t W)) with
 | some y=>(ts,decide (y=t))
 | none=>(Tj W t ts,true)
def X6 (W:Int):LB->LB×Bool->LB×Bool
 | [],s=>s
 | t::r,s=>X6 W r ((W_ W t s.1).1,s.2&&(W_ W t s.1).2)
theorem Qa (W:Int) (a b:LB) (s:LB×Bool):X6 W (a++b) s=X6 W b (X6 W a s):=by
 induction a generalizing s with
 | nil=>rfl
 | cons t r ih=>exact ih _
theorem Ip (W:Int) (a:LB) (ts:LB):(X6 W a (ts,false)).2=false:=by
 induction a generalizing ts with
 | nil=>rfl
 | cons t r ih=>exact ih _
def Zh (W:Int) (ts:LB):Prop:=Asc (ts.map (gT W))
theorem NF {t y:BY} (hA:Zh W ts) (a:y∈ts) (b:E5 y W=E5 t W):ts.find? (fun y=>decide (E5 y W=E5 t W))=some y:=by
 cases hq:ts.find? (fun y=>decide (E5 y W=E5 t W)) with
 | none=>exact absurd (by simpa using b) (Px.1 hq y a)
 | some z=>
  have h1:=List.mem_of_find?_eq_some hq;have h2:E5 z W=E5 t W:=by simpa using yI hq
  have e1:=Oo hA (fF (f:=gT W) a);have e:=Oo hA (fF (f:=gT W) h1);have d:X_ (ts.map (gT W)) (E5 y W)=some (hV y):=e1;have c:X_ (ts.map (gT W)) (E5 z W)=some (hV z):=e;rw [b] at d;rw [h2,d] at c;rw [dY (Q9 c)]
theorem tJ {t:BY}:ts.find? (fun y=>decide (E5 y W=E5 t W))=none↔X_ (ts.map (gT W)) (E5 t W)=none:=by
 rw [Ja,Px];constructor
 · intro h p b;obtain ⟨y,a,rfl⟩:=Jl.1 b;simpa [gT] using h y a
 · intro h y a;simpa [gT] using h _ (fF (f:=gT W) a)
theorem BG {t:BY} (hA:Zh W ts):Zh W (W_ W t ts).1:=by
 unfold W_
 cases hq:ts.find? (fun y=>decide (E5 y W=E5 t W)) with
 | some y=>exact hA
 | none=>
  show Asc ((Tj W t ts).map (gT W));rw [Vy];exact Qr hA (fun p a=>Ja.1 (tJ.1 hq) p a)
theorem Oq {a:LB} {b:Bool} (hA:Zh W ts):Zh W (X6 W a (ts,b)).1:=by
 induction a generalizing ts b with
 | nil=>exact hA
 | cons t r ih=>exact ih (BG hA)
structure Fr (W:Int) (l f:List (ByteArray×Value)) (ts:LB):Prop where
 asc:Zh W ts
 perm:(ts.map (gT W)).Perm (f++l)
 la:Asc l
 fa:Asc f
 dis:∀ p∈f,X_ l p.1=none
theorem Fr.start (h:Zh W ts):Fr W (ts.map (gT W)) [] ts:=⟨h,mF _,h,List.Pairwise.nil,I4⟩
theorem Fr.met (h:Fr W l f ts) {t:BY} {v:Value} (hv:X_ l (E5 t W)=some v\/X_ f (E5 t W)=some v):∃ y,v=hV y/\W_ W t ts=(ts,decide (y=t)):=by
 have hm:(E5 t W,v)∈ts.map (gT W):=h.perm.mem_iff.2 (by
  rcases hv with hv | hv
  · exact List.mem_append_right _ (Py hv)
  · exact List.mem_append_left _ (Py hv))
 obtain ⟨y,a,e⟩:=Jl.1 hm;have e1:E5 y W=E5 t W:=P5 Prod.fst e;have b:hV y=v:=P5 Prod.snd e;refine ⟨y,b.symm,?_⟩;unfold W_;rw [NF h.asc a e1]
theorem Fr.add (h:Fr W l f ts) {t:BY} (h1:X_ l (E5 t W)=none) (h2:X_ f (E5 t W)=none):W_ W t ts=(Tj W t ts,true)/\Fr W l (Rf (gT W t) f) (Tj W t ts):=by
 have b:X_ (ts.map (gT W)) (E5 t W)=none:=Ja.2 (fun p a=>by
  rcases jh.1 (h.perm.mem_iff.1 a) with a | a
  · exact Ja.1 h2 p a
  · exact Ja.1 h1 p a)
 have e:W_ W t ts=(Tj W t ts,true):=by unfold W_;rw [tJ.2 b]
 refine ⟨e,?_,?_,h.la,Qr h.fa (fun p a=>Ja.1 h2 p a),fun p a=>?_⟩
 · have:=BG (t:=t) h.asc;rw [e] at this;exact this
 · rw [Vy];exact (Dc _ _).trans ((h.perm.cons _).trans ((Dc (gT W t) f).symm.append_right l))
 · rcases ve.1 ((Dc _ _).mem_iff.1 a) with rfl | a
   · exact h1
   · exact h.dis p a
theorem Fr.done (h:Fr W l f ts):Lib.mergeD (mapD l) (mapD f)=mapD (ts.map (gT W))/\l.length+f.length=ts.length:=by
 obtain ⟨c,b,a⟩:=uI f l h.fa h.la h.dis;refine ⟨?_,?_⟩
 · rw [a,dX c h.asc (b.trans h.perm.symm)]
 · have:=h.perm.length_eq;simp at this;omega
def Xh (ls:List L4) (c:Int) (t:BY):LB:=(v_ ls++[(c,t)]).map fun r=>QA r.1 r.2
def ah (W:Int) (x:L4):G3:=⟨x.has,x.nm,E5 (Wi x) W⟩
def Bg (W:Int) (m:M3) (ls:List L4) (c:Int) (t:BY):R3:=⟨L9 m,ls.map (ah W),E5 (QA c t) W⟩
def st0:St:=⟨0,[],[]⟩
open Classical in
noncomputable def Vd (rs:List R3) (x:R3):List R3:=if x∈rs then rs else rs++[x]
open Classical in
noncomputable def K_ (s:St) (m:M3) (ls:List L4) (c:Int) (t:BY):St×Int:=
 if ¬ dh s then (st0,1) else if ¬ lg m ls c t then (st0,2) else
 if (X6 s.wd (Xh ls c t) (s.ts,true)).2=false then (st0,3) else
 if 300<(X6 s.wd (Xh ls c t) (s.ts,true)).1.length\/150<(Vd s.rs (Bg s.wd m ls c t)).length then (st0,4) else
 (⟨s.wd,(X6 s.wd (Xh ls c t) (s.ts,true)).1,Vd s.rs (Bg s.wd m ls c t)⟩,0)
theorem fK:∀ (a b:List UInt8),Op.bytesLess a b=bytesBefore a b
 | [],[]=>by simp [Op.bytesLess,bytesBefore]
 | [],_::_=>by simp [Op.bytesLess,bytesBefore]
 | _::_,[]=>by simp [Op.bytesLess,bytesBefore]
 | x::r,y::s=>by
  have:=fK r s;simp only [Op.bytesLess,bytesBefore];rw [this]
theorem Dl {s:St} (h:dh s):Zh s.wd s.ts:=by
 obtain ⟨_,⟨_,h2⟩,_⟩:=h;have key:∀ (ts:LB),(∀ k,k<ts.length->k=0\/Aq (E5 (ts.getD (k - 1) ByteArray.empty) s.wd) (E5 (ts.getD k ByteArray.empty) s.wd)=true)->Zh s.wd ts:=by
  intro ts
  induction ts with
  | nil=>intro _;exact List.Pairwise.nil
  | cons y r ih=>
   intro h;have hr:Zh s.wd r:=ih (fun k b=>by
    by_cases h0:k=0
    · exact .inl h0
    · refine .inr ?_;have:=(h (k+1) U7).resolve_left O0;simp only [xI] at this;have e1:(y::r).getD (k+1) ByteArray.empty=r.getD k ByteArray.empty:=rfl;have d:(y::r).getD k ByteArray.empty=r.getD (k - 1) ByteArray.empty:=by
       obtain ⟨j,rfl⟩:∃ j,k=j+1:=⟨k - 1,O0⟩;rfl
      rw [e1,d] at this;exact this)
   refine Ny.2 ⟨fun p a=>?_,hr⟩
   cases r with
   | nil=>cases a
   | cons z q=>
    have h1:=(h 1 I4).resolve_left O0;have c:Aq (E5 y s.wd) (E5 z s.wd)=true:=h1;rcases ve.1 a with rfl | a
    · exact c
    · exact Pz c ((Ny.1 hr).1 p a)
 refine key s.ts fun k b=>?_;rcases (h2 k b).2 with h0 | h0
 · exact .inl h0
 · refine .inr ?_;rw [fK] at h0;unfold Aq;rw [<- ByteArray.toList_eq,<- ByteArray.toList_eq];exact h0
open Proofs.Tryz
theorem Rt:Keyed prog 9:=string_keyed underlying9
theorem UZ:Keyed prog 3:=int_keyed underlying3
theorem keyS (h:k.size<=maxLen):keyOf prog 9 (.string k)=some (kS k):=Go.WideMaps.keyOf_string_mk underlying9 h
theorem lZ {i:Nat} (h:i<=1048576):keyOf prog 3 (.int .i64 i)=some (.int .i64 i):=keyOf_int_mk underlying3 (WalkArith.wf_i64 O0)
theorem Nh {k:TypeId} (h:w.ownsMap prog k R b n D):w.ownsMap prog k R b (size D) D:=by
 obtain ⟨es,d,c,F,hs,a⟩:=h;refine ⟨es,d,c,F,?_,a⟩;rw [a,size_eq,length_sorted];simp
theorem z_ {k:TypeId} (h:w.ownsMap prog k R b n D) (c:Below N w w') (d:b<N):w'.ownsMap prog k R b n D:=by
 obtain ⟨es,e,a,r⟩:=h;exact ⟨es,e,(c.block b d).trans a,r⟩
theorem Ph {k:TypeId} (h:w.ownsMap prog k R b n D):∃ es a,w.heap[b]?=some (.map es a):=by
 obtain ⟨es,a,c,r⟩:=h;exact ⟨es,a,c⟩
theorem JD {d:DataW Value} {ps:List MemPlace} (h:Y_ v=some (d,ps)):d=.held v:=by
 unfold Y_ at h;simp only [jv,OI] at h;exact h.1.symm
theorem Zt (h:w.ownsMap prog 9 Y_ b n (mapD l)) (ht:prog.underlying t=some (.map 9 e)) (a:(zeroValue e).run prog w=.ok z w) (c:k.size<=maxLen):
 (Instr.lookup t (.map (some b)) (.string k) true).run prog w=.ok (.tuple #[(X_ l k).getD z,.bool (X_ l k).isSome]) w:=by
 obtain ⟨v,ps,hr,hv⟩:=h.look_ok Rt ht a (zd:=.held z) (zp:=[]) rfl (keyS c);have hd:=JD hv;rw [uJ] at hd;rw [YQ] at hr;rw [hr]
 cases hg:X_ l k with
 | none=>rw [hg] at hd;simp at hd;rw [hd];rfl
 | some u=>rw [hg] at hd;simp at hd;rw [hd];rfl
theorem oI (h:w.ownsMap prog 9 Y_ b n (mapD l)) (ht:prog.underlying t=some (.map 9 e)) (a:(zeroValue e).run prog w=.ok z w) (c:k.size<=maxLen):
 (Instr.lookup t (.map (some b)) (.string k) false).run prog w=.ok ((X_ l k).getD z) w:=by
 obtain ⟨v,ps,hr,hv⟩:=h.lookup Rt ht a (zd:=.held z) (zp:=[]) rfl (keyS c);have hd:=JD hv;rw [uJ] at hd;rw [hr]
 cases hg:X_ l k with
 | none=>rw [hg] at hd;simp at hd;rw [hd];rfl
 | some u=>rw [hg] at hd;simp at hd;rw [hd];rfl
theorem pO {k:Nat} (h:w.ownsMap prog 3 Y_ b n (intD vs)) (ht:prog.underlying t=some (.map 3 e)) (a:(zeroValue e).run prog w=.ok z w) (d:k<=1048576) (c:k<vs.length):
 (Instr.lookup t (.map (some b)) (.int .i64 k) false).run prog w=.ok (vs.getD k undef) w:=by
 obtain ⟨v,ps,hr,hv⟩:=h.lookup UZ ht a (zd:=.held z) (zp:=[]) rfl (lZ d);have hd:=JD hv;rw [uT,G8 c] at hd;simp at hd;rw [hr,Pj,hd]
theorem a1O (h:w.ownsMap prog 9 Y_ b n (mapD l)) (ht:prog.underlying t=some (.map 9 e)) (a:n<maxLen) (c:k.size<=maxLen):
 ∃ w',(Instr.mapUpdate t (.map (some b)) (.string k) v).run prog w=.ok () w'/\w'.ownsMap prog 9 Y_ b (n+1) ((mapD l).put (kS k) (.held v))/\w.grownBy w' (some b):=
 h.update Rt ht a (keyS c) (d:=.held v) (ps:=[]) rfl
theorem a2m (h:w.ownsMap prog 3 Y_ b n (intD vs)) (ht:prog.underlying t=some (.map 3 e)) (c:n<maxLen) (f:vs.length<=1048576):
 ∃ w',(Instr.mapUpdate t (.map (some b)) (.int .i64 vs.length) v).run prog w=.ok () w'/\w'.ownsMap prog 3 Y_ b (vs++[v]).length (intD (vs++[v]))/\w.grownBy w' (some b):=by
 obtain ⟨w',h1,h2,g⟩:=h.update UZ ht c (lZ f) (d:=.held v) (ps:=[]) rfl;rw [JP] at h2;have a:=Nh h2;rw [Ll] at a;exact ⟨w',h1,a,g⟩
theorem YO (i:o.guard=none) (t:TypeId) (m x v:Operand) (ho:o.op=Op.mapUpdate t m x v) {b n:Nat} {vs:List Value} {e:TypeId} {vv:Value}
 (hm:a.eval m=.map (some b)) (hx:a.eval x=.int .i64 vs.length) (hv:a.eval v=vv) (h:w.ownsMap prog 3 Y_ b n (intD vs)) (ht:prog.underlying t=some (.map 3 e)) (f:n<maxLen) (g:vs.length<=1048576) (d:o.dst=none)
 (j:∀ w',w'.ownsMap prog 3 Y_ b (vs++[vv]).length (intD (vs++[vv]))->w.grownBy w' (some b)->K a w'):
 if Region.wanted o (yielded ops a.tmps)=true then Oper.wp prog o a w K Q else E:=by
 have hw:Region.wanted o (yielded ops a.tmps)=true:=by simp [Region.wanted,i]
 rw [G8 hw];obtain ⟨w',hr,h1,h2⟩:=a2m (v:=vv) h ht f g;have c:=j w' h1 h2;unfold Oper.wp;simp [execOp,ho,hm,hx,hv,hr,Result.andThen]
 first
  | exact c
  | (simp only [Oper.upon];exact c)
  | (simp only [Oper.upon,d];exact c)
  | (simp only [Act.put,d];exact c)
theorem Jy (i:o.guard=none) (t:TypeId) (m x v:Operand) (ho:o.op=Op.mapUpdate t m x v) {b n:Nat} {l:List (ByteArray×Value)} {k:BY} {e:TypeId} {vv:Value}
 (hm:a.eval m=.map (some b)) (hx:a.eval x=.string k) (hv:a.eval v=vv) (h:w.ownsMap prog 9 Y_ b n (mapD l)) (ht:prog.underlying t=some (.map 9 e)) (f:n<maxLen) (g:k.size<=maxLen) (d:o.dst=none)
 (j:∀ w',w'.ownsMap prog 9 Y_ b (n+1) ((mapD l).put (kS k) (.held vv))->w.grownBy w' (some b)->K a w'):
 if Region.wanted o (yielded ops a.tmps)=true then Oper.wp prog o a w K Q else E:=by
 have hw:Region.wanted o (yielded ops a.tmps)=true:=by simp [Region.wanted,i]
 rw [G8 hw];obtain ⟨w',hr,h1,h2⟩:=a1O (v:=vv) h ht f g;have c:=j w' h1 h2;unfold Oper.wp;simp [execOp,ho,hm,hx,hv,hr,Result.andThen]
 first
  | exact c
  | (simp only [Oper.upon];exact c)
  | (simp only [Oper.upon,d];exact c)
  | (simp only [Act.put,d];exact c)
def YA (B:Nat) (w:World) (v:Value) (x:R3):Prop:=∃ a c,v=.agg #[.string x.key,.slice a x.gs.length c,.string x.out]/\Z_ w a x.gs/\(x.gs=[]\/∃ b off,a=some ⟨b,off,none⟩/\(b<B\/∃ cur fr,w.heap[b]?=some (.cells cur 178 fr)))
def vJ (B:Nat) (w:World) (row:Option Nat):Prop:=∀ j,row=some j->B<=j/\∀ cur fr,w.heap[j]?≠some (.cells cur 178 fr)
theorem YA.kept {x:R3} (h:YA B w v x) (m:w.grownBy w' row) (hr:vJ B w row):YA B w' v x:=by
 obtain ⟨a,c,hv,q,p⟩:=h;rcases p with f | ⟨b,off,ha,d⟩
 · exact ⟨a,c,hv,.inl f,.inl f⟩
 · rcases q with f | ⟨b',k,j,l,hc⟩
   · exact ⟨a,c,hv,.inl f,.inl f⟩
   · obtain ⟨rfl,rfl⟩:b'=b/\k=off:=by rw [ha] at j;simp at j;exact ⟨j.1.symm,j.2.symm⟩
     have n:some b'≠row:=fun e=>by
      have:=hr b' e.symm;rcases d with d | ⟨cur,fr,d⟩
      · omega
      · exact this.2 cur fr d
     have g:=m.block b' l n;refine ⟨a,c,hv,.inr ⟨b',k,ha,m_ l m.size,fun i o=>?_⟩,.inr ⟨b',k,ha,?_⟩⟩
     · obtain ⟨h0,h1,h2⟩:=hc i o;refine ⟨?_,?_,?_⟩
       · rw [<- h0];simp only [World.cell?,g]
       · rw [<- h1];simp only [World.cell?,g]
       · rw [<- h2];simp only [World.cell?,g]
     · rcases d with d | ⟨cur,fr,d⟩
       · exact .inl d
       · exact .inr ⟨cur,fr,g.trans d⟩
def Jw (rs:List R3) (k:BY):List Int:=((List.range rs.length).filter fun i=>decide ((rs.getD i g_).key=k)).map fun i:Nat=>(i:Int)
theorem uG (rs:List R3) (x:R3) (k:BY):Jw (rs++[x]) k=Jw rs k++if x.key=k then [(rs.length:Int)] else []:=by
 unfold Jw;rw [N9,Ej,VE,gu,Fg]
 congr 1
 · congr 1
   apply List.filter_congr;intro i a;have:=Gs.1 a;have e:(rs++[x]).getD i g_=rs.getD i g_:=by simp [List.getD,I_ this]
   rw [e]
 · by_cases h:x.key=k <;> simp [List.getD,h]
theorem yE (rs:List R3) (k:BY):(Jw rs k).length<=rs.length:=by
 unfold Jw;rw [Lc];exact Q7 (NH _ _) I4
def Gf (w:World) (b:Nat) (t:TypeId):Prop:=∃ cur fr,w.heap[b]?=some (.cells cur t fr)
theorem Gf.below (h:Gf w b t) (a:Below N w w') (c:b<N):Gf w' b t:=by
 obtain ⟨cur,fr,h⟩:=h;exact ⟨cur,fr,(a.block b c).trans h⟩
theorem Gf.kept (h:Gf w b t) (c:w.grownBy w' row) (a:some b≠row):Gf w' b t:=by
 obtain ⟨cur,fr,h⟩:=h;exact ⟨cur,fr,(c.block b (D_.1 h).1 a).trans h⟩
theorem Xc (w:World) (a:Array Value) (t:TypeId):Gf (w.alloc (.cells a t)) w.heap.size t:=⟨a,(0,0),(MapKept.heap_alloc w _).1⟩
structure SA (B H bT bR bP:Nat) (W:Int) (l:List (ByteArray×Value)) (rv:List Value) (pl:List (ByteArray×Value)) (w:World):Prop where
 hH:B<=H
 hT:B<=bT
 hR:B<=bR
 hP:B<=bP
 lt:H<w.heap.size
 n1:bT≠bR
 n2:bT≠bP
 n3:bR≠bP
 blk:X4 w H [.int .i64 W,.map (some bT),.map (some bR),.map (some bP)]
 tx:w.ownsMap prog 9 Y_ bT l.length (mapD l)
 ta:Asc l
 rc:w.ownsMap prog 3 Y_ bR rv.length (intD rv)
 pc:w.ownsMap prog 9 Y_ bP pl.length (mapD pl)
 pa:Asc pl
 ty:Gf w H 188
structure ShR (B:Nat) (rs:List R3) (rv:List Value) (pl:List (ByteArray×Value)) (w:World):Prop where
 len:rv.length=rs.length
 recs:∀ i,i<rs.length->YA B w (rv.getD i undef) (rs.getD i g_)
 grp:∀ k v,X_ pl k=some v->w.ownsInts B 3 .i64 v (Jw rs k)
 non:∀ k,X_ pl k=none->Jw rs k=[]
 apart:∀ k k' v v',k≠k'->X_ pl k=some v->X_ pl k'=some v'->v.ownBlock=none\/v.ownBlock≠v'.ownBlock
 pln:pl.length<=rs.length
theorem Vg (h:w.cell? ⟨H,0,none⟩=some v) {es:Array MapEntry} {c:Nat} (hm:w.heap[b]?=some (.map es c)):H≠b:=fun e=>by
 subst e;simp [World.cell?,hm] at h
theorem a_ (a:w.grownBy w' row) (hr:∀ j,row=some j->N<=j) (hN:N<=w.heap.size):Below N w w':=
 ⟨a.os,a.tape,a.output,a.size,fun k hk=>a.block k O0 (fun e=>by have:=hr k e.symm;omega)⟩
theorem Tf (h:Bw w w'):w.grownBy w' none:=⟨h.os,h.tape,h.output,h.size,fun k a _=>h.block k a⟩
theorem D9 (h:X4 w H vs) (c:w.grownBy w' row) (b:H<w.heap.size) (a:some H≠row):X4 w' H vs:=fun j v e=>by
 have:=h j v e;simp only [World.cell?,c.block H b a];simpa only [World.cell?] using this
theorem SA.kept (h:SA B H bT bR bP W l rv pl w) (a:w.grownBy w' row) (b:some H≠row) (a2:some bT≠row) (d:some bR≠row) (c:some bP≠row):SA B H bT bR bP W l rv pl w':=
 ⟨h.hH,h.hT,h.hR,h.hP,m_ h.lt a.size,h.n1,h.n2,h.n3,D9 h.blk a h.lt b,h.tx.kept a a2,h.ta,h.rc.kept a d,h.pc.kept a c,h.pa,h.ty.kept a b⟩
theorem ShR.kept (h:ShR B rs rv pl w) (a:w.grownBy w' row) (hr:vJ B w row) (b:∀ k v,X_ pl k=some v->v.ownBlock=none\/v.ownBlock≠row):ShR B rs rv pl w':=
 ⟨h.len,fun i hl=>(h.recs i hl).kept a hr,fun k v e=>(h.grp k v e).kept a (b k v e),h.non,h.apart,h.pln⟩
theorem Hg (h:w.ownsInts B 3 .i64 v zs) {j:Nat} (a:v.ownBlock=some j):B<=j/\j<w.heap.size/\∃ cur,w.heap[j]?=some (.cells cur 3 (0,0)):=by
 rcases h.1.2 with ⟨rfl,_⟩ | ⟨g,cap,cur,rfl,c,b,_⟩
 · simp [Value.ownBlock] at a
 · simp [Value.ownBlock] at a;subst a;exact ⟨c,(D_.1 b).1,cur,b⟩
theorem ShR.below (h:ShR B rs rv pl w) (a:Bw w w'):ShR B rs rv pl w':=
 h.kept (Tf a) (fun _ e=>by cases e) (fun k v e=>by
  cases hq:v.ownBlock with
  | none=>exact .inl rfl
  | some j=>exact .inr I4)
theorem SA.below (h:SA B H bT bR bP W l rv pl w) (a:Bw w w'):SA B H bT bR bP W l rv pl w':=
 h.kept (Tf a) I4 I4 I4 I4
theorem ShR.map (h:ShR B rs rv pl w) (a:w.grownBy w' (some b)) (hB:B<=b) {es:Array MapEntry} {c:Nat} (hm:w.heap[b]?=some (.map es c)):ShR B rs rv pl w':=
 h.kept a (fun j e=>by cases e;exact ⟨hB,fun cur fr e=>by rw [hm] at e;simp at e⟩) (fun k v e=>by
  cases hq:v.ownBlock with
  | none=>exact .inl rfl
  | some j=>
   refine .inr fun d=>?_;obtain ⟨_,_,cur,hc⟩:=Hg (h.grp k v e) hq;cases d;rw [hm] at hc;simp at hc)
theorem Vx (ha:Asc l) (k:BY) (v:Value):Asc (Rf (k,v) (l.filter fun p=>!decide (p.1=k)))/\∀ k',X_ (Rf (k,v) (l.filter fun p=>!decide (p.1=k))) k'=if k'=k then some v else X_ l k':=by
 have hf:Asc (l.filter fun p=>!decide (p.1=k)):=ha.filter _;have hA:Asc (Rf (k,v) (l.filter fun p=>!decide (p.1=k))):=Qr hf (fun p a=>by have:=(Pv.1 a).2;simpa using this);refine ⟨hA,fun k'=>?_⟩;have b:∀ p,p∈Rf (k,v) (l.filter fun p=>!decide (p.1=k))↔p=(k,v)\/(p∈l/\p.1≠k):=fun p=>by
  rw [(Dc _ _).mem_iff,ve,Pv];simp
 by_cases h:k'=k
 · subst h;rw [G8 rfl];exact Oo hA ((b _).2 (.inl rfl))
 · rw [A8 h]
   cases hq:X_ l k' with
   | none=>
    exact Ja.2 (fun p a=>by
     rcases (b p).1 a with rfl | ⟨a,_⟩
     · exact fun e=>h e.symm
     · exact Ja.1 hq p a)
   | some u=>exact Oo hA ((b _).2 (.inr ⟨Py hq,h⟩))
theorem EC (l:List (ByteArray×Value)) (k:BY) (v:Value):(mapD l).put (kS k) (.held v)=mapD (Rf (k,v) (l.filter fun p=>!decide (p.1=k))):=by
 show DataW.map (DataW.insert (eS (k,v)) ((l.map eS).filter fun p=>!p.1.sameKey (kS k)))=DataW.map ((Rf (k,v) _).map eS);rw [UJ,List.filter_map]
 congr 2
 congr 1
 apply List.filter_congr;intro p _;show (!(kS p.1).sameKey (kS k))=_;rw [Rw]
def KF (w w':World):Prop:=∀ q t,Gf w q t->t≠3->w'.heap[q]?=w.heap[q]?
theorem KF.trans {u v:World} (h:KF w u) (g:KF u v):KF w v:=fun q t hT ht=>by
 have e:=h q t hT ht;obtain ⟨cs,fr,a⟩:=hT;exact (g q t ⟨cs,fr,e.trans a⟩ ht).trans e
theorem Ed (h:Below N w w') (hN:w.heap.size<=N):KF w w':=fun q t hT _=>h.block q (by obtain ⟨cs,fr,a⟩:=hT;have:=(D_.1 a).1;omega)
theorem jy {c:Nat} {es:Array MapEntry} (d:w.grownBy w' (some b)) (hm:w.heap[b]?=some (.map es c)):KF w w':=fun q t hT _=>by
 obtain ⟨cs,fr,a⟩:=hT;refine d.block q (D_.1 a).1 fun e=>?_;obtain rfl:=Q9 e;rw [hm] at a;cases a
theorem IK (b:w.grownBy w' v.ownBlock) (h:w.ownsInts B 3 .i64 v zs):KF w w':=fun q t hT ht=>by
 obtain ⟨cs,fr,a⟩:=hT;refine b.block q (D_.1 a).1 fun e=>?_;obtain ⟨_,_,cur,hc⟩:=Hg h e.symm;rw [a] at hc;injection hc with hc;injection hc with _ hc _;exact ht hc
open Go.RowKit
theorem EJ:(prog.info? 167).map (fun i=>(i.zero,i.size,i.bytes))=some (some (.agg #[Value.bool false,.string ⟨#[]⟩,.int .i64 0,.string ⟨#[]⟩]),4,48):=J3

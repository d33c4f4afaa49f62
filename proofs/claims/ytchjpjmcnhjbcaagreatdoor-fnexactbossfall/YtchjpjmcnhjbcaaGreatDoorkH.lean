import Derived.Test.YtchjpjmcnhjbcaaGreatDoorQA
import Derived.Test.YtchjpjmcnhjbcaaGreatDoorEZA
import Derived.Maps.AppendAt
import Derived.Laws.OwnMore
set_option maxRecDepth 100000
set_option linter.unusedVariables false
set_option maxHeartbeats 8000000
namespace Go.Proofs.YtchjpjmcnhjbcaaGreatDoor
open Proofs.Tryz Go.RowKit
def KC (P:Program) (md:Region.Mode) (ops:Array Oper) (Q:Exit->Act->World->Prop) (S:World->Prop) (T:Nat):Nat->Array Bool->Act->World->Prop
 | 0,l,a,w=>Region.ready md ops l=[]/\Q .normal a w
 | n+1,l,a,w=>(Region.ready md ops l=[]->Q .normal a w)/\∀ i∈Region.ready md ops l,wpOp P ops Q i (fun a' w'=>(i≠T->S w')/\KC P md ops Q S T n (l.setIfInBounds i true) a' w') a w
section
variable {P:Program} {ops:Array Oper} {Q:Exit->Act->World->Prop} {md:Region.Mode} {S:World->Prop} {T:Nat}
theorem iW (n:Nat):∀ (l:Array Bool) (a:Act) (w:World),KC P md ops Q S T n l a w->wpAny P md ops Q n l a w:=by
 induction n with
 | zero=>exact fun _ _ _ h=>h
 | succ n ih=>exact fun _ _ _ h=>⟨h.1,fun i b=>wpOp_mono (fun d w' c=>ih _ d w' c.2) (h.2 i b)⟩
def ou (md:Region.Mode) (ops:Array Oper) (T i:Nat):Bool:=(ops[T]?).any fun o=>o.after.any fun e=>Region.binds md e&&e.on==i
theorem WT {l:Array Bool} {T i:Nat} (hT:ou md ops T i=true) (d:i∈Region.ready md ops l):T∉Region.ready md ops l:=fun h=>by
 obtain ⟨_,o,ho,e⟩:=mem_ready.1 h;unfold ou at hT;rw [ho] at hT;simp only [Option.any_some,Array.any_eq_true] at hT;obtain ⟨k,c,a⟩:=hT;simp only [V_,Ko] at a;have h1:=e _ (Array.getElem_mem c) a.1;have h0:=(mem_ready.1 d).1;rw [a.2] at h1;rcases Q7 i l.size with b | b
 · simp [b] at h0 h1;rw [h0] at h1;cases h1
 simp [Xp b] at h1
theorem RN {i:Nat} {g:Oper} {v:Value} (s:ops[i]?=some g) (hT:ou md ops T i=true) (x:∀ (j:Nat) (o:Oper) cs b,ops[j]?=some o->o.op≠.select cs b)
 (hQ:∀ c a w,Q (.panic c) (a.put g.dst v) w->Q (.panic c) a w) (n:Nat):∀ (l:Array Bool) (a:Act) (w:World),
  (∀ j f,ops[j]?=some f->j≠i->l.getD j true=false->(∀ e∈f.after,Region.binds md e=true->e.on≠i)->g.apart ops f=true)->
  i∈Region.ready md ops l->YieldsIf P ops S g v a->S w->
  KC P md ops Q S T n (l.setIfInBounds i true) (a.put g.dst v) w->KC P md ops Q S T (n+1) l a w:=by
 have E:∀ (l:Array Bool) j,i∈Region.ready md ops l->j∈Region.ready md ops l->j≠T:=fun l j h1 h2 e=>WT hT h1 (e▸h2)
 induction n with
 | zero=>
  refine fun l a w _ hr q p H=>⟨fun h=>absurd (h▸hr) Sm,fun j m=>?_⟩;by_cases d:j=i
  · subst d;exact q.wpOp s p ⟨fun _=>p,H⟩
  exact absurd (H.1▸ready_mono m d) Sm
 | succ n ih=>
  refine fun l a w A hr q p H=>⟨fun h=>absurd (h▸hr) Sm,fun j m=>?_⟩;by_cases d:j=i
  · subst d;exact q.wpOp s p ⟨fun _=>p,H⟩
  have L:=E l j hr m;obtain ⟨u,f,r,R⟩:=mem_ready.1 m;have F:∀ e∈f.after,Region.binds md e=true->e.on≠i:=fun e he O N=>by
   have h1:=R e he O;have h0:=(mem_ready.1 hr).1;rw [N] at h1;rcases Q7 i l.size with t | t
   · simp [t] at h0 h1;rw [h0] at h1;cases h1
   simp [Xp t] at h1
  refine wpOp_mono (fun U w' h=>?_) (wpOp_putIf r (A j f r d u F) (fun cs b=>x i g cs b s) (fun cs b=>x j f cs b r) hQ q (H.2 j (ready_mono m d)));obtain ⟨B,y,C⟩:=h;refine ⟨y,ih _ U w' (fun k ok K J D I=>A k ok K J ?_ I) (ready_mono hr (Ne.symm d)) B (y L) ?_⟩
  · by_cases z:j=k
    · exact z▸u
    rwa [getD_set_ne true z] at D
  rw [Array.setIfInBounds_comm _ _ d];exact C
theorem PS {i:Nat} (hT:ou md ops T i=true) {b:Oper} {v:Value} {n:Nat} {l:Array Bool} {a:Act} {w:World} (d:ops[i]?=some b)
 (f:Region.noSelect ops=true) (hf:Region.free md ops l i=true) (hr:(Region.ready md ops l).contains i=true)
 (hQ:∀ c a w,Q (.panic c) (a.put b.dst v) w->Q (.panic c) a w) (e:YieldsIf P ops S b v a) (g:S w)
 (h:KC P md ops Q S T n (l.setIfInBounds i true) (a.put b.dst v) w):KC P md ops Q S T (n+1) l a w:=
 RN d hT (Region.noSelect_spec f) hQ n l a w (Region.free_spec d hf) (by simpa using hr) e g h
def b_ (P:Program) (md:Region.Mode) (ops:Array Oper) (Q:Exit->Act->World->Prop) (S:World->Prop) (T n:Nat) (l:Array Bool) (a:Act) (w:World) (rs:List Nat):Prop:=
 ∀ i∈rs,wpOp P ops Q i (fun a' w'=>(i≠T->S w')/\KC P md ops Q S T n (l.setIfInBounds i true) a' w') a w
theorem b_.nil {n:Nat} {l:Array Bool} {a:Act} {w:World}:b_ P md ops Q S T n l a w []:=fun _ h=>absurd h Sm
theorem b_.cons {n:Nat} {l:Array Bool} {a:Act} {w:World} {i:Nat} (hne:i≠T) {o:Oper} {rs:List Nat} (ho:ops[i]?=some o)
 (h:∀ b:Act->World->Prop,Shut (∀ a w,S w->(S w->KC P md ops Q S T n (l.setIfInBounds i true) a w)->b a w)->if Region.wanted o (yielded ops a.tmps)=true then Oper.wp P o a w b Q else b (a.put o.dst undef) w)
 (e:b_ P md ops Q S T n l a w rs):b_ P md ops Q S T n l a w (i::rs):=fun j c=>by
 rcases Jd.1 c with rfl | c
 · exact wpOp_step ho (fun b g=>h b (fun a w d f=>g a w ⟨fun _=>d,f d⟩))
 exact e j c
theorem b_.last {n:Nat} {l:Array Bool} {a:Act} {w:World} {o:Oper} (ho:ops[T]?=some o)
 (h:∀ b:Act->World->Prop,Shut (∀ a w,KC P md ops Q S T n (l.setIfInBounds T true) a w->b a w)->if Region.wanted o (yielded ops a.tmps)=true then Oper.wp P o a w b Q else b (a.put o.dst undef) w):b_ P md ops Q S T n l a w [T]:=fun j c=>by
 obtain rfl:=Dv.1 c;exact wpOp_step ho (fun b f=>h b (fun a w d=>f a w ⟨fun e=>absurd rfl e,d⟩))
theorem Vo {rs:List Nat} {n:Nat} {l:Array Bool} {a:Act} {w:World} (hr:Region.ready md ops l=rs) (b:rs≠[]) (h:b_ P md ops Q S T n l a w rs):KC P md ops Q S T (n+1) l a w:=
 ⟨fun h0=>absurd (hr▸h0) b,hr▸h⟩
theorem qo {l:Array Bool} {a:Act} {w:World} (hr:Region.ready md ops l=[]) (h:Q .normal a w) (n:Nat):KC P md ops Q S T n l a w:=by
 cases n with
 | zero=>exact ⟨hr,h⟩
 | succ n=>exact ⟨fun _=>h,by rw [hr];simp⟩
theorem Zn {b:Nat} {a:Act} {w:World} (T:Nat) (hm:P.follows .mixedOrders=true) (c:S w.drew)
 (h:S w.drew->KC P .any ops Q S T ops.size (Array.replicate ops.size false) a w.drew):(Code.region b ops true).wp P Q a w:=
 wp_region_any hm (iW _ _ _ _ (h c))
theorem lk {i:Nat} {b:Oper} {v:Value} {n:Nat} {l:Array Bool} {a:Act} {w:World} (e:ops[i]?=some b) (d:(ou md ops T i&&Region.noSelect ops&&Region.free md ops l i&&(Region.ready md ops l).contains i)=true) (hw:Region.wanted b (yielded ops a.tmps)=true) (hv:∀ u,S u->(execOp a.eval b).run P u=.ok (.value v) u) (f:S w) (h:KC P md ops Q S T n (l.setIfInBounds i true) (a.put b.dst v) w) (hQ:∀ c a w,Q (.panic c) (a.put b.dst v) w->Q (.panic c) a w:=by exact fun _ _ _ h=>h):KC P md ops Q S T (n+1) l a w:=by
 simp only [V_] at d;exact PS d.1.1.1 e d.1.1.2 d.1.2 d.2 hQ (.inl ⟨hw,hv⟩) f h
theorem lq {v:Value} {n:Nat} {l:Array Bool} {a:Act} {w:World} {d:Option Nat} {op:Op} {ty:TypeId} {p:String} {af:Array Edge} {g:Option (Nat×Bool)} (i:Nat) (f:S w) (h:KC P md ops Q S T n (l.setIfInBounds i true) (a.put d v) w) (b:ops[i]?=some ⟨d,op,ty,p,af,g⟩:=by exact rfl) (e:(ou md ops T i&&Region.noSelect ops&&Region.free md ops l i&&(Region.ready md ops l).contains i)=true:=by kernel_rfl) (hw:Region.wanted ⟨d,op,ty,p,af,g⟩ (yielded ops a.tmps)=true:=by exact rfl) (hv:∀ u,S u->(execOp a.eval ⟨d,op,ty,p,af,g⟩).run P u=.ok (.value v) u:=by intro wq hSw;(try dsimp only at hSw);go_simp;try with_reducible rfl) (hQ:∀ c a w,Q (.panic c) (a.put d v) w->Q (.panic c) a w:=by first | exact fun _ _ _ h=>h | exact fun _ _ _ h=>hQ _ _ _ _ _ h):KC P md ops Q S T (n+1) l a w:=lk b e hw hv f h hQ
theorem lr {i:Nat} {o:Oper} {n:Nat} {l:Array Bool} {a:Act} {w:World} (ho:ops[i]?=some o) (c:i≠T) (hr:Region.ready md ops l=[i]) (h:∀ b:Act->World->Prop,Shut (∀ a w,S w->(S w->KC P md ops Q S T n (l.setIfInBounds i true) a w)->b a w)->if Region.wanted o (yielded ops a.tmps)=true then Oper.wp P o a w b Q else b (a.put o.dst undef) w):KC P md ops Q S T (n+1) l a w:=Vo hr X4 (b_.cons c ho h b_.nil)
theorem lz {o:Oper} {n:Nat} {l:Array Bool} {a:Act} {w:World} (ho:ops[T]?=some o) (hr:Region.ready md ops l=[T]) (h:∀ b:Act->World->Prop,Shut (∀ a w,KC P md ops Q S T n (l.setIfInBounds T true) a w->b a w)->if Region.wanted o (yielded ops a.tmps)=true then Oper.wp P o a w b Q else b (a.put o.dst undef) w):KC P md ops Q S T (n+1) l a w:=Vo hr X4 (b_.last ho h)
theorem GY {o:Oper} {a:Act} {w w':World} {v:Value} {K:Act->World->Prop} {E:Prop} (b:o.guard=none) (hr:(execOp a.eval o).run P w=.ok (.value v) w') (c:K (a.put o.dst v) w'):if Region.wanted o (yielded ops a.tmps)=true then Oper.wp P o a w K Q else E:=by
 rw [X7 (by simp [Region.wanted,b])];unfold Oper.wp;rw [hr];exact c
theorem zA {o:Oper} {a:Act} {w w':World} {K:Act->World->Prop} {E:Prop} (b:o.guard=none) (hr:(execOp a.eval o).run P w=.ok .skip w') (c:K (a.put o.dst undef) w'):if Region.wanted o (yielded ops a.tmps)=true then Oper.wp P o a w K Q else E:=by
 rw [X7 (by simp [Region.wanted,b])];unfold Oper.wp;rw [hr];exact c
theorem Y9 {rest:List Oper} {o:Oper} {a:Act} {w w':World} {v:Value} (b:o.guard=none) (hr:(execOp a.eval o).run P w=.ok (.value v) w') (h:wpList P ops Q rest (a.put o.dst v) w'):wpList P ops Q (o::rest) a w:=by
 refine cu b fun K c=>?_;unfold Oper.wp;rw [hr];exact c _ _ h
theorem Qz {rest:List Oper} {o:Oper} {a:Act} {w w':World} (b:o.guard=none) (hr:(execOp a.eval o).run P w=.ok .skip w') (h:wpList P ops Q rest (a.put o.dst undef) w'):wpList P ops Q (o::rest) a w:=by
 refine cu b fun K c=>?_;unfold Oper.wp;rw [hr];exact c _ _ h
end
def Cl (w:World) (b:Nat) (t:TypeId) (xs:List Value):Prop:=w.heap[b]?=some (.cells xs.toArray t (0,0))
structure uy (B:Nat) (w w':World):Prop where
 os:w'.os=w.os
 tape:w'.tape=w.tape
 output:w'.output=w.output
 size:w'.heap.size=w.heap.size
 block:∀ k,k≠B->w'.heap[k]?=w.heap[k]?
theorem Cl.lt {w:World} {b:Nat} {t:TypeId} {xs:List Value} (h:Cl w b t xs):b<w.heap.size:=(r_.1 h).1
theorem Cl.cell {w:World} {b:Nat} {t:TypeId} {xs:List Value} (h:Cl w b t xs) (j:Nat):w.cell? ⟨b,j,none⟩=xs[j]?:=by
 rw [Lib.cell_of_heap h j];simp
theorem Cl.opn {w:World} {b:Nat} {t:TypeId} {xs:List Value} (h:Cl w b t xs) (j:Nat):w.frozen? ⟨b,j,none⟩=false:=Lib.frozen_of_heap h j
theorem Cl.blk {w:World} {b:Nat} {t:TypeId} {xs:List Value} (h:Cl w b t xs):D5 w b xs:=fun j v e=>(h.cell j).trans e
theorem Cl.on {w w':World} {b B:Nat} {t:TypeId} {xs:List Value} (h:Cl w b t xs) (ho:uy B w w') (a:b≠B):Cl w' b t xs:=(ho.block b a).trans h
theorem Cl.below {w w':World} {b N:Nat} {t:TypeId} {xs:List Value} (h:Cl w b t xs) (a:Below N w w') (c:b<N):Cl w' b t xs:=(a.block b c).trans h
theorem Cl.set {w:World} {b:Nat} {t:TypeId} {xs:List Value} (h:Cl w b t xs) (j:Nat) (v:Value):Cl (w.setCell ⟨b,j,none⟩ v) b t (xs.set j v):=by
 have:=heap_setCell_same w b j _ t v h;unfold Cl;rw [this,YP]
theorem Ve (w:World) (b j:Nat) (v:Value):uy b w (w.setCell ⟨b,j,none⟩ v):=⟨rfl,rfl,rfl,X4,fun k a=>heap_setCell_other _ _ _ _ a⟩
theorem uy.below {B N:Nat} {w w':World} (h:uy B w w') (hN:N<=B):Below N w w':=⟨h.os,h.tape,h.output,qj h.size.symm,fun k hk=>h.block k O0⟩
theorem Y4 (w:World) (xs:List Value) (t:TypeId):Cl (w.alloc (.cells xs.toArray t)) w.heap.size t xs:=heap_alloc_new w _
theorem G9 {w:World} {b:Nat} {t:TypeId} {xs:List Value} (h:Cl w b t xs) (o:Obj):Cl (w.alloc o) b t xs:=(Lib.alloc_old w o b h.lt).trans h
theorem um {w:World} {b:Nat} {t:TypeId} {xs:List Value} (h:Cl w b t xs):∀ j u,xs[j]?=some u->w.cell? ((⟨b,0,none⟩:Addr).add j)=some u:=fun j u e=>by
 have ha:(aA b 0).add j=(aA b j):=by unfold Addr.add;split <;> simp_all
 rw [ha];exact (h.cell j).trans e
theorem Cl.fil {w:World} {B:Nat} {t:TypeId} {xs:List Value} (vs:List Value):∀ (j:Nat),Cl w B t xs->∃ ys,Cl (fill w B j vs) B t ys/\ys.length=xs.length/\∀ i,ys[i]?=if j<=i/\i<j+vs.length/\i<xs.length then vs[i - j]? else xs[i]?:=by
 induction vs generalizing w xs with
 | nil=>exact fun j h=>⟨xs,h,rfl,fun i=>by rw [I7];simp;omega⟩
 | cons v vs ih=>
  intro j h;obtain ⟨ys,h1,h2,b⟩:=ih (j+1) (h.set j v);refine ⟨ys,h1,by simpa using h2,fun i=>?_⟩;rw [b i];simp only [pI,o_];by_cases a:i=j
  · subst a;rw [I7 O0];by_cases hl:i<xs.length
    · rw [X7 ⟨O0,O0,hl⟩,VH hl];simp
    rw [I7 O0];simp [Yb (show (xs.set i v).length<=i by simp;omega),Yb (show xs.length<=i by omega)]
  by_cases hc:j<=i/\i<j+(vs.length+1)/\i<xs.length
  · rw [X7 hc,X7 O0];obtain ⟨d,rfl⟩:∃ d,i=j+1+d:=⟨i - (j+1),O0⟩;have e1:j+1+d - j=d+1:=O0;have c:j+1+d - (j+1)=d:=O0;rw [e1,c];simp
  rw [I7 hc,I7 O0,jD O0]
theorem YE (B:Nat) (vs:List Value):∀ (w:World) (j:Nat),uy B w (fill w B j vs):=by
 induction vs with
 | nil=>exact fun w j=>⟨rfl,rfl,rfl,rfl,fun _ _=>rfl⟩
 | cons v vs ih=>
  intro w j;have h1:=Ve w B j v;have h2:=ih (w.setCell (aA B j) v) (j+1);exact ⟨h2.os.trans h1.os,h2.tape.trans h1.tape,h2.output.trans h1.output,h2.size.trans h1.size,fun k a=>(h2.block k a).trans (h1.block k a)⟩
def Um (xs:List Value) (j:Nat) (vs:List Value):List Value:=xs.take j++vs++xs.drop (j+vs.length)
theorem Cl.PX {w:World} {B:Nat} {t:TypeId} {xs vs:List Value} {j:Nat} (h:Cl w B t xs) (hl:j+vs.length<=xs.length):Cl (fill w B j vs) B t (Um xs j vs):=by
 obtain ⟨ys,h1,h2,c⟩:=h.fil vs j;have:ys=Um xs j vs:=by
  apply List.ext_getElem?;intro i;rw [c i];unfold Um;by_cases b:i<j
  · rw [I7 O0,iq,S_ U7,VB b]
  by_cases a:i<j+vs.length
  · rw [X7 ⟨O0,a,O0⟩,iq,Ue U7,S_ U7]
    congr 1
    simp;omega
  rw [I7 O0,Ue U7,Yy]
  congr 1
  simp;omega
 rw [<- this];exact h1
section
variable {P:Program} {ops:Array Oper} {Q:Exit->Act->World->Prop}
theorem iI {o:Oper} {a:Act} {w:World} (ty:TypeId) (x y:Operand) (ho:o.op=.store ty x y) {B j:Nat} {t:TypeId} {xs vs:List Value} (hx:a.eval x=.pointer (some ⟨B,j,none⟩)) (b:a.eval y=.agg vs.toArray) (hB:Cl w B t xs) (hl:j+vs.length<=xs.length) (h1:∀ v∈vs,v.oneCell'=true) (c:(P.info? ty).map (·.size)=some vs.length):
 (execOp a.eval o).run P w=.ok .skip (fill w B j vs):=by
 unfold execOp;simp only [ho,hx,b,Instr.storeAt,Instr.sureAddr,qi,Ro,ak,uh w B j ty vs (fun i h=>by rw [hB.cell];simp;omega) (fun j=>hB.opn j) h1 c]
theorem t_ {o:Oper} {a:Act} {w:World} {K:Act->World->Prop} {E:Prop} (d:o.guard=none) (ty:TypeId) (x y:Operand) (ho:o.op=.store ty x y) {B j:Nat} {t:TypeId} {xs vs:List Value} (hx:a.eval x=.pointer (some ⟨B,j,none⟩)) (b:a.eval y=.agg vs.toArray) (hB:Cl w B t xs) (hl:j+vs.length<=xs.length) (h1:∀ v∈vs,v.oneCell'=true) (c:(P.info? ty).map (·.size)=some vs.length)
 (e:∀ w',Cl w' B t (Um xs j vs)->uy B w w'->K (a.put o.dst undef) w'):if Region.wanted o (yielded ops a.tmps)=true then Oper.wp P o a w K Q else E:=
 zA d (iI ty x y ho hx b hB hl h1 c) (e _ (hB.PX hl) (YE _ _ _ _))
theorem y9 {rest:List Oper} {o:Oper} {a:Act} {w:World} (d:o.guard=none) (ty:TypeId) (x y:Operand) (ho:o.op=.store ty x y) {B j:Nat} {t:TypeId} {xs vs:List Value} (hx:a.eval x=.pointer (some ⟨B,j,none⟩)) (b:a.eval y=.agg vs.toArray) (hB:Cl w B t xs) (hl:j+vs.length<=xs.length) (h1:∀ v∈vs,v.oneCell'=true) (c:(P.info? ty).map (·.size)=some vs.length)
 (e:∀ w',Cl w' B t (Um xs j vs)->uy B w w'->wpList P ops Q rest (a.put o.dst undef) w'):wpList P ops Q (o::rest) a w:=
 Qz d (iI ty x y ho hx b hB hl h1 c) (e _ (hB.PX hl) (YE _ _ _ _))
theorem X8 {o:Oper} {a:Act} {w:World} (ty:TypeId) (x:Operand) (ho:o.op=.load ty x) {B j:Nat} {cs:List Value} {d:TypeDesc} (hx:a.eval x=.pointer (some ⟨B,j,none⟩)) (hc:∀ i v,cs[i]?=some v->w.cell? ⟨B,j+i,none⟩=some v) (c:P.underlying ty=some d) (hd:(match d with | .struct _ | .array _ _=>true | _=>false)=true) (b:(P.info? ty).map (·.size)=some cs.length):
 (execOp a.eval o).run P w=.ok (.value (.agg cs.toArray)) w:=by
 have hl:(loadCells (aA B j) cs.length).run P w=.ok cs.toArray w:=
  run_loadCells_list (P:=P) w (aA B j) cs (fun i v hv=>by rw [Ag];exact hc i v hv)
 have hr:(loadVar ty (aA B j)).run P w=.ok (.agg cs.toArray) w:=by
  cases hq:P.info? ty with
  | none=>simp [hq] at b
  | some i=>
   have e:i.size=cs.length:=by simpa [hq] using b
   have f:(isAgg ty).run P w=.ok true w:=by
    unfold isAgg;rw [qi,Wq c w];cases d <;> simp_all
   simp [loadVar,f,sizeOf,typeInfo,hq,e,hl]
 unfold execOp;simp only [ho,hx,Instr.loadAt,Instr.sureAddr,qi,Ro,ak,hr]
def Inf (P:Program) (e:TypeId) (size:Nat):Prop:=∃ i z,P.info? e=some i/\i.zero=some z/\i.size=size/\z.cells.size=size/\i.bytes<=1000
theorem Ll {e:TypeId} {size:Nat} (h:((P.info? e).map fun i=>(i.zero.map fun z=>z.cells.size,i.size,decide (i.bytes<=1000)))=some (some size,size,true)):Inf P e size:=by
 cases hq:P.info? e with
 | none=>rw [hq] at h;cases h
 | some i=>
  rw [hq] at h;simp only [xw,Ou,xI,Ud] at h;obtain ⟨h1,h2,c⟩:=h;obtain ⟨z,b,a⟩:=dA.1 h1;exact ⟨i,z,hq,b,h2,a,c⟩
def Src (w:World) (sv:Value) (size m:Nat) (news:List Value):Prop:=((∃ c,sv=.slice none 0 c)/\m=0/\news=[])\/∃ ad c,sv=.slice (some ad) m c/\news.length=m*size/\∀ j u,news[j]?=some u->w.cell? (ad.add j)=some u
theorem TG (w:World) (base:Nat) (t ty e:TypeId) (size:Nat) (ht:P.underlying t=some (.slice e)) (s:Inf P e size) (k:0<size) (v:Value) (n:Nat) (xs:List Value) (b:w.ownsRow base e size v n xs) (f:Value) (m:Nat) (a:List Value) (o:Src w f size m a) (h1:∀ u∈a,u.oneCell'=true) (r:n+m<=2000000) (y:base<=w.heap.size):
 ∃ v' w',(Builtin.append_ #[t,t] ty #[v,f]).run P w=.ok v' w'/\w'.ownsRow base e size v' (n+m) (xs++a)/\w.grownBy w' v.ownBlock/\(v'.ownBlock=v.ownBlock\/v'.ownBlock=some w.heap.size):=by
 obtain ⟨i,z,d,j,l,h,x⟩:=s;rcases o with ⟨⟨c,rfl⟩,rfl,rfl⟩ | ⟨C,c,rfl,hl,p⟩
 · refine ⟨v,w,?_,by simpa using b,⟨rfl,rfl,rfl,v_ _,fun _ _ _=>rfl⟩,.inl rfl⟩;rcases b.2 with ⟨rfl,rfl⟩ | ⟨g,cap,cur,rfl,hbg,hg,q,hcm,hcs,htake⟩
   · simp [Builtin.append_,Wq ht,sizeOf,typeInfo,d,Builtin.lenOf,Builtin.firstCells]
   simp [Builtin.append_,Wq ht,sizeOf,typeInfo,d,Builtin.lenOf,Builtin.firstCells,loadCells,q,storeCells]
 obtain ⟨v',w',hr,h2,B,h4,A⟩:=run_append_own_at (P:=P) w base t ty e i z size i.bytes ht d j l rfl h k v n xs b C m c a hl p h1 (by simp only [maxLen];omega) (G7 (Nat.mul_le_mul r x) o6) y;exact ⟨v',w',hr,h2,B,A⟩
theorem Aa {o:Oper} {a:Act} {w:World} {K:Act->World->Prop} {E:Prop} (l:o.guard=none) (s x:Operand) (t:TypeId) (ho:o.op=.call { callee:=.builtin .append,args:=#[s,x],argTypes:=#[t,t] })
 (base:Nat) (e:TypeId) (size:Nat) (ht:P.underlying t=some (.slice e)) (k:Inf P e size) (d:0<size) (v:Value) (n:Nat) (xs:List Value) (g:a.eval s=v) (i:w.ownsRow base e size v n xs) (c:Value) (m:Nat) (b:List Value) (hx:a.eval x=c) (f:Src w c size m b) (h1:∀ u∈b,u.oneCell'=true) (j:n+m<=2000000) (p:base<=w.heap.size)
 (h:∀ v' w',w'.ownsRow base e size v' (n+m) (xs++b)->w.grownBy w' v.ownBlock->(v'.ownBlock=v.ownBlock\/v'.ownBlock=some w.heap.size)->K (a.put o.dst v') w'):if Region.wanted o (yielded ops a.tmps)=true then Oper.wp P o a w K Q else E:=by
 obtain ⟨v',w',hr,h2,r,q⟩:=TG w base t o.type e size ht k d v n xs i c m b f h1 j p;refine GY l (v:=v') (w':=w') ?_ (h v' w' h2 r q);unfold execOp;simp only [ho,resolve,invoke,builtin,qi,Ro,ak,YI,Hq,QE,g,hx,hr]
theorem Xq {rest:List Oper} {o:Oper} {a:Act} {w:World} (l:o.guard=none) (s x:Operand) (t:TypeId) (ho:o.op=.call { callee:=.builtin .append,args:=#[s,x],argTypes:=#[t,t] })
 (base:Nat) (e:TypeId) (size:Nat) (ht:P.underlying t=some (.slice e)) (k:Inf P e size) (d:0<size) (v:Value) (n:Nat) (xs:List Value) (g:a.eval s=v) (i:w.ownsRow base e size v n xs) (c:Value) (m:Nat) (b:List Value) (hx:a.eval x=c) (f:Src w c size m b) (h1:∀ u∈b,u.oneCell'=true) (j:n+m<=2000000) (p:base<=w.heap.size)
 (h:∀ v' w',w'.ownsRow base e size v' (n+m) (xs++b)->w.grownBy w' v.ownBlock->(v'.ownBlock=v.ownBlock\/v'.ownBlock=some w.heap.size)->wpList P ops Q rest (a.put o.dst v') w'):wpList P ops Q (o::rest) a w:=by
 obtain ⟨v',w',hr,h2,r,q⟩:=TG w base t o.type e size ht k d v n xs i c m b f h1 j p;refine Y9 l (v:=v') (w':=w') ?_ (h v' w' h2 r q);unfold execOp;simp only [ho,resolve,invoke,builtin,qi,Ro,ak,YI,Hq,QE,g,hx,hr]
end
section
variable {P:Program} (w:World)
end
section
variable {P:Program} {ops:Array Oper} {Q:Exit->Act->World->Prop}
end
end Go.Proofs.YtchjpjmcnhjbcaaGreatDoor
namespace Go.Proofs.YtchjpjmcnhjbcaaGreatDoor
open Proofs.Tryz Go.RowKit
section
variable {P:Program} {ops:Array Oper} {Q:Exit->Act->World->Prop} {md:Region.Mode} {S:World->Prop} {T:Nat}
end
end Go.Proofs.YtchjpjmcnhjbcaaGreatDoor
namespace Go.Proofs.YtchjpjmcnhjbcaaGreatDoor
open Proofs.Tryz Go.RowKit
theorem o8 {l:List Value} (h:l.all Value.oneCell'=true):∀ v∈l,v.oneCell'=true:=Jo.1 h
def isC (d:TypeDesc):Bool:=match d with | .struct _ | .array _ _=>false | _=>true
section
variable {P:Program} {ops:Array Oper} {Q:Exit->Act->World->Prop} {rest:List Oper} {o:Oper} {a:Act}
theorem cells_one {v:Value} (h:v.oneCell'=true):v.cells=#[v]:=by cases v<;>first|rfl|cases h
theorem Yq {w:World} (ty:TypeId) (x y:Operand) (ho:o.op=.store ty x y) {B j:Nat} (hx:a.eval x=.pointer (some ⟨B,j,none⟩)) (hv:(a.eval y).oneCell'=true) (hc:∃ u,w.cell? ⟨B,j,none⟩=some u) (hf:w.frozen? ⟨B,j,none⟩=false) (b:(P.info? ty).map (·.size)=some 1):
 (execOp a.eval o).run P w=.ok .skip (w.setCell ⟨B,j,none⟩ (a.eval y)):=by
 generalize hy:a.eval y=v at*;obtain ⟨u,d⟩:=hc;have e:(storeVar ty (aA B j) v).run P w=.ok () (w.setCell (aA B j) v):=by
  cases hq:P.info? ty with
  | none=>simp [hq] at b
  | some i=>
   have c:i.size=1:=by simpa [hq] using b
   simp [storeVar,cells_one hv,sizeOf,typeInfo,hq,c,storeCells,run_store P w _ v _ hv,Jq,d,hf]
 unfold execOp;simp only [ho,hx,hy,Instr.storeAt,Instr.sureAddr,qi,Ro,ak,e]
theorem zZ {w:World} {ty:TypeId} {d:TypeDesc} (a:P.underlying ty=some d) (hd:isC d=true):(isAgg ty).run P w=.ok false w:=by
 unfold isAgg;rw [qi,Wq a w,ak];cases d<;>first|rfl|cases hd
theorem Fz {w:World} (ty:TypeId) (x:Operand) (ho:o.op=.load ty x) {B j:Nat} {v:Value} (hx:a.eval x=.pointer (some ⟨B,j,none⟩)) (hc:w.cell? ⟨B,j,none⟩=some v) (b:(P.underlying ty).map isC=some true):(execOp a.eval o).run P w=.ok (.value v) w:=by
 obtain ⟨d,c,hd⟩:=dA.1 b;have hr:(loadVar ty (aA B j)).run P w=.ok v w:=by
  unfold loadVar;rw [qi,zZ c hd,ak];simp [hc]
 unfold execOp;simp only [ho,hx,Instr.loadAt,Instr.sureAddr,qi,Ro,ak,hr]
theorem U8 {B:Nat} {t:TypeId} {cs:List Value} {w:World} (H:Cl w B t cs) (c:o.guard=none) (ty:TypeId) (x:Operand) (ho:o.op=.load ty x) {j:Nat} {v:Value} (hx:a.eval x=.pointer (some ⟨B,j,none⟩)) (hv:cs[j]?=some v) (b:(P.underlying ty).map isC=some true) (d:wpList P ops Q rest (a.put o.dst v) w):wpList P ops Q (o::rest) a w:=
 Y9 c (Fz ty x ho hx ((H.cell j).trans hv) b) d
theorem fU {l cs:List Value} {j i:Nat} {v:Value} (hc:(l.drop j).take cs.length=cs) (e:cs[i]?=some v):l[j+i]?=some v:=by
 rw [<- Yy];rw [<- hc,Zx] at e;split at e
 · exact e
 cases e
theorem U9 {B:Nat} {t:TypeId} {l:List Value} {w:World} (H:Cl w B t l) (f:o.guard=none) (ty:TypeId) (x:Operand) (ho:o.op=.load ty x) {j:Nat} (cs:List Value) {d:TypeDesc} (hx:a.eval x=.pointer (some ⟨B,j,none⟩)) (hc:(l.drop j).take cs.length=cs) (b:P.underlying ty=some d) (hd:(match d with | .struct _ | .array _ _=>true | _=>false)=true) (c:(P.info? ty).map (·.size)=some cs.length) (g:wpList P ops Q rest (a.put o.dst (.agg cs.toArray)) w):wpList P ops Q (o::rest) a w:=
 Y9 f (X8 ty x ho hx (fun q v e=>(H.cell _).trans (fU hc e)) b hd c) g
end
theorem Uz {P:Program} {ops:Array Oper} {Q:Exit->Act->World->Prop} {rest:List Oper} {o:Oper} {a:Act} {w:World} {g p:Nat} {t:TypeId} {xs:List Value} (d:o.guard=none) (ty:TypeId) (x y:Operand) (ho:o.op=.store ty x y) (hx:a.eval x=.pointer (some ⟨g,p,none⟩)) (hv:(a.eval y).oneCell'=true) (c:(P.info? ty).map (·.size)=some 1) (hC:Cl w g t xs) (b:p<xs.length)
 (e:∀ w',Hid (Cl w' g t (xs.set p (a.eval y)))->uy g w w'->wpList P ops Q rest (a.put o.dst undef) w'):wpList P ops Q (o::rest) a w:=
 Qz d (Yq ty x y ho hx hv ⟨xs[p],by rw [hC.cell,Z8 b]⟩ (hC.opn p) c) (e _ (hC.set _ _) (Ve _ _ _ _))

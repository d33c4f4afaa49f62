import Derived.Maps.AppendAt
import Derived.Laws.OwnMore
import Derived.Test.YtlckdgjfniglfaaGreatDooreQS
set_option maxRecDepth 100000
set_option linter.unusedVariables false
namespace Go.Proofs.YtlckdgjfniglfaaGreatDoor
open Proofs.Tryz
open Go.RowKit
def wpL (P:Program) (md:Region.Mode) (ops:Array Oper) (Q:Exit->Act->World->Prop) (S:World->Prop) (T:Nat):Nat->Array Bool->Act->World->Prop
 | 0,l,a,w=>Region.ready md ops l=[]/\Q .normal a w
 | n+1,l,a,w=>(Region.ready md ops l=[]->Q .normal a w)/\∀ i∈Region.ready md ops l,wpOp P ops Q i (fun a' w'=>(i≠T->S w')/\wpL P md ops Q S T n (l.setIfInBounds i true) a' w') a w
section
variable {P:Program} {ops:Array Oper} {Q:Exit->Act->World->Prop} {md:Region.Mode} {S:World->Prop} {T:Nat}
theorem wpL_any (n:Nat):∀ (l:Array Bool) (a:Act) (w:World),wpL P md ops Q S T n l a w->wpAny P md ops Q n l a w:=by
 induction n with
 | zero=>exact fun _ _ _ h=>h
 | succ n ih=>exact fun _ _ _ h=>⟨h.1,fun i hi=>wpOp_mono (fun a' w' h'=>ih _ a' w' h'.2) (h.2 i hi)⟩
def waitsT (md:Region.Mode) (ops:Array Oper) (T i:Nat):Bool:=(ops[T]?).any fun o=>o.after.any fun e=>Region.binds md e&&e.on==i
theorem not_yet {l:Array Bool} {T i:Nat} (hT:waitsT md ops T i=true) (hi:i∈Region.ready md ops l):T∉Region.ready md ops l:=fun h=>by
 obtain ⟨_,o,ho,hall⟩:=mem_ready.1 h;unfold waitsT at hT;rw [ho] at hT;simp only [Option.any_some,Array.any_eq_true] at hT;obtain ⟨k,hk,hb⟩:=hT;simp only [Bool.and_eq_true,beq_iff_eq] at hb;have h1:=hall _ (Array.getElem_mem hk) hb.1;have h0:=(mem_ready.1 hi).1;rw [hb.2] at h1;rcases Nat.lt_or_ge i l.size with h' | h'
 · simp [h'] at h0 h1;rw [h0] at h1;cases h1
 simp [Array.getElem?_eq_none h'] at h1
theorem wpL_first {i:Nat} {oi:Oper} {v:Value} (hi:ops[i]?=some oi) (hT:waitsT md ops T i=true) (hsel:∀ (j:Nat) (o:Oper) cs b,ops[j]?=some o->o.op≠.select cs b)
 (hQ:∀ c a w,Q (.panic c) (a.put oi.dst v) w->Q (.panic c) a w) (n:Nat):∀ (l:Array Bool) (a:Act) (w:World),
  (∀ j oj,ops[j]?=some oj->j≠i->l.getD j true=false->(∀ e∈oj.after,Region.binds md e=true->e.on≠i)->oi.apart ops oj=true)->
  i∈Region.ready md ops l->YieldsIf P ops S oi v a->S w->
  wpL P md ops Q S T n (l.setIfInBounds i true) (a.put oi.dst v) w->wpL P md ops Q S T (n+1) l a w:=by
 have hnx:∀ (l:Array Bool) j,i∈Region.ready md ops l->j∈Region.ready md ops l->j≠T:=fun l j h1 h2 e=>not_yet hT h1 (e▸h2)
 induction n with
 | zero=>
  refine fun l a w _ hr hy hS H=>⟨fun h=>absurd (h▸hr) List.not_mem_nil,fun j hj=>?_⟩;by_cases hji:j=i
  · subst hji;exact hy.wpOp hi hS ⟨fun _=>hS,H⟩
  exact absurd (H.1▸ready_mono hj hji) List.not_mem_nil
 | succ n ih=>
  refine fun l a w hfr hr hy hS H=>⟨fun h=>absurd (h▸hr) List.not_mem_nil,fun j hj=>?_⟩;by_cases hji:j=i
  · subst hji;exact hy.wpOp hi hS ⟨fun _=>hS,H⟩
  have hjT:=hnx l j hr hj;obtain ⟨hun,oj,hoj,hall⟩:=mem_ready.1 hj;have hnw:∀ e∈oj.after,Region.binds md e=true->e.on≠i:=fun e he hb heq=>by
   have h1:=hall e he hb;have h0:=(mem_ready.1 hr).1;rw [heq] at h1;rcases Nat.lt_or_ge i l.size with h' | h'
   · simp [h'] at h0 h1;rw [h0] at h1;cases h1
   simp [Array.getElem?_eq_none h'] at h1
  refine wpOp_mono (fun a' w' h=>?_) (wpOp_putIf hoj (hfr j oj hoj hji hun hnw) (fun cs b=>hsel i oi cs b hi) (fun cs b=>hsel j oj cs b hoj) hQ hy (H.2 j (ready_mono hj hji)));obtain ⟨hy',hs',hw'⟩:=h;refine ⟨hs',ih _ a' w' (fun k ok hk hki hu hno=>hfr k ok hk hki ?_ hno) (ready_mono hr (Ne.symm hji)) hy' (hs' hjT) ?_⟩
  · by_cases hjk:j=k
    · exact hjk▸hun
    rwa [getD_set_ne true hjk] at hu
  rw [Array.setIfInBounds_comm _ _ hji];exact hw'
theorem wpL_take {i:Nat} (hT:waitsT md ops T i=true) {oi:Oper} {v:Value} {n:Nat} {l:Array Bool} {a:Act} {w:World} (hi:ops[i]?=some oi)
 (hs:Region.noSelect ops=true) (hf:Region.free md ops l i=true) (hr:(Region.ready md ops l).contains i=true)
 (hQ:∀ c a w,Q (.panic c) (a.put oi.dst v) w->Q (.panic c) a w) (hy:YieldsIf P ops S oi v a) (hS:S w)
 (h:wpL P md ops Q S T n (l.setIfInBounds i true) (a.put oi.dst v) w):wpL P md ops Q S T (n+1) l a w:=
 wpL_first hi hT (Region.noSelect_spec hs) hQ n l a w (Region.free_spec hi hf) (by simpa using hr) hy hS h
def AllReadyL (P:Program) (md:Region.Mode) (ops:Array Oper) (Q:Exit->Act->World->Prop) (S:World->Prop) (T n:Nat) (l:Array Bool) (a:Act) (w:World) (rs:List Nat):Prop:=
 ∀ i∈rs,wpOp P ops Q i (fun a' w'=>(i≠T->S w')/\wpL P md ops Q S T n (l.setIfInBounds i true) a' w') a w
theorem AllReadyL.nil {n:Nat} {l:Array Bool} {a:Act} {w:World}:AllReadyL P md ops Q S T n l a w []:=fun _ h=>absurd h List.not_mem_nil
theorem AllReadyL.cons {n:Nat} {l:Array Bool} {a:Act} {w:World} {i:Nat} (hne:i≠T) {o:Oper} {rs:List Nat} (ho:ops[i]?=some o)
 (h:∀ K':Act->World->Prop,Shut (∀ a w,S w->(S w->wpL P md ops Q S T n (l.setIfInBounds i true) a w)->K' a w)->if Region.wanted o (yielded ops a.tmps)=true then Oper.wp P o a w K' Q else K' (a.put o.dst undef) w)
 (hs:AllReadyL P md ops Q S T n l a w rs):AllReadyL P md ops Q S T n l a w (i::rs):=fun j hj=>by
 rcases List.mem_cons.1 hj with rfl | hj
 · exact wpOp_step ho (fun K' hK=>h K' (fun a w hS hW=>hK a w ⟨fun _=>hS,hW hS⟩))
 exact hs j hj
theorem AllReadyL.last {n:Nat} {l:Array Bool} {a:Act} {w:World} {o:Oper} (ho:ops[T]?=some o)
 (h:∀ K':Act->World->Prop,Shut (∀ a w,wpL P md ops Q S T n (l.setIfInBounds T true) a w->K' a w)->if Region.wanted o (yielded ops a.tmps)=true then Oper.wp P o a w K' Q else K' (a.put o.dst undef) w):AllReadyL P md ops Q S T n l a w [T]:=fun j hj=>by
 obtain rfl:=List.mem_singleton.1 hj;exact wpOp_step ho (fun K' hK=>h K' (fun a w hW=>hK a w ⟨fun e=>absurd rfl e,hW⟩))
theorem wpL_ready {rs:List Nat} {n:Nat} {l:Array Bool} {a:Act} {w:World} (hr:Region.ready md ops l=rs) (hne:rs≠[]) (h:AllReadyL P md ops Q S T n l a w rs):wpL P md ops Q S T (n+1) l a w:=
 ⟨fun h0=>absurd (hr▸h0) hne,hr▸h⟩
theorem wpL_done {l:Array Bool} {a:Act} {w:World} (hr:Region.ready md ops l=[]) (h:Q .normal a w) (n:Nat):wpL P md ops Q S T n l a w:=by
 cases n with
 | zero=>exact ⟨hr,h⟩
 | succ n=>exact ⟨fun _=>h,by rw [hr];simp⟩
theorem wp_region_L {id:Nat} {a:Act} {w:World} (T:Nat) (hm:P.follows .mixedOrders=true) (hS:S w.drew)
 (h:S w.drew->wpL P .any ops Q S T ops.size (Array.replicate ops.size false) a w.drew):(Code.region id ops true).wp P Q a w:=
 wp_region_any hm (wpL_any _ _ _ _ (h hS))
theorem lk {i:Nat} {oi:Oper} {v:Value} {n:Nat} {l:Array Bool} {a:Act} {w:World} (hi:ops[i]?=some oi) (hb:(waitsT md ops T i&&Region.noSelect ops&&Region.free md ops l i&&(Region.ready md ops l).contains i)=true) (hw:Region.wanted oi (yielded ops a.tmps)=true) (hv:∀ u,S u->(execOp a.eval oi).run P u=.ok (.value v) u) (hS:S w) (h:wpL P md ops Q S T n (l.setIfInBounds i true) (a.put oi.dst v) w) (hQ:∀ c a w,Q (.panic c) (a.put oi.dst v) w->Q (.panic c) a w:=by exact fun _ _ _ h=>h):wpL P md ops Q S T (n+1) l a w:=by
 simp only [Bool.and_eq_true] at hb;exact wpL_take hb.1.1.1 hi hb.1.1.2 hb.1.2 hb.2 hQ (.inl ⟨hw,hv⟩) hS h
theorem lq {v:Value} {n:Nat} {l:Array Bool} {a:Act} {w:World} {d:Option Nat} {op:Op} {ty:TypeId} {p:String} {af:Array Edge} {g:Option (Nat×Bool)} (i:Nat) (hS:S w) (h:wpL P md ops Q S T n (l.setIfInBounds i true) (a.put d v) w) (hi:ops[i]?=some ⟨d,op,ty,p,af,g⟩:=by exact rfl) (hb:(waitsT md ops T i&&Region.noSelect ops&&Region.free md ops l i&&(Region.ready md ops l).contains i)=true:=by kernel_rfl) (hw:Region.wanted ⟨d,op,ty,p,af,g⟩ (yielded ops a.tmps)=true:=by exact rfl) (hv:∀ u,S u->(execOp a.eval ⟨d,op,ty,p,af,g⟩).run P u=.ok (.value v) u:=by intro wq hSw;(try dsimp only at hSw);go_simp;try with_reducible rfl) (hQ:∀ c a w,Q (.panic c) (a.put d v) w->Q (.panic c) a w:=by first | exact fun _ _ _ h=>h | exact fun _ _ _ h=>hQ _ _ _ _ _ h):wpL P md ops Q S T (n+1) l a w:=lk hi hb hw hv hS h hQ
theorem lr {i:Nat} {o:Oper} {n:Nat} {l:Array Bool} {a:Act} {w:World} (ho:ops[i]?=some o) (hne:i≠T) (hr:Region.ready md ops l=[i]) (h:∀ K':Act->World->Prop,Shut (∀ a w,S w->(S w->wpL P md ops Q S T n (l.setIfInBounds i true) a w)->K' a w)->if Region.wanted o (yielded ops a.tmps)=true then Oper.wp P o a w K' Q else K' (a.put o.dst undef) w):wpL P md ops Q S T (n+1) l a w:=wpL_ready hr sm_ (AllReadyL.cons hne ho h AllReadyL.nil)
theorem lz {o:Oper} {n:Nat} {l:Array Bool} {a:Act} {w:World} (ho:ops[T]?=some o) (hr:Region.ready md ops l=[T]) (h:∀ K':Act->World->Prop,Shut (∀ a w,wpL P md ops Q S T n (l.setIfInBounds T true) a w->K' a w)->if Region.wanted o (yielded ops a.tmps)=true then Oper.wp P o a w K' Q else K' (a.put o.dst undef) w):wpL P md ops Q S T (n+1) l a w:=wpL_ready hr sm_ (AllReadyL.last ho h)
theorem st_val {o:Oper} {a:Act} {w w':World} {v:Value} {K:Act->World->Prop} {E:Prop} (hg:o.guard=none) (hr:(execOp a.eval o).run P w=.ok (.value v) w') (hK:K (a.put o.dst v) w'):if Region.wanted o (yielded ops a.tmps)=true then Oper.wp P o a w K Q else E:=by
 rw [if_pos (by simp [Region.wanted,hg])];unfold Oper.wp;rw [hr];exact hK
theorem st_skp {o:Oper} {a:Act} {w w':World} {K:Act->World->Prop} {E:Prop} (hg:o.guard=none) (hr:(execOp a.eval o).run P w=.ok .skip w') (hK:K (a.put o.dst undef) w'):if Region.wanted o (yielded ops a.tmps)=true then Oper.wp P o a w K Q else E:=by
 rw [if_pos (by simp [Region.wanted,hg])];unfold Oper.wp;rw [hr];exact hK
theorem wl_val {rest:List Oper} {o:Oper} {a:Act} {w w':World} {v:Value} (hg:o.guard=none) (hr:(execOp a.eval o).run P w=.ok (.value v) w') (h:wpList P ops Q rest (a.put o.dst v) w'):wpList P ops Q (o::rest) a w:=by
 refine wpList_plain hg fun K hK=>?_;unfold Oper.wp;rw [hr];exact hK _ _ h
theorem wl_skp {rest:List Oper} {o:Oper} {a:Act} {w w':World} (hg:o.guard=none) (hr:(execOp a.eval o).run P w=.ok .skip w') (h:wpList P ops Q rest (a.put o.dst undef) w'):wpList P ops Q (o::rest) a w:=by
 refine wpList_plain hg fun K hK=>?_;unfold Oper.wp;rw [hr];exact hK _ _ h
end
def Cl (w:World) (b:Nat) (t:TypeId) (xs:List Value):Prop:=w.heap[b]?=some (.cells xs.toArray t (0,0))
structure OnB (B:Nat) (w w':World):Prop where
 os:w'.os=w.os
 tape:w'.tape=w.tape
 output:w'.output=w.output
 size:w'.heap.size=w.heap.size
 block:∀ k,k≠B->w'.heap[k]?=w.heap[k]?
theorem Cl.lt {w:World} {b:Nat} {t:TypeId} {xs:List Value} (h:Cl w b t xs):b<w.heap.size:=(Array.getElem?_eq_some_iff.1 h).1
theorem Cl.cell {w:World} {b:Nat} {t:TypeId} {xs:List Value} (h:Cl w b t xs) (j:Nat):w.cell? ⟨b,j,none⟩=xs[j]?:=by
 rw [Lib.cell_of_heap h j];simp
theorem Cl.opn {w:World} {b:Nat} {t:TypeId} {xs:List Value} (h:Cl w b t xs) (j:Nat):w.frozen? ⟨b,j,none⟩=false:=Lib.frozen_of_heap h j
theorem Cl.blk {w:World} {b:Nat} {t:TypeId} {xs:List Value} (h:Cl w b t xs):BlkAt w b xs:=fun j v e=>(h.cell j).trans e
theorem Cl.on {w w':World} {b B:Nat} {t:TypeId} {xs:List Value} (h:Cl w b t xs) (ho:OnB B w w') (hne:b≠B):Cl w' b t xs:=(ho.block b hne).trans h
theorem Cl.below {w w':World} {b N:Nat} {t:TypeId} {xs:List Value} (h:Cl w b t xs) (hb:Below N w w') (hN:b<N):Cl w' b t xs:=(hb.block b hN).trans h
theorem Cl.set {w:World} {b:Nat} {t:TypeId} {xs:List Value} (h:Cl w b t xs) (j:Nat) (v:Value):Cl (w.setCell ⟨b,j,none⟩ v) b t (xs.set j v):=by
 have:=heap_setCell_same w b j _ t v h;unfold Cl;rw [this,List.setIfInBounds_toArray]
theorem on_set (w:World) (b j:Nat) (v:Value):OnB b w (w.setCell ⟨b,j,none⟩ v):=⟨rfl,rfl,rfl,sm_,fun k hk=>heap_setCell_other _ _ _ _ hk⟩
theorem OnB.below {B N:Nat} {w w':World} (h:OnB B w w') (hN:N<=B):Below N w w':=⟨h.os,h.tape,h.output,Nat.le_of_eq h.size.symm,fun k hk=>h.block k om_⟩
theorem cl_new (w:World) (xs:List Value) (t:TypeId):Cl (w.alloc (.cells xs.toArray t)) w.heap.size t xs:=heap_alloc_new w _
theorem cl_old {w:World} {b:Nat} {t:TypeId} {xs:List Value} (h:Cl w b t xs) (o:Obj):Cl (w.alloc o) b t xs:=(Lib.alloc_old w o b h.lt).trans h
theorem cl_row {w:World} {b:Nat} {t:TypeId} {xs:List Value} (h:Cl w b t xs):∀ j u,xs[j]?=some u->w.cell? ((⟨b,0,none⟩:Addr).add j)=some u:=fun j u e=>by
 have ha:(⟨b,0,none⟩:Addr).add j=⟨b,j,none⟩:=by unfold Addr.add;split <;> simp_all
 rw [ha];exact (h.cell j).trans e
theorem Cl.fil {w:World} {B:Nat} {t:TypeId} {xs:List Value} (vs:List Value):∀ (j:Nat),Cl w B t xs->∃ ys,Cl (fill w B j vs) B t ys/\ys.length=xs.length/\∀ i,ys[i]?=if j<=i/\i<j+vs.length/\i<xs.length then vs[i - j]? else xs[i]?:=by
 induction vs generalizing w xs with
 | nil=>exact fun j h=>⟨xs,h,rfl,fun i=>by rw [if_neg];simp;omega⟩
 | cons v vs ih=>
  intro j h;obtain ⟨ys,h1,h2,h3⟩:=ih (j+1) (h.set j v);refine ⟨ys,h1,by simpa using h2,fun i=>?_⟩;rw [h3 i];simp only [List.length_set,List.length_cons];by_cases hi:i=j
  · subst hi
    rw [if_neg om_];by_cases hl:i<xs.length
    · rw [if_pos ⟨om_,om_,hl⟩,List.getElem?_set_self hl]
      simp
    rw [if_neg om_];simp [List.getElem?_eq_none (show (xs.set i v).length<=i by simp;omega),List.getElem?_eq_none (show xs.length<=i by omega)]
  by_cases hc:j<=i/\i<j+(vs.length+1)/\i<xs.length
  · rw [if_pos hc,if_pos om_]
    obtain ⟨d,rfl⟩:∃ d,i=j+1+d:=⟨i - (j+1),om_⟩;have e1:j+1+d - j=d+1:=om_;have e2:j+1+d - (j+1)=d:=om_;rw [e1,e2];simp
  rw [if_neg hc,if_neg om_,List.getElem?_set_ne om_]
theorem on_fill (B:Nat) (vs:List Value):∀ (w:World) (j:Nat),OnB B w (fill w B j vs):=by
 induction vs with
 | nil=>exact fun w j=>⟨rfl,rfl,rfl,rfl,fun _ _=>rfl⟩
 | cons v vs ih=>
  intro w j;have h1:=on_set w B j v;have h2:=ih (w.setCell ⟨B,j,none⟩ v) (j+1);exact ⟨h2.os.trans h1.os,h2.tape.trans h1.tape,h2.output.trans h1.output,h2.size.trans h1.size,fun k hk=>(h2.block k hk).trans (h1.block k hk)⟩
def putL (xs:List Value) (j:Nat) (vs:List Value):List Value:=xs.take j++vs++xs.drop (j+vs.length)
theorem Cl.fillP {w:World} {B:Nat} {t:TypeId} {xs vs:List Value} {j:Nat} (h:Cl w B t xs) (hl:j+vs.length<=xs.length):Cl (fill w B j vs) B t (putL xs j vs):=by
 obtain ⟨ys,h1,h2,h3⟩:=h.fil vs j;have:ys=putL xs j vs:=by
  apply List.ext_getElem?;intro i;rw [h3 i];unfold putL;by_cases h4:i<j
  · rw [if_neg om_,List.append_assoc,List.getElem?_append_left so_,List.getElem?_take_of_lt h4]
  by_cases h5:i<j+vs.length
  · rw [if_pos ⟨om_,h5,om_⟩,List.append_assoc,List.getElem?_append_right so_,List.getElem?_append_left so_]
    congr 1
    simp;omega
  rw [if_neg om_,List.getElem?_append_right so_,List.getElem?_drop]
  congr 1
  simp;omega
 rw [<- this];exact h1
section
variable {P:Program} {ops:Array Oper} {Q:Exit->Act->World->Prop}
theorem ex_stN {o:Oper} {a:Act} {w:World} (ty:TypeId) (x y:Operand) (ho:o.op=.store ty x y) {B j:Nat} {t:TypeId} {xs vs:List Value} (hx:a.eval x=.pointer (some ⟨B,j,none⟩)) (hy:a.eval y=.agg vs.toArray) (hB:Cl w B t xs) (hl:j+vs.length<=xs.length) (h1:∀ v∈vs,v.oneCell'=true) (hi:(P.info? ty).map (·.size)=some vs.length):
 (execOp a.eval o).run P w=.ok .skip (fill w B j vs):=by
 unfold execOp;simp only [ho,hx,hy,Instr.storeAt,Instr.sureAddr,Sem.run_bind,Sem.run_pure,Result.andThen_ok,run_storeVar_blk w B j ty vs (fun i h=>by rw [hB.cell];simp;omega) (fun j=>hB.opn j) h1 hi]
theorem st_stN {o:Oper} {a:Act} {w:World} {K:Act->World->Prop} {E:Prop} (hg:o.guard=none) (ty:TypeId) (x y:Operand) (ho:o.op=.store ty x y) {B j:Nat} {t:TypeId} {xs vs:List Value} (hx:a.eval x=.pointer (some ⟨B,j,none⟩)) (hy:a.eval y=.agg vs.toArray) (hB:Cl w B t xs) (hl:j+vs.length<=xs.length) (h1:∀ v∈vs,v.oneCell'=true) (hi:(P.info? ty).map (·.size)=some vs.length)
 (hK:∀ w',Cl w' B t (putL xs j vs)->OnB B w w'->K (a.put o.dst undef) w'):if Region.wanted o (yielded ops a.tmps)=true then Oper.wp P o a w K Q else E:=
 st_skp hg (ex_stN ty x y ho hx hy hB hl h1 hi) (hK _ (hB.fillP hl) (on_fill _ _ _ _))
theorem wl_stN {rest:List Oper} {o:Oper} {a:Act} {w:World} (hg:o.guard=none) (ty:TypeId) (x y:Operand) (ho:o.op=.store ty x y) {B j:Nat} {t:TypeId} {xs vs:List Value} (hx:a.eval x=.pointer (some ⟨B,j,none⟩)) (hy:a.eval y=.agg vs.toArray) (hB:Cl w B t xs) (hl:j+vs.length<=xs.length) (h1:∀ v∈vs,v.oneCell'=true) (hi:(P.info? ty).map (·.size)=some vs.length)
 (hK:∀ w',Cl w' B t (putL xs j vs)->OnB B w w'->wpList P ops Q rest (a.put o.dst undef) w'):wpList P ops Q (o::rest) a w:=
 wl_skp hg (ex_stN ty x y ho hx hy hB hl h1 hi) (hK _ (hB.fillP hl) (on_fill _ _ _ _))
theorem ex_ldN {o:Oper} {a:Act} {w:World} (ty:TypeId) (x:Operand) (ho:o.op=.load ty x) {B j:Nat} {cs:List Value} {d:TypeDesc} (hx:a.eval x=.pointer (some ⟨B,j,none⟩)) (hc:∀ i v,cs[i]?=some v->w.cell? ⟨B,j+i,none⟩=some v) (hu:P.underlying ty=some d) (hd:(match d with | .struct _ | .array _ _=>true | _=>false)=true) (hi:(P.info? ty).map (·.size)=some cs.length):
 (execOp a.eval o).run P w=.ok (.value (.agg cs.toArray)) w:=by
 have hl:(loadCells ⟨B,j,none⟩ cs.length).run P w=.ok cs.toArray w:=
  run_loadCells_list (P:=P) w ⟨B,j,none⟩ cs (fun i v hv=>by rw [adr_add];exact hc i v hv)
 have hr:(loadVar ty ⟨B,j,none⟩).run P w=.ok (.agg cs.toArray) w:=by
  cases hq:P.info? ty with
  | none=>simp [hq] at hi
  | some i=>
   have hs:i.size=cs.length:=by simpa [hq] using hi
   have hagg:(isAgg ty).run P w=.ok true w:=by
    unfold isAgg;rw [Sem.run_bind,run_underlying hu w];cases d <;> simp_all
   simp [loadVar,Sem.run_bind,hagg,sizeOf,typeInfo,hq,hs,hl]
 unfold execOp;simp only [ho,hx,Instr.loadAt,Instr.sureAddr,Sem.run_bind,Sem.run_pure,Result.andThen_ok,hr]
def Inf (P:Program) (e:TypeId) (size:Nat):Prop:=∃ i z,P.info? e=some i/\i.zero=some z/\i.size=size/\z.cells.size=size/\i.bytes<=1000
theorem inf_of {e:TypeId} {size:Nat} (h:((P.info? e).map fun i=>(i.zero.map fun z=>z.cells.size,i.size,decide (i.bytes<=1000)))=some (some size,size,true)):Inf P e size:=by
 cases hq:P.info? e with
 | none=>rw [hq] at h;cases h
 | some i=>
  rw [hq] at h;simp only [Option.map_some,Option.some.injEq,Prod.mk.injEq,decide_eq_true_eq] at h;obtain ⟨h1,h2,h3⟩:=h;obtain ⟨z,h4,h5⟩:=Option.map_eq_some_iff.1 h1;exact ⟨i,z,hq,h4,h2,h5,h3⟩
def Src (w:World) (sv:Value) (size m:Nat) (news:List Value):Prop:=((∃ c,sv=.slice none 0 c)/\m=0/\news=[])\/∃ ad c,sv=.slice (some ad) m c/\news.length=m*size/\∀ j u,news[j]?=some u->w.cell? (ad.add j)=some u
theorem run_appS (w:World) (base:Nat) (t ty e:TypeId) (size:Nat) (ht:P.underlying t=some (.slice e)) (hinf:Inf P e size) (hsz:0<size) (v:Value) (n:Nat) (xs:List Value) (hown:w.ownsRow base e size v n xs) (sv:Value) (m:Nat) (news:List Value) (hs:Src w sv size m news) (h1:∀ u∈news,u.oneCell'=true) (hn:n+m<=1000000) (hbase:base<=w.heap.size):
 ∃ v' w',(Builtin.append_ #[t,t] ty #[v,sv]).run P w=.ok v' w'/\w'.ownsRow base e size v' (n+m) (xs++news)/\w.grownBy w' v.ownBlock/\(v'.ownBlock=v.ownBlock\/v'.ownBlock=some w.heap.size):=by
 obtain ⟨i,z,hi,hz,hsize,hzs,hby⟩:=hinf;rcases hs with ⟨⟨c,rfl⟩,rfl,rfl⟩ | ⟨ad,c,rfl,hl,hnews⟩
 · refine ⟨v,w,?_,by simpa using hown,⟨rfl,rfl,rfl,Nat.le_refl _,fun _ _ _=>rfl⟩,.inl rfl⟩
   rcases hown.2 with ⟨rfl,rfl⟩ | ⟨g,cap,cur,rfl,hbg,hg,hnc,hcm,hcs,htake⟩
   · simp [Builtin.append_,run_underlying ht,sizeOf,typeInfo,hi,Builtin.lenOf,Builtin.firstCells]
   simp [Builtin.append_,run_underlying ht,sizeOf,typeInfo,hi,Builtin.lenOf,Builtin.firstCells,loadCells,hnc,storeCells]
 obtain ⟨v',w',hr,h2,h3,h4,h5⟩:=run_append_own_at (P:=P) w base t ty e i z size i.bytes ht hi hz hsize rfl hzs hsz v n xs hown ad m c news hl hnews h1 (by simp only [maxLen];omega) (Nat.le_trans (Nat.mul_le_mul hn hby) dc_) hbase;exact ⟨v',w',hr,h2,h3,h5⟩
theorem st_app {o:Oper} {a:Act} {w:World} {K:Act->World->Prop} {E:Prop} (hg:o.guard=none) (s x:Operand) (t:TypeId) (ho:o.op=.call { callee:=.builtin .append,args:=#[s,x],argTypes:=#[t,t] })
 (base:Nat) (e:TypeId) (size:Nat) (ht:P.underlying t=some (.slice e)) (hinf:Inf P e size) (hsz:0<size) (v:Value) (n:Nat) (xs:List Value) (hs:a.eval s=v) (hown:w.ownsRow base e size v n xs) (sv:Value) (m:Nat) (news:List Value) (hx:a.eval x=sv) (hsrc:Src w sv size m news) (h1:∀ u∈news,u.oneCell'=true) (hn:n+m<=1000000) (hbase:base<=w.heap.size)
 (h:∀ v' w',w'.ownsRow base e size v' (n+m) (xs++news)->w.grownBy w' v.ownBlock->(v'.ownBlock=v.ownBlock\/v'.ownBlock=some w.heap.size)->K (a.put o.dst v') w'):if Region.wanted o (yielded ops a.tmps)=true then Oper.wp P o a w K Q else E:=by
 obtain ⟨v',w',hr,h2,h3,h5⟩:=run_appS w base t o.type e size ht hinf hsz v n xs hown sv m news hsrc h1 hn hbase;refine st_val hg (v:=v') (w':=w') ?_ (h v' w' h2 h3 h5);unfold execOp;simp only [ho,resolve,invoke,builtin,Sem.run_bind,Sem.run_pure,Result.andThen_ok,List.map_toArray,List.map_cons,List.map_nil,hs,hx,hr]
theorem wl_app {rest:List Oper} {o:Oper} {a:Act} {w:World} (hg:o.guard=none) (s x:Operand) (t:TypeId) (ho:o.op=.call { callee:=.builtin .append,args:=#[s,x],argTypes:=#[t,t] })
 (base:Nat) (e:TypeId) (size:Nat) (ht:P.underlying t=some (.slice e)) (hinf:Inf P e size) (hsz:0<size) (v:Value) (n:Nat) (xs:List Value) (hs:a.eval s=v) (hown:w.ownsRow base e size v n xs) (sv:Value) (m:Nat) (news:List Value) (hx:a.eval x=sv) (hsrc:Src w sv size m news) (h1:∀ u∈news,u.oneCell'=true) (hn:n+m<=1000000) (hbase:base<=w.heap.size)
 (h:∀ v' w',w'.ownsRow base e size v' (n+m) (xs++news)->w.grownBy w' v.ownBlock->(v'.ownBlock=v.ownBlock\/v'.ownBlock=some w.heap.size)->wpList P ops Q rest (a.put o.dst v') w'):wpList P ops Q (o::rest) a w:=by
 obtain ⟨v',w',hr,h2,h3,h5⟩:=run_appS w base t o.type e size ht hinf hsz v n xs hown sv m news hsrc h1 hn hbase;refine wl_val hg (v:=v') (w':=w') ?_ (h v' w' h2 h3 h5);unfold execOp;simp only [ho,resolve,invoke,builtin,Sem.run_bind,Sem.run_pure,Result.andThen_ok,List.map_toArray,List.map_cons,List.map_nil,hs,hx,hr]
end
def OffRow (w:World) (base:Nat) (e:TypeId) (v:Value) (xs:List Value):Prop:=
 (v=.slice none 0 0/\xs=[])\/∃ g off cap cur,v=.slice (some ⟨g,off,none⟩) xs.length cap/\base<=g/\w.heap[g]?=some (.cells cur e (0,0))/\xs.length<=cap/\cap<=maxLen/\off+cap<=cur.size/\(cur.toList.drop off).take xs.length=xs
theorem OffRow.form {w:World} {base:Nat} {e:TypeId} {v:Value} {xs:List Value} (h:OffRow w base e v xs):∃ a c,v=.slice a xs.length c:=by
 rcases h with ⟨h,rfl⟩ | ⟨g,off,cap,cur,h,_⟩
 · exact ⟨none,0,h⟩
 exact ⟨_,_,h⟩
theorem OffRow.keep {w w':World} {base:Nat} {e:TypeId} {v:Value} {xs:List Value} (h:OffRow w base e v xs) (hk:∀ k,v.ownBlock=some k->k<w.heap.size->w'.heap[k]?=w.heap[k]?):OffRow w' base e v xs:=by
 rcases h with h | ⟨g,off,cap,cur,h1,h2,h3,h4⟩
 · exact .inl h
 exact .inr ⟨g,off,cap,cur,h1,h2,(hk g (by rw [h1];rfl) (Array.getElem?_eq_some_iff.1 h3).1).trans h3,h4⟩
theorem OffRow.lt {w:World} {base:Nat} {e:TypeId} {v:Value} {xs:List Value} (h:OffRow w base e v xs) {k:Nat} (hk:v.ownBlock=some k):base<=k/\∃ cur,w.heap[k]?=some (.cells cur e (0,0)):=by
 rcases h with ⟨rfl,_⟩ | ⟨g,off,cap,cur,rfl,h2,h3,h4⟩
 · cases hk
 obtain rfl:g=k:=by injection hk
 exact ⟨h2,cur,h3⟩
section
variable {P:Program} (w:World)
end
section
variable {P:Program} {ops:Array Oper} {Q:Exit->Act->World->Prop}
end
end Go.Proofs.YtlckdgjfniglfaaGreatDoor
namespace Go.Proofs.YtlckdgjfniglfaaGreatDoor
open Proofs.Tryz
open Go.RowKit
section
variable {P:Program} {ops:Array Oper} {Q:Exit->Act->World->Prop} {md:Region.Mode} {S:World->Prop} {T:Nat}
def Clo (md:Region.Mode) (ops:Array Oper) (l:Array Bool):Prop:=∀ j o,ops[j]?=some o->l.getD j true=true->∀ e∈o.after,Region.binds md e=true->l.getD e.on true=true
def cloB (md:Region.Mode) (ops:Array Oper) (l:Array Bool):Bool:=(List.range ops.size).all fun j=>(ops[j]?).all fun o=>!l.getD j true || o.after.all fun e=>!Region.binds md e || l.getD e.on true
theorem clo_of {l:Array Bool} (h:cloB md ops l=true):Clo md ops l:=fun j o ho hl e he hb=>by
 unfold cloB at h;have hj:j<ops.size:=(Array.getElem?_eq_some_iff.1 ho).1;have h1:=List.all_eq_true.1 h j (List.mem_range.2 hj);rw [ho] at h1;simp only [Option.all_some,Bool.or_eq_true,Bool.not_eq_true',hl,Bool.true_eq_false,false_or,Array.all_eq_true'] at h1;have h2:=h1 e he;rw [hb] at h2;simpa using h2
def chainT (md:Region.Mode) (ops:Array Oper):Nat->Nat->Nat->Bool
 | 0,T,i=>waitsT md ops T i
 | n+1,T,i=>waitsT md ops T i || (List.range ops.size).any fun j=>waitsT md ops T j&&chainT md ops n j i
theorem clo_waits {l:Array Bool} (hc:Clo md ops l) {T i:Nat} (hw:waitsT md ops T i=true) (hl:l.getD T true=true):l.getD i true=true:=by
 unfold waitsT at hw
 cases ho:ops[T]? with
 | none=>rw [ho] at hw;cases hw
 | some o=>
  rw [ho] at hw;simp only [Option.any_some,Array.any_eq_true] at hw;obtain ⟨k,hk,hb⟩:=hw;simp only [Bool.and_eq_true,beq_iff_eq] at hb;have:=hc T o ho hl _ (Array.getElem_mem hk) hb.1;rw [hb.2] at this;exact this
theorem clo_chain {l:Array Bool} (hc:Clo md ops l):∀ (n:Nat) {T i:Nat},chainT md ops n T i=true->l.getD T true=true->l.getD i true=true
 | 0,_,_,h,hl=>clo_waits hc h hl
 | n+1,T,i,h,hl=>by
  unfold chainT at h;rw [Bool.or_eq_true] at h;rcases h with h | h
  · exact clo_waits hc h hl
  obtain ⟨j,_,hj⟩:=List.any_eq_true.1 h;rw [Bool.and_eq_true] at hj;exact clo_chain hc n hj.2 (clo_waits hc hj.1 hl)
theorem ready_waits {l:Array Bool} {T i:Nat} (hw:waitsT md ops T i=true) (h:T∈Region.ready md ops l):l.getD i true=true:=by
 obtain ⟨_,o,ho,hall⟩:=mem_ready.1 h;unfold waitsT at hw;rw [ho] at hw;simp only [Option.any_some,Array.any_eq_true] at hw;obtain ⟨k,hk,hb⟩:=hw;simp only [Bool.and_eq_true,beq_iff_eq] at hb;have h1:=hall _ (Array.getElem_mem hk) hb.1;rw [hb.2] at h1;rcases Nat.lt_or_ge i l.size with h' | h'
 · simp [h'] at h1 ⊢;exact h1
 simp [Array.getD,show ¬ i<l.size by omega]
theorem not_yet2 {l:Array Bool} (hc:Clo md ops l) {n T i:Nat} (hT:chainT md ops n T i=true) (hi:i∈Region.ready md ops l):T∉Region.ready md ops l:=fun h=>by
 have h0:=(mem_ready.1 hi).1;have:l.getD i true=true:=by
  cases n with
  | zero=>exact ready_waits hT h
  | succ n=>
   unfold chainT at hT;rw [Bool.or_eq_true] at hT;rcases hT with hT | hT
   · exact ready_waits hT h
   obtain ⟨j,_,hj⟩:=List.any_eq_true.1 hT;rw [Bool.and_eq_true] at hj;exact clo_chain hc n hj.2 (ready_waits hj.1 h)
 rw [this] at h0;cases h0
theorem clo_set {l:Array Bool} (hc:Clo md ops l) {j:Nat} (hj:j∈Region.ready md ops l):Clo md ops (l.setIfInBounds j true):=fun k o ho hl e he hb=>by
 have up:∀ q,l.getD q true=true->(l.setIfInBounds j true).getD q true=true:=fun q hq=>by
  by_cases hqj:j=q
  · subst hqj
    rcases Nat.lt_or_ge j l.size with h' | h'
    · simp [Array.getD,h']
    simp [Array.getD,show ¬ j<l.size by omega]
  rw [getD_set_ne true hqj];exact hq
 by_cases hkj:j=k;rotate_left
 · rw [getD_set_ne true hkj] at hl
   exact up _ (hc k o ho hl e he hb)
 subst hkj;obtain ⟨_,o',ho',hall⟩:=mem_ready.1 hj;rw [ho] at ho';obtain rfl:=Option.some.inj ho';have h1:=hall e he hb;refine up _ ?_;rcases Nat.lt_or_ge e.on l.size with h' | h'
 · simp [h'] at h1 ⊢;exact h1
 simp [Array.getD,show ¬ e.on<l.size by omega]
theorem wpL_first2 {i c:Nat} {oi:Oper} {v:Value} (hi:ops[i]?=some oi) (hT:chainT md ops c T i=true) (hsel:∀ (j:Nat) (o:Oper) cs b,ops[j]?=some o->o.op≠.select cs b)
 (hQ:∀ c a w,Q (.panic c) (a.put oi.dst v) w->Q (.panic c) a w) (n:Nat):∀ (l:Array Bool) (a:Act) (w:World),Clo md ops l->
  (∀ j oj,ops[j]?=some oj->j≠i->l.getD j true=false->(∀ e∈oj.after,Region.binds md e=true->e.on≠i)->oi.apart ops oj=true)->
  i∈Region.ready md ops l->YieldsIf P ops S oi v a->S w->
  wpL P md ops Q S T n (l.setIfInBounds i true) (a.put oi.dst v) w->wpL P md ops Q S T (n+1) l a w:=by
 have hnx:∀ (l:Array Bool) j,Clo md ops l->i∈Region.ready md ops l->j∈Region.ready md ops l->j≠T:=fun l j hc h1 h2 e=>not_yet2 hc hT h1 (e▸h2)
 induction n with
 | zero=>
  refine fun l a w _ _ hr hy hS H=>⟨fun h=>absurd (h▸hr) List.not_mem_nil,fun j hj=>?_⟩;by_cases hji:j=i
  · subst hji;exact hy.wpOp hi hS ⟨fun _=>hS,H⟩
  exact absurd (H.1▸ready_mono hj hji) List.not_mem_nil
 | succ n ih=>
  refine fun l a w hc hfr hr hy hS H=>⟨fun h=>absurd (h▸hr) List.not_mem_nil,fun j hj=>?_⟩;by_cases hji:j=i
  · subst hji;exact hy.wpOp hi hS ⟨fun _=>hS,H⟩
  have hjT:=hnx l j hc hr hj;obtain ⟨hun,oj,hoj,hall⟩:=mem_ready.1 hj;have hnw:∀ e∈oj.after,Region.binds md e=true->e.on≠i:=fun e he hb heq=>by
   have h1:=hall e he hb;have h0:=(mem_ready.1 hr).1;rw [heq] at h1;rcases Nat.lt_or_ge i l.size with h' | h'
   · simp [h'] at h0 h1;rw [h0] at h1;cases h1
   simp [Array.getElem?_eq_none h'] at h1
  refine wpOp_mono (fun a' w' h=>?_) (wpOp_putIf hoj (hfr j oj hoj hji hun hnw) (fun cs b=>hsel i oi cs b hi) (fun cs b=>hsel j oj cs b hoj) hQ hy (H.2 j (ready_mono hj hji)));obtain ⟨hy',hs',hw'⟩:=h;refine ⟨hs',ih _ a' w' (clo_set hc hj) (fun k ok hk hki hu hno=>hfr k ok hk hki ?_ hno) (ready_mono hr (Ne.symm hji)) hy' (hs' hjT) ?_⟩
  · by_cases hjk:j=k
    · exact hjk▸hun
    rwa [getD_set_ne true hjk] at hu
  rw [Array.setIfInBounds_comm _ _ hji];exact hw'
theorem lk2 {i:Nat} {oi:Oper} {v:Value} {n:Nat} {l:Array Bool} {a:Act} {w:World} (hi:ops[i]?=some oi) (hb:(cloB md ops l&&chainT md ops 12 T i&&Region.noSelect ops&&Region.free md ops l i&&(Region.ready md ops l).contains i)=true) (hw:Region.wanted oi (yielded ops a.tmps)=true) (hv:∀ u,S u->(execOp a.eval oi).run P u=.ok (.value v) u) (hS:S w) (h:wpL P md ops Q S T n (l.setIfInBounds i true) (a.put oi.dst v) w) (hQ:∀ c a w,Q (.panic c) (a.put oi.dst v) w->Q (.panic c) a w:=by exact fun _ _ _ h=>h):wpL P md ops Q S T (n+1) l a w:=by
 simp only [Bool.and_eq_true] at hb;exact wpL_first2 hi hb.1.1.1.2 (Region.noSelect_spec hb.1.1.2) hQ n l a w (clo_of hb.1.1.1.1) (Region.free_spec hi hb.1.2) (by simpa using hb.2) (.inl ⟨hw,hv⟩) hS h
theorem l2 {v:Value} {n:Nat} {l:Array Bool} {a:Act} {w:World} {d:Option Nat} {op:Op} {ty:TypeId} {p:String} {af:Array Edge} {g:Option (Nat×Bool)} (i:Nat) (hS:S w) (h:wpL P md ops Q S T n (l.setIfInBounds i true) (a.put d v) w) (hi:ops[i]?=some ⟨d,op,ty,p,af,g⟩:=by exact rfl) (hb:(cloB md ops l&&chainT md ops 12 T i&&Region.noSelect ops&&Region.free md ops l i&&(Region.ready md ops l).contains i)=true:=by kernel_rfl) (hw:Region.wanted ⟨d,op,ty,p,af,g⟩ (yielded ops a.tmps)=true:=by exact rfl) (hv:∀ u,S u->(execOp a.eval ⟨d,op,ty,p,af,g⟩).run P u=.ok (.value v) u:=by intro wq hSw;(try dsimp only at hSw);go_simp;try with_reducible rfl) (hQ:∀ c a w,Q (.panic c) (a.put d v) w->Q (.panic c) a w:=by first | exact fun _ _ _ h=>h | exact fun _ _ _ h=>hQ _ _ _ _ _ h):wpL P md ops Q S T (n+1) l a w:=lk2 hi hb hw hv hS h hQ
end
end Go.Proofs.YtlckdgjfniglfaaGreatDoor
namespace Go.Proofs.YtlckdgjfniglfaaGreatDoor
open Proofs.Tryz
open Go.RowKit
theorem info74:(prog.info? 74).map (fun i=>(i.zero,i.size,i.bytes))=some (some (.agg #[Value.bool false,.string ⟨#[]⟩,.int .i64 0,.string ⟨#[]⟩]),4,48):=kr_
structure D8 where
 nm:ByteArray
 made:Bool
 km:M3
 ls:List L4
 cd:Int
 tx:ByteArray
def D8.le (x:D8) (B:Nat):Prop:=x.nm.size<=B/\x.km.le B/\(x.ls.length<=B/\∀ i,(x.ls.getD i l4z).le B)/\x.tx.size<=B
def DeedAt (w:World) (b o:Nat) (x:D8):Prop:=∃ ai ci,(w.cell? ⟨b,o,none⟩=some (.string x.nm)/\w.cell? ⟨b,o+1,none⟩=some (.bool x.made)/\w.cell? ⟨b,o+2,none⟩=some (.string x.km.nm)/\w.cell? ⟨b,o+3,none⟩=some (.string x.km.tl)/\w.cell? ⟨b,o+4,none⟩=some (.string x.km.ar)/\w.cell? ⟨b,o+5,none⟩=some (.slice ai x.ls.length ci)/\w.cell? ⟨b,o+6,none⟩=some (.int .i64 x.cd)/\w.cell? ⟨b,o+7,none⟩=some (.string x.tx))/\LksAt w ai x.ls
theorem DeedAt.below {w w':World} {b o:Nat} {x:D8} (h:DeedAt w b o x) (hlt:b<w.heap.size) (hb:Below w.heap.size w w'):DeedAt w' b o x:=by
 obtain ⟨ai,ci,hc,hg⟩:=h;refine ⟨ai,ci,?_,lks_below hg hb⟩;rw [hb.cell (by exact hlt),hb.cell (by exact hlt),hb.cell (by exact hlt),hb.cell (by exact hlt),hb.cell (by exact hlt),hb.cell (by exact hlt),hb.cell (by exact hlt),hb.cell (by exact hlt)];exact hc
end Go.Proofs.YtlckdgjfniglfaaGreatDoor

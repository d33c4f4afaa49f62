import Derived.Test.YtchjpjmcnhjbcaaGreatDoortV5
import Derived.Test.YtchjpjmcnhjbcaaGreatDoorvF
set_option linter.unusedVariables false
set_option maxHeartbeats 8000000
set_option maxRecDepth 100000
namespace Go.Proofs.YtchjpjmcnhjbcaaGreatDoor.T
open Proofs.Tryz Go.RowKit
variable {w w' wr:World} {b base g k n:Nat} {t v:Value} {fs gs:List F2} {e:TypeId} {xs:List Value} {nm:BY}
def Tn (w:World) (b n:Nat):Prop:=b<w.heap.size/\(∀ j,j<n*2->∃ v,w.cell? ⟨b,j,none⟩=some v)/\∀ j,w.frozen? ⟨b,j,none⟩=false
theorem Tn.below (h:Tn w b n) (a:Bw w w'):Tn w' b n:=
 ⟨O9 h.1 a.size,fun j c=>by rw [a.cell (by exact h.1)];exact h.2.1 j c,fun j=>by rw [a.frozen (by exact h.1)];exact h.2.2 j⟩
theorem Tn.set {j:Nat} (h:Tn w b n) (hj:j<n*2):Tn (w.setCell ⟨b,j,none⟩ v) b n:=by
 refine ⟨by simpa using h.1,fun i a=>?_,fun i=>by have:=h.2.2 i;simpa using this⟩;by_cases e:i=j
 · subst e;obtain ⟨x,hx⟩:=h.2.1 i a;exact ⟨v,jg _ _ _ hx⟩
 · rw [Na _ _ _ _ (Ed (Ne.symm e))];exact h.2.1 i a
def I4 (fs:List F2):List Value:=fs.flatMap fun x=>[.string x.nm,.string x.tx]
theorem A8 (fs:List F2):(I4 fs).length=fs.length*2:=by
 induction fs with
 | nil=>rfl
 | cons x r ih=>unfold I4 at *;simp only [List.flatMap_cons,List.length_append,List.length_cons,List.length_nil,ih];omega
theorem Tc (fs gs:List F2):I4 (fs++gs)=I4 fs++I4 gs:=by simp [I4]
theorem Xc (fs:List F2) (i:Nat) (h:i<fs.length):(I4 fs)[i*2]?=some (.string (fs.getD i I8).nm)/\(I4 fs)[i*2+1]?=some (.string (fs.getD i I8).tx):=by
 induction fs generalizing i with
 | nil=>simp at h
 | cons x r ih=>
  cases i with
  | zero=>exact ⟨rfl,rfl⟩
  | succ i=>
   have:=ih i (by simpa using h);have e:∀ j,(I4 (x::r))[(i+1)*2+j]?=(I4 r)[i*2+j]?:=fun j=>by
    show ([Value.string x.nm,vS x.tx]++I4 r)[(i+1)*2+j]?=_;rw [Ue U7]
    congr 1
    simp;omega
   have e0:=e 0;simp only [En] at e0;rw [e0,e 1];exact this
theorem yh:∀ u∈I4 fs,u.oneCell'=true:=by
 intro u a;unfold I4 at a;obtain ⟨x,_,hx⟩:=zD.1 a;simp at hx;rcases hx with rfl | rfl <;> rfl
def Ak (w:World) (base:Nat) (v:Value) (fs:List F2):Prop:=w.ownsRow base 133 2 v fs.length (I4 fs)
theorem Ak.form (h:Ak w base v fs):∃ a b,v=.slice a fs.length b/\G6 w a fs:=by
 have c:=h;rcases h.2 with ⟨hv,h0⟩ | ⟨g,b,cur,hv,hg,e,_⟩
 · exact ⟨none,0,by rw [hv,h0],.inl (Va.1 h0)⟩
 · refine ⟨some ⟨g,0,none⟩,b,hv,?_⟩;subst hv;refine .inr ⟨g,0,rfl,Jf e,fun i d=>?_⟩;obtain ⟨e0,e1⟩:=Xc fs i d;rw [L8,c.cellAt _ O0,c.cellAt _ O0];exact ⟨e0,e1⟩
theorem Ak.below (h:Ak w base v fs) (a:Bw w w'):Ak w' base v fs:=ownsRow_below h a
theorem yw {off:Nat} (h:∀ i,i<fs.length->w.cell? ⟨b,off+i*2,none⟩=some (.string (fs.getD i I8).nm)/\w.cell? ⟨b,off+i*2+1,none⟩=some (.string (fs.getD i I8).tx)) (j:Nat) (u:Value) (a:(I4 fs)[j]?=some u):w.cell? ((⟨b,off,none⟩:Addr).add j)=some u:=by
 have hl:j<fs.length*2:=by rw [<- A8];exact (Tm.1 a).1
 have e:(⟨b,off,none⟩:Addr).add j=⟨b,off+j,none⟩:=by unfold Addr.add;split <;> simp_all
 rw [e];obtain ⟨e0,e1⟩:=Xc fs (j / 2) O0;obtain ⟨h0,h1⟩:=h (j / 2) O0;rcases DI j with hm | hm
 · have c:j / 2*2=j:=O0;rw [c] at e0 h0;rw [e0] at a;rw [h0];exact a
 · have c:j / 2*2+1=j:=O0;rw [c] at e1;rw [Nat.add_assoc,c] at h1;rw [e1] at a;rw [h1];exact a
theorem c208 (a:OA) (m:Nat) (fs:List F2) (w:World) (hl:fs.length<=1000) (i:G6 w a fs):
 Calls prog 208 #[.slice a fs.length m] w fun e w'=>∃ v',e=.returned v'/\Ak w' w.heap.size v' fs/\Bw w w':=by
 have q27:∀ (w:World) (a:OA) (n c f o:Nat),(binOp .eql 38 (vL a n c) (vL none f o)).run prog w=.ok (.bool a.isNone) w:=fun w a n c f o=>Lib.run_eql_slice_nil w _ _ a n c f o underlying38
 cases a with
 | none=>
  obtain rfl:fs=[]:=by
   rcases i with h | ⟨b,off,h,_⟩
   · exact h
   cases h
  go_enter func208,ntmps208;go_wp2;go_ret;exact ⟨_,rfl,⟨rfl,.inl ⟨rfl,rfl⟩⟩,Z4 _ _⟩
 | some ad=>
  obtain ⟨W,l⟩:∃ W:World,W=w.alloc (.cells #[] 133):=⟨_,rfl⟩;have d:Bw w W:=by rw [l];exact P6
  have q:Hid (W.ownsRow w.heap.size 133 2 (vL (some ⟨w.heap.size,0,none⟩) 0 0) 0 []):=by show World.ownsRow _ _ _ _ _ _ _;rw [l];exact KH w #[] 0 H8 (J4 _) rfl
  have t:Hid (Src W (vL (some ad) fs.length m) 2 fs.length (I4 fs)):=by
   refine .inr ⟨ad,m,rfl,A8 fs,fun j u p=>?_⟩;rcases i with rfl | ⟨b,off,h,s,hc⟩
   · simp [I4] at p
   injection h with h;subst h;have h:=yw hc j u p;rw [Jq] at h ⊢;exact (d.cell s).trans h
  clear i;go_enter func208,ntmps208
  go_wp2_with (at_builtin;rw [<- l];refine Xq rfl _ _ 38 rfl w.heap.size 133 2 underlying38 (Ll Y2) o6 (vL (some ⟨w.heap.size,0,none⟩) 0 0) 0 [] rfl q.out _ fs.length (I4 fs) rfl t.out yh O0 d.size ?_;intro v' w1 O g _;rw [L8,Ua] at O;have v:=U0 O;have x:=U0 ((d.grown g d.size (fun k r=>(q.out.lt k r).1)));clear O g)
  go_ret;exact ⟨_,rfl,v.out,x.out⟩
theorem Dy {size:Nat} (h:w.ownsRow base e size v n xs) (f:But b w w') (c:v.ownBlock≠some b):w'.ownsRow base e size v n xs:=by
 refine ⟨h.1,?_⟩;rcases h.2 with h2 | ⟨g,i,cur,hv,d,a,r⟩
 · exact .inl h2
 · refine .inr ⟨g,i,cur,hv,d,?_,r⟩;rw [f.block g (Jf a) (fun e=>c (by rw [hv,e];rfl))];exact a
theorem TN {B:Nat} (h:w.ownsRow B e 2 v n xs):∃ ao c,v=.slice ao n c:=by
 rcases h.2 with ⟨hv,h0⟩ | ⟨g,cap,cur,hv,_⟩
 · exact ⟨none,0,by rw [hv,h0]⟩
 · exact ⟨_,_,hv⟩
theorem a0D (w:World) (x y:Value) (t:TypeId):∀ j u,[x,y][j]?=some u->(w.alloc (.cells #[x,y] t)).cell? ((⟨w.heap.size,0,none⟩:Addr).add j)=some u:=by
 intro j u h
 match j,h with
 | 0,h=>simp at h;subst h;simp [Addr.add]
 | 1,h=>simp at h;subst h;simp [Addr.add]
theorem a1l (w:World) (x y:Value) (t:TypeId):∀ j u,[x,y][j]?=some u->(w.alloc (.cells #[x,y] t)).drew.cell? ((⟨w.heap.size,0,none⟩:Addr).add j)=some u:=fun j u h=>a0D w x y t j u h
theorem Xi (h:k<fs.length):fs.take (k+1)=fs.take k++[fs.getD k I8]:=by
 rw [Ey h];simp [List.getD,Z8 h]
def without (fs:List F2) (nm:BY):List F2:=fs.filter fun x=>!(x.nm.toList==nm.toList)
theorem dF (h:k<fs.length) (hx:((fs.getD k I8).nm.toList==nm.toList)=true):without (fs.take (k+1)) nm=without (fs.take k) nm:=by
 unfold without;rw [Xi h,Zu];generalize fs.getD k I8=x at*;simp [hx]
theorem XC (h:k<fs.length) (hx:((fs.getD k I8).nm.toList==nm.toList)=false):without (fs.take (k+1)) nm=without (fs.take k) nm++[fs.getD k I8]:=by
 unfold without;rw [Xi h,Zu];generalize fs.getD k I8=x at*;simp [hx]
theorem Kv (fs:List F2) (nm:BY):(without fs nm).length<=fs.length:=SH _ _
structure Eu (w wr:World) (t:Value) (v:Value) (gs:List F2):Prop where
 bel:Bw w wr
 ht:wr.heap[w.heap.size]?=some (.cells #[t] 40 (0,0))
 hr:wr.heap[w.heap.size+1]?=some (.cells #[.slice none 0 0] 40 (0,0))
 ho:wr.heap[w.heap.size+1+1]?=some (.cells #[v] 40 (0,0))
 own:Ak wr (w.heap.size+3) v gs
theorem qc (a:g=w.heap.size) (o:Obj):(w.alloc o).heap[g]?=some o:=by
 subst a;exact Array.getElem?_push_size
def strOf:Value->Nat | .string s=>s.size | _=>0
theorem alloc_old (a:g<w.heap.size) (o:Obj):(w.alloc o).heap[g]?=w.heap[g]?:=Ov w o g a
theorem Eu.start (w:World) (t:Value):Eu w (((w.alloc (.cells #[t] 40)).alloc (.cells #[.slice none 0 0] 40)).alloc (.cells #[.slice none 0 0] 40)) t (.slice none 0 0) []:=by
 refine ⟨((P6.alloc X4 _).alloc U7 _),?_,?_,?_,⟨rfl,.inl ⟨rfl,rfl⟩⟩⟩
 · rw [alloc_old U7,alloc_old X4];exact qc rfl _
 · rw [alloc_old X4];exact qc X4 _
 · exact qc X4 _
theorem Eu.sz (h:Eu w wr t v gs):w.heap.size+3<=wr.heap.size:=Jf h.ho
theorem Eu.cells (h:Eu w wr t v gs):wr.cell? ⟨w.heap.size,0,none⟩=some t/\wr.cell? ⟨w.heap.size+1,0,none⟩=some (.slice none 0 0)/\wr.cell? ⟨w.heap.size+1+1,0,none⟩=some v/\wr.frozen? ⟨w.heap.size+1,0,none⟩=false/\wr.frozen? ⟨w.heap.size+1+1,0,none⟩=false:=
 ⟨by rw [Lib.cell_of_heap h.ht];rfl,by rw [Lib.cell_of_heap h.hr];rfl,by rw [Lib.cell_of_heap h.ho];rfl,Lib.frozen_of_heap h.hr 0,Lib.frozen_of_heap h.ho 0⟩
theorem Eu.app {a:World} {v':Value} {x:F2} {o:Obj} (h:Eu w wr t v gs) (ho:a.ownsRow (w.heap.size+3) 133 2 v' (gs.length+1) (I4 gs++[.string x.nm,.string x.tx])) (f:(wr.alloc o).drew.grownBy a v.ownBlock):
 Eu w (a.setCell ⟨w.heap.size+1+1,0,none⟩ v') t v' (gs++[x])/\a.cell? ⟨w.heap.size+1+1,0,none⟩=some v/\a.frozen? ⟨w.heap.size+1+1,0,none⟩=false:=by
 have hz:=h.sz;have hd:(wr.alloc o).drew.heap.size=wr.heap.size+1:=by show (wr.alloc o).heap.size=_;simp
 have key:∀ k,k<w.heap.size+3->a.heap[k]?=wr.heap[k]?:=fun k d=>by
  rw [f.block k (by rw [hd];omega) (fun e=>by have:=(h.own.lt k e.symm).1;omega)];show (wr.alloc o).heap[k]?=_;exact alloc_old O0 _
 have g:=((h.bel.alloc O0 _).drew).grown f (by rw [hd];omega) (fun k d=>by have:=(h.own.lt k d).1;omega);have c:=(key _ O0).trans h.ho;have hz2:w.heap.size+3<=a.heap.size:=Jf c;refine ⟨⟨g.setCell U7 _,?_,?_,?_,?_⟩,by rw [Lib.cell_of_heap c];rfl,Lib.frozen_of_heap c 0⟩
 · rw [Ec _ _ _ _ U7];exact (key _ O0).trans h.ht
 · rw [Ec _ _ _ _ X4];exact (key _ O0).trans h.hr
 · exact heap_setCell_same a (w.heap.size+1+1) 0 _ 40 v' c
 · have hl:(gs++[x]).length=gs.length+1:=X4;show (a.setCell ⟨w.heap.size+1+1,0,none⟩ v').ownsRow (w.heap.size+3) 133 2 v' (gs++[x]).length (I4 (gs++[x]));rw [hl,Tc];refine Dy (b:=w.heap.size+1+1) ho ((But.refl _ _).setCell _ _) (fun e=>by have:=(ho.lt _ e).1;omega)
theorem a2C (a:OA) (g:Nat) (fs:List F2) (nm:BY) (w:World) (hl:fs.length<=40) (y:G6 w a fs):
 Calls prog 192 #[.agg #[.slice a fs.length g],.string nm] w fun e w'=>(∃ v,e=.returned (.agg #[v])/\Ak w' (w.heap.size+3) v (without fs nm))/\Bw w w':=by
 obtain ⟨b,off,hc⟩:=Z9 y;have S:=U0 hc;have P:=Eu.start w (vL a fs.length g);obtain ⟨D,L,H,F,E⟩:=info_parts Fp;clear hc y;go_enter func192,ntmps192
 go_wp2_with fail
 go_loopw [6] (fun i wr=>∃ (k:Nat) (v:Value),k<=fs.length/\i=.int .i64 k/\Hid (Eu w wr (.slice a fs.length g) v (without (fs.take k) nm))) (fun i _=>fs.length - (RowKit.intOf i).toNat)
 case atStart=>exact ⟨0,_,J4 _,rfl,P⟩
 case round=>
  obtain ⟨k,v,hk,rfl,c⟩:=hrel;obtain ⟨O,cr,co,fr,N⟩:=c.out.cells;have hzr:=c.out.sz;by_cases f:k<fs.length
  · obtain ⟨ha,t,l⟩:=Cc S.out f;subst ha;have g0:=(c.out.bel.cell (p:=⟨b,off+k*2,none⟩) t).trans (l k f).1;have g1:=(c.out.bel.cell (p:=⟨b,off+k*2+1,none⟩) t).trans (l k f).2;have q:Hid (((fs.getD k I8).nm.toList==nm.toList)=true->without (fs.take (k+1)) nm=without (fs.take k) nm):=dF f;have o:Hid (((fs.getD k I8).nm.toList==nm.toList)=false->without (fs.take (k+1)) nm=without (fs.take k) nm++[fs.getD k I8]):=XC f;have hgl:(without (fs.take k) nm).length<=k:=G7 (Kv _ _) (List.length_take_le _ _);generalize fs.getD k I8=x at*;generalize without (fs.take k) nm=gs at*;clear l;cases hq:(x.nm.toList==nm.toList)
    · have A:=o.out hq;have Q:=U0 A;have K:=c.out.own;obtain ⟨n,m,hv,_⟩:=K.form;subst hv;clear q o A;have co':=past (p:=⟨w.heap.size+1+1,0,none⟩) (by show w.heap.size+1+1<wr.heap.size;omega) co;have J:wr.ownsRow (w.heap.size+3) 133 2 (vL n gs.length m) gs.length (I4 gs):=c.out.own
      go_wp2_with fail
      go_region_law (refine Ur rfl (.tmp 24) (.tmp 30) 38 rfl (w.heap.size+3) 133 D (.agg #[vE,vE]) 2 32 underlying38 L H F E rfl o6 _ _ _ rfl ((J.alloc _).drew) ⟨wr.heap.size,0,none⟩ 1 1 [_,_] rfl rfl (a1l _ _ _ _) (by intro u r;simp at r;rcases r with rfl | rfl <;> rfl) (by unfold maxLen;omega) O0 U7 ?_;intro v' C j s;have h:=c.out.app (x:=x) j s;have U:Hid (Eu w (C.setCell ⟨w.heap.size+1+1,0,none⟩ v') (vL (some ⟨b,off,none⟩) fs.length g) v' (gs++[x])):=h.1;have d1:=h.2.1;have d2:=h.2.2;obtain ⟨ao,cpo,I⟩:=TN j;subst I;clear h j s)
      all_goals
       go_wp2;go_roundw
       case rel=>exact ⟨k+1,_,O0,by go_num,by rw [Q.out];exact U.out⟩
       case measure=>simp [RowKit.intOf];omega
    · have R:=U0 (q.out hq);clear q o;go_wp2;go_roundw
      case rel=>exact ⟨k+1,v,O0,by go_num,by rw [R.out];exact c.out⟩
      case measure=>simp [RowKit.intOf];omega
  · have B:Hid (without (fs.take k) nm=without fs nm):=by rw [l_ O0];rfl
    have d:Hid (Eu w wr (vL a fs.length g) v (without fs nm)):=by rw [<- B.out];exact c.out
    obtain ⟨n,m,hv,_⟩:=d.out.own.form;subst hv;obtain ⟨O,cr,co,fr,N⟩:=d.out.cells;have hB:=d.out.bel;have z:=U0 d.out.own;clear c d B;go_wp2;refine Y6 (v:=.agg #[vL n (without fs nm).length m]) (by simp [results,results192,go_sem,cr]) rfl ⟨⟨_,rfl,?_⟩,?_⟩
    · exact Dy (b:=w.heap.size+1) z.out ((But.refl _ _).setCell _ _) (fun e=>by have:=(z.out.lt _ e).1;omega)
    · exact hB.setCell X4 _
end Go.Proofs.YtchjpjmcnhjbcaaGreatDoor.T
namespace Go.Proofs.YtchjpjmcnhjbcaaGreatDoor
open Proofs.Tryz Go.RowKit
def VU:List Value->Nat->List Value->List Value
 | xs,_,[]=>xs
 | xs,j,v::vs=>VU (xs.set j v) (j+1) vs
theorem Cl.QX {B:Nat} {t:TypeId}:∀ (vs:List Value) {w:World} {xs:List Value} {j:Nat},Cl w B t xs->Cl (fill w B j vs) B t (VU xs j vs)
 | [],_,_,_,h=>h
 | v::vs,_,_,j,h=>Cl.QX vs (h.set j v)
section
variable {P:Program} {ops:Array Oper} {Q:Exit->Act->World->Prop} {rest:List Oper} {o:Oper} {a:Act} {w V:World} {ta tr:TypeId} {ar zs xs:List Value} {R:World->Prop}
theorem Xd (H:TB w ta tr ar zs xs R V) (g:o.guard=none) (ty:TypeId) (x y:Operand) (ho:o.op=.store ty x y) {j:Nat} {xs':List Value} (v:Value) (hx:a.eval x=.pointer (some ⟨w.heap.size+1+1,j,none⟩)) (c:a.eval y=v) (hv:v.oneCell'=true) (e:j<xs.length) (f:(P.info? ty).map (·.size)=some 1)
 (h:∀ b,Hid (TB w ta tr ar zs xs' R b)->wpList P ops Q rest (a.put o.dst undef) b) (d:xs.set j v=xs':=by simp only [List.set_cons_zero,List.set_cons_succ]<;>rfl):wpList P ops Q (o::rest) a V:=by
 subst c d;exact Qz g (Yq ty x y ho hx hv ⟨xs[j],by rw [H.co.cell,Z8 e]⟩ (H.co.opn j) f) (h _ (H.put j _))
theorem VG (H:TB w ta tr ar zs xs R V) (f:o.guard=none) (ty:TypeId) (x y:Operand) (ho:o.op=.store ty x y) {j:Nat} {xs':List Value} (vs:List Value) (hx:a.eval x=.pointer (some ⟨w.heap.size+1+1,j,none⟩)) (c:a.eval y=.agg vs.toArray) (hl:j+vs.length<=xs.length) (hv:vs.all Value.oneCell'=true) (e:(P.info? ty).map (·.size)=some vs.length)
 (g:∀ b,Hid (TB w ta tr ar zs xs' R b)->wpList P ops Q rest (a.put o.dst undef) b) (d:VU xs j vs=xs':=by simp only [VU,List.set_cons_zero,List.set_cons_succ]<;>rfl):wpList P ops Q (o::rest) a V:=by
 subst d;exact Qz f (iI ty x y ho hx c H.co hl (o8 hv) e) (g _ (H.on (YE _ _ _ _) (Cl.QX vs H.co)))
theorem IA (H:TB w ta tr ar zs xs R V) (f:o.guard=none) (ty:TypeId) (x:Operand) (ho:o.op=.load ty x) (cs:List Value) {d:TypeDesc} (hx:a.eval x=.pointer (some ⟨w.heap.size+1+1,0,none⟩)) (hc:xs=cs) (b:P.underlying ty=some d) (hd:(match d with | .struct _ | .array _ _=>true | _=>false)=true) (c:(P.info? ty).map (·.size)=some cs.length) (g:wpList P ops Q rest (a.put o.dst (.agg cs.toArray)) V):wpList P ops Q (o::rest) a V:=by
 subst hc;exact Y9 f (X8 ty x ho hx (fun q v e=>by rw [L8];exact (H.co.cell q).trans e) b hd c) g
theorem Kz (H:TB w ta tr ar zs xs R V) (g:o.guard=none) (ty:TypeId) (x y:Operand) (ho:o.op=.store ty x y) (vs:List Value) (hx:a.eval x=.pointer (some ⟨w.heap.size+1,0,none⟩)) (d:a.eval y=.agg vs.toArray) (hl:vs.length=zs.length) (hv:vs.all Value.oneCell'=true) (f:(P.info? ty).map (·.size)=some vs.length)
 (h:∀ z,D5 z (w.heap.size+1) vs->Kp w.heap.size z R->Bw w z->wpList P ops Q rest (a.put o.dst undef) z):wpList P ops Q (o::rest) a V:=
 y9 g ty x y ho hx d H.cr O0 (o8 hv) f (fun z c b=>h z (by
  have e:Um zs 0 vs=vs:=by unfold Um;rw [Nat.zero_add,hl];simp
  rw [e] at c;exact c.blk) (H.end_ b).1 (H.end_ b).2)
end
theorem c68 (x:Jb) (w:World):
 Calls prog 68 #[.agg #[.string x.nm,.int .i64 x.wk,.int .i64 x.un]] w fun e w'=>e=.returned (.agg #[.string x.nm,.int .i64 x.wk,.int .i64 x.un])/\Bw w w':=by
 go_enter func68,ntmps68;go_wp2;refine Y6 (v:=.agg #[vS x.nm,vI x.wk,vI x.un]) (by simp [results,results68,go_sem]) rfl ⟨rfl,?_⟩;exact ((P6.alloc X4 _).alloc U7 _)
theorem c26 (a:OA) (u:Nat) (is:List Jb) (w:World) (hl:is.length<=1048576) (q:Bl w a is):
 Calls prog 26 #[.slice a is.length u] w fun e w'=>(∃ v,e=.returned v/\Aq w.heap.size w' Bl 107 3 is v)/\Bw w w':=by
 obtain ⟨b,off,hc⟩:=N_ q;have A:=U0 hc;clear hc q;have hmk:=Pv (z:=[vE,vO,vO]) underlying45 (show (prog.info? 107).map (fun i=>(i.zero,i.size,i.bytes))=some (some (.agg #[vE,vO,vO]),3,32) from Y2) rfl rfl o6 hl;go_enter func26,ntmps26
 go_wp2_with fail
 go_loopw [4] (fun i wr=>∃ (k:Nat),k<=is.length/\i=.int .i64 k/\Below w.heap.size w wr/\Hid (Cl wr w.heap.size 107 (Jt is VT [.string ⟨#[]⟩,.int .i64 0,.int .i64 0] k))) (fun i _=>is.length - (RowKit.intOf i).toNat)
 case atStart=>exact ⟨0,J4 _,rfl,P6,Y4 _ _ _⟩
 case round=>
  obtain ⟨k,hk,rfl,g,hc⟩:=hrel;by_cases c:k<is.length;rotate_left
  · obtain rfl:k=is.length:=O0;have hd:Hid (Aq w.heap.size wr Bl 107 3 is _):=Ik (d:=Jc) (fun _=>rfl) (fun _ _ _ h=>h) hc.out;go_wp2;go_ret;exact ⟨⟨_,rfl,hd.out⟩,g⟩
  obtain ⟨ha,s,o⟩:=Cc A.out c;subst ha;have C:=U0 ((o k c).below s g);have r:=U0 (Nk (d:=Jc) (z:=[vE,vO,vO]) (f:=VT) (m:=3) (fun _=>rfl) rfl c);generalize is.getD k Jc=x at*;clear o
  go_wp2_with (refine Y9 rfl (X8 91 _ rfl (B:=b) (j:=off+k*3) (cs:=VT x) rfl C.out underlying91 rfl Y2) ?_)
  refine (c68 x wr).mono ?_;rintro e w1 ⟨rfl,p⟩;have t:=X5 g p;have y:=U0 (hc.out.below p hc.out.lt)
  go_wp2_with (refine y9 rfl 107 _ _ rfl (B:=w.heap.size) (j:=k*3) rfl (vs:=VT x) rfl y.out r.out.1 (o8 rfl) Y2 ?_;intro z l n;rw [r.out.2] at l;have D:=U0 l;have bz:=t.trans (n.below H8);clear l n)
  go_roundw
  case rel=>exact ⟨k+1,O0,by go_num,bz,D⟩
  case measure=>simp [RowKit.intOf];omega
theorem a2A (x:T.F2) (w:World):
 Calls prog 103 #[.agg #[.string x.nm,.string x.tx]] w fun e w'=>e=.returned (.agg #[.string x.nm,.string x.tx])/\Bw w w':=by
 go_enter func103,ntmps103;go_wp2;refine Y6 (v:=.agg #[vS x.nm,vS x.tx]) (by simp [results,results103,go_sem]) rfl ⟨rfl,?_⟩;exact ((P6.alloc X4 _).alloc U7 _)
theorem c65 (a:OA) (u:Nat) (is:List T.F2) (w:World) (hl:is.length<=1048576) (q:qM w a is):
 Calls prog 65 #[.slice a is.length u] w fun e w'=>(∃ v,e=.returned v/\Aq w.heap.size w' qM 133 2 is v)/\Bw w w':=by
 obtain ⟨b,off,hc⟩:=N_ q;have A:=U0 hc;clear hc q;have hmk:=Pv (z:=[vE,vE]) underlying38 (show (prog.info? 133).map (fun i=>(i.zero,i.size,i.bytes))=some (some (.agg #[vE,vE]),2,32) from Y2) rfl rfl o6 hl;go_enter func65,ntmps65
 go_wp2_with fail
 go_loopw [4] (fun i wr=>∃ (k:Nat),k<=is.length/\i=.int .i64 k/\Below w.heap.size w wr/\Hid (Cl wr w.heap.size 133 (Jt is fiE [.string ⟨#[]⟩,.string ⟨#[]⟩] k))) (fun i _=>is.length - (RowKit.intOf i).toNat)
 case atStart=>exact ⟨0,J4 _,rfl,P6,Y4 _ _ _⟩
 case round=>
  obtain ⟨k,hk,rfl,g,hc⟩:=hrel;by_cases c:k<is.length;rotate_left
  · obtain rfl:k=is.length:=O0;have hd:Hid (Aq w.heap.size wr qM 133 2 is _):=Ik (d:=T.I8) (fun _=>rfl) (fun _ _ _ h=>h) hc.out;go_wp2;go_ret;exact ⟨⟨_,rfl,hd.out⟩,g⟩
  obtain ⟨ha,s,o⟩:=Cc A.out c;subst ha;have C:=U0 ((o k c).below s g);have r:=U0 (Nk (d:=T.I8) (z:=[vE,vE]) (f:=fiE) (m:=2) (fun _=>rfl) rfl c);generalize is.getD k T.I8=x at*;clear o
  go_wp2_with (refine Y9 rfl (X8 126 _ rfl (B:=b) (j:=off+k*2) (cs:=fiE x) rfl C.out underlying126 rfl Y2) ?_)
  refine (a2A x wr).mono ?_;rintro e w1 ⟨rfl,p⟩;have t:=X5 g p;have y:=U0 (hc.out.below p hc.out.lt)
  go_wp2_with (refine y9 rfl 133 _ _ rfl (B:=w.heap.size) (j:=k*2) rfl (vs:=fiE x) rfl y.out r.out.1 (o8 rfl) Y2 ?_;intro z l n;rw [r.out.2] at l;have D:=U0 l;have bz:=t.trans (n.below H8);clear l n)
  go_roundw
  case rel=>exact ⟨k+1,O0,by go_num,bz,D⟩
  case measure=>simp [RowKit.intOf];omega
def qQ (w:World) (a:OA) (is:List G3):Prop:=Jz w a is Vg 3 fun w b o x=>Bc w b o (JY x)
theorem KU {w:World} {a:OA} {is:List G3} (h:R_ w a is):qQ w a is:=by
 rcases h with h | ⟨b,off,h1,h2,d⟩
 · exact .inl h
 refine .inr ⟨b,off,h1,h2,fun i c q v e=>?_⟩
 match q,e with
 | 0,e=>cases e;exact (d i c).1
 | 1,e=>cases e;exact (d i c).2.1
 | 2,e=>cases e;exact (d i c).2.2
theorem LW {w:World} {a:OA} {is:List G3} (h:qQ w a is):R_ w a is:=by
 rcases h with h | ⟨b,off,h1,h2,d⟩
 · exact .inl h
 exact .inr ⟨b,off,h1,h2,fun i c=>⟨d i c 0 _ rfl,d i c 1 _ rfl,d i c 2 _ rfl⟩⟩
theorem a2K (x:G3) (w:World):
 Calls prog 200 #[.agg #[.bool x.nm,.string x.tl,.string x.ar]] w fun e w'=>e=.returned (.agg #[.bool x.nm,.string x.tl,.string x.ar])/\Bw w w':=by
 go_enter func200,ntmps200;go_wp2;refine Y6 (v:=.agg #[.bool x.nm,vS x.tl,vS x.ar]) (by simp [results,results200,go_sem]) rfl ⟨rfl,?_⟩;exact ((P6.alloc X4 _).alloc U7 _)
theorem c148 (a:OA) (u:Nat) (is:List G3) (w:World) (hl:is.length<=1048576) (q:qQ w a is):
 Calls prog 148 #[.slice a is.length u] w fun e w'=>(∃ v,e=.returned v/\Aq w.heap.size w' qQ 205 3 is v)/\Bw w w':=by
 obtain ⟨b,off,hc⟩:=N_ q;have A:=U0 hc;clear hc q;have hmk:=Pv (z:=[.bool false,vE,vE]) underlying143 (show (prog.info? 205).map (fun i=>(i.zero,i.size,i.bytes))=some (some (.agg #[.bool false,vE,vE]),3,40) from Y2) rfl rfl o6 hl;go_enter func148,ntmps148
 go_wp2_with fail
 go_loopw [4] (fun i wr=>∃ (k:Nat),k<=is.length/\i=.int .i64 k/\Below w.heap.size w wr/\Hid (Cl wr w.heap.size 205 (Jt is JY [.bool false,.string ⟨#[]⟩,.string ⟨#[]⟩] k))) (fun i _=>is.length - (RowKit.intOf i).toNat)
 case atStart=>exact ⟨0,J4 _,rfl,P6,Y4 _ _ _⟩
 case round=>
  obtain ⟨k,hk,rfl,g,hc⟩:=hrel;by_cases c:k<is.length;rotate_left
  · obtain rfl:k=is.length:=O0;have hd:Hid (Aq w.heap.size wr qQ 205 3 is _):=Ik (d:=Vg) (fun _=>rfl) (fun _ _ _ h=>h) hc.out;go_wp2;go_ret;exact ⟨⟨_,rfl,hd.out⟩,g⟩
  obtain ⟨ha,s,o⟩:=Cc A.out c;subst ha;have C:=U0 ((o k c).below s g);have r:=U0 (Nk (d:=Vg) (z:=[.bool false,vE,vE]) (f:=JY) (m:=3) (fun _=>rfl) rfl c);generalize is.getD k Vg=x at*;clear o
  go_wp2_with (refine Y9 rfl (X8 263 _ rfl (B:=b) (j:=off+k*3) (cs:=JY x) rfl C.out underlying263 rfl Y2) ?_)
  refine (a2K x wr).mono ?_;rintro e w1 ⟨rfl,p⟩;have t:=X5 g p;have y:=U0 (hc.out.below p hc.out.lt)
  go_wp2_with (refine y9 rfl 205 _ _ rfl (B:=w.heap.size) (j:=k*3) rfl (vs:=JY x) rfl y.out r.out.1 (o8 rfl) Y2 ?_;intro z l n;rw [r.out.2] at l;have D:=U0 l;have bz:=t.trans (n.below H8);clear l n)
  go_roundw
  case rel=>exact ⟨k+1,O0,by go_num,bz,D⟩
  case measure=>simp [RowKit.intOf];omega
def lS (w:World) (a:OA) (is:List L4):Prop:=Jz w a is E_ 4 fun w b o x=>Bc w b o (aZ x)
theorem kW {w:World} {a:OA} {is:List L4} (h:o9 w a is):lS w a is:=by
 rcases h with h | ⟨b,off,h1,h2,d⟩
 · exact .inl h
 refine .inr ⟨b,off,h1,h2,fun i c q v e=>?_⟩
 match q,e with
 | 0,e=>cases e;exact (d i c).1
 | 1,e=>cases e;exact (d i c).2.1
 | 2,e=>cases e;exact (d i c).2.2.1
 | 3,e=>cases e;exact (d i c).2.2.2
theorem WW {w:World} {a:OA} {is:List L4} (h:lS w a is):o9 w a is:=by
 rcases h with h | ⟨b,off,h1,h2,d⟩
 · exact .inl h
 exact .inr ⟨b,off,h1,h2,fun i c=>⟨d i c 0 _ rfl,d i c 1 _ rfl,d i c 2 _ rfl,d i c 3 _ rfl⟩⟩
theorem a0K (cd:Int) (tx:BY) (w:World):
 Calls prog 106 #[.agg #[.int .i64 cd,.string tx]] w fun e w'=>e=.returned (.agg #[.int .i64 cd,.string tx])/\Bw w w':=by
 go_enter func106,ntmps106;go_wp2;refine Y6 (v:=.agg #[vI cd,vS tx]) (by simp [results,results106,go_sem]) rfl ⟨rfl,?_⟩;exact ((P6.alloc X4 _).alloc U7 _)
theorem a3D (x:L4) (w:World):
 Calls prog 149 #[.agg #[.bool x.has,.string x.nm,.int .i64 x.cd,.string x.tx]] w fun e w'=>e=.returned (.agg #[.bool x.has,.string x.nm,.int .i64 x.cd,.string x.tx])/\Bw w w':=by
 go_enter func149,ntmps149
 go_upto_region 2 with fail
 have H:=U0 (Wi (w:=w) (ta:=189) (tr:=185) (ar:=[.bool x.has,vS x.nm,vI x.cd,vS x.tx]) (zs:=[.bool false,vE,vO,vE]));generalize ((w.alloc (.cells #[.bool x.has,vS x.nm,vI x.cd,vS x.tx] 189)).alloc (.cells #[.bool false,vE,vO,vE] 185)).alloc (.cells #[.bool false,vE,vO,vE] 185)=V at*
 go_wp2_with (first | (refine U9 H.out.ca rfl 86 _ rfl (j:=2) [vI x.cd,vS x.tx] rfl rfl underlying86 rfl Y2 ?_) | (refine U8 H.out.ca rfl _ _ rfl rfl rfl Y2 ?_) | (refine Xd H.out rfl 4 _ _ rfl (j:=0) (.bool x.has) rfl rfl rfl (W_ rfl) Y2 ?_;clear H;intro V H) | (refine Xd H.out rfl 9 _ _ rfl (j:=1) (vS x.nm) rfl rfl rfl (W_ rfl) Y2 ?_;clear H;intro V H))
 refine (a0K x.cd x.tx V).mono ?_;rintro e V1 ⟨rfl,a⟩
 replace H:=U0 (H.out.call a (Q:=fun _=>True) (fun _ _ _=>trivial))
 clear a
 go_wp2_with (first | (refine U8 H.out.ca rfl _ _ rfl rfl rfl Y2 ?_) | (refine VG H.out rfl 103 _ _ rfl (j:=2) [vI x.cd,vS x.tx] rfl rfl (W_ rfl) rfl Y2 ?_;clear H;intro V H) | (refine IA H.out rfl 185 _ rfl [.bool x.has,vS x.nm,vI x.cd,vS x.tx] rfl rfl underlying185 rfl Y2 ?_) | (refine Kz H.out rfl 185 _ _ rfl [.bool x.has,vS x.nm,vI x.cd,vS x.tx] rfl rfl rfl rfl Y2 ?_;clear H;intro z b hk a))
 exact Y6 (Q8 (P:=prog) (ty:=185) rfl _ z (w.heap.size+1) [.bool x.has,vS x.nm,vI x.cd,vS x.tx] _ rfl b underlying185 rfl Y2) rfl ⟨rfl,a⟩
theorem c105 (a:OA) (u:Nat) (is:List L4) (w:World) (hl:is.length<=1048576) (q:lS w a is):
 Calls prog 105 #[.slice a is.length u] w fun e w'=>(∃ v,e=.returned v/\Aq w.heap.size w' lS 185 4 is v)/\Bw w w':=by
 obtain ⟨b,off,hc⟩:=N_ q;have A:=U0 hc;clear hc q;have hmk:=Pv (z:=[.bool false,vE,vO,vE]) underlying102 (show (prog.info? 185).map (fun i=>(i.zero,i.size,i.bytes))=some (some (.agg #[.bool false,vE,vO,vE]),4,48) from Y2) rfl rfl o6 hl;go_enter func105,ntmps105
 go_wp2_with fail
 go_loopw [4] (fun i wr=>∃ (k:Nat),k<=is.length/\i=.int .i64 k/\Below w.heap.size w wr/\Hid (Cl wr w.heap.size 185 (Jt is aZ [.bool false,.string ⟨#[]⟩,.int .i64 0,.string ⟨#[]⟩] k))) (fun i _=>is.length - (RowKit.intOf i).toNat)
 case atStart=>exact ⟨0,J4 _,rfl,P6,Y4 _ _ _⟩
 case round=>
  obtain ⟨k,hk,rfl,g,hc⟩:=hrel;by_cases c:k<is.length;rotate_left
  · obtain rfl:k=is.length:=O0;have hd:Hid (Aq w.heap.size wr lS 185 4 is _):=Ik (d:=E_) (fun _=>rfl) (fun _ _ _ h=>h) hc.out;go_wp2;go_ret;exact ⟨⟨_,rfl,hd.out⟩,g⟩
  obtain ⟨ha,s,o⟩:=Cc A.out c;subst ha;have C:=U0 ((o k c).below s g);have r:=U0 (Nk (d:=E_) (z:=[.bool false,vE,vO,vE]) (f:=aZ) (m:=4) (fun _=>rfl) rfl c);generalize is.getD k E_=x at*;clear o
  go_wp2_with (refine Y9 rfl (X8 189 _ rfl (B:=b) (j:=off+k*4) (cs:=aZ x) rfl C.out underlying189 rfl Y2) ?_)
  refine (a3D x wr).mono ?_;rintro e w1 ⟨rfl,p⟩;have t:=X5 g p;have y:=U0 (hc.out.below p hc.out.lt)
  go_wp2_with (refine y9 rfl 185 _ _ rfl (B:=w.heap.size) (j:=k*4) rfl (vs:=aZ x) rfl y.out r.out.1 (o8 rfl) Y2 ?_;intro z l n;rw [r.out.2] at l;have D:=U0 l;have bz:=t.trans (n.below H8);clear l n)
  go_roundw
  case rel=>exact ⟨k+1,O0,by go_num,bz,D⟩
  case measure=>simp [RowKit.intOf];omega
theorem a3W (a:OA) (A:Nat) (is:List Int) (w:World) (hl:is.length<=1048576) (q:Ye w a is):
 Calls prog 23 #[.slice a is.length A] w fun e w'=>(∃ v,e=.returned v/\Aq w.heap.size w' Ye 3 1 is v)/\Bw w w':=by
 obtain ⟨b,off,hc⟩:=ig q;have B:=U0 hc;clear hc q;have hmk:=Pv (z:=[.int .i64 0]) underlying31 (show (prog.info? 3).map (fun i=>(i.zero,i.size,i.bytes))=some (some (.int .i64 0),1,8) from Y2) rfl rfl o6 hl;go_enter func23,ntmps23
 go_wp2_with fail
 go_loopw [4] (fun i wr=>∃ (k:Nat),k<=is.length/\i=.int .i64 k/\Below w.heap.size w wr/\Hid (Cl wr w.heap.size 3 (Jt is (fun x=>[.int .i64 x]) [.int .i64 0] k))) (fun i _=>is.length - (RowKit.intOf i).toNat)
 case atStart=>exact ⟨0,J4 _,rfl,P6,Y4 _ _ _⟩
 case round=>
  obtain ⟨k,hk,rfl,g,hc⟩:=hrel;by_cases c:k<is.length;rotate_left
  · obtain rfl:k=is.length:=O0;have hd:Hid (Aq w.heap.size wr Ye 3 1 is _):=Ik (d:=0) (fun _=>rfl) (fun u a is h=>h.imp id fun ⟨b,o,h1,h2,y⟩=>⟨b,o,h1,h2,fun i s=>by have:=y i s 0 _ rfl;rwa [Zy] at this⟩) hc.out;go_wp2;go_ret;exact ⟨⟨_,rfl,hd.out⟩,g⟩
  obtain ⟨ha,t,n⟩:=Cc B.out c;subst ha;have g0:=(g.cell (p:=⟨b,off+k,none⟩) t).trans (n k c);have j:=U0 (Nk (d:=0) (z:=[.int .i64 0]) (f:=(fun x=>[.int .i64 x])) (m:=1) (fun _=>rfl) rfl c);generalize is.getD k 0=x at*;clear n
  go_wp2_with (refine Uz rfl 3 _ _ rfl (p:=k) rfl rfl Y2 hc.out (by have:=j.out.1;simp at this;omega) ?_;intro z r l;have C:Hid (Cl z w.heap.size 3 (Jt is (fun x=>[.int .i64 x]) [.int .i64 0] (k+1))):=(by rw [<- j.out.2,Zy,<- wL (by have:=j.out.1;simp at this;omega)];exact r.out);have bz:=g.trans (l.below H8);clear r l)
  go_roundw
  case rel=>exact ⟨k+1,O0,by go_num,bz,C⟩
  case measure=>simp [RowKit.intOf];omega
theorem qV (a:OA) (A:Nat) (is:LB) (w:World) (hl:is.length<=1048576) (q:P7 w a is):
 Calls prog 24 #[.slice a is.length A] w fun e w'=>(∃ v,e=.returned v/\Aq w.heap.size w' P7 9 1 is v)/\Bw w w':=by
 obtain ⟨b,off,hc⟩:=K_ q;have B:=U0 hc;clear hc q;have hmk:=Pv (z:=[.string ⟨#[]⟩]) underlying22 (show (prog.info? 9).map (fun i=>(i.zero,i.size,i.bytes))=some (some (.string ⟨#[]⟩),1,16) from Y2) rfl rfl o6 hl;go_enter func24,ntmps24
 go_wp2_with fail
 go_loopw [4] (fun i wr=>∃ (k:Nat),k<=is.length/\i=.int .i64 k/\Below w.heap.size w wr/\Hid (Cl wr w.heap.size 9 (Jt is (fun x=>[.string x]) [.string ⟨#[]⟩] k))) (fun i _=>is.length - (RowKit.intOf i).toNat)
 case atStart=>exact ⟨0,J4 _,rfl,P6,Y4 _ _ _⟩
 case round=>
  obtain ⟨k,hk,rfl,g,hc⟩:=hrel;by_cases c:k<is.length;rotate_left
  · obtain rfl:k=is.length:=O0;have hd:Hid (Aq w.heap.size wr P7 9 1 is _):=Ik (d:=ByteArray.empty) (fun _=>rfl) (fun u a is h=>h.imp id fun ⟨b,o,h1,h2,y⟩=>⟨b,o,h1,h2,fun i s=>by have:=y i s 0 _ rfl;rwa [Zy] at this⟩) hc.out;go_wp2;go_ret;exact ⟨⟨_,rfl,hd.out⟩,g⟩
  obtain ⟨ha,t,n⟩:=Cc B.out c;subst ha;have g0:=(g.cell (p:=⟨b,off+k,none⟩) t).trans (n k c);have j:=U0 (Nk (d:=ByteArray.empty) (z:=[.string ⟨#[]⟩]) (f:=(fun x=>[.string x])) (m:=1) (fun _=>rfl) rfl c);generalize is.getD k ByteArray.empty=x at*;clear n
  go_wp2_with (refine Uz rfl 9 _ _ rfl (p:=k) rfl rfl Y2 hc.out (by have:=j.out.1;simp at this;omega) ?_;intro z r l;have C:Hid (Cl z w.heap.size 9 (Jt is (fun x=>[.string x]) [.string ⟨#[]⟩] (k+1))):=(by rw [<- j.out.2,Zy,<- wL (by have:=j.out.1;simp at this;omega)];exact r.out);have bz:=g.trans (l.below H8);clear r l)
  go_roundw
  case rel=>exact ⟨k+1,O0,by go_num,bz,C⟩
  case measure=>simp [RowKit.intOf];omega

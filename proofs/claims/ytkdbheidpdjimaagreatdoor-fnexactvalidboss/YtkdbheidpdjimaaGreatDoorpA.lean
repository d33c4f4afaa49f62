import Derived.Test.YtkdbheidpdjimaaGreatDoortX1
import Derived.Lib.Overlaps
import Derived.Lib.AppendZerosOnto
set_option linter.unusedVariables false
set_option maxHeartbeats 8000000
set_option maxRecDepth 100000
namespace Go.Proofs.YtkdbheidpdjimaaGreatDoor.T
open Proofs.Tryz Go.RowKit
variable {u w:World} {fs gs:List F2} {B b i j o p q:Nat} {x:F2} {v:Value} {vs:List Value}
theorem Qp (w:World) (ty:TypeId) (b o e m:Nat) (a:Addr) (c d n:Nat) (cs:List Value) (i:Nat.min c e=n) (hl:cs.length=n*2)
 (h:∀ j v,cs[j]?=some v->w.cell? (a.add j)=some v) (hc:∀ j,j<cs.length->(w.cell? ⟨b,o+j,none⟩).isSome=true) (hf:∀ j,w.frozen? ⟨b,j,none⟩=false) (h1:∀ v∈cs,v.oneCell'=true):
 (Builtin.copy_ #[39,39] ty #[.slice (some ⟨b,o,none⟩) e m,.slice (some a) c d]).run prog w=.ok (goInt n) (w.setCells b o cs):=by
 obtain ⟨i0,k,hz0,f,hz2⟩:=info_parts Tt;have l:=run_firstCells_some (P:=prog) w 2 n a c d cs hl h;have g:=run_storeCells_cells (P:=prog) b o cs 0 w (by simpa using hc) (fun j _=>hf _) h1;simp [Builtin.copy_,Xo underlying39,Builtin.lenOf,sizeOf,typeInfo,k,f,i,l,g]
theorem wpList_copy_runI (w:World) {P:Program} {ops:Array Oper} {c:List Oper} {o:Oper} {a:Act} {Q:Exit->Act->World->Prop} (f:o.guard=none) (d s:Operand) (t b:TypeId)
 (ho:o.op=.call { callee:=.builtin .copy,args:=#[d,s],argTypes:=#[t,b] }) (v u:Value) (hd:a.eval d=v) (e:a.eval s=u) {v':Value} {w':World}
 (hr:(Builtin.copy_ #[t,b] o.type #[v,u]).run P w=.ok v' w') (h:wpList P ops Q c (a.put o.dst v') w'):wpList P ops Q (o::c) a w:=
 ou f fun K g=>by
  unfold Oper.wp execOp;simp only [ho,resolve,invoke,builtin,Qk,Uo,Un,Zx,Cm,Qu,hd,e,hr];exact g _ _ h
theorem step_copy_runI {P:Program} {ops:Array Oper} {o:Oper} {a:Act} {K:Act->World->Prop} {Q:Exit->Act->World->Prop} {E:Prop}
 (f:o.guard=none) (d x:Operand) (c b:TypeId) (e:o.op=Op.call { callee:=Callee.builtin Builtin.copy,args:=#[d,x],argTypes:=#[c,b] })
 (v u:Value) (hd:a.eval d=v) (hx:a.eval x=u) {v':Value} {w':World} (hr:(Builtin.copy_ #[c,b] o.type #[v,u]).run P w=.ok v' w') (g:K (a.put o.dst v') w'):
 if Region.wanted o (yielded ops a.tmps)=true then Oper.wp P o a w K Q else E:=by
 have hw:Region.wanted o (yielded ops a.tmps)=true:=by simp [Region.wanted,f]
 rw [G8 hw];unfold Oper.wp;simp [execOp,e,resolve,invoke,builtin,hd,hx,hr,Result.andThen];exact g
theorem EX:∀ w,(sizeOf 99).run prog w=.ok 2 w:=fun w=>by
 obtain ⟨i0,b,hz0,a,hz2⟩:=info_parts Tt;simp [sizeOf,typeInfo,b,a]
theorem a0o (b c i a:Nat) (fs:List F2) (x:F2) (w:World) (hi:i<fs.length) (hl:fs.length<=40) (hroom:fs.length+1<=c) (y:a≠b)
 (C:∀ j v,(J4 fs)[j]?=some v->w.cell? ⟨b,0+j,none⟩=some v) (n:∀ j,j<(fs.length+1)*2->(w.cell? ⟨b,j,none⟩).isSome=true) (o:∀ j,w.frozen? ⟨b,j,none⟩=false)
 (u:∀ j v,[Value.string x.nm,.string x.tx][j]?=some v->w.cell? ⟨a,0+j,none⟩=some v)
 (s r:TypeId) (t m:Nat) (B:w.shape? a=some (s,t)) (A:w.shape? b=some (r,m)) (H:m≠0) (p:∀ j,w.frozen? ⟨a,j,none⟩=false):
 Calls prog 175 #[.slice (some ⟨b,0,none⟩) fs.length c,.int .i64 i,.slice (some ⟨a,0,none⟩) 1 1] w fun e w'=>
  e=.returned (.slice (some ⟨b,0,none⟩) (fs.length+1) c)/\w'=(w.drew.setCells b ((i+1)*2) (J4 (fs.drop i))).setCells b (i*2) [.string x.nm,.string x.tx]:=by
 have hz2:¬ ((i:Int)=(fs.length:Int)):=O0;have F:∀ lb cb,(callFunc 221 #[vL (some (aA a 0)) 1 1,vL (some (aA b ((i+1)*2))) lb cb]).run prog w=.ok (.value (.bool false)) w:=fun lb cb=>by
  rw [run_callFunc_extern func221 J3 J3 J3 (e:=Extern.SlicesOverlaps.overlaps #[39,39] #[4]) J3,
   Lib.run_overlaps_apart w 39 4 99 underlying39 2 EX (aA a 0) (aA b ((i+1)*2)) 1 1 lb cb y s r t m B A H (p _) (p _)]
  rfl
 have q:(J4 (fs.drop i)).length=(fs.length - i)*2:=by rw [I8,Qj]
 have hw1:IntKind.i64.wrap ((i:Int)+1)=(i:Int)+1:=by rw [show (i:Int)+1=((i+1:Nat):Int) by omega];exact Na (i+1) O0
 have hb1:(0:Int)<=(i:Int)+1:=O0;have hb6:(i:Int)+1<=(fs.length:Int)+1:=O0;have hin:i<=fs.length:=O0;have htn:((i:Int)+1).toNat=i+1:=O0;have hb2:¬ (c=i+1):=O0;have hb3:(i:Int)<=(fs.length:Int)+1:=O0;have hb4:¬ (c=i):=O0;have hb5:¬ (c<fs.length+1):=O0;have D:∀ ty f sc,(Builtin.copy_ #[39,39] ty #[vL (some (aA b ((i+1)*2))) (fs.length - i) f,vL (some (aA b (i*2))) (fs.length+1 - i) sc]).run prog w.drew=.ok (goInt ((fs.length - i:Nat))) (w.drew.setCells b ((i+1)*2) (J4 (fs.drop i))):=fun ty f sc=>
  Qp w.drew ty b ((i+1)*2) (fs.length - i) f (aA b (i*2)) (fs.length+1 - i) sc (fs.length - i) _ (by simp only [yD];split <;> omega) q
   (fun j v d=>by
    rw [nN];have J:(J4 fs)[i*2+j]?=some v:=by
     have e:J4 fs=J4 (fs.take i)++J4 (fs.drop i):=by rw [<- Qd,Gi]
     rw [e,Cf (by rw [I8,B_];omega),I8,B_,Vk O0,Nat.add_sub_cancel_left];exact d
    have:=C _ _ J;rw [E8] at this;exact this)
   (fun j d=>n _ (by rw [q] at d;omega)) o Dh
 obtain ⟨l,g⟩:∃ l,l=w.drew.setCells b ((i+1)*2) (J4 (fs.drop i)):=⟨_,rfl⟩;have z:∀ k,k<(fs.length+1)*2->(l.cell? (aA b k)).isSome=true:=fun k I=>by
  rw [g];exact isSome_setCells b _ _ _ _ (n k I)
 have K:∀ (W:World),(∀ x,W.cell? x=l.cell? x)->(∀ x,W.frozen? x=l.frozen? x)->∀ ty f,(Builtin.copy_ #[39,39] ty #[vL (some (aA b (i*2))) (fs.length+1 - i) f,vL (some (aA a 0)) 1 1]).run prog W=.ok (goInt 1) (W.setCells b (i*2) [vS x.nm,vS x.tx]):=fun W E L ty f=>
  Qp W ty b (i*2) (fs.length+1 - i) f (aA a 0) 1 1 1 [vS x.nm,vS x.tx] (by simp only [yD];split <;> omega) rfl
   (fun j v d=>by
    rw [nN,E,g,World.cell?_setCells_out b _ _ _ _ (fun h _=>absurd h y)];exact u j v d)
   (fun j d=>by rw [E];exact z _ (by simp at d;omega)) (fun j=>by rw [L,g,World.frozen?_setCells];exact o _) (by intro v hv;simp at hv;rcases hv with rfl | rfl <;> rfl)
 rw [<- g] at D;clear C n o u p B A z q;go_enter func175,ntmps175
 go_wp2_with (simp only [F])
 go_region_law (refine step_copy_runI rfl _ _ 39 39 rfl _ _ (by simp [Act.eval,Act.put]) (by simp [Act.eval,Act.put]) (D _ _ _) ?_)
 go_wp2_with (at_builtin;refine wpList_copy_runI _ rfl _ _ 39 39 rfl _ _ rfl rfl (K _ (fun _=>rfl) (fun _=>rfl) _ _) ?_)
 go_ret
 first | exact ⟨rfl,rfl⟩ | exact ⟨rfl,by rw [g]⟩
theorem qZ (b c i k:Nat) (fs:List F2) (x:F2) (w:World) (hi:i<fs.length) (hl:fs.length<=40) (hnc:fs.length<=c) (U:c<fs.length+1) (hbw:b<w.heap.size) (S:k<w.heap.size)
 (u:∀ j v,(J4 fs)[j]?=some v->w.cell? ⟨b,0+j,none⟩=some v)
 (H:∀ j v,[Value.string x.nm,.string x.tx][j]?=some v->w.cell? ⟨k,0+j,none⟩=some v):
 Calls prog 175 #[.slice (some ⟨b,0,none⟩) fs.length c,.int .i64 i,.slice (some ⟨k,0,none⟩) 1 1] w fun e w'=>∃ (G:Nat) (a:Array Value),fs.length+1<=G/\(fs.length+1)*2<=a.size/\(∀ j,j<i*2->a[j]?=(J4 fs)[j]?)/\
  e=.returned (.slice (some ⟨w.heap.size,0,none⟩) (fs.length+1) G)/\
  w'=(((w.alloc (.cells a 99)).drew.setCells w.heap.size (i*2) [.string x.nm,.string x.tx]).drew).setCells w.heap.size ((i+1)*2) (J4 (fs.drop i)):=by
 obtain ⟨E,Y,R,Q,F⟩:=info_parts Tt;have hz2:¬ ((i:Int)=(fs.length:Int)):=O0;have hz3:(c:Int)<(fs.length:Int)+1:=O0;have J:(fs.length:Int)+1 - (i:Int)=((fs.length+1 - i:Nat):Int):=O0;have r:i+(fs.length+1 - i)=fs.length+1:=O0;have I:(Builtin.firstCells E.size i (vL (some (aA b 0)) i c)).run prog w.drew=.ok (J4 (fs.take i)).toArray w.drew:=by
  rw [Q];exact run_firstCells_some w.drew 2 i (aA b 0) i c (J4 (fs.take i)) (by rw [I8,B_];omega) (fun j v d=>by
   rw [nN];refine u j v ?_;have hjl:j<i*2:=by have:=(Nj.1 d).1;rw [I8,B_] at this;omega
   have e:J4 fs=J4 (fs.take i)++J4 (fs.drop i):=by rw [<- Qd,Gi]
   rw [e,I_ (by rw [I8,B_];omega)];exact d)
 have n:∀ ty,(Builtin.append_ #[39,3] ty #[vL (some (aA b 0)) i c,vI ((fs.length:Int)+1 - (i:Int))]).run prog w=
  .ok (vL (some (aW w 0)) (fs.length+1) (grownCap w (fs.length+1) c 99)) (w.drew.alloc (.cells ((J4 (fs.take i)).toArray++Builtin.zeroCells (Value.agg #[vE,vE]).cells (fs.length+1 - i)++Builtin.zeroCells (Value.agg #[vE,vE]).cells (grownCap w (fs.length+1) c 99 - (fs.length+1))) 99)):=fun ty=>by
  have h:=Lib.run_append_grow_zeros w 39 3 ty 99 E _ .i64 .i64 underlying39 underlying3 Y R (some (aA b 0)) i c (J4 (fs.take i)) I (fs.length+1 - i) O0 O0 O0 O0 (by rw [F];omega) (by rw [F,r];exact growslice_fits U O0);rw [r] at h;rw [J];exact h
 obtain ⟨G,p⟩:∃ G,G=grownCap w (fs.length+1) c 99:=⟨_,rfl⟩;obtain ⟨a,o⟩:∃ a:Array Value,a=(J4 (fs.take i)).toArray++Builtin.zeroCells (Value.agg #[vE,vE]).cells (fs.length+1 - i)++Builtin.zeroCells (Value.agg #[vE,vE]).cells (G - (fs.length+1)):=⟨_,rfl⟩;rw [<- p] at n;rw [<- o] at n;have L:(fs.length+1)*2<=a.size:=by
  rw [o];simp [Builtin.zeroCells,Value.cells,I8];omega
 have N:∀ j,j<i*2->a[j]?=(J4 fs)[j]?:=fun j d=>by
  have e:J4 fs=J4 (fs.take i)++J4 (fs.drop i):=by rw [<- Qd,Gi]
  have hlen:(J4 (fs.take i)).length=i*2:=by rw [I8,B_];omega
  rw [o,e,I_ O0,Array.append_assoc,Array.getElem?_append_left (by simpa using (by omega:j<(J4 (fs.take i)).length))];simp
 obtain ⟨f,m⟩:∃ f,f=w.drew.alloc (.cells a 99):=⟨_,rfl⟩;rw [<- m] at n;have s:(w.drew.alloc (.cells a 99)).heap[w.heap.size]?=some (.cells a 99 (0,0)):=Cc (w:=w.drew) rfl _;have C:∀ j,j<(fs.length+1)*2->(f.cell? (aW w j)).isSome=true:=fun j d=>by
  rw [m,Lib.cell_of_heap s,PI O0];rfl
 have B:∀ j,f.frozen? (aW w j)=false:=fun j=>by rw [m];exact Lib.frozen_of_heap s j
 have A:∀ q j v,q<w.heap.size->w.cell? (aA q j)=some v->f.cell? (aA q j)=some v:=fun q j v V h=>by rw [m,Wh _ _ _ (by exact V)];exact h
 have hcpA:∀ (W:World),(∀ x,W.cell? x=f.cell? x)->(∀ x,W.frozen? x=f.frozen? x)->∀ ty g,(Builtin.copy_ #[39,39] ty #[vL (some (aW w (i*2))) (fs.length+1 - i) g,vL (some (aA k 0)) 1 1]).run prog W=.ok (goInt 1) (W.setCells w.heap.size (i*2) [vS x.nm,vS x.tx]):=fun W l z ty g=>
  Qp W ty w.heap.size (i*2) (fs.length+1 - i) g (aA k 0) 1 1 1 [vS x.nm,vS x.tx] (by simp only [yD];split <;> omega) rfl
   (fun j v d=>by rw [nN,l];exact A _ _ v S (H j v d))
   (fun j d=>by rw [l];exact C _ (by simp at d;omega)) (fun j=>by rw [z];exact B _) (by intro v hv;simp at hv;rcases hv with rfl | rfl <;> rfl)
 have hGn:fs.length+1<=G:=by rw [p];exact grownCap_ge w _ _ _
 have hG63:G<=9223372036854775807:=by
  have:=grownCap_le_maxLen w (fs.length+1) c 99 (by unfold maxLen;omega);rw [<- p] at this;unfold maxLen at this;omega
 have hGi:¬ (G=i):=O0;have hGim:¬ (G=i+1):=O0;have hci:¬ (c=i):=O0;have hbN:b≠w.heap.size:=O0;have t:(J4 (fs.drop i)).length=(fs.length - i)*2:=by rw [I8,Qj]
 have K:∀ (W:World),(∀ y,W.cell? y=(f.setCells w.heap.size (i*2) [vS x.nm,vS x.tx]).cell? y)->(∀ y,W.frozen? y=(f.setCells w.heap.size (i*2) [vS x.nm,vS x.tx]).frozen? y)->∀ ty dl g sc,dl=fs.length - i->(Builtin.copy_ #[39,39] ty #[vL (some (aW w ((i+1)*2))) dl g,vL (some (aA b (i*2))) (fs.length - i) sc]).run prog W=.ok (goInt ((fs.length - i:Nat))) (W.setCells w.heap.size ((i+1)*2) (J4 (fs.drop i))):=fun W l z ty dl g sc Z=>
  Qp W ty w.heap.size ((i+1)*2) dl g (aA b (i*2)) (fs.length - i) sc (fs.length - i) _ (by rw [Z];simp only [yD];split <;> omega) t
   (fun j v d=>by
    rw [nN,l,World.cell?_setCells_out _ _ _ _ _ (fun h _=>absurd h hbN)];have X:(J4 fs)[i*2+j]?=some v:=by
     have e:J4 fs=J4 (fs.take i)++J4 (fs.drop i):=by rw [<- Qd,Gi]
     rw [e,Cf (by rw [I8,B_];omega),I8,B_,Vk O0,Nat.add_sub_cancel_left];exact d
    have:=u _ _ X;rw [E8] at this;exact A _ _ v hbw this)
   (fun j d=>by rw [l];exact isSome_setCells _ _ _ _ _ (C _ (by rw [t] at d;omega)))
   (fun j=>by rw [z,World.frozen?_setCells];exact B _) Dh
 subst m;have hE1:∀ x,((w.alloc (.cells a 99)).drew).cell? x=(w.drew.alloc (.cells a 99)).cell? x:=fun x=>rfl;have hE2:∀ x,((w.alloc (.cells a 99)).drew).frozen? x=(w.drew.alloc (.cells a 99)).frozen? x:=fun x=>rfl;have P:∀ y,(((w.alloc (.cells a 99)).drew.setCells w.heap.size (i*2) [vS x.nm,vS x.tx]).drew).cell? y=((w.drew.alloc (.cells a 99)).setCells w.heap.size (i*2) [vS x.nm,vS x.tx]).cell? y:=fun x=>rfl;have O:∀ y,(((w.alloc (.cells a 99)).drew.setCells w.heap.size (i*2) [vS x.nm,vS x.tx]).drew).frozen? y=((w.drew.alloc (.cells a 99)).setCells w.heap.size (i*2) [vS x.nm,vS x.tx]).frozen? y:=fun x=>rfl;have hw1:IntKind.i64.wrap ((i:Int)+1)=(i:Int)+1:=by rw [show (i:Int)+1=((i+1:Nat):Int) by omega];exact Na (i+1) O0
 have hb1:(0:Int)<=(i:Int)+1:=O0;have hin:i<=fs.length:=O0;have htn:((i:Int)+1).toNat=i+1:=O0;have hb3:(i:Int)<=(fs.length:Int):=O0;have hb6:(i:Int)+1<=(fs.length:Int)+1:=O0;have D:Hid (fs.length+1<=G/\(fs.length+1)*2<=a.size/\(∀ j,j<i*2->a[j]?=(J4 fs)[j]?)):=⟨hGn,L,N⟩;clear s J r I o p L N u H C B A t;go_enter func175,ntmps175
 go_wp2_with (first
  | (at_builtin;refine Lib.wpList_append_run _ rfl _ _ _ _ rfl _ _ rfl rfl _ _ (n _) ?_)
  | (at_builtin;refine wpList_copy_runI _ rfl _ _ 39 39 rfl _ _ rfl rfl (hcpA _ hE1 hE2 _ _) ?_))
 go_region_law (first | (refine step_copy_runI rfl _ _ 39 39 rfl (vL (some (aW w ((i+1)*2))) (fs.length+1 - (i+1)) (G - (i+1))) (vL (some (aA b (i*2))) (fs.length - i) (c - i)) (by simp [Act.eval,Act.put]) (by simp [Act.eval,Act.put]) (K _ P O 3 (fs.length+1 - (i+1)) (G - (i+1)) (c - i) O0) ?_) | (refine step_copy_runI rfl _ _ 39 39 rfl (vL (some (aW w ((i+1)*2))) (fs.length - i) (G - (i+1))) (vL (some (aA b (i*2))) (fs.length - i) (c - i)) (by simp [Act.eval,Act.put]) (by simp [Act.eval,Act.put]) (K _ P O 3 (fs.length - i) (G - (i+1)) (c - i) O0) ?_))
 go_wp2;go_ret;exact ⟨G,a,D.out.1,D.out.2.1,D.out.2.2,rfl,rfl⟩
theorem pY (h:i<=fs.length) (a:j<i):(ins fs i x).getD j P8=fs.getD j P8:=by
 unfold ins;simp only [List.getD];rw [I_ (by rw [B_];omega),QB a]
theorem GU (h:i<=fs.length):(ins fs i x).getD i P8=x:=by
 unfold ins;simp only [List.getD];rw [Cf (by rw [B_];omega),B_,Vk h,Um];rfl
theorem YW (h:i<=fs.length) (hj:i<j):(ins fs i x).getD j P8=(fs.drop i).getD (j - i - 1) P8:=by
 unfold ins;simp only [List.getD];rw [Cf (by rw [B_];omega),B_,Vk h];obtain ⟨k,a⟩:∃ k,j - i=k+1:=⟨j - i - 1,O0⟩;rw [a,LQ,xI]
theorem IC {W:World} (a:i<=fs.length) (f:b<W.heap.size)
 (lo:∀ j,j<i*2->W.cell? ⟨b,j,none⟩=(J4 fs)[j]?) (m0:W.cell? ⟨b,i*2,none⟩=some (.string x.nm)) (c:W.cell? ⟨b,i*2+1,none⟩=some (.string x.tx))
 (up:∀ j,j<(fs.length - i)*2->W.cell? ⟨b,(i+1)*2+j,none⟩=(J4 (fs.drop i))[j]?):J6 W (some ⟨b,0,none⟩) (ins fs i x):=by
 refine .inr ⟨b,0,rfl,f,fun j d=>?_⟩;rw [xE _ _ _ a] at d;rw [E8];rcases Aw j i with h | h | h
 · rw [pY a h,lo _ O0,lo _ O0];exact Ud fs j O0
 · subst h;rw [GU a];exact ⟨m0,c⟩
 · rw [YW a h];have e:=Ud (fs.drop i) (j - i - 1) (by rw [Qj];omega);have u0:=up ((j - i - 1)*2) O0;have u1:=up ((j - i - 1)*2+1) O0;rw [show (i+1)*2+(j - i - 1)*2=j*2 by omega] at u0;rw [show (i+1)*2+((j - i - 1)*2+1)=j*2+1 by omega] at u1;rw [u0,u1];exact e
theorem PV (h:Bl w B v gs) {p:Nat} (d:p<gs.length):∃ a b,v=.slice a gs.length b/\Qs B w a gs:=by
 obtain ⟨g,b,hv,f,hnc,k,j,c⟩:=zu h d;have hf:J6 w (some (aA g 0)) gs:=.inr ⟨g,0,rfl,c,fun i e=>by rw [E8];exact k i e⟩;exact ⟨_,b,hv,hf,.inr ⟨g,rfl,f,Ih hf c j,aF h hv⟩⟩
theorem dV (fs:List F2) (x:F2):ins fs fs.length x=fs++[x]:=by unfold ins;rw [List.take_length,List.drop_length]
def sW (B:Nat) (gs:List F2) (n:Nat) (e:Ending) (w':World):Prop:=∃ a' cap',e=.returned (.slice a' n cap')/\Qs B w' a' gs
theorem a0v (B c:Nat) (f:OA) (d:Nat) (fs:List F2) (x:F2) (w:World) (a:Bl w B (.slice f fs.length d) fs) (hl:fs.length<=40) (hB:B<=w.heap.size)
 (h:∀ j v,[Value.string x.nm,.string x.tx][j]?=some v->w.cell? ((⟨c,0,none⟩:Addr).add j)=some v):
 Calls prog 175 #[.slice f fs.length d,.int .i64 fs.length,.slice (some ⟨c,0,none⟩) 1 1] w fun e w'=>sW B (ins fs fs.length x) (fs.length+1) e w'/\Below B w w':=by
 obtain ⟨r,E,y,t,s⟩:=info_parts Tt;have hcv:=VK a;have C:=a.lt;have A:w.ownsRow B 99 2 (vL f fs.length d) fs.length (J4 fs):=a;have F:=U0 h;clear a h;go_enter func175,ntmps175
 go_wp2_with (at_builtin;refine wpList_append_own _ rfl _ _ 39 rfl B 99 r (.agg #[.string ⟨#[]⟩,.string ⟨#[]⟩]) 2 32 underlying39 E y t s rfl O6 _ _ _ rfl A ⟨c,0,none⟩ 1 1 [.string x.nm,.string x.tx] rfl rfl F.out (by intro u l;simp at l;rcases l with rfl | rfl <;> rfl) (by unfold maxLen;omega) O0 hB ?_;intro v' b m o _)
 all_goals
  have J:=U0 ((Z4 B w).grown o hB (fun k D=>(C k D).1));have H:Hid (Bl b B v' (fs++[x])):=by
   show b.ownsRow B 99 2 v' (fs++[x]).length (J4 (fs++[x]));rw [Qd,N9];exact m
  obtain ⟨g,q,i,n⟩:=PV H.out (p:=fs.length) I4;have I:Hid (Qs B b g (ins fs fs.length x)):=by rw [dV];exact n
  have z:v'=vL g (fs.length+1) q:=by rw [i];simp
  subst z;clear m o n i;go_wp2;go_ret;exact ⟨⟨g,q,rfl,I.out⟩,J.out⟩
theorem Ox (h:∀ j,j<vs.length->(w.cell? ⟨b,o+j,none⟩).isSome=true) (j:Nat) (a:j<vs.length):(w.setCells b o vs).cell? ⟨b,o+j,none⟩=vs[j]?:=by
 rw [World.cell?_setCells_in b vs o w h j a,y9 a]
theorem zl (h:q<o\/o+vs.length<=q):(w.setCells b o vs).cell? ⟨b,q,none⟩=w.cell? ⟨b,q,none⟩:=World.cell?_setCells_out b vs o w _ (fun _ _=>h)
theorem c175 (B c p:Nat) (u:OA) (f:Nat) (fs:List F2) (x:F2) (w:World) (C:Bl w B (.slice u fs.length f) fs) (F:p<=fs.length) (hl:fs.length<=40) (hB:B<=w.heap.size)
 (r:w.heap[c]?=some (.cells #[.string x.nm,.string x.tx] 99 (0,0))) (U:∀ k,(Value.slice u fs.length f).ownBlock=some k->c≠k):
 Calls prog 175 #[.slice u fs.length f,.int .i64 p,.slice (some ⟨c,0,none⟩) 1 1] w fun e w'=>sW B (ins fs p x) (fs.length+1) e w'/\Below B w w':=by
 have O:=Zf r;have y:∀ j v,[Value.string x.nm,vS x.tx][j]?=some v->w.cell? (aA c (0+j))=some v:=fun j v h=>by
  rw [E8,Lib.cell_of_heap r];simpa using h
 have s:(J4 (fs.drop p)).length=(fs.length - p)*2:=by rw [I8,Qj]
 by_cases R:p=fs.length
 · subst R;exact a0v B c u f fs x w C hl hB (fun j v h=>by rw [nN];exact y j v h)
 have E:p<fs.length:=O0;have S:=C;rcases C.2 with ⟨hv,h0⟩ | ⟨g,cap,cur,hv,I,m,V,hcm,W,htk⟩
 · omega
 injection hv with e1 e2 e3;subst e1;subst e3;have H:=Zf m;have P:=U g rfl;have L:∀ j,j<fs.length*2->w.cell? (aA g j)=(J4 fs)[j]?:=fun j a=>S.cellAt j a;have K:∀ j v,(J4 fs)[j]?=some v->w.cell? (aA g (0+j))=some v:=fun j v h=>by
  have:j<fs.length*2:=by rw [<- I8];exact (Nj.1 h).1
  rw [E8,L j this];exact h
 by_cases Q:fs.length+1<=f
 · have z:∀ j,j<(fs.length+1)*2->(w.cell? (aA g j)).isSome=true:=fun j a=>by
    rw [Lib.cell_of_heap m,PI (by rw [W];omega)];rfl
   have J:∀ j,w.frozen? (aA g j)=false:=fun j=>Lib.frozen_of_heap m j;refine (a0o g f p c fs x w E hl Q P K z J y 99 99 2 cur.size (by simp [World.shape?,r]) (by simp [World.shape?,m]) O0 (fun j=>Lib.frozen_of_heap r j)).mono ?_;rintro e w' ⟨rfl,rfl⟩;have t:But g w ((w.drew.setCells g ((p+1)*2) (J4 (fs.drop p))).setCells g (p*2) [vS x.nm,vS x.tx]):=But.setCells g _ _ (But.setCells g _ _ (But.refl _ _).drew);have A:∀ j,j<(fs.length+1)*2->((w.drew.setCells g ((p+1)*2) (J4 (fs.drop p))).cell? (aA g j)).isSome=true:=fun j a=>isSome_setCells g _ _ _ _ (z j a);have D:∀ j,((w.drew.setCells g ((p+1)*2) (J4 (fs.drop p))).setCells g (p*2) [vS x.nm,vS x.tx]).frozen? (aA g j)=false:=fun j=>by rw [World.frozen?_setCells,World.frozen?_setCells];exact J j
   have n:=m_ H t.size;have i:∀ j,j<2->((w.drew.setCells g ((p+1)*2) (J4 (fs.drop p))).setCells g (p*2) [vS x.nm,vS x.tx]).cell? (aA g (p*2+j))=[Value.string x.nm,vS x.tx][j]?:=fun j a=>Ox (fun q d=>A _ (by simp at d;omega)) j (by simpa using a);have hF:=IC (x:=x) F n
    (fun j a=>by rw [zl (.inl a),zl (.inl O0)];exact L j O0)
    (i 0 O0) (i 1 O0)
    (fun j a=>by rw [zl (.inr U7)];exact Ox (w:=w.drew) (o:=(p+1)*2) (fun q d=>z ((p+1)*2+q) (by rw [s] at d;omega)) j (by rw [s];exact a))
   refine ⟨⟨_,_,rfl,hF,.inr ⟨g,rfl,I,Ih hF n D,Oj _ _ _ (Oj (w:=w.drew) _ _ _ ⟨_,_,m⟩)⟩⟩,t.below I hB⟩
 · refine (qZ g f p c fs x w E hl V O0 H O K y).mono ?_;rintro e w' ⟨G,b,hG,hR,Y,rfl,rfl⟩;have X:Bw w (w.alloc (.cells b 99)).drew:=o7.drew;have l:(w.alloc (.cells b 99)).drew.heap[w.heap.size]?=some (.cells b 99 (0,0)):=Cc (w:=w) rfl _;have N:∀ j,j<(fs.length+1)*2->((w.alloc (.cells b 99)).drew.cell? (aW w j)).isSome=true:=fun j a=>by
    rw [Lib.cell_of_heap l,PI O0];rfl
   have t:But w.heap.size w ((((w.alloc (.cells b 99)).drew.setCells w.heap.size (p*2) [vS x.nm,vS x.tx]).drew).setCells w.heap.size ((p+1)*2) (J4 (fs.drop p))):=But.setCells _ _ _ (But.setCells _ _ _ (But.of_below X)).drew;have A:∀ j,j<(fs.length+1)*2->(((w.alloc (.cells b 99)).drew.setCells w.heap.size (p*2) [vS x.nm,vS x.tx]).drew.cell? (aW w j)).isSome=true:=fun j a=>isSome_setCells _ _ _ _ _ (N j a);have n:w.heap.size<((((w.alloc (.cells b 99)).drew.setCells w.heap.size (p*2) [vS x.nm,vS x.tx]).drew).setCells w.heap.size ((p+1)*2) (J4 (fs.drop p))).heap.size:=by
    have h1:But w.heap.size (w.alloc (.cells b 99)).drew ((((w.alloc (.cells b 99)).drew.setCells w.heap.size (p*2) [vS x.nm,vS x.tx]).drew).setCells w.heap.size ((p+1)*2) (J4 (fs.drop p))):=But.setCells _ _ _ (But.setCells _ _ _ (But.refl _ _)).drew;exact m_ (Zf l) h1.size
   have D:∀ j,((((w.alloc (.cells b 99)).drew.setCells w.heap.size (p*2) [vS x.nm,vS x.tx]).drew).setCells w.heap.size ((p+1)*2) (J4 (fs.drop p))).frozen? (aW w j)=false:=fun j=>by
    rw [World.frozen?_setCells];exact (World.frozen?_setCells _ _ _ _ _).trans (Lib.frozen_of_heap l j)
   have i:∀ j,j<2->((((w.alloc (.cells b 99)).drew.setCells w.heap.size (p*2) [vS x.nm,vS x.tx]).drew).setCells w.heap.size ((p+1)*2) (J4 (fs.drop p))).cell? (aW w (p*2+j))=[Value.string x.nm,vS x.tx][j]?:=fun j a=>by
    rw [zl (.inl O0)];exact Ox (w:=(w.alloc (.cells b 99)).drew) (fun q d=>N _ (by simp at d;omega)) j (by simpa using a)
   have hF:=IC (x:=x) F n
    (fun j a=>by
     rw [zl (.inl O0)];exact ((zl (w:=(w.alloc (.cells b 99)).drew) (.inl a)).trans (Lib.cell_of_heap l j)).trans (Y j a))
    (i 0 O0) (i 1 O0)
    (fun j a=>Ox (fun q d=>A _ (by rw [s] at d;omega)) j (by rw [s];exact a))
   refine ⟨⟨_,_,rfl,hF,.inr ⟨w.heap.size,rfl,hB,Ih hF n D,Oj (w:=((w.alloc (.cells b 99)).drew.setCells w.heap.size (p*2) [vS x.nm,vS x.tx]).drew) _ _ _ (show VR ((w.alloc (.cells b 99)).drew.setCells w.heap.size (p*2) [vS x.nm,vS x.tx]) _ from Oj _ _ _ ⟨_,_,l⟩)⟩⟩,t.below hB hB⟩
theorem qU {a b:BY} (h:lt a b=true):lt b a=false:=by
 cases hb:lt b a
 · rfl
 · have:=og h hb;rw [Yc] at this;cases this
theorem KO (h:p<fs.length):(del fs p).take p=fs.take p:=by
 unfold del;rw [XI (by rw [B_];omega),List.take_take,Nat.min_self]
theorem BQ (h:p<fs.length):(del fs p).drop p=fs.drop (p+1):=by
 unfold del;rw [II (by rw [B_];omega),TI,Um,Zz,M_]
def put (fs:List F2) (p:Nat) (x:F2):List F2:=fs.take p++x::fs.drop (p+1)
theorem iT (h:p<fs.length):ins (del fs p) p x=put fs p x:=by unfold ins put;rw [KO h,BQ h]
theorem FK (h:p<fs.length):(put fs p x).length=fs.length:=by
 unfold put;rw [List.length_append,List.length_cons,List.length_take,List.length_drop];omega
theorem yR (h:p<fs.length):(put fs p x).getD p P8=x:=by
 unfold put;simp only [List.getD];rw [Cf (by rw [B_];omega),B_,Vk O0,Um];rfl
theorem qL (h:p<fs.length) (hi:i≠p):(put fs p x).getD i P8=fs.getD i P8:=by
 unfold put;simp only [List.getD];rcases o8 i p with h1 | h1
 · rw [I_ (by rw [B_];omega),QB h1]
 · rw [Cf (by rw [B_];omega),B_,Vk O0];obtain ⟨k,a⟩:∃ k,i - p=k+1:=⟨i - p - 1,O0⟩;rw [a,LQ,OD]
   congr 2
   omega
theorem SQ (b:J_ fs) (f:V_ x=true) (d:Place fs x.nm p true):p<fs.length/\Tn fs x 0 (put fs p x):=by
 obtain ⟨a,c⟩:=d.here.1 rfl;have ha:=ji b;have hw:without fs x.nm=del fs p:=by rw [<- c];exact Qv ha a
 have g:=qx a;refine ⟨a,.inr (.inr (.inr ⟨b,f,by rw [hw,g];have:=b.1;omega,rfl,p,?_,by rw [hw,iT a]⟩))⟩;rw [hw];refine ⟨O0,fun j e=>by rw [VN a e];exact d.less j e,?_⟩;rcases o8 p (del fs p).length with h | h
 · right;rw [oQ a x9,Um,Hu,Zo];have:=ha p (p+1) O0 O0;rw [c] at this;exact qU this
 · left;omega
theorem nO (b:J_ fs) (d:V_ x=true) (a:Place fs x.nm p false):(40<=fs.length->Tn fs x 3 [])/\(fs.length<40->Tn fs x 0 (ins fs p x)):=by
 have f:∀ i,i<fs.length->(fs.getD i P8).nm≠x.nm:=fun i c e=>by
  rcases o8 i p with h | h
  · have:=a.less i h;rw [e,Yc] at this;cases this
  · rcases o8 p i with h1 | h1
    · have h2:=ji b p i h1 c;rw [e,a.more p x9 O0] at h2;cases h2
    · obtain rfl:i=p:=O0;have:=a.here.2 ⟨c,e⟩;cases this
 have hw:=filter_all f;refine ⟨fun h=>.inr (.inr (.inl ⟨b,d,by rw [hw];exact h,rfl,rfl⟩)),fun h=>.inr (.inr (.inr ⟨b,d,by rw [hw];exact h,rfl,p,?_,by rw [hw]⟩))⟩;rw [hw];refine ⟨a.le,a.less,?_⟩;rcases o8 p fs.length with h1 | h1
 · exact .inr (a.more p x9 h1)
 · left;have:=a.le;omega
theorem yN {g:Nat} (b:p<fs.length) (c:g<u.heap.size) (hc:∀ i,i<fs.length->u.cell? ⟨g,i*2,none⟩=some (.string (fs.getD i P8).nm)/\u.cell? ⟨g,i*2+1,none⟩=some (.string (fs.getD i P8).tx)):
 J6 ((u.setCell ⟨g,p*2,none⟩ (.string x.nm)).setCell ⟨g,p*2+1,none⟩ (.string x.tx)) (some ⟨g,0,none⟩) (put fs p x):=by
 refine .inr ⟨g,0,rfl,by simpa using c,fun i a=>?_⟩;rw [FK b] at a;rw [E8];by_cases h:i=p
 · subst h;rw [yR b];exact Sl u g (i*2) _ _ _ _ (hc i a).1 (hc i a).2
 · rw [qL b h,Dy _ _ _ _ _ _ O0 O0,Dy _ _ _ _ _ _ O0 O0];exact hc i a
theorem RG {B':Nat} {a:OA} (h:Qs B u a gs) (hB:B'<=B) (hq:q<B):Qs B' (u.setCell ⟨q,j,none⟩ v) a gs:=by
 refine ⟨?_,?_⟩
 · rcases h.2 with h0 | ⟨g,ha,b,ho⟩
   · exact .inl h0
   · have hf:=h.1;rw [ha] at hf ⊢;exact xq hf (by show q≠g;omega)
 · rcases h.2 with h0 | ⟨g,ha,b,ho⟩
   · exact .inl h0
   · exact .inr ⟨g,ha,O0,iG ho.1 O0,Vs ho.2⟩
theorem c116 (a:OA) (m:Nat) (fs:List F2) (x:F2) (w:World) (hl:fs.length<=1048576) (Z:∀ i,(fs.getD i P8).le 1048576) (hx:x.le 1048576) (hat:J6 w a fs):
 Calls prog 116 #[.agg #[.slice a fs.length m],.agg #[.string x.nm,.string x.tx]] w fun e w'=>(∃ r z c gs,e=.returned (.tuple #[.agg #[.slice r gs.length z],.int .i64 c])/\Qs w.heap.size w' r gs/\Tn fs x c gs)/\Bw w w':=by
 have U:=U0 hat;have HS:=U0 Z;have HX7:Hid (x.le 1048700):=⟨Q7 hx.1 O0,Q7 hx.2 O0⟩;have V:Hid (Ae w (((w.alloc (.cells #[vL a fs.length m] 41)).alloc (.cells #[vS x.nm,vS x.tx] 99)).alloc (.cells #[vN] 41)) (vL a fs.length m) x vN):=Ae.start _ _ _ _;clear hat Z hx;go_enter func116,ntmps116
 go_wp2_with fail
 refine (c81 a m fs _ hl HS.out (U5 U.out V.out.bel)).mono ?_;rintro e u1 ⟨⟨v,rfl,hv⟩,hb1⟩;have A:=U0 hv;have H:=U0 (V.out.later hb1);obtain ⟨t1,n1,x1,X,f1⟩:=H.out.cells;clear hv hb1 V;cases v
 · have b:Hid (Tn fs x 1 []):=.inl ⟨fun h=>(by have:=A.out.2 h;cases this),rfl,rfl⟩;clear A;go_wp2;refine P7 (v:=.tuple #[.agg #[vN],vI 1]) (by simp [results,results116,go_sem,X]) rfl ⟨⟨none,0,_,[],rfl,⟨.inl rfl,.inl rfl⟩,b.out⟩,H.out.bel.setCell U7 _⟩
 have N:=A.out.1 rfl;have a5J:=N.1;have C:=U0 N;clear N A
 go_wp2_with fail
 refine (TU x u1 HX7.out).mono ?_;rintro e u2 ⟨rfl,hb2⟩;have n:=U0 (H.out.later hb2);clear hb2 t1 n1 x1 X f1 H;obtain ⟨t2,n2,x2,W,f2⟩:=n.out.cells;cases hfx:V_ x
 · have b:Hid (Tn fs x 2 []):=.inr (.inl ⟨C.out,hfx,rfl,rfl⟩);go_wp2;refine P7 (v:=.tuple #[.agg #[vN],vI 2]) (by simp [results,results116,go_sem,W]) rfl ⟨⟨none,0,_,[],rfl,⟨.inl rfl,.inl rfl⟩,b.out⟩,n.out.bel.setCell U7 _⟩
 have hz2:=n.out.sz
 go_wp2_with fail
 refine (gZ a m fs u2 O0 (U5 U.out n.out.bel)).mono ?_;rintro e u3 ⟨v,rfl,L,P⟩;obtain ⟨S,q,o,hfv⟩:=L.form;subst o;have F:=U0 (n.out.later P);have HO3:=U0 L;have a6Z:=P.size;clear L P hfv t2 n2 x2 W f2 n;obtain ⟨t3,n3,x3,r3,f3⟩:=F.out.cells
 go_wp2_with fail
 refine (EU a m fs x.nm u3 a5J (U5 U.out F.out.bel) (ji C.out)).mono ?_;rintro e u4 ⟨⟨p,f,rfl,d⟩,u⟩;have B:=U0 d;have l:=U0 (F.out.later u);have D:=U0 (HO3.out.below u);have a7a:=u.size;clear d u t3 n3 x3 r3 f3 F HO3;obtain ⟨t4,n4,x4,r4,f4⟩:=l.out.cells;have hz4:=l.out.sz;cases f
 · obtain ⟨I,J⟩:=nO C.out hfx B.out;by_cases h40:fs.length=40
   · have b:=U0 (I O0);have a6E:((fs.length:Int)==40)=true:=U7;clear I J;go_wp2;refine P7 (v:=.tuple #[.agg #[vN],vI 3]) (by simp [results,results116,go_sem,r4]) rfl ⟨⟨none,0,_,[],rfl,⟨.inl rfl,.inl rfl⟩,b.out⟩,l.out.bel.setCell U7 _⟩
   have b:=U0 (J O0);have a6E:((fs.length:Int)==40)=false:=U7;clear I J;have y:Bw u4 (u4.alloc (.cells #[vS x.nm,vS x.tx] 99)):=o7;have E:=U0 (l.out.later y);have HO5:=U0 (D.out.below y);have HV5:Hid ((u4.alloc (.cells #[vS x.nm,vS x.tx] 99)).heap[u4.heap.size]?=some (.cells #[vS x.nm,vS x.tx] 99 (0,0))):=Cc rfl _;have HNE:Hid (∀ k,(Value.slice S fs.length q).ownBlock=some k->u4.heap.size≠k):=fun k hk=>by have:=(D.out.lt k hk).2;omega
   have hz5:u2.heap.size<=(u4.alloc (.cells #[vS x.nm,vS x.tx] 99)).heap.size:=U7
   go_wp2_with fail
   refine (c175 u2.heap.size u4.heap.size p S q fs x _ HO5.out B.out.le a5J hz5 HV5.out HNE.out).mono ?_;rintro e u6 ⟨⟨r,z,rfl,hnew⟩,hb6⟩;have HN:=U0 hnew;have O:=(y.mono O0).trans hb6;have K:u6.heap[w.heap.size+1+1]?=some (.cells #[vN] 41 (0,0)):=by rw [O.block _ O0];exact l.out.hr
   have r6:u6.cell? (aA (w.heap.size+1+1) 0)=some vN:=by rw [Lib.cell_of_heap K];rfl
   have f6:=Lib.frozen_of_heap K 0;have hB6:=l.out.bel.trans (O.mono O0);have hil:=xE fs p x B.out.le;clear hnew hb6 O K y E HO5 HV5 HNE;go_wp2;refine P7 (v:=.tuple #[.agg #[vL r (fs.length+1) z],vO]) (by simp [results,results116,go_sem,r6]) rfl ⟨⟨r,z,0,ins fs p x,by rw [hil],?_,b.out⟩,hB6.setCell U7 _⟩;exact RG HN.out O0 O0
 · obtain ⟨d,Y⟩:=SQ C.out hfx B.out;have b:=U0 Y;obtain ⟨g,cap4,o,hg,hnc,t,s,hgw⟩:=zu D.out d;have H40:=U0 (aF D.out o);have Q:S=some (aA g 0)/\q=cap4:=by injection o with h1 _ h3;exact ⟨h1,h3⟩
   obtain ⟨Q,hcc⟩:=Q;subst Q;subst hcc;have g0:=(t p d).1;have g1:=(t p d).2;have z0:=s (p*2);have z1:=s (p*2+1);have HPF:Hid (J6 ((u4.setCell (aA g (p*2)) (vS x.nm)).setCell (aA g (p*2+1)) (vS x.tx)) (some (aA g 0)) (put fs p x)):=yN d hgw t;have HFZ:=U0 s;have R:But g u4 ((u4.setCell (aA g (p*2)) (vS x.nm)).setCell (aA g (p*2+1)) (vS x.tx)):=((But.refl _ _).setCell _ _).setCell _ _;have HBU:=U0 R;have E:=U0 (l.out.but R O0);have hpI:(p:Int)<(fs.length:Int):=O0;clear t s o Y R;have HNF:Hid (Qs u2.heap.size ((u4.setCell (aA g (p*2)) (vS x.nm)).setCell (aA g (p*2+1)) (vS x.tx)) (some (aA g 0)) (put fs p x)):=⟨HPF.out,.inr ⟨g,rfl,hg,Ih HPF.out (by simpa using hgw) (fun j=>by have:=HFZ.out j;simpa using this),Vs (Vs H40.out)⟩⟩;go_wp2;have r5:=E.out.cells.2.2.2.1;refine P7 (v:=.tuple #[.agg #[vL (some (aA g 0)) fs.length q],vO]) (by simp [results,results116,go_sem,r5]) rfl ⟨⟨some (aA g 0),q,0,put fs p x,by rw [FK d],?_,b.out⟩,E.out.bel.setCell U7 _⟩;exact RG HNF.out O0 O0
end Go.Proofs.YtkdbheidpdjimaaGreatDoor.T
namespace Go.Proofs.YtkdbheidpdjimaaGreatDoor.G
open Proofs.Tryz Go.RowKit
section
variable {a l r:List UInt8} {b s:BY} {B g k n size:Nat} {w:World} {c y:Int} {ls ss:List (List UInt8)} {p:Addr} {e:TypeId} {xs:List Value}
theorem fC {x:M3} {v:Bool} (hv:Ff x=v) (w:World) (a:x.le 1048700):
 Calls prog 205 #[.agg #[.string x.nm,.string x.tl,.string x.ar]] w fun e w'=>e=.returned (.bool v)/\Bw w w':=hv▸EZ x w a
theorem GK {b q:List UInt8} (ha:(10:UInt8)∉a) (e:(10:UInt8)∉b) (h:a++10::r=b++10::q):a=b/\r=q:=by
 induction a generalizing b with
 | nil=>
  cases b with
  | nil=>simpa using h
  | cons c b=>simp at h;exact absurd (by rw [h.1];simp) e
 | cons d a ih=>
  cases b with
  | nil=>simp at h;exact absurd (by rw [h.1];simp) ha
  | cons c b=>
   simp only [Uf,Ci] at h;obtain ⟨h1,h2⟩:=ih (fun h=>ha (ug _ h)) (fun h=>e (ug _ h)) h.2;exact ⟨by rw [h.1,h1],h2⟩
theorem UX (l:List UInt8):((Lib.cut l [10]).2.2=true/\l=(Lib.cut l [10]).1++10::(Lib.cut l [10]).2.1/\(10:UInt8)∉(Lib.cut l [10]).1)\/((Lib.cut l [10]).2.2=false/\(Lib.cut l [10]).1=l/\(10:UInt8)∉l):=by
 unfold Lib.cut;rw [Lib.index_one];have hge:=Lib.indexByte_ge l 10;by_cases h:Lib.indexByte l 10=-1
 · rw [h,A8 O0];refine .inr ⟨rfl,rfl,fun hm=>?_⟩;obtain ⟨k,a,e⟩:=Ee hm;exact Lib.indexByte_none h k (by rw [y9 a,e])
 obtain ⟨o,ho⟩:∃ o:Nat,Lib.indexByte l 10=o:=⟨(Lib.indexByte l 10).toNat,O0⟩;obtain ⟨h1,h2⟩:=Lib.indexByte_some ho;have hl:o<l.length:=by
  rcases o8 o l.length with h | h
  · exact h
  rw [Ec h] at h1;cases h1
 rw [ho,G8 O0];refine .inl ⟨rfl,?_,fun hm=>?_⟩
 · simp only [Dz,Ej];have hx:l[o]=10:=by rw [y9 hl] at h1;exact Q9 h1
   conv=>lhs;rw [<- Gi o l,Xz hl,hx]
 simp only [Dz] at hm;obtain ⟨k,a,e⟩:=Ee hm;rw [B_] at a;rw [NE] at e;exact h2 k O0 (by rw [y9 O0,e])
theorem cut_small (b:UInt8) (l:List UInt8) (k:Nat):((L8 b l).getD k []).length<=l.length:=by
 obtain ⟨h1,h2⟩:=UB b l ([],[]) l.length I4 I4;have h:∀ x∈L8 b l,x.length<=l.length:=by
  intro x hx;unfold L8 D8 at hx;rcases jh.1 hx with h | h
  · exact h1 x h
  simp at h;subst h;exact h2
 rcases o8 k (L8 b l).length with a | a
 · rw [List.getD,y9 a];exact h _ (Bj a)
 rw [List.getD,Ec a];simp
theorem IZ (w:World) (x y z:Value) (t:TypeId):∀ j u,[x,y,z][j]?=some u->(w.alloc (.cells #[x,y,z] t)).cell? ((⟨w.heap.size,0,none⟩:Addr).add j)=some u:=by
 intro j u h
 match j,h with
 | 0,h=>simp at h;subst h;simp [Addr.add]
 | 1,h=>simp at h;subst h;simp [Addr.add]
 | 2,h=>simp at h;subst h;simp [Addr.add]
theorem YV (a:g=w.heap.size) (x y z:Value) (t:TypeId):∀ j u,[x,y,z][j]?=some u->(w.alloc (.cells #[x,y,z] t)).cell? ((⟨g,0,none⟩:Addr).add j)=some u:=by
 subst a;exact IZ w x y z t
theorem Dp {v:Value} (h:w.ownsRow B e 3 v n xs):∃ ao c,v=.slice ao n c:=by
 rcases h.2 with ⟨hv,h0⟩ | ⟨g,cap,cur,hv,_⟩
 · exact ⟨none,0,by rw [hv,h0]⟩
 exact ⟨_,_,hv⟩
end
section
variable {w:World} {B b base n size:Nat} {o:Obj} {e:TypeId} {v:Value} {xs:List Value}
theorem U9 (h:w.ownsRow B e 1 v n xs):∃ ao c,v=.slice ao n c:=by
 rcases h.2 with ⟨hv,h0⟩ | ⟨g,cap,cur,hv,_⟩
 · exact ⟨none,0,by rw [hv,h0]⟩
 exact ⟨_,_,hv⟩
theorem xM (l:List UInt8):(X5 l).length<=3*l.length+2:=by
 have:=yt l;unfold X5;simp only [List.length_cons,List.length_append,List.length_nil];omega
end
section
variable {w:World} {a:OA} {is:List M3}
def Pn (w:World) (a:OA) (is:List M3):Prop:=
 is=[]\/∃ b off,a=some ⟨b,off,none⟩/\b<w.heap.size/\∀ i,i<is.length->w.cell? ⟨b,off+i*3,none⟩=some (.string (is.getD i H_).nm)/\w.cell? ⟨b,off+i*3+1,none⟩=some (.string (is.getD i H_).tl)/\w.cell? ⟨b,off+i*3+2,none⟩=some (.string (is.getD i H_).ar)
theorem uj (h:Pn w a is):∃ b off,(is=[]\/(a=some ⟨b,off,none⟩/\b<w.heap.size/\∀ i,i<is.length->w.cell? ⟨b,off+i*3,none⟩=some (.string (is.getD i H_).nm)/\w.cell? ⟨b,off+i*3+1,none⟩=some (.string (is.getD i H_).tl)/\w.cell? ⟨b,off+i*3+2,none⟩=some (.string (is.getD i H_).ar))):=by
 rcases h with h | ⟨b,off,h⟩
 · exact ⟨0,0,.inl h⟩
 exact ⟨b,off,.inr h⟩
theorem Ol {w':World} (h:Pn w a is) (c:Bw w w'):Pn w' a is:=by
 rcases h with h | ⟨b,off,h1,h2,e⟩
 · exact .inl h
 exact .inr ⟨b,off,h1,m_ h2 c.size,fun i d=>by rw [c.cell (by exact h2),c.cell (by exact h2),c.cell (by exact h2)];exact e i d⟩
theorem Yv {B:Nat} (h:∀ i,i<is.length->(is.getD i H_).le B) (i:Nat):(is.getD i H_).le B:=by
 rcases o8 i is.length with a | a
 · exact h i a
 have e:is.getD i H_=H_:=by simp [List.getD,Ec a]
 rw [e];exact ⟨D5 _,D5 _,D5 _⟩
theorem LK:(prog.info? 101).map (fun i=>(i.zero,i.size,i.bytes))=some (some (.agg #[.string ⟨#[]⟩,.string ⟨#[]⟩,.string ⟨#[]⟩]),3,48):=J3
end
def x_ (x:M3):List UInt8:=[109,97,107,101,32]++Bd x++[10]
theorem a2n (s:BY) (w:World) (hs:s.size<=1048700):
 Calls prog 96 #[.string s,.int .i64 3] w fun e w'=>(∃ g y,e=.returned (.tuple #[.slice (some ⟨g,0,none⟩) 3 y,.string (Y2 (S9 s.data.toList 3))])/\w.heap.size<=g/\Yb w' g (w_ s.data.toList 3))/\Bw w w':=by
 obtain ⟨B,H,E,D,C⟩:=info_parts info9;have hlen:s.data.toList.length=s.size:=I4;go_enter func96,ntmps96
 go_wp2_with fail
 go_loopw [0,6,7] (fun K v i wr=>∃ (m:Nat) (t:ByteArray) (ss:List (List UInt8)),m<=3/\i=.int .i64 m/\K=.string t/\wr.ownsRow w.heap.size 9 1 v m (Dt ss)/\Hid (t=Y2 (S9 s.data.toList m)/\ss=w_ s.data.toList m)/\Below w.heap.size w wr/\w.heap.size+1<=wr.heap.size) (fun _ _ i _=>3 - (intOf i).toNat)
 case atStart=>exact ⟨0,s,[],D5 _,rfl,rfl,Ku _ #[] 0 x9 (D5 _) rfl,⟨rfl,rfl⟩,o7,I4⟩
 obtain ⟨m,t,ss,hm,rfl,rfl,a,hrel,o,hz⟩:=hrel;by_cases hlt:m<3;rotate_left
 · obtain rfl:m=3:=O0;obtain ⟨rfl,rfl⟩:=hrel.out;clear hrel;obtain ⟨g,y,L⟩:=ql a O0;subst L;go_wp2;go_ret2;exact ⟨⟨g,y,rfl,(a.lt g rfl).1,Eh a rfl⟩,o⟩
 obtain ⟨hT,rfl⟩:=hrel.out;have hts:t.size<=1048700:=by rw [hT,J5];have:=Yi s.data.toList m;omega
 have I:t.data.toList=S9 s.data.toList m:=by rw [hT];simp [Y2]
 have p:=U0 I;have a5F:t.data.toList.length=t.size:=I4;clear hT I;clear hrel
 go_wp2_with fail
 go_loop [8] (fun n=>∃ k:Nat,k<=t.size/\n=.int .i64 k/\Hid ((t.data.toList.take k).all (· !=32)=true)) (fun n=>t.size - (intOf n).toNat)
 case atStart=>exact ⟨0,D5 _,rfl,rfl⟩
 obtain ⟨k,hk,rfl,ha⟩:=hrel;by_cases F:k<t.size;rotate_left
 · obtain ⟨d,c⟩:=Ul (l:=t.data.toList) ha.out O0 (.inl O0);have z:Hid (t.extract 0 k=Y2 (O1 t.data.toList)):=qc (by rw [Cb,d];rfl);have A:Hid (t.extract k t.size=Y2 (Y1 t.data.toList)):=qc (by rw [Cb,c,u_ O0,zq O0,zq O0]);clear d c
   go_wp2_with (at_builtin;refine wpList_append_own _ rfl _ _ 22 rfl w.heap.size 9 B (.string ⟨#[]⟩) 1 16 underlying22 H E D C rfl O6 _ _ _ rfl (a.alloc _) ⟨wr.heap.size,0,none⟩ 1 1 [_] rfl rfl (cell_one_new _ _ _) (by intro u f;simp at f;subst f;rfl) (by unfold maxLen;omega) O0 U7 ?_;intro v' J q h _)
   go_roundw
   case rel=>
    have x:=(o.alloc o.size _).grown h U7 (fun j r=>(a.lt j r).1);refine ⟨m+1,_,w_ s.data.toList (m+1),O0,by go_num,rfl,?_,⟨by rw [A.out,p.out];rfl,rfl⟩,x,by have:=h.size;simp at this;omega⟩;rw [Wj,xg,<- p.out,<- z.out];exact q
   case measure=>simp [intOf];omega
 have a6w:(k:Int)<(t.size:Int):=O0;by_cases b:t[k]=32
 · have e1:((t[k].toNat:Int) !=32)=false:=by rw [b];rfl
   obtain ⟨d,c⟩:=Ul (l:=t.data.toList) ha.out O0 (.inr (by simp [F];exact b));have z:Hid (t.extract 0 k=Y2 (O1 t.data.toList)):=qc (by rw [Cb,d];rfl);have A:Hid (t.extract (k+1) t.size=Y2 (Y1 t.data.toList)):=qc (by rw [Cb,c,u_ O0]);clear b d c
   go_wp2_with (at_builtin;refine wpList_append_own _ rfl _ _ 22 rfl w.heap.size 9 B (.string ⟨#[]⟩) 1 16 underlying22 H E D C rfl O6 _ _ _ rfl (a.alloc _) ⟨wr.heap.size,0,none⟩ 1 1 [_] rfl rfl (cell_one_new _ _ _) (by intro u f;simp at f;subst f;rfl) (by unfold maxLen;omega) O0 U7 ?_;intro v' J q h _)
   go_roundw
   case rel=>
    have x:=(o.alloc o.size _).grown h U7 (fun j r=>(a.lt j r).1);refine ⟨m+1,_,w_ s.data.toList (m+1),O0,by go_num,rfl,?_,⟨by rw [A.out,p.out];rfl,rfl⟩,x,by have:=h.size;simp at this;omega⟩;rw [Wj,xg,<- p.out,<- z.out];exact q
   case measure=>simp [intOf];omega
 have e1:((t[k].toNat:Int) !=32)=true:=by
  simp only [Nq];intro e;exact b (Ei.1 (by have:t[k].toNat=32:=O0;rw [this];rfl))
 have N:Hid ((t.data.toList.take (k+1)).all (· !=32)=true):=by
  rw [take_snoc t k F,Ho,ha.out];simp [Hid,b]
 clear b;go_wp2
 go_round
 case rel=>exact ⟨k+1,O0,by go_num,N⟩
 case measure=>simp [intOf];omega

import Derived.Test.YtkccjgajimjjdaaGreatDoortX1
import Derived.Lib.Overlaps
import Derived.Lib.AppendZerosOnto
set_option linter.unusedVariables false
set_option maxHeartbeats 8000000
set_option maxRecDepth 100000
namespace Go.Proofs.YtkccjgajimjjdaaGreatDoor.T
open Proofs.Tryz Go.RowKit
variable{u w:World}{fs gs:List F2}{B b i j o p q:Nat}{x:F2}{v:Value}{vs:List Value}
theorem Nq(w:World)(ty:TypeId)(b o e m:Nat)(a:Addr)(c d n:Nat)(cs:List Value)(i:Nat.min c e=n)(hl:cs.length=n*2)
 (h:∀j v,cs[j]?=some v->w.cell? (a.add j)=some v) (hc:∀j,j<cs.length->(w.cell? ⟨b,o+j,none⟩).isSome=true) (hf:∀j,w.frozen? ⟨b,j,none⟩=false) (h1:∀v∈cs,v.oneCell'=true):
 (Builtin.copy_ #[38,38] ty #[.slice (some ⟨b,o,none⟩) e m,.slice (some a) c d]).run prog w=.ok (goInt n) (w.setCells b o cs):=by
 obtain⟨i0,k,hz0,f,hz2⟩:=info_parts Ov;have l:=run_firstCells_some (P:=prog) w 2 n a c d cs hl h;have g:=run_storeCells_cells (P:=prog) b o cs 0 w (by simpa using hc) (λj _=>hf _) h1;simp[Builtin.copy_,Ws underlying38,Builtin.lenOf,sizeOf,typeInfo,k,f,i,l,g]
theorem wpList_copy_runI(w:World){P:Program}{ops:Array Oper}{rest:List Oper}{o:Oper}{a:Act}{Q:Exit->Act->World->Prop}(e:o.guard=none)(d s:Operand)(t b:TypeId)
 (ho:o.op=.call { callee:=.builtin .copy,args:=#[d,s],argTypes:=#[t,b] }) (v u:Value) (hd:a.eval d=v) (c:a.eval s=u) {v':Value} {w':World}
 (hr:(Builtin.copy_ #[t,b] o.type #[v,u]).run P w=.ok v' w') (h:wpList P ops Q rest (a.put o.dst v') w'):wpList P ops Q (o::rest) a w:=
 Qv e λK f=>by
  unfold Oper.wp execOp;simp only[ho,resolve,invoke,builtin,Sem.run_bind,Zp,Am,SI,Fp,VF,hd,c,hr];exact f _ _ h
theorem step_copy_runI{P:Program}{ops:Array Oper}{o:Oper}{a:Act}{K:Act->World->Prop}{Q:Exit->Act->World->Prop}{E:Prop}
 (f:o.guard=none) (d x:Operand) (c b:TypeId) (e:o.op=Op.call { callee:=Callee.builtin Builtin.copy,args:=#[d,x],argTypes:=#[c,b] })
 (v u:Value) (hd:a.eval d=v) (hx:a.eval x=u) {v':Value} {w':World} (hr:(Builtin.copy_ #[c,b] o.type #[v,u]).run P w=.ok v' w') (g:K (a.put o.dst v') w'):
 if Region.wanted o (yielded ops a.tmps)=true then Oper.wp P o a w K Q else E:=by
 have hw:Region.wanted o (yielded ops a.tmps)=true:=by simp[Region.wanted,f]
 rw[L8 hw];unfold Oper.wp;simp[execOp,e,resolve,invoke,builtin,hd,hx,hr,Result.andThen];exact g
theorem a1h:∀w,(sizeOf 67).run prog w=.ok 2 w:=λw=>by
 obtain⟨i0,b,hz0,a,hz2⟩:=info_parts Ov;simp[sizeOf,typeInfo,b,a]
theorem a2n(b c i a:Nat)(fs:List F2)(x:F2)(w:World)(hi:i<fs.length)(hl:fs.length<=40)(hroom:fs.length+1<=c)(y:a≠b)
 (C:∀j v,(U3 fs)[j]?=some v->w.cell? ⟨b,0+j,none⟩=some v) (n:∀j,j<(fs.length+1)*2->(w.cell? ⟨b,j,none⟩).isSome=true) (o:∀j,w.frozen? ⟨b,j,none⟩=false)
 (u:∀j v,[Value.string x.nm,.string x.tx][j]?=some v->w.cell? ⟨a,0+j,none⟩=some v)
 (s r:TypeId) (t m:Nat) (B:w.shape? a=some (s,t)) (A:w.shape? b=some (r,m)) (H:m≠0) (p:∀j,w.frozen? ⟨a,j,none⟩=false):
 Calls prog 229 #[.slice (some ⟨b,0,none⟩) fs.length c,.int .i64 i,.slice (some ⟨a,0,none⟩) 1 1] w λe w'=>
  e=.returned (.slice (some ⟨b,0,none⟩) (fs.length+1) c)/\w'=(w.drew.setCells b ((i+1)*2) (U3 (fs.drop i))).setCells b (i*2) [.string x.nm,.string x.tx]:=by
 have hz2:¬((i:Int)=(fs.length:Int)):=O0;have F:∀lb cb,(callFunc 271 #[vL (some (aA a 0)) 1 1,vL (some (aA b ((i+1)*2))) lb cb]).run prog w=.ok (.value (.bool false)) w:=λlb cb=>by
  rw[run_callFunc_extern func271 Y1 Y1 Y1 (e:=Extern.SlicesOverlaps.overlaps #[38,38] #[4]) Y1,
   Lib.run_overlaps_apart w 38 4 67 underlying38 2 a1h (aA a 0) (aA b ((i+1)*2)) 1 1 lb cb y s r t m B A H (p _) (p _)]
  rfl
 have q:(U3 (fs.drop i)).length=(fs.length-i)*2:=by rw[X8,jk]
 have hw1:IntKind.i64.wrap ((i:Int)+1)=(i:Int)+1:=by rw[show(i:Int)+1=((i+1:Nat):Int) by omega];exact Nb (i+1) O0
 have hb1:(0:Int)<=(i:Int)+1:=O0;have hb6:(i:Int)+1<=(fs.length:Int)+1:=O0;have hin:i<=fs.length:=O0;have htn:((i:Int)+1).toNat=i+1:=O0;have hb2:¬(c=i+1):=O0;have hb3:(i:Int)<=(fs.length:Int)+1:=O0;have hb4:¬(c=i):=O0;have hb5:¬(c<fs.length+1):=O0;have D:∀ty f sc,(Builtin.copy_ #[38,38] ty #[vL (some (aA b ((i+1)*2))) (fs.length-i) f,vL (some (aA b (i*2))) (fs.length+1-i) sc]).run prog w.drew=.ok (goInt ((fs.length-i:Nat))) (w.drew.setCells b ((i+1)*2) (U3 (fs.drop i))):=λty f sc=>
  Nq w.drew ty b ((i+1)*2) (fs.length-i) f (aA b (i*2)) (fs.length+1-i) sc (fs.length-i) _ (by simp only[aF];split<;>omega) q
   (λj v d=>by
    rw[QN];have J:(U3 fs)[i*2+j]?=some v:=by
     have e:U3 fs=U3 (fs.take i)++U3 (fs.drop i):=by rw[<- Ae,um]
     rw[e,Ue (by rw[X8,U_];omega),X8,U_,Sr O0,DR];exact d
    have:=C _ _ J;rw[o9]at this;exact this)
   (λj d=>n _ (by rw[q]at d;omega)) o He
 obtain⟨l,g⟩:∃l,l=w.drew.setCells b ((i+1)*2) (U3 (fs.drop i)):=⟨_,rfl⟩;have z:∀k,k<(fs.length+1)*2->(l.cell? (aA b k)).isSome=true:=λk I=>by
  rw[g];exact isSome_setCells b _ _ _ _ (n k I)
 have K:∀(W:World),(∀x,W.cell? x=l.cell? x)->(∀x,W.frozen? x=l.frozen? x)->∀ty f,(Builtin.copy_ #[38,38] ty #[vL (some (aA b (i*2))) (fs.length+1-i) f,vL (some (aA a 0)) 1 1]).run prog W=.ok (goInt 1) (W.setCells b (i*2) [vS x.nm,vS x.tx]):=λW E L ty f=>
  Nq W ty b (i*2) (fs.length+1-i) f (aA a 0) 1 1 1 [vS x.nm,vS x.tx] (by simp only[aF];split<;>omega) rfl
   (λj v d=>by
    rw[QN,E,g,World.cell?_setCells_out b _ _ _ _ (λh _=>absurd h y)];exact u j v d)
   (λj d=>by rw[E];exact z _ (by simp at d;omega)) (λj=>by rw[L,g,World.frozen?_setCells];exact o _) (by intro v hv;simp at hv;rcases hv with rfl|rfl<;>rfl)
 rw[<- g]at D;clear C n o u p B A z q
 go_in
 go_wp2_with(simp only[F])
 go_region_law (refine step_copy_runI rfl _ _ 38 38 rfl _ _ (by simp[Act.eval,Act.put]) (by simp[Act.eval,Act.put]) (D _ _ _) ?_)
 go_wp2_with(at_builtin;refine wpList_copy_runI _ rfl _ _ 38 38 rfl _ _ rfl rfl (K _ (λ_=>rfl) (λ_=>rfl) _ _) ?_)
 go_ret
 first|exact⟨rfl,rfl⟩|exact⟨rfl,by rw[g]⟩
theorem a1M(b c i k:Nat)(fs:List F2)(x:F2)(w:World)(hi:i<fs.length)(hl:fs.length<=40)(hnc:fs.length<=c)(U:c<fs.length+1)(hbw:b<w.heap.size)(S:k<w.heap.size)
 (u:∀j v,(U3 fs)[j]?=some v->w.cell? ⟨b,0+j,none⟩=some v)
 (H:∀j v,[Value.string x.nm,.string x.tx][j]?=some v->w.cell? ⟨k,0+j,none⟩=some v):
 Calls prog 229 #[.slice (some ⟨b,0,none⟩) fs.length c,.int .i64 i,.slice (some ⟨k,0,none⟩) 1 1] w λe w'=>∃(G:Nat)(a:Array Value),fs.length+1<=G/\(fs.length+1)*2<=a.size/\(∀j,j<i*2->a[j]?=(U3 fs)[j]?)/\
  e=.returned (.slice (some ⟨w.heap.size,0,none⟩) (fs.length+1) G)/\
  w'=(((w.alloc (.cells a 67)).drew.setCells w.heap.size (i*2) [.string x.nm,.string x.tx]).drew).setCells w.heap.size ((i+1)*2) (U3 (fs.drop i)):=by
 obtain⟨E,Y,R,Q,F⟩:=info_parts Ov;have hz2:¬((i:Int)=(fs.length:Int)):=O0;have hz3:(c:Int)<(fs.length:Int)+1:=O0;have J:(fs.length:Int)+1-(i:Int)=((fs.length+1-i:Nat):Int):=O0;have r:i+(fs.length+1-i)=fs.length+1:=O0;have I:(Builtin.firstCells E.size i (vL (some (aA b 0)) i c)).run prog w.drew=.ok (U3 (fs.take i)).toArray w.drew:=by
  rw[Q];exact run_firstCells_some w.drew 2 i (aA b 0) i c (U3 (fs.take i)) (by rw[X8,U_];omega) (λj v d=>by
   rw[QN];refine u j v ?_;have hjl:j<i*2:=by have:=(Zi.1 d).1;rw[X8,U_]at this;omega
   have e:U3 fs=U3 (fs.take i)++U3 (fs.drop i):=by rw[<- Ae,um]
   rw[e,G_ (by rw[X8,U_];omega)];exact d)
 have n:∀ty,(Builtin.append_ #[38,3] ty #[vL (some (aA b 0)) i c,vI ((fs.length:Int)+1-(i:Int))]).run prog w=
  .ok (vL (some (aW w 0)) (fs.length+1) (grownCap w (fs.length+1) c 67)) (w.drew.alloc (.cells ((U3 (fs.take i)).toArray++Builtin.zeroCells (Value.agg #[vE,vE]).cells (fs.length+1-i)++Builtin.zeroCells (Value.agg #[vE,vE]).cells (grownCap w (fs.length+1) c 67-(fs.length+1))) 67)):=λty=>by
  have h:=Lib.run_append_grow_zeros w 38 3 ty 67 E _ .i64 .i64 underlying38 underlying3 Y R (some (aA b 0)) i c (U3 (fs.take i)) I (fs.length+1-i) O0 O0 O0 O0 (by rw[F];omega) (by rw[F,r];exact growslice_fits U O0);rw[r]at h;rw[J];exact h
 obtain⟨G,p⟩:∃G,G=grownCap w (fs.length+1) c 67:=⟨_,rfl⟩;obtain⟨a,o⟩:∃a:Array Value,a=(U3 (fs.take i)).toArray++Builtin.zeroCells (Value.agg #[vE,vE]).cells (fs.length+1-i)++Builtin.zeroCells (Value.agg #[vE,vE]).cells (G-(fs.length+1)):=⟨_,rfl⟩;rw[<- p]at n;rw[<- o]at n;have L:(fs.length+1)*2<=a.size:=by
  rw[o];simp[Builtin.zeroCells,Value.cells,X8];omega
 have N:∀j,j<i*2->a[j]?=(U3 fs)[j]?:=λj d=>by
  have e:U3 fs=U3 (fs.take i)++U3 (fs.drop i):=by rw[<- Ae,um]
  have hlen:(U3 (fs.take i)).length=i*2:=by rw[X8,U_];omega
  rw[o,e,G_ O0,Array.append_assoc,Array.getElem?_append_left (by simpa using(by omega:j<(U3 (fs.take i)).length))];simp
 obtain⟨f,m⟩:∃f,f=w.drew.alloc (.cells a 67):=⟨_,rfl⟩;rw[<- m]at n;have s:(w.drew.alloc (.cells a 67)).heap[w.heap.size]?=some (.cells a 67 (0,0)):=Xc (w:=w.drew) rfl _;have C:∀j,j<(fs.length+1)*2->(f.cell? (aW w j)).isSome=true:=λj d=>by
  rw[m,Lib.cell_of_heap s,oK O0];rfl
 have B:∀j,f.frozen? (aW w j)=false:=λj=>by rw[m];exact Lib.frozen_of_heap s j
 have A:∀q j v,q<w.heap.size->w.cell? (aA q j)=some v->f.cell? (aA q j)=some v:=λq j v V h=>by rw[m,Aj _ _ _ (by exact V)];exact h
 have hcpA:∀(W:World),(∀x,W.cell? x=f.cell? x)->(∀x,W.frozen? x=f.frozen? x)->∀ty g,(Builtin.copy_ #[38,38] ty #[vL (some (aW w (i*2))) (fs.length+1-i) g,vL (some (aA k 0)) 1 1]).run prog W=.ok (goInt 1) (W.setCells w.heap.size (i*2) [vS x.nm,vS x.tx]):=λW l z ty g=>
  Nq W ty w.heap.size (i*2) (fs.length+1-i) g (aA k 0) 1 1 1 [vS x.nm,vS x.tx] (by simp only[aF];split<;>omega) rfl
   (λj v d=>by rw[QN,l];exact A _ _ v S (H j v d))
   (λj d=>by rw[l];exact C _ (by simp at d;omega)) (λj=>by rw[z];exact B _) (by intro v hv;simp at hv;rcases hv with rfl|rfl<;>rfl)
 have hGn:fs.length+1<=G:=by rw[p];exact grownCap_ge w _ _ _
 have hG63:G<=9223372036854775807:=by
  have:=grownCap_le_maxLen w (fs.length+1) c 67 (by unfold maxLen;omega);rw[<- p]at this;unfold maxLen at this;omega
 have hGi:¬(G=i):=O0;have hGim:¬(G=i+1):=O0;have hci:¬(c=i):=O0;have hbN:b≠w.heap.size:=O0;have t:(U3 (fs.drop i)).length=(fs.length-i)*2:=by rw[X8,jk]
 have K:∀(W:World),(∀y,W.cell? y=(f.setCells w.heap.size (i*2) [vS x.nm,vS x.tx]).cell? y)->(∀y,W.frozen? y=(f.setCells w.heap.size (i*2) [vS x.nm,vS x.tx]).frozen? y)->∀ty dl g sc,dl=fs.length-i->(Builtin.copy_ #[38,38] ty #[vL (some (aW w ((i+1)*2))) dl g,vL (some (aA b (i*2))) (fs.length-i) sc]).run prog W=.ok (goInt ((fs.length-i:Nat))) (W.setCells w.heap.size ((i+1)*2) (U3 (fs.drop i))):=λW l z ty dl g sc Z=>
  Nq W ty w.heap.size ((i+1)*2) dl g (aA b (i*2)) (fs.length-i) sc (fs.length-i) _ (by rw[Z];simp only[aF];split<;>omega) t
   (λj v d=>by
    rw[QN,l,World.cell?_setCells_out _ _ _ _ _ (λh _=>absurd h hbN)];have X:(U3 fs)[i*2+j]?=some v:=by
     have e:U3 fs=U3 (fs.take i)++U3 (fs.drop i):=by rw[<- Ae,um]
     rw[e,Ue (by rw[X8,U_];omega),X8,U_,Sr O0,DR];exact d
    have:=u _ _ X;rw[o9]at this;exact A _ _ v hbw this)
   (λj d=>by rw[l];exact isSome_setCells _ _ _ _ _ (C _ (by rw[t]at d;omega)))
   (λj=>by rw[z,World.frozen?_setCells];exact B _) He
 subst m;have hE1:∀x,((w.alloc (.cells a 67)).drew).cell? x=(w.drew.alloc (.cells a 67)).cell? x:=λx=>rfl;have hE2:∀x,((w.alloc (.cells a 67)).drew).frozen? x=(w.drew.alloc (.cells a 67)).frozen? x:=λx=>rfl;have P:∀y,(((w.alloc (.cells a 67)).drew.setCells w.heap.size (i*2) [vS x.nm,vS x.tx]).drew).cell? y=((w.drew.alloc (.cells a 67)).setCells w.heap.size (i*2) [vS x.nm,vS x.tx]).cell? y:=λx=>rfl;have O:∀y,(((w.alloc (.cells a 67)).drew.setCells w.heap.size (i*2) [vS x.nm,vS x.tx]).drew).frozen? y=((w.drew.alloc (.cells a 67)).setCells w.heap.size (i*2) [vS x.nm,vS x.tx]).frozen? y:=λx=>rfl;have hw1:IntKind.i64.wrap ((i:Int)+1)=(i:Int)+1:=by rw[show(i:Int)+1=((i+1:Nat):Int) by omega];exact Nb (i+1) O0
 have hb1:(0:Int)<=(i:Int)+1:=O0;have hin:i<=fs.length:=O0;have htn:((i:Int)+1).toNat=i+1:=O0;have hb3:(i:Int)<=(fs.length:Int):=O0;have hb6:(i:Int)+1<=(fs.length:Int)+1:=O0;have D:Hid (fs.length+1<=G/\(fs.length+1)*2<=a.size/\(∀j,j<i*2->a[j]?=(U3 fs)[j]?)):=⟨hGn,L,N⟩;clear s J r I o p L N u H C B A t
 go_in
 go_wp2_with(first
  | (at_builtin;refine Lib.wpList_append_run _ rfl _ _ _ _ rfl _ _ rfl rfl _ _ (n _) ?_)
  | (at_builtin;refine wpList_copy_runI _ rfl _ _ 38 38 rfl _ _ rfl rfl (hcpA _ hE1 hE2 _ _) ?_))
 go_region_law (first|(refine step_copy_runI rfl _ _ 38 38 rfl (vL (some (aW w ((i+1)*2))) (fs.length+1-(i+1)) (G-(i+1))) (vL (some (aA b (i*2))) (fs.length-i) (c-i)) (by simp[Act.eval,Act.put]) (by simp[Act.eval,Act.put]) (K _ P O 3 (fs.length+1-(i+1)) (G-(i+1)) (c-i) O0) ?_)|(refine step_copy_runI rfl _ _ 38 38 rfl (vL (some (aW w ((i+1)*2))) (fs.length-i) (G-(i+1))) (vL (some (aA b (i*2))) (fs.length-i) (c-i)) (by simp[Act.eval,Act.put]) (by simp[Act.eval,Act.put]) (K _ P O 3 (fs.length-i) (G-(i+1)) (c-i) O0) ?_))
 go_wp2;go_ret;exact⟨G,a,D.out.1,D.out.2.1,D.out.2.2,rfl,rfl⟩
theorem QZ(h:i<=fs.length)(a:j<i):(ins fs i x).getD j G9=fs.getD j G9:=by
 unfold ins;simp only[List.getD];rw[G_ (by rw[U_];omega),jA a]
theorem sW(h:i<=fs.length):(ins fs i x).getD i G9=x:=by
 unfold ins;simp only[List.getD];rw[Ue (by rw[U_];omega),U_,Sr h,Xu];rfl
theorem a0i(h:i<=fs.length)(hj:i<j):(ins fs i x).getD j G9=(fs.drop i).getD (j-i-1) G9:=by
 unfold ins;simp only[List.getD];rw[Ue (by rw[U_];omega),U_,Sr h];obtain⟨k,a⟩:∃k,j-i=k+1:=⟨j-i-1,O0⟩;rw[a,bU,jJ]
theorem yD{W:World}(a:i<=fs.length)(f:b<W.heap.size)
 (lo:∀j,j<i*2->W.cell? ⟨b,j,none⟩=(U3 fs)[j]?) (m0:W.cell? ⟨b,i*2,none⟩=some (.string x.nm)) (c:W.cell? ⟨b,i*2+1,none⟩=some (.string x.tx))
 (up:∀j,j<(fs.length-i)*2->W.cell? ⟨b,(i+1)*2+j,none⟩=(U3 (fs.drop i))[j]?):G6 W (some ⟨b,0,none⟩) (ins fs i x):=by
 refine .inr ⟨b,0,rfl,f,λj d=>?_⟩;rw[wF _ _ _ a]at d;rw[o9];rcases Uw j i with h|h|h
 ·rw[QZ a h,lo _ O0,lo _ O0];exact Ee fs j O0
 ·subst h;rw[sW a];exact⟨m0,c⟩
 rw[a0i a h];have e:=Ee (fs.drop i) (j-i-1) (by rw[jk];omega);have u0:=up ((j-i-1)*2) O0;have u1:=up ((j-i-1)*2+1) O0;rw[show(i+1)*2+(j-i-1)*2=j*2 by omega]at u0;rw[show(i+1)*2+((j-i-1)*2+1)=j*2+1 by omega]at u1;rw[u0,u1];exact e
theorem oV(h:Ql w B v gs){p:Nat}(c:p<gs.length):∃a cap,v=.slice a gs.length cap/\qo B w a gs:=by
 obtain⟨g,cap,hv,e,hnc,j,f,b⟩:=Nv h c;have hf:G6 w (some (aA g 0)) gs:=.inr ⟨g,0,rfl,b,λi d=>by rw[o9];exact j i d⟩;exact⟨_,cap,hv,hf,.inr ⟨g,rfl,e,Yh hf b f,yE h hv⟩⟩
theorem EW(fs:List F2)(x:F2):ins fs fs.length x=fs++[x]:=by unfold ins;rw[List.take_length,List.drop_length]
def EZ(B:Nat)(gs:List F2)(n:Nat)(e:Ending)(w':World):Prop:=∃a' cap',e=.returned (.slice a' n cap')/\qo B w' a' gs
theorem a1D(B b:Nat)(d:OA)(c:Nat)(fs:List F2)(x:F2)(w:World)(a:Ql w B (.slice d fs.length c) fs)(hl:fs.length<=40)(hB:B<=w.heap.size)
 (g:∀j v,[Value.string x.nm,.string x.tx][j]?=some v->w.cell? ((⟨b,0,none⟩:Addr).add j)=some v):
 Calls prog 229 #[.slice d fs.length c,.int .i64 fs.length,.slice (some ⟨b,0,none⟩) 1 1] w λe w'=>EZ B (ins fs fs.length x) (fs.length+1) e w'/\Below B w w':=by
 obtain⟨q,D,t,s,r⟩:=info_parts Ov;have hcv:=VL a;have A:=a.lt;have z:w.ownsRow B 67 2 (vL d fs.length c) fs.length (U3 fs):=a;have E:=U0 g;clear a g
 go_in
 go_wp2_with(at_builtin;refine wpList_append_own _ rfl _ _ 38 rfl B 67 q (.agg #[.string ⟨#[]⟩,.string ⟨#[]⟩]) 2 32 underlying38 D t s r rfl Z5 _ _ _ rfl z ⟨b,0,none⟩ 1 1 [.string x.nm,.string x.tx] rfl rfl E.out (by intro u i;simp at i;rcases i with rfl|rfl<;>rfl) (by unfold maxLen;omega) O0 hB ?_;intro v' w1 l n _)
 all_goals
  have I:=U0 ((G5 B w).grown n hB (λk C=>(A k C).1));have F:Hid (Ql w1 B v' (fs++[x])):=by
   show w1.ownsRow B 67 2 v' (fs++[x]).length (U3 (fs++[x]));rw[Ae,P9];exact l
  obtain⟨f,o,h,m⟩:=oV F.out (p:=fs.length) E5;have H:Hid (qo B w1 f (ins fs fs.length x)):=by rw[EW];exact m
  have y:v'=vL f (fs.length+1) o:=by rw[h];simp
  subst y;clear l n m h;go_wp2;go_ret;exact⟨⟨f,o,rfl,H.out⟩,I.out⟩
theorem Py(h:∀j,j<vs.length->(w.cell? ⟨b,o+j,none⟩).isSome=true)(j:Nat)(a:j<vs.length):(w.setCells b o vs).cell? ⟨b,o+j,none⟩=vs[j]?:=by
 rw[World.cell?_setCells_in b vs o w h j a,L9 a]
theorem Ul(h:q<o\/o+vs.length<=q):(w.setCells b o vs).cell? ⟨b,q,none⟩=w.cell? ⟨b,q,none⟩:=World.cell?_setCells_out b vs o w _ (λ_ _=>h)
theorem c229(B c p:Nat)(u:OA)(f:Nat)(fs:List F2)(x:F2)(w:World)(C:Ql w B (.slice u fs.length f) fs)(F:p<=fs.length)(hl:fs.length<=40)(hB:B<=w.heap.size)
 (r:w.heap[c]?=some (.cells #[.string x.nm,.string x.tx] 67 (0,0))) (U:∀k,(Value.slice u fs.length f).ownBlock=some k->c≠k):
 Calls prog 229 #[.slice u fs.length f,.int .i64 p,.slice (some ⟨c,0,none⟩) 1 1] w λe w'=>EZ B (ins fs p x) (fs.length+1) e w'/\Below B w w':=by
 have O:=mg r;have y:∀j v,[Value.string x.nm,vS x.tx][j]?=some v->w.cell? (aA c (0+j))=some v:=λj v h=>by
  rw[o9,Lib.cell_of_heap r];simpa using h
 have s:(U3 (fs.drop p)).length=(fs.length-p)*2:=by rw[X8,jk]
 by_cases R:p=fs.length
 ·subst R;exact a1D B c u f fs x w C hl hB (λj v h=>by rw[QN];exact y j v h)
 have E:p<fs.length:=O0;have S:=C;rcases C.2 with⟨hv,h0⟩|⟨g,cap,cur,hv,I,m,V,hcm,W,htk⟩
 ·omega
 injection hv with e1 e2 e3;subst e1;subst e3;have H:=mg m;have P:=U g rfl;have L:∀j,j<fs.length*2->w.cell? (aA g j)=(U3 fs)[j]?:=λj a=>S.cellAt j a;have K:∀j v,(U3 fs)[j]?=some v->w.cell? (aA g (0+j))=some v:=λj v h=>by
  have:j<fs.length*2:=by rw[<- X8];exact(Zi.1 h).1
  rw[o9,L j this];exact h
 by_cases Q:fs.length+1<=f
 ·have z:∀j,j<(fs.length+1)*2->(w.cell? (aA g j)).isSome=true:=λj a=>by
   rw[Lib.cell_of_heap m,oK (by rw[W];omega)];rfl
  have J:∀j,w.frozen? (aA g j)=false:=λj=>Lib.frozen_of_heap m j;refine(a2n g f p c fs x w E hl Q P K z J y 67 67 2 cur.size (by simp[World.shape?,r]) (by simp[World.shape?,m]) O0 (λj=>Lib.frozen_of_heap r j)).mono ?_;rintro e w'⟨rfl,rfl⟩;have t:But g w ((w.drew.setCells g ((p+1)*2) (U3 (fs.drop p))).setCells g (p*2) [vS x.nm,vS x.tx]):=But.setCells g _ _ (But.setCells g _ _ (But.refl _ _).drew);have A:∀j,j<(fs.length+1)*2->((w.drew.setCells g ((p+1)*2) (U3 (fs.drop p))).cell? (aA g j)).isSome=true:=λj a=>isSome_setCells g _ _ _ _ (z j a);have D:∀j,((w.drew.setCells g ((p+1)*2) (U3 (fs.drop p))).setCells g (p*2) [vS x.nm,vS x.tx]).frozen? (aA g j)=false:=λj=>by rw[World.frozen?_setCells,World.frozen?_setCells];exact J j
  have n:=U9 H t.size;have i:∀j,j<2->((w.drew.setCells g ((p+1)*2) (U3 (fs.drop p))).setCells g (p*2) [vS x.nm,vS x.tx]).cell? (aA g (p*2+j))=[Value.string x.nm,vS x.tx][j]?:=λj a=>Py (λq d=>A _ (by simp at d;omega)) j (by simpa using a);have hF:=yD (x:=x) F n
   (λj a=>by rw[Ul (.inl a),Ul (.inl O0)];exact L j O0)
   (i 0 O0) (i 1 O0)
   (λj a=>by rw[Ul (.inr Q8)];exact Py (w:=w.drew) (o:=(p+1)*2) (λq d=>z ((p+1)*2+q) (by rw[s]at d;omega)) j (by rw[s];exact a))
  refine⟨⟨_,_,rfl,hF,.inr ⟨g,rfl,I,Yh hF n D,Yj _ _ _ (Yj (w:=w.drew) _ _ _ ⟨_,m⟩)⟩⟩,t.below I hB⟩
 refine(a1M g f p c fs x w E hl V O0 H O K y).mono ?_;rintro e w'⟨G,b,hG,hR,Y,rfl,rfl⟩;have X:Bw w (w.alloc (.cells b 67)).drew:=Y6.drew;have l:(w.alloc (.cells b 67)).drew.heap[w.heap.size]?=some (.cells b 67 (0,0)):=Xc (w:=w) rfl _;have N:∀j,j<(fs.length+1)*2->((w.alloc (.cells b 67)).drew.cell? (aW w j)).isSome=true:=λj a=>by
  rw[Lib.cell_of_heap l,oK O0];rfl
 have t:But w.heap.size w ((((w.alloc (.cells b 67)).drew.setCells w.heap.size (p*2) [vS x.nm,vS x.tx]).drew).setCells w.heap.size ((p+1)*2) (U3 (fs.drop p))):=But.setCells _ _ _ (But.setCells _ _ _ (But.of_below X)).drew;have A:∀j,j<(fs.length+1)*2->(((w.alloc (.cells b 67)).drew.setCells w.heap.size (p*2) [vS x.nm,vS x.tx]).drew.cell? (aW w j)).isSome=true:=λj a=>isSome_setCells _ _ _ _ _ (N j a);have n:w.heap.size<((((w.alloc (.cells b 67)).drew.setCells w.heap.size (p*2) [vS x.nm,vS x.tx]).drew).setCells w.heap.size ((p+1)*2) (U3 (fs.drop p))).heap.size:=by
  have h1:But w.heap.size (w.alloc (.cells b 67)).drew ((((w.alloc (.cells b 67)).drew.setCells w.heap.size (p*2) [vS x.nm,vS x.tx]).drew).setCells w.heap.size ((p+1)*2) (U3 (fs.drop p))):=But.setCells _ _ _ (But.setCells _ _ _ (But.refl _ _)).drew;exact U9 (mg l) h1.size
 have D:∀j,((((w.alloc (.cells b 67)).drew.setCells w.heap.size (p*2) [vS x.nm,vS x.tx]).drew).setCells w.heap.size ((p+1)*2) (U3 (fs.drop p))).frozen? (aW w j)=false:=λj=>by
  rw[World.frozen?_setCells];exact(World.frozen?_setCells _ _ _ _ _).trans (Lib.frozen_of_heap l j)
 have i:∀j,j<2->((((w.alloc (.cells b 67)).drew.setCells w.heap.size (p*2) [vS x.nm,vS x.tx]).drew).setCells w.heap.size ((p+1)*2) (U3 (fs.drop p))).cell? (aW w (p*2+j))=[Value.string x.nm,vS x.tx][j]?:=λj a=>by
  rw[Ul (.inl O0)];exact Py (w:=(w.alloc (.cells b 67)).drew) (λq d=>N _ (by simp at d;omega)) j (by simpa using a)
 have hF:=yD (x:=x) F n
  (λj a=>by
   rw[Ul (.inl O0)];exact((Ul (w:=(w.alloc (.cells b 67)).drew) (.inl a)).trans (Lib.cell_of_heap l j)).trans (Y j a))
  (i 0 O0) (i 1 O0)
  (λj a=>Py (λq d=>A _ (by rw[s]at d;omega)) j (by rw[s];exact a))
 refine⟨⟨_,_,rfl,hF,.inr ⟨w.heap.size,rfl,hB,Yh hF n D,Yj (w:=((w.alloc (.cells b 67)).drew.setCells w.heap.size (p*2) [vS x.nm,vS x.tx]).drew) _ _ _ (show kP ((w.alloc (.cells b 67)).drew.setCells w.heap.size (p*2) [vS x.nm,vS x.tx]) _ from Yj _ _ _ ⟨_,l⟩)⟩⟩,t.below hB hB⟩
theorem mV{a b:BY}(h:lt a b=true):lt b a=false:=by
 cases hb:lt b a
 ·rfl
 have:=Ig h hb;rw[Ud]at this;cases this
theorem AU(h:p<fs.length):(del fs p).take p=fs.take p:=by
 unfold del;rw[II (by rw[U_];omega),List.take_take,Nat.min_self]
theorem UQ(h:p<fs.length):(del fs p).drop p=fs.drop (p+1):=by
 unfold del;rw[JJ (by rw[U_];omega),RJ,Xu,List.take_zero,j_]
def put(fs:List F2)(p:Nat)(x:F2):List F2:=fs.take p++x::fs.drop (p+1)
theorem YW(h:p<fs.length):ins (del fs p) p x=put fs p x:=by unfold ins put;rw[AU h,UQ h]
theorem FM(h:p<fs.length):(put fs p x).length=fs.length:=by
 unfold put;rw[List.length_append,List.length_cons,List.length_take,List.length_drop];omega
theorem NT(h:p<fs.length):(put fs p x).getD p G9=x:=by
 unfold put;simp only[List.getD];rw[Ue (by rw[U_];omega),U_,Sr O0,Xu];rfl
theorem PN(h:p<fs.length)(hi:i≠p):(put fs p x).getD i G9=fs.getD i G9:=by
 unfold put;simp only[List.getD];rcases D8 i p with h1|h1
 ·rw[G_ (by rw[U_];omega),jA h1]
 rw[Ue (by rw[U_];omega),U_,Sr O0];obtain⟨k,a⟩:∃k,i-p=k+1:=⟨i-p-1,O0⟩;rw[a,bU,fF]
 congr 2
 omega
theorem XR(b:D_ fs)(f:Xa x=true)(d:Place fs x.nm p true):p<fs.length/\Vp fs x 0 (put fs p x):=by
 obtain⟨a,c⟩:=d.here.1 rfl;have ha:=Si b;have hw:without fs x.nm=del fs p:=by rw[<- c];exact Zx ha a
 have g:=Hy a;refine⟨a,.inr (.inr (.inr ⟨b,f,by rw[hw,g];have:=b.1;omega,rfl,p,?_,by rw[hw,YW a]⟩))⟩;rw[hw];refine⟨O0,λj e=>by rw[LU a e];exact d.less j e,?_⟩;rcases D8 p (del fs p).length with h|h
 ·right;rw[FT a X7,Xu,jv,Qo];have:=ha p (p+1) O0 O0;rw[c]at this;exact mV this
 left;omega
theorem IU(b:D_ fs)(d:Xa x=true)(a:Place fs x.nm p false):(40<=fs.length->Vp fs x 3 [])/\(fs.length<40->Vp fs x 0 (ins fs p x)):=by
 have f:∀i,i<fs.length->(fs.getD i G9).nm≠x.nm:=λi c e=>by
  rcases D8 i p with h|h
  ·have:=a.less i h;rw[e,Ud]at this;cases this
  rcases D8 p i with h1|h1
  ·have h2:=Si b p i h1 c;rw[e,a.more p X7 O0]at h2;cases h2
  obtain rfl:i=p:=O0;have:=a.here.2 ⟨c,e⟩;cases this
 have hw:=filter_all f;refine⟨λh=>.inr (.inr (.inl ⟨b,d,by rw[hw];exact h,rfl,rfl⟩)),λh=>.inr (.inr (.inr ⟨b,d,by rw[hw];exact h,rfl,p,?_,by rw[hw]⟩))⟩;rw[hw];refine⟨a.le,a.less,?_⟩;rcases D8 p fs.length with h1|h1
 ·exact .inr (a.more p X7 h1)
 left;have:=a.le;omega
theorem oN{g:Nat}(b:p<fs.length)(c:g<u.heap.size)(hc:∀i,i<fs.length->u.cell? ⟨g,i*2,none⟩=some (.string (fs.getD i G9).nm)/\u.cell? ⟨g,i*2+1,none⟩=some (.string (fs.getD i G9).tx)):
 G6 ((u.setCell ⟨g,p*2,none⟩ (.string x.nm)).setCell ⟨g,p*2+1,none⟩ (.string x.tx)) (some ⟨g,0,none⟩) (put fs p x):=by
 refine .inr ⟨g,0,rfl,by simpa using c,λi a=>?_⟩;rw[FM b]at a;rw[o9];by_cases h:i=p
 ·subst h;rw[NT b];exact Pn u g (i*2) _ _ _ _ (hc i a).1 (hc i a).2
 rw[PN b h,Xy _ _ _ _ _ _ O0 O0,Xy _ _ _ _ _ _ O0 O0];exact hc i a
theorem vH{B':Nat}{a:OA}(h:qo B u a gs)(hB:B'<=B)(hq:q<B):qo B' (u.setCell ⟨q,j,none⟩ v) a gs:=by
 refine⟨?_,?_⟩
 ·rcases h.2 with h0|⟨g,ha,b,ho⟩
  ·exact .inl h0
  have hf:=h.1;rw[ha]at hf ⊢;exact Xr hf (by show q≠g;omega)
 rcases h.2 with h0|⟨g,ha,b,ho⟩
 ·exact .inl h0
 exact .inr ⟨g,ha,O0,LH ho.1 O0,yu ho.2⟩
theorem a4g(a:OA)(cap:Nat)(fs:List F2)(x:F2)(w:World)(hl:fs.length<=1048576)(L:∀i,(fs.getD i G9).le 1048576)(hx:x.le 1048576)(W:G6 w a fs):
 Calls prog 188 #[.agg #[.slice a fs.length cap],.agg #[.string x.nm,.string x.tx]] w λe w'=>(∃n r c gs,e=.returned (.tuple #[.agg #[.slice n gs.length r],.int .i64 c])/\qo w.heap.size w' n gs/\Vp fs x c gs)/\Bw w w':=by
 have F:=U0 W;have HS:=U0 L;have HX7:Hid (x.le 1048700):=⟨I8 hx.1 O0,I8 hx.2 O0⟩;have K:Hid (Ve w (((w.alloc (.cells #[vL a fs.length cap] 40)).alloc (.cells #[vS x.nm,vS x.tx] 67)).alloc (.cells #[vN] 40)) (vL a fs.length cap) x vN):=Ve.start _ _ _ _;clear W L hx
 go_in
 go_wp2_with fail
 refine(c152 a cap fs _ hl HS.out (U5 F.out K.out.bel)).mono ?_;rintro e u1⟨⟨v,rfl,hv⟩,V⟩;have E:=U0 hv;have J:=U0 (K.out.later V);obtain⟨t1,n1,x1,r1,f1⟩:=J.out.cells;clear hv V K;cases v
 ·have b:Hid (Vp fs x 1 []):=.inl ⟨λh=>(by have:=E.out.2 h;cases this),rfl,rfl⟩;clear E;go_wp2;refine Q7 (v:=.tuple #[.agg #[vN],vI 1]) (by simp[results,results188,go_sem,r1]) rfl ⟨⟨none,0,_,[],rfl,⟨.inl rfl,.inl rfl⟩,b.out⟩,J.out.bel.setCell Q8 _⟩
 have P:=E.out.1 rfl;have Q:=P.1;have t:=U0 P
 go_wp2_with fail
 refine(PX x u1 HX7).mono ?_;rintro e u2⟨rfl,hb2⟩;have o:=U0 (J.out.later hb2);obtain⟨t2,n2,x2,r2,f2⟩:=o.out.cells;cases hfx:Xa x
 ·have b:Hid (Vp fs x 2 []):=.inr (.inl ⟨t,hfx,rfl,rfl⟩);go_wp2;refine Q7 (v:=.tuple #[.agg #[vN],vI 2]) (by simp[results,results188,go_sem,r2]) rfl ⟨⟨none,0,_,[],rfl,⟨.inl rfl,.inl rfl⟩,b⟩,o.out.bel.setCell Q8 _⟩
 have hz2:=o.out.sz
 go_wp2_with fail
 refine(a1s a cap fs u2 O0 (U5 F o.out.bel)).mono ?_;rintro e u3⟨v,rfl,O,U⟩;obtain⟨D,m,q,hfv⟩:=O.form;subst q;have I:=U0 (o.out.later U);have HO3:=U0 O;have a8p:=U.size;obtain⟨t3,n3,x3,r3,f3⟩:=I.out.cells
 go_wp2_with fail
 refine(vW a cap fs x.nm u3 Q (U5 F I.out.bel) (Si t)).mono ?_;rintro e u4⟨⟨p,f,rfl,d⟩,A⟩;have s:=U0 d;have l:=U0 (I.out.later A);have u:=U0 (HO3.out.below A);have a7c:=A.size;obtain⟨t4,n4,x4,r4,f4⟩:=l.out.cells;have hz4:=l.out.sz;cases f
 ·obtain⟨hs3,hs0⟩:=IU t.out hfx s.out;by_cases h40:fs.length=40
  ·have b:=U0 (hs3 O0);have a7T:((fs.length:Int)==40)=true:=Q8;go_wp2;refine Q7 (v:=.tuple #[.agg #[vN],vI 3]) (by simp[results,results188,go_sem,r4]) rfl ⟨⟨none,0,_,[],rfl,⟨.inl rfl,.inl rfl⟩,b⟩,l.out.bel.setCell Q8 _⟩
  have b:=U0 (hs0 O0);have a7T:((fs.length:Int)==40)=false:=Q8;have C:Bw u4 (u4.alloc (.cells #[vS x.nm,vS x.tx] 67)):=Y6;have H:=U0 (l.out.later C);have HO5:=U0 (u.out.below C);have HV5:Hid ((u4.alloc (.cells #[vS x.nm,vS x.tx] 67)).heap[u4.heap.size]?=some (.cells #[vS x.nm,vS x.tx] 67 (0,0))):=Xc rfl _;have HNE:Hid (∀k,(Value.slice D fs.length m).ownBlock=some k->u4.heap.size≠k):=λk hk=>by have:=(u.out.lt k hk).2;omega
  have hz5:u2.heap.size<=(u4.alloc (.cells #[vS x.nm,vS x.tx] 67)).heap.size:=Q8
  go_wp2_with fail
  refine(c229 u2.heap.size u4.heap.size p D m fs x _ HO5 s.out.le Q hz5 HV5 HNE).mono ?_;rintro e u6⟨⟨n,r,rfl,hnew⟩,hb6⟩;have HN:=U0 hnew;have S:=(C.mono O0).trans hb6;have N:u6.heap[w.heap.size+1+1]?=some (.cells #[vN] 40 (0,0)):=by rw[S.block _ O0];exact l.out.hr
  have Z:u6.cell? (aA (w.heap.size+1+1) 0)=some vN:=by rw[Lib.cell_of_heap N];rfl
  have f6:=Lib.frozen_of_heap N 0;have hB6:=l.out.bel.trans (S.mono O0);have hil:=wF fs p x s.out.le;go_wp2;refine Q7 (v:=.tuple #[.agg #[vL n (fs.length+1) r],vO]) (by simp[results,results188,go_sem,Z]) rfl ⟨⟨n,r,0,ins fs p x,by rw[hil],?_,b.out⟩,hB6.setCell Q8 _⟩;exact vH HN O0 O0
 obtain⟨d,hset⟩:=XR t.out hfx s.out;have b:=U0 hset;obtain⟨g,cap4,q,hg,hnc,z,y,R⟩:=Nv u.out d;have H40:=U0 (yE u q);have B:D=some (aA g 0)/\m=cap4:=by injection q with h1 _ h3;exact⟨h1,h3⟩
 obtain⟨B,hcc⟩:=B;subst B;subst hcc;have g0:=(z p d).1;have g1:=(z p d).2;have z0:=y (p*2);have z1:=y (p*2+1);have Y:Hid (G6 ((u4.setCell (aA g (p*2)) (vS x.nm)).setCell (aA g (p*2+1)) (vS x.tx)) (some (aA g 0)) (put fs p x)):=oN d R z;have HFZ:=U0 y;have X:But g u4 ((u4.setCell (aA g (p*2)) (vS x.nm)).setCell (aA g (p*2+1)) (vS x.tx)):=((But.refl _ _).setCell _ _).setCell _ _;have HBU:=U0 X;have H:=U0 (l.out.but X O0);have hpI:(p:Int)<(fs.length:Int):=O0;have HNF:Hid (qo u2.heap.size ((u4.setCell (aA g (p*2)) (vS x.nm)).setCell (aA g (p*2+1)) (vS x.tx)) (some (aA g 0)) (put fs p x)):=⟨Y,.inr ⟨g,rfl,hg,Yh Y (by simpa using R) (λj=>by have:=HFZ.out j;simpa using this),yu (yu H40)⟩⟩;go_wp2;have r5:=H.out.cells.2.2.2.1;refine Q7 (v:=.tuple #[.agg #[vL (some (aA g 0)) fs.length m],vO]) (by simp[results,results188,go_sem,r5]) rfl ⟨⟨some (aA g 0),m,0,put fs p x,by rw[FM d],?_,b.out⟩,H.out.bel.setCell Q8 _⟩;exact vH HNF O0 O0
end Go.Proofs.YtkccjgajimjjdaaGreatDoor.T
namespace Go.Proofs.YtkccjgajimjjdaaGreatDoor.G
open Proofs.Tryz Go.RowKit
section
variable{a l r:List UInt8}{b s:BY}{B g k n size:Nat}{w:World}{c y:Int}{ls ss:List (List UInt8)}{p:Addr}{e:TypeId}{xs:List Value}
theorem DZ{x:M3}{v:Bool}(hv:Uf x=v)(w:World)(a:x.le 1048700):
 Calls prog 132 #[.agg #[.string x.nm,.string x.tl,.string x.ar]] w λe w'=>e=.returned (.bool v)/\Bw w w':=hv▸a2S x w a
theorem BK{b q:List UInt8}(ha:(10:UInt8)∉a)(e:(10:UInt8)∉b)(h:a++10::r=b++10::q):a=b/\r=q:=by
 induction a generalizing b with
 | nil=>
  cases b with
  | nil=>simpa using h
  | cons c b=>simp at h;exact absurd (by rw[h.1];simp) e
 | cons d a ih=>
  cases b with
  | nil=>simp at h;exact absurd (by rw[h.1];simp) ha
  | cons c b=>
   simp only[Zf,Xi]at h;obtain⟨h1,h2⟩:=ih (λh=>ha (Og _ h)) (λh=>e (Og _ h)) h.2;exact⟨by rw[h.1,h1],h2⟩
theorem a1k(l:List UInt8):((Lib.cut l [10]).2.2=true/\l=(Lib.cut l [10]).1++10::(Lib.cut l [10]).2.1/\(10:UInt8)∉(Lib.cut l [10]).1)\/((Lib.cut l [10]).2.2=false/\(Lib.cut l [10]).1=l/\(10:UInt8)∉l):=by
 unfold Lib.cut;rw[Lib.index_one];have hge:=Lib.indexByte_ge l 10;by_cases h:Lib.indexByte l 10=-1
 ·rw[h,Y7 O0];refine .inr ⟨rfl,rfl,λhm=>?_⟩;obtain⟨k,a,e⟩:=Ze hm;exact Lib.indexByte_none h k (by rw[L9 a,e])
 obtain⟨o,ho⟩:∃o:Nat,Lib.indexByte l 10=o:=⟨(Lib.indexByte l 10).toNat,O0⟩;obtain⟨h1,h2⟩:=Lib.indexByte_some ho;have hl:o<l.length:=by
  rcases D8 o l.length with h|h
  ·exact h
  rw[Zb h]at h1;cases h1
 rw[ho,L8 O0];refine .inl ⟨rfl,?_,λhm=>?_⟩
 ·simp only[wB,Oj];have hx:l[o]=10:=by rw[L9 hl]at h1;exact I_ h1
  conv=>lhs;rw[<- um o l,YA hl,hx]
 simp only[wB]at hm;obtain⟨k,a,e⟩:=Ze hm;rw[U_]at a;rw[lF]at e;exact h2 k O0 (by rw[L9 O0,e])
theorem cut_small(b:UInt8)(l:List UInt8)(k:Nat):((x9 b l).getD k []).length<=l.length:=by
 obtain⟨h1,h2⟩:=JC b l ([],[]) l.length E5 E5;have h:∀x∈x9 b l,x.length<=l.length:=by
  intro x hx;unfold x9 V8 at hx;rcases Dh.1 hx with h|h
  ·exact h1 x h
  simp at h;subst h;exact h2
 rcases D8 k (x9 b l).length with a|a
 ·rw[List.getD,L9 a];exact h _ (Zj a)
 rw[List.getD,Zb a];simp
theorem a1y(w:World)(x y z:Value)(t:TypeId):∀j u,[x,y,z][j]?=some u->(w.alloc (.cells #[x,y,z] t)).cell? ((⟨w.heap.size,0,none⟩:Addr).add j)=some u:=by
 intro j u h
 match j,h with
 | 0,h=>simp at h;subst h;simp[Addr.add]
 | 1,h=>simp at h;subst h;simp[Addr.add]
 | 2,h=>simp at h;subst h;simp[Addr.add]
theorem sZ(a:g=w.heap.size)(x y z:Value)(t:TypeId):∀j u,[x,y,z][j]?=some u->(w.alloc (.cells #[x,y,z] t)).cell? ((⟨g,0,none⟩:Addr).add j)=some u:=by
 subst a;exact a1y w x y z t
theorem Tq{v:Value}(h:w.ownsRow B e 3 v n xs):∃ao c,v=.slice ao n c:=by
 rcases h.2 with⟨hv,h0⟩|⟨g,cap,cur,hv,_⟩
 ·exact⟨none,0,by rw[hv,h0]⟩
 exact⟨_,_,hv⟩
end
section
variable{w:World}{B b base n size:Nat}{o:Obj}{e:TypeId}{v:Value}{xs:List Value}
theorem V9(h:w.ownsRow B e 1 v n xs):∃ao c,v=.slice ao n c:=by
 rcases h.2 with⟨hv,h0⟩|⟨g,cap,cur,hv,_⟩
 ·exact⟨none,0,by rw[hv,h0]⟩
 exact⟨_,_,hv⟩
theorem aN(l:List UInt8):(J6 l).length<=3*l.length+2:=by
 have:=Qu l;unfold J6;simp only[List.length_cons,List.length_append,List.length_nil];omega
end
section
variable{w:World}{a:OA}{is:List M3}
def Ol(w:World)(a:OA)(is:List M3):Prop:=
 is=[]\/∃b off,a=some ⟨b,off,none⟩/\b<w.heap.size/\∀i,i<is.length->w.cell? ⟨b,off+i*3,none⟩=some (.string (is.getD i L_).nm)/\w.cell? ⟨b,off+i*3+1,none⟩=some (.string (is.getD i L_).tl)/\w.cell? ⟨b,off+i*3+2,none⟩=some (.string (is.getD i L_).ar)
theorem Ak(h:Ol w a is):∃b off,(is=[]\/(a=some ⟨b,off,none⟩/\b<w.heap.size/\∀i,i<is.length->w.cell? ⟨b,off+i*3,none⟩=some (.string (is.getD i L_).nm)/\w.cell? ⟨b,off+i*3+1,none⟩=some (.string (is.getD i L_).tl)/\w.cell? ⟨b,off+i*3+2,none⟩=some (.string (is.getD i L_).ar))):=by
 rcases h with h|⟨b,off,h⟩
 ·exact⟨0,0,.inl h⟩
 exact⟨b,off,.inr h⟩
theorem gm{w':World}(h:Ol w a is)(c:Bw w w'):Ol w' a is:=by
 rcases h with h|⟨b,off,h1,h2,e⟩
 ·exact .inl h
 exact .inr ⟨b,off,h1,U9 h2 c.size,λi d=>by rw[c.cell (by exact h2),c.cell (by exact h2),c.cell (by exact h2)];exact e i d⟩
theorem Px{B:Nat}(h:∀i,i<is.length->(is.getD i L_).le B)(i:Nat):(is.getD i L_).le B:=by
 rcases D8 i is.length with a|a
 ·exact h i a
 have e:is.getD i L_=L_:=by simp[List.getD,Zb a]
 rw[e];exact⟨J4 _,J4 _,J4 _⟩
theorem sQ:(prog.info? 69).map (λi=>(i.zero,i.size,i.bytes))=some (some (.agg #[.string ⟨#[]⟩,.string ⟨#[]⟩,.string ⟨#[]⟩]),3,48):=Y1
end
def E_(x:M3):List UInt8:=[109,97,107,101,32]++Yd x++[10]
theorem a2X(s:BY)(w:World)(hs:s.size<=1048700):
 Calls prog 124 #[.string s,.int .i64 3] w λe w'=>(∃g cp,e=.returned (.tuple #[.slice (some ⟨g,0,none⟩) 3 cp,.string (I4 (l_ s.data.toList 3))])/\w.heap.size<=g/\Oc w' g (Q_ s.data.toList 3))/\Bw w w':=by
 obtain⟨A,F,D,C,B⟩:=info_parts info9;have hlen:s.data.toList.length=s.size:=E5
 go_in
 go_wp2;go_loopw[0,6,7] (λJ v i wr=>∃(m:Nat)(t:ByteArray)(ss:List (List UInt8)),m<=3/\i=.int .i64 m/\J=.string t/\wr.ownsRow w.heap.size 9 1 v m (ku ss)/\Hid (t=I4 (l_ s.data.toList m)/\ss=Q_ s.data.toList m)/\Below w.heap.size w wr/\w.heap.size+1<=wr.heap.size) (λ_ _ i _=>3-(RowKit.intOf i).toNat);exact⟨0,s,[],J4 _,rfl,rfl,Tv _ #[] 0 X7 (J4 _) rfl,⟨rfl,rfl⟩,Y6,E5⟩;obtain⟨m,t,ss,hm,rfl,rfl,a,hrel,o,hz⟩:=hrel;by_cases hlt:m<3;rotate_left
 ·obtain rfl:m=3:=O0;obtain⟨rfl,rfl⟩:=hrel.out;clear hrel;obtain⟨g,cp,K⟩:=Wl a O0;subst K;go_wp2;go_ret2;exact⟨⟨g,cp,rfl,(a.lt g rfl).1,Zh a rfl⟩,o⟩
 obtain⟨hT,rfl⟩:=hrel.out;have hts:t.size<=1048700:=by rw[hT,P5];have:=Gj s.data.toList m;omega
 have H:t.data.toList=l_ s.data.toList m:=by rw[hT];simp[I4]
 have p:=U0 H;have a6Z:t.data.toList.length=t.size:=E5;clear hT H;clear hrel;go_wp2;go_loop[8] (λn=>∃k:Nat,k<=t.size/\n=.int .i64 k/\Hid ((t.data.toList.take k).all (· !=32)=true)) (λn=>t.size-(RowKit.intOf n).toNat);exact⟨0,J4 _,rfl,rfl⟩;obtain⟨k,hk,rfl,ha⟩:=hrel;by_cases E:k<t.size;rotate_left
 ·obtain⟨d,c⟩:=Zm (l:=t.data.toList) ha.out O0 (.inl O0);have y:Hid (t.extract 0 k=I4 (Y2 t.data.toList)):=Tc (by rw[Ac,d];rfl);have z:Hid (t.extract k t.size=I4 (J3 t.data.toList)):=Tc (by rw[Ac,c,C_ O0,Es O0,Es O0]);clear d c
  go_wp2_with(at_builtin;refine wpList_append_own _ rfl _ _ 22 rfl w.heap.size 9 A (.string ⟨#[]⟩) 1 16 underlying22 F D C B rfl Z5 _ _ _ rfl (a.alloc _) ⟨wr.heap.size,0,none⟩ 1 1 [_] rfl rfl (cell_one_new _ _ _) (by intro u f;simp at f;subst f;rfl) (by unfold maxLen;omega) O0 Q8 ?_;intro v' I q h _)
  go_roundw
  ·have x:=(o.alloc o.size _).grown h Q8 (λj r=>(a.lt j r).1);refine⟨m+1,_,Q_ s.data.toList (m+1),O0,by go_num,rfl,?_,⟨by rw[z.out,p.out];rfl,rfl⟩,x,by have:=h.size;simp at this;omega⟩;rw[Vk,Eg,<- p.out,<- y.out];exact q
  exact Z9
 have a7J:(k:Int)<(t.size:Int):=O0;by_cases b:t[k]=32
 ·have e1:((t[k].toNat:Int) !=32)=false:=by rw[b];rfl
  obtain⟨d,c⟩:=Zm (l:=t.data.toList) ha.out O0 (.inr (by simp[E];exact b));have y:Hid (t.extract 0 k=I4 (Y2 t.data.toList)):=Tc (by rw[Ac,d];rfl);have z:Hid (t.extract (k+1) t.size=I4 (J3 t.data.toList)):=Tc (by rw[Ac,c,C_ O0]);clear b d c
  go_wp2_with(at_builtin;refine wpList_append_own _ rfl _ _ 22 rfl w.heap.size 9 A (.string ⟨#[]⟩) 1 16 underlying22 F D C B rfl Z5 _ _ _ rfl (a.alloc _) ⟨wr.heap.size,0,none⟩ 1 1 [_] rfl rfl (cell_one_new _ _ _) (by intro u f;simp at f;subst f;rfl) (by unfold maxLen;omega) O0 Q8 ?_;intro v' I q h _)
  go_roundw
  ·have x:=(o.alloc o.size _).grown h Q8 (λj r=>(a.lt j r).1);refine⟨m+1,_,Q_ s.data.toList (m+1),O0,by go_num,rfl,?_,⟨by rw[z.out,p.out];rfl,rfl⟩,x,by have:=h.size;simp at this;omega⟩;rw[Vk,Eg,<- p.out,<- y.out];exact q
  exact Z9
 have e1:((t[k].toNat:Int) !=32)=true:=by
  simp only[Yt];intro e;exact b (Wi.1 (by have:t[k].toNat=32:=O0;rw[this];rfl))
 have L:Hid ((t.data.toList.take (k+1)).all (· !=32)=true):=by
  rw[take_snoc t k E,Np,ha.out];simp[Hid,b]
 clear b;go_wp2
 go_round
 exact⟨k+1,O0,by go_num,L⟩;exact Z9
end Go.Proofs.YtkccjgajimjjdaaGreatDoor.G
namespace Go.Proofs.YtkccjgajimjjdaaGreatDoor.G
open Proofs.Tryz Go.RowKit
open T (Nb)
section
variable{is js ms:List M3}{base i k:Nat}{x y:M3}{b s:BY}{R S a l q r t:List UInt8}
def stepM(ms:List M3)(k:Nat):Bool:=Uf (ms.getD k L_)&&(decide (k=0)||Op.bytesLess (ms.getD (k-1) L_).nm.toList (ms.getD k L_).nm.toList)
def Ed(ms:List M3):Bool:=decide (ms.length<=30)&&(List.range ms.length).all (stepM ms)
theorem xk(ms:List M3):Ed ms=true↔ms.length<=30/\∀k,k<ms.length->stepM ms k=true:=by simp[Ed]
def uj(ms:List M3):List UInt8:=if Ed ms=true/\(ms.flatMap E_).length<=300 then ms.flatMap E_ else []
theorem Au(h:k<ms.length)(a:stepM ms k=false):Ed ms=false:=by
 cases hp:Ed ms
 ·rfl
 have:=((xk ms).1 hp).2 k h;rw[a]at this;cases this
theorem JS(h:k<ms.length)(a:stepM ms k=false):uj ms=[]:=by
 unfold uj;rw[if_neg (by simp[Au h a])]
theorem FN(h:30<ms.length):uj ms=[]:=by
 unfold uj;rw[if_neg (by rw[xk];omega)]
theorem SB(h:Uf x=true):x.nm.size<=20/\x.tl.size<=20/\x.ar.size<=300:=by
 simp[Uf,X6]at h;exact⟨h.1.1.1.2,h.1.2.1.2,O0⟩
theorem og(h:s.size<=300):(I4 (J6 s.data.toList)).size<=902:=by
 have:=aN s.data.toList;have e:s.data.toList.length=s.size:=E5;rw[P5];omega
theorem step_ok(h:stepM ms k=true):Uf (ms.getD k L_)=true:=by
 unfold stepM at h;cases hx:Uf (ms.getD k L_)
 ·rw[hx]at h;cases h
 rfl
theorem VQ(h:Uf x=true):(E_ x).length<=950:=by
 obtain⟨h1,h2,b⟩:=SB h;have a:=og b;rw[P5]at a;have e1:x.nm.data.toList.length=x.nm.size:=E5;have c:x.tl.data.toList.length=x.tl.size:=E5;simp only[E_,Yd,P9,u_,Td,e1,c];omega
theorem Uz(a:k<ms.length):(ms.take (k+1)).flatMap E_=(ms.take k).flatMap E_++E_ (ms.getD k L_):=by
 have e:ms.getD k L_=ms[k]:=by simp[a]
 rw[Gz a,Qs,e];simp
theorem ZN:∀k,k<=ms.length->(∀j,j<k->stepM ms j=true)->((ms.take k).flatMap E_).length<=950*k:=by
 intro k
 induction k with
 | zero=>intro _ _;simp
 | succ k ih=>
  intro hk hd;rw[Uz O0,P9];have:=ih O0 (λj hj=>hd j O0);have:=VQ (step_ok (hd k O0));omega
theorem lS{a:BY}(h:a=b):Value.string a=.string b:=by rw[h]
theorem yY(l:List UInt8)(x:M3):I4 l++(⟨#[109,97,107,101,32]⟩:BY)++x.nm++(⟨#[32]⟩:BY)++x.tl++(⟨#[32]⟩:BY)++I4 (J6 x.ar.data.toList)++(⟨#[10]⟩:BY)=I4 (l++E_ x):=by
 apply Xf;simp[I4,E_,Yd]
theorem a3N(a:OA)(cap:Nat)(is:List M3)(w:World)(D:∀i,(is.getD i L_).le 1048576)(hl:is.length<=1048576)(hat:Ol w a is):
 Calls prog 258 #[.slice a is.length cap] w λe w'=>e=.returned (.string (I4 (uj is)))/\Bw w w':=by
 obtain⟨b,off,hc⟩:=Ak hat;have p:=U0 hc;by_cases hbig:30<is.length
 ·go_in
  go_wp2;go_ret;exact⟨Yq (by rw[FN hbig];rfl),G5 _ _⟩
 go_in
 go_wp2;go_loopw[3,4] (λo i wr=>∃(k:Nat),k<=is.length/\i=.int .i64 k/\o=.string (I4 ((is.take k).flatMap E_))/\Below w.heap.size w wr/\Hid (∀j,j<k->stepM is j=true)) (λ_ i _=>is.length-(RowKit.intOf i).toNat);exact⟨0,J4 _,rfl,rfl,G5 _ _,λj h=>absurd h (y9 _)⟩;obtain⟨k,hk,rfl,rfl,d,E⟩:=hrel;have hL:(I4 ((is.take k).flatMap E_)).size<=950*30:=by
  have:=ZN k hk E.out;rw[P5];omega
 by_cases m:k<is.length;rotate_left
 ·have hp:=(xk is).2 ⟨O0,λj hj=>E.out j O0⟩;have I:Hid ((is.take k).flatMap E_=is.flatMap E_):=by rw[C_ O0];rfl
  have Q:Hid (uj is=if (is.flatMap E_).length<=300 then is.flatMap E_ else []):=by unfold uj;simp only[hp,true_and];trivial
  rw[I.out]at hL ⊢;generalize is.flatMap E_=l at*;by_cases O:300<(I4 l).size
  ·go_wp2;go_ret;exact⟨Yq (by rw[Q.out,Y7 (by rw[P5]at O;omega)];rfl),d⟩
  go_wp2;go_ret;exact⟨Yq (by rw[Q.out,L8 (by rw[P5]at O;omega)]),d⟩
 obtain⟨ha,r,A⟩:=Jd p.out m;subst ha;have U:=U0 d;have g0:=(d.cell (by exact r)).trans (A k m).1;have g1:=(d.cell (by exact r)).trans (A k m).2.1;have g2:=(d.cell (by exact r)).trans (A k m).2.2;have J:Hid ((is.getD k L_).le 1048700):=⟨I8 (D k).1 O0,I8 (D k).2.1 O0,I8 (D k).2.2 O0⟩;have I:=U0 (Uz m);generalize (is.take k).flatMap E_=l at*;generalize hx0:is.getD k L_=x at*
 go_wp2_with fail
 have HBW:Hid (Bw w (wr.alloc (.cells #[.string x.nm,.string x.tl,.string x.ar] 69))):=U.out.alloc U.out.size _;have v:=U0 (X4 wr [.string x.nm,.string x.tl,.string x.ar] 69);have bW:Bw wr (wr.alloc (.cells #[.string x.nm,.string x.tl,.string x.ar] 69)):=Y6;generalize wr.alloc (.cells #[.string x.nm,.string x.tl,.string x.ar] 69)=W at*;have n:=v.out.lt;have R:Hid (∀u,Bw W u->u.cell? ⟨wr.heap.size,0,none⟩=some (.string x.nm)/\u.cell? ⟨wr.heap.size,1,none⟩=some (.string x.tl)/\u.cell? ⟨wr.heap.size,2,none⟩=some (.string x.ar)):=λu g=>⟨((v.out.below g n).cell 0),((v.out.below g n).cell 1),((v.out.below g n).cell 2)⟩
 go_cut[36] from 15 to 36 (λs V=>s=.bool (!stepM is k)/\Hid (Bw W V))
 case first=>
  obtain⟨f,o1,y,t,G3,HY⟩:∃(f o1:Nat)(y:M3),f<W.heap.size/\W.cell? ⟨f,o1,none⟩=some (.string y.nm)/\(k=0/\stepM is k=Uf x\/∃q,q+1=k/\f=b/\o1=off+q*3/\stepM is k=(Uf x&&Op.bytesLess y.nm.toList x.nm.toList)):=by
   rcases Jw k with h0|h0
   ·exact⟨_,_,x,n,v.out.cell 0,.inl ⟨h0,by subst h0;rw[<- hx0];simp[stepM]⟩⟩
   obtain⟨q,L⟩:∃q,q+1=k:=⟨k-1,O0⟩;have N:=U9 r d.size;refine⟨b,off+q*3,is.getD q L_,Nat.lt_trans N n,(bW.cell N).trans ((d.cell (by exact r)).trans (A q O0).1),.inr ⟨q,L,rfl,rfl,?_⟩⟩;have e1:decide (k=0)=false:=o_ O0;have P:k-1=q:=O0;unfold stepM;rw[e1,P,hx0];rfl
  have p:Hid (∀u,Bw W u->u.cell? ⟨wr.heap.size,0,none⟩=some (.string x.nm)/\u.cell? ⟨wr.heap.size,1,none⟩=some (.string x.tl)/\u.cell? ⟨wr.heap.size,2,none⟩=some (.string x.ar)/\u.cell? ⟨f,o1,none⟩=some (.string y.nm)):=λu g=>by
   obtain⟨h1,h2,h3⟩:=R.out u g;exact⟨h1,h2,h3,(g.cell t).trans G3⟩
  rcases HY with⟨rfl,c⟩|⟨q,L,rfl,rfl,c⟩
  ·clear G3;cases hx:Uf x
   all_goals
    rw[hx]at c
    replace c:=U0 c
    refine wp_region_held_drew (S:=λu=>u.cell? ⟨wr.heap.size,0,none⟩=some (.string x.nm)/\u.cell? ⟨wr.heap.size,1,none⟩=some (.string x.tl)/\u.cell? ⟨wr.heap.size,2,none⟩=some (.string x.ar)/\u.cell? ⟨f,o1,none⟩=some (.string y.nm)) Y1 (p _ (G5 _ _).drew) λhH=>?_;refine sq ?_;refine rq 1 λK F=>?_;go_simp;refine(DZ hx _ J).mono ?_;rintro e w1⟨rfl,t⟩;have z:Bw W w1:=((G5 _ _).drew).trans t;go_simp;refine F _ _ (p _ z) λhH=>?_
    iterate 16 refine sq ?_
    refine wdn ?_
    go_wp2_with fail
    go_meet
    exact⟨by rw[c.out];rfl,z⟩
  have hk0:0<k:=O0;have hm0:(0:Int)<(k:Int):=O0;have hm1:=X_ hm0;have hwr:IntKind.i64.wrap ((k:Int)-1)=(q:Int):=by rw[show(k:Int)-1=(q:Int) by omega];exact Nb q O0
  have hql:(q:Int)<(is.length:Int):=O0;cases hx:Uf x
  all_goals
   cases hy:Op.bytesLess y.nm.toList x.nm.toList
   all_goals
    rw[hx,hy]at c
    replace c:=U0 c
    refine wp_region_held_drew (S:=λu=>u.cell? ⟨wr.heap.size,0,none⟩=some (.string x.nm)/\u.cell? ⟨wr.heap.size,1,none⟩=some (.string x.tl)/\u.cell? ⟨wr.heap.size,2,none⟩=some (.string x.ar)/\u.cell? ⟨f,off+q*3,none⟩=some (.string y.nm)) Y1 (p _ (G5 _ _).drew) λhH=>?_;refine sq ?_;refine rq 1 λK F=>?_;go_simp;refine(DZ hx _ J).mono ?_;rintro e w1⟨rfl,t⟩;have z:Bw W w1:=((G5 _ _).drew).trans t;go_simp;refine F _ _ (p _ z) λhH=>?_
    iterate 16 refine sq ?_
    refine wdn ?_
    go_wp2_with fail
    go_meet
    exact⟨by rw[c.out];rfl,z⟩
 obtain⟨rfl,BX⟩:=hcut;have H:=J5 HBW.out BX.out;obtain⟨p0,Z,Y⟩:=R.out _ BX.out;have C:=U9 n BX.out.size;cases hst:stepM is k
 ·have HF:=U0 (JS m hst);go_wp2;go_ret;exact⟨Yq (by rw[HF.out];rfl),H⟩
 have hx:=hx0▸step_ok hst;have c:=U0 hst;have hd':Hid (∀j,j<k+1->stepM is j=true):=λj hj=>by
  rcases D8 j k with h|h
  ·exact E j h
  obtain rfl:j=k:=O0;exact c
 obtain⟨j1,j2,j3⟩:=SB hx;have s3:=og j3;have k0:¬9223372036854775807<(I4 l).size+5:=O0;have k1:¬9223372036854775807<(I4 l).size+5+x.nm.size:=O0;have k2:¬9223372036854775807<(I4 l).size+5+x.nm.size+1:=O0;have k2':¬9223372036854775807<=(I4 l).size+5+x.nm.size:=O0;have k3:¬9223372036854775807<(I4 l).size+5+x.nm.size+1+x.tl.size:=O0;have k4:¬9223372036854775807<(I4 l).size+5+x.nm.size+1+x.tl.size+1:=O0;have k4':¬9223372036854775807<=(I4 l).size+5+x.nm.size+1+x.tl.size:=O0;have k5:¬9223372036854775807<(I4 l).size+5+x.nm.size+1+x.tl.size+1+(I4 (J6 x.ar.data.toList)).size:=O0;have k6:¬9223372036854775807<(I4 l).size+5+x.nm.size+1+x.tl.size+1+(I4 (J6 x.ar.data.toList)).size+1:=O0;have k6':¬9223372036854775807<=(I4 l).size+5+x.nm.size+1+x.tl.size+1+(I4 (J6 x.ar.data.toList)).size:=O0;have a7K:x.ar.size<=1048700:=O0
 go_wp2_with fail
 go_region_held3 (λu=>u.cell? ⟨wr.heap.size,0,none⟩=some (.string x.nm)/\u.cell? ⟨wr.heap.size,1,none⟩=some (.string x.tl)/\u.cell? ⟨wr.heap.size,2,none⟩=some (.string x.ar)) (go_keep) (first|(go_at_call 75;refine(IV x.ar _ a7K).mono ?_;rintro e X⟨rfl,B⟩;have HB2:Hid (Bw w X):=H.trans (((G5 _ _).drew.trans B).mono H.size);have e0:=(B.cell (by simpa using C)).trans p0;have e1:=(B.cell (by simpa using C)).trans Z;have P:=(B.cell (by simpa using C)).trans Y))
 all_goals go_wp2
 all_goals go_roundw
 all_goals first
  | exact⟨k+1,O0,by go_num,lS (by rw[I.out];exact yY l x),HB2.out,hd'⟩
  | (exact Z9)
def qg(x:M3):List UInt8:=[109,97,107,101]++32::Yd x
theorem Lj(x:M3):E_ x=qg x++[10]:=rfl
theorem Pq(h:Uf x=true):(10:UInt8)∉qg x:=by
 obtain⟨h1,h2,_⟩:=Lh h;unfold qg;rw[Yc];simp only[Dh,Xe,zo];refine⟨Z5,Z5,(Fa h1).2,Z5,(Fa h2).2,Z5,Vj _⟩
theorem wU(hx:Uf x=true)(a:Uf y=true)(h:qg x=qg y):x=y:=by
 unfold qg at h;exact KC hx a (by simpa using h)
theorem VD(_hy:Uf y=true):l=qg y↔Y2 l=[109,97,107,101]/\J3 l=Yd y:=by
 constructor
 ·rintro rfl;exact E8 Z5
 rintro⟨h1,h2⟩;by_cases hm:(32:UInt8)∈l
 ·have:=(Dn hm).1;rw[h1,h2]at this;exact this
 rw[(Jj hm).2]at h2;exact absurd h2.symm (LK y)
theorem kT(hx:Uf x=true)(a:Uf y=true)(h:E_ x++r=E_ y++q):x=y/\r=q:=by
 rw[Lj,Lj,Zr,Zr]at h;obtain⟨h1,h2⟩:=BK (Pq hx) (Pq a) h;exact⟨wU hx a h1,h2⟩
theorem RF(x:M3):E_ x≠[]:=by rw[Lj];simp
theorem ZC(b:is.all Uf=true)(a:js.all Uf=true)(h:is.flatMap E_++R=js.flatMap E_):∃r,R=r.flatMap E_/\js=is++r:=by
 induction is generalizing js with
 | nil=>exact⟨js,by simpa using h,rfl⟩
 | cons x is ih=>
  simp only[Xm,Ia]at b
  cases js with
  | nil=>
   have:=RF x;simp at h;exact absurd h.1 this
  | cons y js=>
   simp only[Xm,Ia]at a;simp only[Hg,Zr]at h;obtain⟨rfl,h2⟩:=kT b.1 a.1 h;obtain⟨r,hr,hl⟩:=ih b.2 a.2 h2;exact⟨r,hr,by rw[hl];rfl⟩
theorem IC(b:is.all Uf=true)(a:js.all Uf=true)(h:is.flatMap E_=js.flatMap E_):is=js:=by
 obtain⟨r,hr,hl⟩:=ZC (R:=[]) b a (by simpa using h)
 cases r with
 | nil=>simpa using hl.symm
 | cons y r=>
  have:=RF y;simp at hr;exact absurd hr.1 this
theorem EG(is:List M3):is.length<=(is.flatMap E_).length:=by
 induction is with
 | nil=>simp
 | cons x r ih=>
  have:1<=(E_ x).length:=Rl.2 (RF x);simp only[Hg,P9,u_];omega
theorem Rj(h:Ed ms=true):ms.all Uf=true:=by
 rw[Yp];intro x hx;obtain⟨k,a,e⟩:=Ze hx;have:=step_ok (((xk ms).1 h).2 k a);rw[List.getD,L9 a]at this;rw[<- e];exact this
def w_(l:List UInt8)(is:List M3)(ok:Bool):Prop:=(ok=true->Ed is=true/\is.flatMap E_=l/\l.length<=300)/\(ok=false->is=[]/\∀js,Ed js=true->js.flatMap E_=l->300<l.length)
theorem ZJ{a b:Bool}(h:w_ l is a)(k:w_ l js b):is=js/\a=b:=by
 cases a<;>cases b
 ·exact⟨(h.2 rfl).1.trans (k.2 rfl).1.symm,rfl⟩
 ·obtain⟨d,c,e⟩:=k.1 rfl;have:=(h.2 rfl).2 js d c;omega
 ·obtain⟨d,c,e⟩:=h.1 rfl;have:=(k.2 rfl).2 is d c;omega
 obtain⟨d,c,e⟩:=k.1 rfl;obtain⟨h1,h2,h3⟩:=h.1 rfl;exact⟨IC (Rj h1) (Rj d) (h2.trans c.symm),rfl⟩
def Way(l:List UInt8)(is:List M3)(r:List UInt8):Prop:=l=is.flatMap E_++r/\is.all Uf=true
theorem KN(l:List UInt8):Way l [] l:=⟨rfl,rfl⟩
theorem lT(h:Way l is (a++10::r))(hx:Uf x=true/\a=qg x):Way l (is++[x]) r:=by
 refine⟨?_,by rw[Np,h.2];simp[hx.1]⟩;rw[h.1,Qs,hx.2];simp[Lj]
theorem SC(h:Way l is r)(hr:r≠[])(d:∀y q,Uf y=true->r≠qg y++10::q):w_ l [] false:=by
 refine⟨(λh=>by cases h),λ_=>⟨rfl,λjs b e=>?_⟩⟩;exfalso;obtain⟨q,a,hl⟩:=ZC h.2 (Rj b) (h.1.symm.trans e.symm)
 cases q with
 | nil=>exact hr a
 | cons y q=>
  have c:Uf y=true:=by
   have:=(Rj b);rw[hl,Np,Xm]at this;simp only[Ia]at this;exact this.2.1
  apply d y (q.flatMap E_) c;rw[a,Hg,Lj,Zr];rfl
theorem qV(h:Way l is [])(c:l.length<=300):(Ed is=true->w_ l is true)/\(Ed is=false->w_ l [] false):=by
 have e:l=is.flatMap E_:=by simpa using h.1
 refine⟨λa=>⟨λ_=>⟨a,e.symm,c⟩,(λh=>by cases h)⟩,λa=>⟨(λh=>by cases h),λ_=>⟨rfl,λjs b d=>?_⟩⟩⟩;have:=IC (Rj b) h.2 (d.trans e);rw[this,a]at b;cases b
theorem sD(h:300<l.length):w_ l [] false:=⟨(λh=>by cases h),λ_=>⟨rfl,λ_ _ _=>h⟩⟩
theorem ZL(h:ms.all Uf=true)(a:i<ms.length):Uf (ms.getD i L_)=true:=by
 rw[List.getD,L9 a];exact Yp.1 h _ (Zj a)
theorem AQ(h:Uf x=true):x.le 300:=by
 obtain⟨h1,h2,a⟩:=SB h;exact⟨O0,O0,a⟩
theorem pY(h:Way l is r):is.length+r.length<=l.length/\∀i,(is.getD i L_).le 300:=by
 have h1:=EG is;have h2:=l7 List.length h.1;rw[P9]at h2;exact⟨O0,Px λi a=>AQ (ZL h.2 a)⟩
def Ja(is:List M3):List Value:=is.flatMap λx=>[.string x.nm,.string x.tl,.string x.ar]
theorem cu(is:List M3)(x:M3):Ja (is++[x])=Ja is++[.string x.nm,.string x.tl,.string x.ar]:=by simp[Ja]
theorem GH(is:List M3)(i:Nat)(h:i<is.length):(Ja is)[i*3]?=some (.string (is.getD i L_).nm)/\(Ja is)[i*3+1]?=some (.string (is.getD i L_).tl)/\(Ja is)[i*3+2]?=some (.string (is.getD i L_).ar):=by
 induction is generalizing i with
 | nil=>simp at h
 | cons x r ih=>
  cases i with
  | zero=>exact⟨rfl,rfl,rfl⟩
  | succ i=>
   have:=ih i (by simpa using h);have e:∀j,(Ja (x::r))[(i+1)*3+j]?=(Ja r)[i*3+j]?:=λj=>by
    show([Value.string x.nm,.string x.tl,.string x.ar]++Ja r)[(i+1)*3+j]?=_;rw[Ue Q8]
    congr 1
    simp;omega
   have e0:=e 0;simp only[Qo]at e0;rw[e0,e 1,e 2];exact this
theorem Wq{w:World}{v:Value}(h:w.ownsRow base 69 3 v is.length (Ja is)):∃a cap,v=.slice a is.length cap/\Ol w a is:=by
 have b:=h;rcases h.2 with⟨hv,h0⟩|⟨g,cap,cur,hv,hg,d,_⟩
 ·exact⟨none,0,by rw[hv,h0],.inl (Qb.1 h0)⟩
 refine⟨some ⟨g,0,none⟩,cap,hv,?_⟩;subst hv;refine .inr ⟨g,0,rfl,mg d,λi c=>?_⟩;obtain⟨e0,e1,e⟩:=GH is i c;rw[o9,b.cellAt _ O0,b.cellAt _ O0,b.cellAt _ O0];exact⟨e0,e1,e⟩
theorem wO(js:List M3)(a:js.all Uf=true)(o:List (List UInt8)):(js.flatMap E_).foldl (cst 10) (o,[])=(o++js.map qg,[]):=by
 induction js generalizing o with
 | nil=>simp
 | cons x r ih=>
  simp only[Xm,Ia]at a;rw[Hg,jG,Lj,tH _ _ (Pq a.1)];simp only[j_];rw[ih a.2];simp
theorem UC(js:List M3)(a:js.all Uf=true):x9 10 (js.flatMap E_)=js.map qg++[[]]:=by
 unfold x9 V8;rw[wO js a];simp
def Parsed(l:List UInt8)(x:M3):Prop:=∀y,Uf y=true->l=qg y->x=y
theorem parsed(ht:∀q,l_ l 3=J6 q->t=q):Parsed l ⟨I4 (Y2 (l_ l 1)),I4 (Y2 (l_ l 2)),I4 t⟩:=by
 intro y d e;obtain⟨h1,h2,_⟩:=Lh d;have a:l_ l 1=Yd y:=((VD d).1 e).2;rw[Yc]at a;have w1:=E8 (r:=y.tl.data.toList++32::J6 y.ar.data.toList) (Fa h1).1;have c:l_ l 2=y.tl.data.toList++32::J6 y.ar.data.toList:=by show J3 (l_ l 1)=_;rw[a];exact w1.2
 have b:=E8 (r:=J6 y.ar.data.toList) (Fa h2).1;have f:l_ l 3=J6 y.ar.data.toList:=by show J3 (l_ l 2)=_;rw[c];exact b.2
 have:=ht _ f;subst this;rw[a,c,w1.1,b.1];rfl
def dI(S:List UInt8)(is:List M3)(k:Nat):Prop:=∀js:List M3,js.all Uf=true->js.flatMap E_=S->is=js.take k
theorem uG(S:List UInt8):dI S [] 0:=λ_ _ _=>rfl
theorem LJ(h:dI S is k)(d:k+1<(x9 10 S).length)(b:Parsed ((x9 10 S).getD k []) x):dI S (is++[x]) (k+1):=by
 intro js c e;have h1:=h js c e;have hc:=UC js c;rw[e]at hc;rw[hc]at d b;simp only[P9,Cf,u_,Td]at d;have a:k<js.length:=O0;have g:(js.map qg++[[]]).getD k []=qg js[k]:=by
  simp only[List.getD,G_ (show k<(js.map qg).length by simpa using a),Rt,L9 a];rfl
 rw[g]at b;have f:=(Yp.1 c) _ (Zj a);rw[h1,b js[k] f rfl,<- Gz a]
theorem kN(h:dI S is k)(hkl:is.length=k)(a:k+1=(x9 10 S).length)(d:S.length<=300):(uj is=S->w_ S is true)/\(uj is≠S->w_ S [] false):=by
 constructor
 ·intro h2;unfold uj at h2;by_cases hc:Ed is=true/\(is.flatMap E_).length<=300
  ·rw[L8 hc]at h2;exact⟨λ_=>⟨hc.1,h2,d⟩,(λh=>by cases h)⟩
  rw[Y7 hc]at h2;subst h2;have:k=0:=by simpa[x9,V8]using a
  have:is=[]:=Qb.1 O0;subst this;exact absurd ⟨rfl,E5⟩ hc
 intro f;refine⟨(λh=>by cases h),λ_=>⟨rfl,λjs b e=>?_⟩⟩;exfalso;apply f;have c:=Rj b;have h1:=h js c e;have hc:=UC js c;rw[e]at hc;rw[hc]at a;simp only[P9,Cf,u_,Td]at a;rw[C_ O0]at h1;subst h1;unfold uj;rw[L8 ⟨b,by rw[e];exact d⟩,e]
def a1w(is:List M3)(e:Ending):Prop:=
 (Ed is=true/\e=.returned .nilIface)\/(Ed is=false/\∃n ty va,e=.returned (.iface 274 (.agg #[.int .i64 n,.iface ty va])))
theorem a3K(a:OA)(cap:Nat)(is:List M3)(w:World)(p:∀i,(is.getD i L_).le 1048576)(hl:is.length<=1048576)(N:Ol w a is)(H F t2:TypeId)(E v1 v2:Value)(z:w.cell? ⟨6,0,none⟩=some (.iface H E))(D:w.cell? ⟨7,0,none⟩=some (.iface F v1))(v:w.cell? ⟨8,0,none⟩=some (.iface t2 v2)):
 Calls prog 248 #[.slice a is.length cap] w λe w'=>a1w is e/\Bw w w':=by
 have h3z:8<w.heap.size:=by
  rcases D8 8 w.heap.size with h|h
  ·exact h
  simp[World.cell?,Qp h]at v
 obtain⟨b,off,hc⟩:=Ak N;have V:=U0 hc
 go_in
 go_wp2;go_loopw[7] (λi wr=>∃(k:Nat),k<=is.length/\k<=30/\i=.int .i64 k/\Below w.heap.size w wr/\Hid (∀j,j<k->stepM is j=true)) (λi _=>is.length-(RowKit.intOf i).toNat);exact⟨0,J4 _,J4 _,rfl,G5 _ _,λj h=>absurd h (y9 _)⟩;obtain⟨k,hk,a8n,rfl,f,s⟩:=hrel;by_cases l:k<is.length;rotate_left
 ·have r:Hid (∀_:is.length<=30,Ed is=true):=λh=>(xk is).2 ⟨h,λj C=>s.out j O0⟩;have O:Hid (is.length<=30):=by show is.length<=30;omega
  go_wp2;go_ret;exact⟨.inl ⟨r O,rfl⟩,f⟩
 obtain⟨ha,n,o⟩:=Jd V.out l;subst ha;have g:=U0 f;have g0:=(f.cell (by exact n)).trans (o k l).1;have g1:=(f.cell (by exact n)).trans (o k l).2.1;have g2:=(f.cell (by exact n)).trans (o k l).2.2;have B:Hid ((is.getD k L_).le 1048700):=⟨I8 (p k).1 O0,I8 (p k).2.1 O0,I8 (p k).2.2 O0⟩;have L:=U9 n f.size;by_cases P:k=30
 ·have U:Hid (Ed is=false):=by
   cases r:Ed is
   ·rfl
   have:=((xk is).1 r).1;omega
  subst P;have A:=(Aj wr (.cells #[.string (is.getD 30 L_).nm,.string (is.getD 30 L_).tl,.string (is.getD 30 L_).ar] 69) ⟨6,0,none⟩ (U9 (by show 6<w.heap.size;omega) f.size)).trans ((f.cell (by show 6<w.heap.size;omega)).trans z);generalize is.getD 30 L_=x at*;go_wp2;go_ret;exact⟨.inr ⟨U,_,_,_,rfl⟩,g.out.alloc g.out.size _⟩
 rcases Jw k with h0|h0
 ·subst h0;have c:Hid (stepM is 0=Uf (is.getD 0 L_)):=by simp[stepM,Hid]
  simp only[Wv,Qo]at g0 g1 g2;generalize is.getD 0 L_=x at*
  go_wp2_with fail
  refine(oW x _ B).mono ?_;rintro e w1⟨rfl,m⟩;have d:=U0 ((g.out.alloc g.out.size _).trans (m.mono (by simp;exact kK g.out.size)));have m0:=(m.cell E5).trans (show(wr.alloc (.cells #[.string x.nm,.string x.tl,.string x.ar] 69)).cell? ⟨wr.heap.size,0,none⟩=some (.string x.nm) by simp);have A:=(d.out.cell (by show 6<w.heap.size;omega)).trans z;have J:=(d.out.cell (by show 7<w.heap.size;omega)).trans D;have I:=(d.out.cell (by show 8<w.heap.size;omega)).trans v;cases hx:Uf x
  ·rw[hx]at c;go_wp2;go_ret;exact⟨.inr ⟨Au l c,_,_,_,rfl⟩,d⟩
  go_wp2_with fail
  refine wp_region_held_drew (S:=(λu=>u.cell? ⟨wr.heap.size,0,none⟩=some (.string x.nm))) Y1 ?_ λhH=>?_
  · ((try dsimp only);go_keep)
  iterate 14 refine sq ?_
  refine wpAnyH_done Y1 ?_ _;rw[hx]at c;have t:Hid (∀j,j<0+1->stepM is j=true):=λj C=>by
   rcases D8 j 0 with h|h
   ·exact s j h
   obtain rfl:j=0:=O0;exact c
  go_wp2;go_roundw;exact⟨0+1,O0,O0,by go_num,d.out.drew,t⟩;exact Z9
 obtain⟨q,hq⟩:∃q,q+1=k:=⟨k-1,O0⟩;have Q:=(f.cell (by exact n)).trans (o q O0).1;have c:Hid (stepM is k=(Uf (is.getD k L_)&&Op.bytesLess (is.getD q L_).nm.toList (is.getD k L_).nm.toList)):=by
  have e1:decide (k=0)=false:=o_ O0;have R:k-1=q:=O0;unfold stepM;rw[e1,R];rfl
 have K:(0:Int)<(k:Int):=O0;have hm1:=X_ K;generalize is.getD k L_=x at*;generalize is.getD q L_=y at*;have hwr:IntKind.i64.wrap ((k:Int)-1)=(q:Int):=by rw[show(k:Int)-1=(q:Int) by omega];exact Nb q O0
 have hql:(q:Int)<(is.length:Int):=O0
 go_wp2_with fail
 refine(oW x _ B).mono ?_;rintro e w1⟨rfl,m⟩;have d:=U0 ((g.out.alloc g.out.size _).trans (m.mono (by simp;exact kK g.out.size)));have m0:=(m.cell E5).trans (show(wr.alloc (.cells #[.string x.nm,.string x.tl,.string x.ar] 69)).cell? ⟨wr.heap.size,0,none⟩=some (.string x.nm) by simp);have g3:=(m.cell Q8).trans ((Aj _ _ ⟨b,off+q*3,none⟩ L).trans Q);have A:=(d.out.cell (by show 6<w.heap.size;omega)).trans z;have J:=(d.out.cell (by show 7<w.heap.size;omega)).trans D;have I:=(d.out.cell (by show 8<w.heap.size;omega)).trans v;cases hx:Uf x
 ·have c:Hid (stepM is k=false):=by rw[c.out,hx];rfl
  go_wp2;go_ret;exact⟨.inr ⟨Au l c,_,_,_,rfl⟩,d⟩
 cases hy:Op.bytesLess y.nm.toList x.nm.toList
 ·go_wp2_with fail
  refine wp_region_held_drew (S:=(λu=>u.cell? ⟨wr.heap.size,0,none⟩=some (.string x.nm)/\u.cell? ⟨b,off+q*3,none⟩=some (.string y.nm))) Y1 ?_ λhH=>?_
  · ((try dsimp only);go_keep)
  iterate 14 refine sq ?_
  refine wpAnyH_done Y1 ?_ _;rw[hx,hy]at c;go_wp2;go_ret;exact⟨.inr ⟨Au l c,_,_,_,rfl⟩,d.out.drew⟩
 go_wp2_with fail
 refine wp_region_held_drew (S:=(λu=>u.cell? ⟨wr.heap.size,0,none⟩=some (.string x.nm)/\u.cell? ⟨b,off+q*3,none⟩=some (.string y.nm))) Y1 ?_ λhH=>?_
 · ((try dsimp only);go_keep)
 iterate 14 refine sq ?_
 refine wpAnyH_done Y1 ?_ _;rw[hx,hy]at c;have t:Hid (∀j,j<k+1->stepM is j=true):=λj C=>by
  rcases D8 j k with h|h
  ·exact s j h
  obtain rfl:j=k:=O0;exact c
 go_wp2;go_roundw;exact⟨k+1,O0,O0,by go_num,d.out.drew,t⟩;exact Z9
end
end Go.Proofs.YtkccjgajimjjdaaGreatDoor.G
namespace Go.Proofs.YtkccjgajimjjdaaGreatDoor.G
open Proofs.Tryz Go.RowKit
open T (F2 G9 D_ Asc G6 U5 Ag Nb)
section
variable{w w':World}
structure Qw(w:World):Prop where
 g0:∃t v,w.cell? ⟨6,0,none⟩=some (.iface t v)
 g1:∃t v,w.cell? ⟨7,0,none⟩=some (.iface t v)
 g2:∃t v,w.cell? ⟨8,0,none⟩=some (.iface t v)
 g6:w.cell? ⟨4,0,none⟩=some (.iface 366 (.agg #[.pointer (some ⟨14,202,none⟩)]))
theorem Qw.pos(h:Qw w):8<w.heap.size:=by
 obtain⟨t,v,a⟩:=h.g2;rcases D8 8 w.heap.size with h|h
 ·exact h
 simp[World.cell?,Qp h]at a
theorem Qw.below(h:Qw w)(a:Bw w w'):Qw w':=by
 have hp:=h.pos;obtain⟨d,b,h0⟩:=h.g0;obtain⟨c,v1,h1⟩:=h.g1;obtain⟨t2,v2,h2⟩:=h.g2;exact⟨⟨d,b,(a.cell (by show 6<w.heap.size;omega)).trans h0⟩,⟨c,v1,(a.cell (by show 7<w.heap.size;omega)).trans h1⟩,⟨t2,v2,(a.cell (by show 8<w.heap.size;omega)).trans h2⟩,(a.cell (by show 4<w.heap.size;omega)).trans h.g6⟩
theorem QR(l:List UInt8)(w:World)(hs:l.length<=1048700)(hm:Jc w):
 Calls prog 222 #[.string (I4 l),.string ⟨#[32]⟩] w λe w'=>(∃y,e=.returned (.tuple #[.string (I4 (Y2 l)),.string (I4 (J3 l)),.bool y]))/\Bw w w':=by
 obtain⟨_,m,hm⟩:=hm;refine(Tryz.strings_Cut (I4 l) ⟨#[32]⟩ m w (by rw[P5];omega) hm).mono ?_;rintro e w'⟨rfl,n,rfl⟩;refine⟨⟨(Lib.cut l [32]).2.2,?_⟩,below_drewN n⟩;rw[<- NJ,<- UF];rfl
theorem a1T(l:List UInt8)(w:World)(hs:l.length<=1048700)(hm:Jc w):
 Calls prog 222 #[.string (I4 l),.string ⟨#[10]⟩] w λe w'=>e=.returned (.tuple #[.string (I4 (Lib.cut l [10]).1),.string (I4 (Lib.cut l [10]).2.1),.bool (Lib.cut l [10]).2.2])/\Bw w w':=by
 obtain⟨_,m,hm⟩:=hm;refine(Tryz.strings_Cut (I4 l) ⟨#[10]⟩ m w (by rw[P5];omega) hm).mono ?_;rintro e w'⟨rfl,n,rfl⟩;exact⟨rfl,below_drewN n⟩
theorem a5B(s:BY)(w:World):
 Calls prog 246 #[.string s,.string ⟨#[10]⟩] w λe w'=>(∃n,e=.returned (.int .i64 n))/\w'=w:=by
 go_in
 go_wp2;rw[run_callFunc_extern func287 Y1 Y1 Y1 (e:=Extern.BytealgCount.count) Y1,Lib.run_countString];simp only[Result.andThen];rw[Oper.upon_value];go_wp2;go_ret;exact⟨⟨_,rfl⟩,rfl⟩
structure Jo(w:World):Prop where
 va:Qw w
 g3:∃t v,w.cell? ⟨1,0,none⟩=some (.iface t v)
 g4:∃t v,w.cell? ⟨2,0,none⟩=some (.iface t v)
 g5:∃t v,w.cell? ⟨3,0,none⟩=some (.iface t v)
 mx:Jc w
theorem Jo.below(h:Jo w)(a:Bw w w'):Jo w':=by
 have hp:=h.va.pos;obtain⟨f,c,j⟩:=h.g3;obtain⟨e,b,i⟩:=h.g4;obtain⟨d,v5,g⟩:=h.g5;exact⟨h.va.below a,⟨f,c,(a.cell (by show 1<w.heap.size;omega)).trans j⟩,⟨e,b,(a.cell (by show 2<w.heap.size;omega)).trans i⟩,⟨d,v5,(a.cell (by show 3<w.heap.size;omega)).trans g⟩,Q9 h.mx a⟩
def wX(w:World)(l:List UInt8)(e:Ending)(w':World):Prop:=∃(ms:List M3)(v er:Value),e=.returned (.tuple #[v,er])/\w'.ownsRow w.heap.size 69 3 v ms.length (Ja ms)/\((er=.nilIface/\w_ l ms true)\/((∃n ty va,er=.iface 274 (.agg #[.int .i64 n,.iface ty va]))/\w_ l [] false))
theorem Gy{l:List UInt8}(n:Int)(ty:TypeId)(va:Value)(h:w_ l [] false):wX w l (.returned (.tuple #[.slice none 0 0,.iface 274 (.agg #[.int .i64 n,.iface ty va])])) w':=⟨[],_,_,rfl,Y_ _ _ _ _,.inr ⟨⟨n,ty,va,rfl⟩,h⟩⟩
theorem WO(s:BY)(w:World)(hs:s.size<=1048576)(a:300<s.size)(hv:Jo w):
 Calls prog 206 #[.string s] w λe w'=>wX w s.data.toList e w'/\Bw w w':=by
 have b:Hid (w_ s.data.toList [] false):=sD (by simpa using a);obtain⟨t3,v3,g3⟩:=hv.g3
 go_in
 go_wp2_with fail
 go_region_with(go_at_call 246;refine(a5B _ _).mono ?_;rintro e w'⟨⟨n,rfl⟩,rfl⟩)
 all_goals go_wp2
 all_goals go_ret2
 all_goals exact⟨Gy _ _ _ b.out,by first|exact G5 _ _|exact(G5 _ _).drew⟩
theorem a2b(s:BY)(b:UInt8)(w:World)(hs:s.size<=1048700):
 Calls prog 123 #[.string s,.int .u8 b.toNat] w λe w'=>(∃g cp,e=.returned (.slice (some ⟨g,0,none⟩) (x9 b s.data.toList).length cp)/\w'.ownsRow w.heap.size 9 1 (.slice (some ⟨g,0,none⟩) (x9 b s.data.toList).length cp) (x9 b s.data.toList).length (ku (x9 b s.data.toList)))/\Bw w w':=by
 obtain⟨y,E,B,A,z⟩:=info_parts info9;have hlen:s.data.toList.length=s.size:=E5
 go_in
 go_wp2;go_loopw[5,6,7] (λv fr i wr=>∃(k f:Nat),k<=s.size/\f<=k/\i=.int .i64 k/\fr=.int .i64 f/\wr.ownsRow w.heap.size 9 1 v (V8 b (s.data.toList.take k)).1.length (ku (V8 b (s.data.toList.take k)).1)/\Hid ((s.data.toList.take k).drop f=(V8 b (s.data.toList.take k)).2)/\Below w.heap.size w wr/\w.heap.size+1<=wr.heap.size) (λ_ _ i _=>s.size-(RowKit.intOf i).toNat);exact⟨0,0,J4 _,J8 _,rfl,rfl,Tv _ #[] 0 X7 (J4 _) rfl,rfl,Y6,E5⟩;obtain⟨k,f,hk,hf,rfl,rfl,c,p,d,hz⟩:=hrel;have hL:(V8 b (s.data.toList.take k)).1.length<=k:=by
  have:=Hw b (s.data.toList.take k);rw[U_]at this;omega
 by_cases C:k<s.size;rotate_left
 ·have J:Hid (s.data.toList.take k=s.data.toList):=C_ O0;have r:Hid (s.extract f s.size=I4 (V8 b (s.data.toList.take k)).2):=Tc (by rw[Ac,<- show k=s.size by omega];exact p.out);have F:Hid (x9 b s.data.toList=(V8 b (s.data.toList.take k)).1++[(V8 b (s.data.toList.take k)).2]):=by rw[J.out];rfl
  generalize V8 b (s.data.toList.take k)=st at*
  go_wp2_with(at_builtin;refine wpList_append_own _ rfl _ _ 22 rfl w.heap.size 9 y (.string ⟨#[]⟩) 1 16 underlying22 E B A z rfl Z5 _ _ _ rfl (c.alloc _) ⟨wr.heap.size,0,none⟩ 1 1 [_] rfl rfl (cell_one_new _ _ _) (by intro u a;simp at a;subst a;rfl) (by unfold maxLen;omega) O0 Q8 ?_;intro v' x l m _;obtain⟨g,cp,H⟩:=Wl l O0;subst H)
  go_ret;have q:=(d.alloc d.size _).grown m Q8 (λj o=>(c.lt j o).1);have I:x.ownsRow w.heap.size 9 1 (vL (some (aA g 0)) (st.1.length+1) cp) (st.1.length+1) (ku (x9 b s.data.toList)):=by
   rw[F.out,Eg,<- r.out];exact l
  have D:(x9 b s.data.toList).length=st.1.length+1:=by rw[F.out];simp
  refine⟨⟨g,cp,by rw[D];rfl,by rw[D];exact I⟩,q⟩
 have n:Hid (V8 b (s.data.toList.take (k+1))=cst b (V8 b (s.data.toList.take k)) s[k]):=by rw[take_snoc s k C,iq];rfl
 have r:Hid (s.extract f k=I4 (V8 b (s.data.toList.take k)).2):=Tc (by rw[Ac];exact p.out);by_cases hc:s[k]=b
 ·have e1:((s[k].toNat:Int)==(b.toNat:Int))=true:=by rw[hc];simp
  have h:Hid (cst b (V8 b (s.data.toList.take k)) s[k]=((V8 b (s.data.toList.take k)).1++[(V8 b (s.data.toList.take k)).2],[])):=by unfold cst;rw[if_pos hc];rfl
  have t:Hid ((s.data.toList.take (k+1)).drop (k+1)=[]):=Es Q8;generalize V8 b (s.data.toList.take k)=st at*
  go_wp2_with(at_builtin;refine wpList_append_own _ rfl _ _ 22 rfl w.heap.size 9 y (.string ⟨#[]⟩) 1 16 underlying22 E B A z rfl Z5 _ _ _ rfl (c.alloc _) ⟨wr.heap.size,0,none⟩ 1 1 [_] rfl rfl (cell_one_new _ _ _) (by intro u a;simp at a;subst a;rfl) (by unfold maxLen;omega) O0 Q8 ?_;intro v' x l m _)
  go_roundw
  ·have q:=(d.alloc d.size _).grown m Q8 (λj o=>(c.lt j o).1);refine⟨k+1,k+1,O0,J8 _,by go_num,by go_num,?_,?_,q,by have:=m.size;simp at this;omega⟩
   ·rw[n.out,h.out,P9,Eg,<- r.out];exact l
   rw[n.out,h.out];exact t.out
  exact Z9
 have e1:((s[k].toNat:Int)==(b.toNat:Int))=false:=by
  simp only[V_];intro e;exact hc (Wi.1 O0)
 have h:Hid (cst b (V8 b (s.data.toList.take k)) s[k]=((V8 b (s.data.toList.take k)).1,(V8 b (s.data.toList.take k)).2++[s[k]])):=by unfold cst;rw[if_neg hc];rfl
 have t:Hid ((s.data.toList.take (k+1)).drop f=(s.data.toList.take k).drop f++[s[k]]):=by rw[take_snoc s k C,JJ Q8];rfl
 generalize V8 b (s.data.toList.take k)=st at*;go_wp2;go_roundw
 ·refine⟨k+1,f,O0,O0,by go_num,rfl,?_,?_,d,hz⟩
  ·rw[n.out,h.out];exact c
  rw[n.out,h.out,t.out,p.out];rfl
 exact Z9
theorem own_ne{B B' e b size c n d:Nat}{v v':Value}{xs xs':List Value}(h:w.ownsRow B e size v n xs)(j:w.ownsRow B' b c v' d xs')(f:e≠b):v.ownBlock=none\/v.ownBlock≠v'.ownBlock:=by
 rcases h.2 with⟨rfl,_⟩|⟨g,cap,cur,rfl,_,i,_⟩
 ·exact .inl rfl
 rcases j.2 with⟨rfl,_⟩|⟨g',cap',cur',rfl,_,a,_⟩
 ·exact .inr (by simp[Value.ownBlock])
 refine .inr λhe=>?_;simp only[Value.ownBlock,iw]at he;subst he;rw[i]at a;simp only[iw,Obj.cells.injEq]at a;exact f a.2.1
theorem a1o(l:List UInt8)(w:World)(a:l.length<=1048700):
 Calls prog 126 #[.string (I4 l)] w λe w'=>(∃t,e=.returned (.string (I4 t))/\t.length<=l.length+1/\∀q,l=J6 q->t=q)/\Bw w w':=by
 have:=a0V (I4 l) w (by rw[P5];exact a);rw[P5]at this;exact this
theorem a2j(l:List UInt8)(w:World)(a:l.length<=1048700):
 Calls prog 124 #[.string (I4 l),.int .i64 3] w λe w'=>(∃g cp,e=.returned (.tuple #[.slice (some ⟨g,0,none⟩) 3 cp,.string (I4 (l_ l 3))])/\w.heap.size<=g/\Oc w' g (Q_ l 3))/\Bw w w':=a2X (I4 l) w (by rw[P5];exact a)
theorem lJ{ms:List M3}{x:M3}{B:Nat}(h:∀j,(ms.getD j L_).le B)(hx:x.le B)(j:Nat):((ms++[x]).getD j L_).le B:=by
 rcases Uw j ms.length with a|a|a
 ·have:(ms++[x]).getD j L_=ms.getD j L_:=by simp[List.getD,G_ a]
  rw[this];exact h j
 ·subst a;have:(ms++[x]).getD ms.length L_=x:=by simp[List.getD]
  rw[this];exact hx
 have:(ms++[x]).getD j L_=L_:=by simp[List.getD,Zb (show(ms++[x]).length<=j by simp;omega)]
 rw[this];exact⟨J4 _,J4 _,J4 _⟩
theorem cell_grown{row:Option Nat}(c:w.grownBy w' row){p:Addr}(a:p.block<w.heap.size)(b:some p.block≠row):w'.cell? p=w.cell? p:=by
 unfold World.cell?;rw[c.block p.block a b]
def a5s(l:List UInt8)(e:Ending)(w':World):Prop:=∃(ms:List M3)(ok:Bool)(a:OA)(cap:Nat),e=.returned (.tuple #[.slice a ms.length cap,.bool ok])/\Ol w' a ms/\w_ l ms ok
theorem a5d(s:BY)(w:World)(hs:s.size<=1048576):
 Calls prog 217 #[.string s] w λe w'=>a5s s.data.toList e w'/\Bw w w':=by
 have hlen:s.data.toList.length=s.size:=E5;obtain⟨Y,hi,hz0,hz1,hz2⟩:=info_parts sQ;by_cases a6i:300<s.size
 ·have n:Hid (w_ s.data.toList [] false):=sD O0
  go_in
  go_wp2;go_ret2;exact⟨⟨[],false,_,_,rfl,.inl rfl,n⟩,Y6⟩
 go_in
 go_wp2_with fail
 refine(a2b s 10 _ O0).mono ?_;rintro e w1⟨⟨g,cp,rfl,hln⟩,y⟩;have hx1:=Y6.trans (y.mono E5);have hz1':w.heap.size+1<=w1.heap.size:=by have:=y.size;simpa using this
 have hrow0:w1.ownsRow w.heap.size 69 3 (vL (some (aW w 0)) 0 0) 0 (Ja []):=ownsRow_below (Tv _ #[] 0 X7 (J4 _) rfl) y;have a6E:w1.ownsRow w.heap.size 9 1 (vL (some (aA g 0)) (x9 10 s.data.toList).length cp) (x9 10 s.data.toList).length (ku (x9 10 s.data.toList)):=Ag hln E5;obtain⟨hn1,hn2⟩:=Zn 10 s.data.toList;have HCS:=U0 (cut_small 10 s.data.toList)
 go_wp2_with fail
 generalize hLs:x9 10 s.data.toList=a at*;have C:=U0 hLs;go_loopw[4,6] (λv i wr=>∃(k:Nat)(ms:List M3),k+1<=a.length/\i=.int .i64 k/\ms.length=k/\Hid (dI s.data.toList ms k)/\Hid (∀j,(ms.getD j L_).le 1048576)/\wr.ownsRow w.heap.size 69 3 v ms.length (Ja ms)/\wr.ownsRow w.heap.size 9 1 (.slice (some ⟨g,0,none⟩) a.length cp) a.length (ku a)/\Below w.heap.size w wr/\w.heap.size+1<=wr.heap.size) (λ_ i _=>a.length-(RowKit.intOf i).toNat);exact⟨0,[],O0,rfl,rfl,uG _,(λj=>⟨J4 _,J4 _,J4 _⟩),hrow0,a6E,hx1,hz1'⟩;obtain⟨k,ms,hk,rfl,a7L,F,E,d,I,O,Z⟩:=hrel;subst a7L;obtain⟨ao,co,hv⟩:=Tq d;subst hv;by_cases hlt:ms.length+1<a.length;rotate_left
 ·obtain⟨E1,E2⟩:=kN F.out rfl (by rw[C.out];omega) O0;have U:=U0 E1;have R:=U0 E2;obtain⟨ao',cap',hv',P⟩:=Wq d;injection hv' with h1 h2 h3;subst h1 h3;have HAT:=U0 P;have hmm:ms.length<=1048576:=O0;have HC:=a3N ao co ms wr E hmm P
  go_wp2_with fail
  refine HC.mono ?_;rintro e w5⟨rfl,N⟩;have z:=J5 O N;have a7M:=U0 (gm HAT N);by_cases hf:uj ms=s.data.toList
  ·have n:=U0 (U.out hf);have m:(I4 (uj ms)).toList=s.toList:=by rw[hf,ByteArray.toList_eq,ByteArray.toList_eq];rfl
   have e1:((I4 (uj ms)).toList==s.toList)=true:=by simpa using m
   clear U R hf;go_wp2;go_ret2;exact⟨⟨ms,true,_,_,rfl,a7M.out,n.out⟩,z⟩
  have n:=U0 (R.out hf);have m:¬(I4 (uj ms)).toList=s.toList:=by rw[ByteArray.toList_eq,ByteArray.toList_eq];simpa[I4]using hf
  have e1:((I4 (uj ms)).toList==s.toList)=false:=by simpa using m
  go_wp2;go_ret2;exact⟨⟨[],false,_,_,rfl,.inl rfl,n⟩,z.alloc z.size _⟩
 have a7N:=Zh I rfl;have l0:=a7N.2 ms.length O0;have hLl:=HCS.out ms.length;have a7O:=λ(t:List UInt8) ht=>parsed (l:=a.getD ms.length []) (t:=t) ht;generalize hL:a.getD ms.length []=L at*;have HL:=U0 hL;have hiB:(ms.length:Int)<(a.length:Int):=O0
 go_wp2_with fail
 refine(a2j L _ O0).mono ?_;rintro e q⟨⟨g2,cp2,rfl,hg2,x⟩,o⟩;have hB2:=J5 O o;have hown2:=ownsRow_below d o;have hrow2:=ownsRow_below I o;have hz2':=I8 Z o.size;have X:q.cell? (aA g2 1)=some (vS (I4 (Y2 (l_ L 1)))):=x.2 1 (by simp[Q_]);have W:q.cell? (aA g2 2)=some (vS (I4 (Y2 (l_ L 2)))):=x.2 2 (by simp[Q_]);have J:=x.1;have r1:=Gj L 1;have r2:=Gj L 2;have r3:=Gj L 3;have r1':=(Y8 (l_ L 1)).1;have r2':=(Y8 (l_ L 2)).1;generalize hA:Y2 (l_ L 1)=A at*;generalize hBB:Y2 (l_ L 2)=B at*;generalize hQ:l_ L 3=Q at*
 go_wp2_with fail
 refine wp_region_held_drew (S:=(λu=>u.cell? (aA g2 1)=some (vS (I4 A))/\u.cell? (aA g2 2)=some (vS (I4 B)))) Y1 ?_ λhH=>?_
 · ((try dsimp only);go_keep)
 iterate 8 refine sq ?_
 refine rq 8 λK h=>?_;go_simp;refine(a1o Q _ O0).mono ?_;rintro e c⟨⟨t,rfl,htl,htq⟩,hb3⟩;have b:Hid (Bw q c):=(G5 _ _).drew.trans hb3;have e1:=(b.out.cell (by exact J)).trans X;have m:=(b.out.cell (by exact J)).trans W;have r:=ownsRow_below hown2 b;have H:=ownsRow_below hrow2 b;have a8o:=b.out.size;have e1a:=past (by show g2<c.heap.size;omega) e1;have e2a:=past (by show g2<c.heap.size;omega) m
 go_wp2_with fail
 refine h _ _ ?_ λhH=>?_
 · ((try dsimp only);go_keep)
 refine sq ?_;refine rq 10 λK h=>?_;go_simp;refine h _ _ ?_ λhH=>?_
 · ((try dsimp only);go_keep)
 try simp only[qq]
 refine rq 11 λK h=>?_;refine Gu rfl (.tmp 31) (.tmp 41) 133 rfl w.heap.size 69 Y (.agg #[vE,vE,vE]) 3 48 underlying133 hi hz0 hz1 hz2 rfl Z5 _ _ _ rfl (r.alloc _) (aW c 0) 1 1 [_,_,_] rfl rfl (sZ rfl _ _ _ _) (by intro u D;simp at D;rcases D with rfl|rfl|rfl<;>rfl) (by unfold maxLen;omega) O0 Q8 ?_;intro v' V hown4 f;have hB4:=U0 ((((J5 hB2 b.out).alloc O0 _).grown f Q8 (λj hj=>(r.lt j hj).1)));have hrow4:=U0 ((H.alloc _).kept f (own_ne H r Z5));have f1:=(cell_grown f (p:=(aA g2 1)) Q8 (λe=>by have:=(d.lt _ e.symm).2;simp at this;omega)).trans (e1a _);have f2:=(cell_grown f (p:=(aA g2 2)) Q8 (λe=>by have:=(d.lt _ e.symm).2;simp at this;omega)).trans (e2a _);have hz4:c.heap.size+1<=V.heap.size:=by have:=f.size;simp at this;omega
 refine h _ _ ?_ λhH=>?_
 · ((try dsimp only);go_keep)
 refine sq ?_;refine wpAnyH_done Y1 ?_ _;have HSO:=U0 (LJ F (by rw[C.out];exact hlt) (by rw[C.out,HL.out];exact a7O t htq));have HTX:Hid (∀j,((ms++[(⟨I4 A,I4 B,I4 t⟩:M3)]).getD j L_).le 1048576):=lJ E ⟨by rw[P5];omega,by rw[P5];omega,by rw[P5];omega⟩;go_wp2;go_roundw
 ·refine⟨ms.length+1,ms++[(⟨I4 A,I4 B,I4 t⟩:M3)],O0,by go_num,E5,HSO,HTX,?_,hrow4.out,hB4.out,O0⟩;rw[cu,P9];exact hown4
 exact Z9
end
section
variable{fs:List F2}{ms:List M3}
def Iu:BY:=⟨#[112,108,97,110]⟩
def Free(fs:List F2)(nm:BY):Prop:=∀j,j<fs.length->(fs.getD j G9).nm≠nm
def Vm(fs:List F2)(ms:List M3):Prop:=∀i,i<ms.length->Free fs (ms.getD i L_).nm
def dh(fs:List F2)(ms:List M3):Prop:=
 (¬D_ fs/\ms=[])\/(D_ fs/\Free fs Iu/\ms=[])\/
 (D_ fs/\∃i,i<fs.length/\(fs.getD i G9).nm=Iu/\∃ks ok,w_ (fs.getD i G9).tx.data.toList ks ok/\((ok=true/\Vm fs ks/\ms=ks)\/(¬(ok=true/\Vm fs ks)/\ms=[])))
theorem NM(h:D_ fs){i j:Nat}(b:i<fs.length)(a:j<fs.length)(e:(fs.getD i G9).nm=(fs.getD j G9).nm):i=j:=by
 have hm:=T.Si h;rcases Uw i j with h1|h1|h1
 ·have:=hm i j h1 a;rw[e,T.Ud]at this;cases this
 ·exact h1
 have:=hm j i h1 b;rw[e,T.Ud]at this;cases this
theorem VB{ns:List M3}(h:dh fs ms)(k:dh fs ns):ms=ns:=by
 rcases h with⟨h1,rfl⟩|⟨h1,h2,rfl⟩|⟨h1,i,g,f,ks,ok,n,hr⟩
 ·rcases k with⟨_,rfl⟩|⟨a,_⟩|⟨a,_⟩
  ·rfl
  ·exact absurd a h1
  exact absurd a h1
 ·rcases k with⟨a,_⟩|⟨_,_,rfl⟩|⟨_,j,c,b,_⟩
  ·exact absurd h1 a
  ·rfl
  exact absurd b (h2 j c)
 rcases k with⟨a,_⟩|⟨_,l,_⟩|⟨_,j,c,b,ks',ok',m,e⟩
 ·exact absurd h1 a
 ·exact absurd f (l i g)
 obtain rfl:=NM h1 g c (f.trans b.symm);obtain⟨rfl,rfl⟩:=ZJ n m;rcases hr with⟨a1,a2,rfl⟩|⟨a1,rfl⟩
 ·rcases e with⟨_,_,rfl⟩|⟨d,_⟩
  ·rfl
  exact absurd ⟨a1,a2⟩ d
 rcases e with⟨d,o,_⟩|⟨_,rfl⟩
 ·exact absurd ⟨d,o⟩ a1
 rfl
theorem Ut{l:List UInt8}{ok:Bool}(h:w_ l ms ok):ms.length<=300/\∀i,(ms.getD i L_).le 300:=by
 cases ok
 ·rw[(h.2 rfl).1];exact⟨J4 _,λi=>⟨J4 _,J4 _,J4 _⟩⟩
 obtain⟨h1,h2,h3⟩:=h.1 rfl;have:=EG ms;rw[h2]at this;exact⟨O0,Px λi a=>AQ (ZL (Rj h1) a)⟩
theorem VH(h:dh fs ms):ms.length<=300:=by
 rcases h with⟨_,rfl⟩|⟨_,_,rfl⟩|⟨_,i,hi,hn,ks,ok,a,hr⟩
 ·exact J4 _
 ·exact J4 _
 rcases hr with⟨_,_,rfl⟩|⟨_,rfl⟩
 ·exact(Ut a).1
 exact J4 _

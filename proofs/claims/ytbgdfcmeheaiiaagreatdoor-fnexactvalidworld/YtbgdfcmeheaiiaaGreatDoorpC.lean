import Derived.Test.YtbgdfcmeheaiiaaGreatDoortX1
import Derived.Lib.Overlaps
import Derived.Lib.AppendZerosOnto
set_option linter.unusedVariables false
set_option linter.unusedSimpArgs false
set_option maxHeartbeats 8000000
set_option maxRecDepth 100000
namespace Go.Proofs.YtbgdfcmeheaiiaaGreatDoor.T
open Proofs.Tryz Go.RowKit
variable{u w:World}{fs gs:List F2}{B b i j o p q:Nat}{x:F2}{v:Value}{vs:List Value}
theorem Jp(w:World)(ty:TypeId)(b o e m:Nat)(a:Addr)(c d n:Nat)(cs:List Value)(i:Nat.min c e=n)(hl:cs.length=n*2)
 (h:∀j v,cs[j]?=some v->w.cell? (a.add j)=some v) (hc:∀j,j<cs.length->(w.cell? ⟨b,o+j,none⟩).isSome=true) (hf:∀j,w.frozen? ⟨b,j,none⟩=false) (h1:∀v∈cs,v.oneCell'=true):
 (Builtin.copy_ #[44,44] ty #[.slice (some ⟨b,o,none⟩) e m,.slice (some a) c d]).run prog w=.ok (goInt n) (w.setCells b o cs):=by
 obtain⟨i0,k,hz0,f,hz2⟩:=info_parts Vp;have l:=run_firstCells_some (P:=prog) w 2 n a c d cs hl h;have g:=run_storeCells_cells (P:=prog) b o cs 0 w (by simpa using hc) (λj _=>hf _) h1;simp[Builtin.copy_,Yr underlying44,Builtin.lenOf,sizeOf,typeInfo,k,f,i,l,g]
theorem wpList_copy_runI(w:World){P:Program}{ops:Array Oper}{rest:List Oper}{o:Oper}{a:Act}{Q:Exit->Act->World->Prop}(e:o.guard=none)(d s:Operand)(t b:TypeId)
 (ho:o.op=.call { callee:=.builtin .copy,args:=#[d,s],argTypes:=#[t,b] }) (v u:Value) (hd:a.eval d=v) (c:a.eval s=u) {v':Value} {w':World}
 (hr:(Builtin.copy_ #[t,b] o.type #[v,u]).run P w=.ok v' w') (h:wpList P ops Q rest (a.put o.dst v') w'):wpList P ops Q (o::rest) a w:=
 qw e λK f=>by
  unfold Oper.wp execOp;simp only[ho,resolve,invoke,builtin,zi,uo,Nl,RI,Hr,aF,hd,c,hr];exact f _ _ h
theorem step_copy_runI{P:Program}{ops:Array Oper}{o:Oper}{a:Act}{K:Act->World->Prop}{Q:Exit->Act->World->Prop}{E:Prop}
 (f:o.guard=none) (d x:Operand) (c b:TypeId) (e:o.op=Op.call { callee:=Callee.builtin Builtin.copy,args:=#[d,x],argTypes:=#[c,b] })
 (v u:Value) (hd:a.eval d=v) (hx:a.eval x=u) {v':Value} {w':World} (hr:(Builtin.copy_ #[c,b] o.type #[v,u]).run P w=.ok v' w') (g:K (a.put o.dst v') w'):
 if Region.wanted o (yielded ops a.tmps)=true then Oper.wp P o a w K Q else E:=by
 have hw:Region.wanted o (yielded ops a.tmps)=true:=by simp[Region.wanted,f]
 rw[D8 hw];unfold Oper.wp;simp[execOp,e,resolve,invoke,builtin,hd,hx,hr,Result.andThen];exact g
theorem a0b:∀w,(sizeOf 166).run prog w=.ok 2 w:=λw=>by
 obtain⟨i0,b,hz0,a,hz2⟩:=info_parts Vp;simp[sizeOf,typeInfo,b,a]
theorem a1r(b c i a:Nat)(fs:List F2)(x:F2)(w:World)(hi:i<fs.length)(hl:fs.length<=40)(hroom:fs.length+1<=c)(y:a≠b)
 (C:∀j v,(J3 fs)[j]?=some v->w.cell? ⟨b,0+j,none⟩=some v) (n:∀j,j<(fs.length+1)*2->(w.cell? ⟨b,j,none⟩).isSome=true) (o:∀j,w.frozen? ⟨b,j,none⟩=false)
 (u:∀j v,[Value.string x.nm,.string x.tx][j]?=some v->w.cell? ⟨a,0+j,none⟩=some v)
 (s r:TypeId) (t m:Nat) (B:w.shape? a=some (s,t)) (A:w.shape? b=some (r,m)) (H:m≠0) (p:∀j,w.frozen? ⟨a,j,none⟩=false):
 Calls prog 237 #[.slice (some ⟨b,0,none⟩) fs.length c,.int .i64 i,.slice (some ⟨a,0,none⟩) 1 1] w λe w'=>
  e=.returned (.slice (some ⟨b,0,none⟩) (fs.length+1) c)/\w'=(w.drew.setCells b ((i+1)*2) (J3 (fs.drop i))).setCells b (i*2) [.string x.nm,.string x.tx]:=by
 have hz2:¬((i:Int)=(fs.length:Int)):=O0;have F:∀lb cb,(callFunc 292 #[vL (some (aA a 0)) 1 1,vL (some (aA b ((i+1)*2))) lb cb]).run prog w=.ok (.value (.bool false)) w:=λlb cb=>by
  rw[run_callFunc_extern func292 Y0 Y0 Y0 (e:=Extern.SlicesOverlaps.overlaps #[44,44] #[4]) Y0,
   Lib.run_overlaps_apart w 44 4 166 underlying44 2 a0b (aA a 0) (aA b ((i+1)*2)) 1 1 lb cb y s r t m B A H (p _) (p _)]
  rfl
 have q:(J3 (fs.drop i)).length=(fs.length-i)*2:=by rw[E8,Lj]
 have hw1:IntKind.i64.wrap ((i:Int)+1)=(i:Int)+1:=by rw[show(i:Int)+1=((i+1:Nat):Int) by omega];exact Na (i+1) O0
 have hb1:(0:Int)<=(i:Int)+1:=O0;have hb6:(i:Int)+1<=(fs.length:Int)+1:=O0;have hin:i<=fs.length:=O0;have htn:((i:Int)+1).toNat=i+1:=O0;have hb2:¬(c=i+1):=O0;have hb3:(i:Int)<=(fs.length:Int)+1:=O0;have hb4:¬(c=i):=O0;have hb5:¬(c<fs.length+1):=O0;have D:∀ty f sc,(Builtin.copy_ #[44,44] ty #[vL (some (aA b ((i+1)*2))) (fs.length-i) f,vL (some (aA b (i*2))) (fs.length+1-i) sc]).run prog w.drew=.ok (goInt ((fs.length-i:Nat))) (w.drew.setCells b ((i+1)*2) (J3 (fs.drop i))):=λty f sc=>
  Jp w.drew ty b ((i+1)*2) (fs.length-i) f (aA b (i*2)) (fs.length+1-i) sc (fs.length-i) _ (by simp only[sD];split<;>omega) q
   (λj v d=>by
    rw[dM];have J:(J3 fs)[i*2+j]?=some v:=by
     have e:J3 fs=J3 (fs.take i)++J3 (fs.drop i):=by rw[<- Ld,Qk]
     rw[e,rf (by rw[E8,L_];omega),E8,L_,Oq O0,ZQ];exact d
    have:=C _ _ J;rw[l7]at this;exact this)
   (λj d=>n _ (by rw[q]at d;omega)) o Dh
 obtain⟨l,g⟩:∃l,l=w.drew.setCells b ((i+1)*2) (J3 (fs.drop i)):=⟨_,rfl⟩;have z:∀k,k<(fs.length+1)*2->(l.cell? (aA b k)).isSome=true:=λk I=>by
  rw[g];exact isSome_setCells b _ _ _ _ (n k I)
 have K:∀(W:World),(∀x,W.cell? x=l.cell? x)->(∀x,W.frozen? x=l.frozen? x)->∀ty f,(Builtin.copy_ #[44,44] ty #[vL (some (aA b (i*2))) (fs.length+1-i) f,vL (some (aA a 0)) 1 1]).run prog W=.ok (goInt 1) (W.setCells b (i*2) [vS x.nm,vS x.tx]):=λW E L ty f=>
  Jp W ty b (i*2) (fs.length+1-i) f (aA a 0) 1 1 1 [vS x.nm,vS x.tx] (by simp only[sD];split<;>omega) rfl
   (λj v d=>by
    rw[dM,E,g,World.cell?_setCells_out b _ _ _ _ (λh _=>absurd h y)];exact u j v d)
   (λj d=>by rw[E];exact z _ (by simp at d;omega)) (λj=>by rw[L,g,World.frozen?_setCells];exact o _) (by intro v hv;simp at hv;rcases hv with rfl|rfl<;>rfl)
 rw[<- g]at D;clear C n o u p B A z q
 go_in
 go_wp2_with(simp only[F])
 go_region_law (refine step_copy_runI rfl _ _ 44 44 rfl _ _ (by simp[Act.eval,Act.put]) (by simp[Act.eval,Act.put]) (D _ _ _) ?_)
 go_wp2_with(at_builtin;refine wpList_copy_runI _ rfl _ _ 44 44 rfl _ _ rfl rfl (K _ (λ_=>rfl) (λ_=>rfl) _ _) ?_)
 go_ret
 first|exact⟨rfl,rfl⟩|exact⟨rfl,by rw[g]⟩
theorem a1M(b c i k:Nat)(fs:List F2)(x:F2)(w:World)(hi:i<fs.length)(hl:fs.length<=40)(hnc:fs.length<=c)(U:c<fs.length+1)(hbw:b<w.heap.size)(S:k<w.heap.size)
 (u:∀j v,(J3 fs)[j]?=some v->w.cell? ⟨b,0+j,none⟩=some v)
 (H:∀j v,[Value.string x.nm,.string x.tx][j]?=some v->w.cell? ⟨k,0+j,none⟩=some v):
 Calls prog 237 #[.slice (some ⟨b,0,none⟩) fs.length c,.int .i64 i,.slice (some ⟨k,0,none⟩) 1 1] w λe w'=>∃(G:Nat)(a:Array Value),fs.length+1<=G/\(fs.length+1)*2<=a.size/\(∀j,j<i*2->a[j]?=(J3 fs)[j]?)/\
  e=.returned (.slice (some ⟨w.heap.size,0,none⟩) (fs.length+1) G)/\
  w'=(((w.alloc (.cells a 166)).drew.setCells w.heap.size (i*2) [.string x.nm,.string x.tx]).drew).setCells w.heap.size ((i+1)*2) (J3 (fs.drop i)):=by
 obtain⟨E,Y,R,Q,F⟩:=info_parts Vp;have hz2:¬((i:Int)=(fs.length:Int)):=O0;have hz3:(c:Int)<(fs.length:Int)+1:=O0;have J:(fs.length:Int)+1-(i:Int)=((fs.length+1-i:Nat):Int):=O0;have r:i+(fs.length+1-i)=fs.length+1:=O0;have I:(Builtin.firstCells E.size i (vL (some (aA b 0)) i c)).run prog w.drew=.ok (J3 (fs.take i)).toArray w.drew:=by
  rw[Q];exact run_firstCells_some w.drew 2 i (aA b 0) i c (J3 (fs.take i)) (by rw[E8,L_];omega) (λj v d=>by
   rw[dM];refine u j v ?_;have hjl:j<i*2:=by have:=(Rl.1 d).1;rw[E8,L_]at this;omega
   have e:J3 fs=J3 (fs.take i)++J3 (fs.drop i):=by rw[<- Ld,Qk]
   rw[e,R_ (by rw[E8,L_];omega)];exact d)
 have n:∀ty,(Builtin.append_ #[44,3] ty #[vL (some (aA b 0)) i c,vI ((fs.length:Int)+1-(i:Int))]).run prog w=
  .ok (vL (some (aW w 0)) (fs.length+1) (grownCap w (fs.length+1) c 166)) (w.drew.alloc (.cells ((J3 (fs.take i)).toArray++Builtin.zeroCells (Value.agg #[vE,vE]).cells (fs.length+1-i)++Builtin.zeroCells (Value.agg #[vE,vE]).cells (grownCap w (fs.length+1) c 166-(fs.length+1))) 166)):=λty=>by
  have h:=Lib.run_append_grow_zeros w 44 3 ty 166 E _ .i64 .i64 underlying44 underlying3 Y R (some (aA b 0)) i c (J3 (fs.take i)) I (fs.length+1-i) O0 O0 O0 O0 (by rw[F];omega) (by rw[F,r];exact growslice_fits U O0);rw[r]at h;rw[J];exact h
 obtain⟨G,p⟩:∃G,G=grownCap w (fs.length+1) c 166:=⟨_,rfl⟩;obtain⟨a,o⟩:∃a:Array Value,a=(J3 (fs.take i)).toArray++Builtin.zeroCells (Value.agg #[vE,vE]).cells (fs.length+1-i)++Builtin.zeroCells (Value.agg #[vE,vE]).cells (G-(fs.length+1)):=⟨_,rfl⟩;rw[<- p]at n;rw[<- o]at n;have L:(fs.length+1)*2<=a.size:=by
  rw[o];simp[Builtin.zeroCells,Value.cells,E8];omega
 have N:∀j,j<i*2->a[j]?=(J3 fs)[j]?:=λj d=>by
  have e:J3 fs=J3 (fs.take i)++J3 (fs.drop i):=by rw[<- Ld,Qk]
  have hlen:(J3 (fs.take i)).length=i*2:=by rw[E8,L_];omega
  rw[o,e,R_ O0,Array.append_assoc,Array.getElem?_append_left (by simpa using(by omega:j<(J3 (fs.take i)).length))];simp
 obtain⟨f,m⟩:∃f,f=w.drew.alloc (.cells a 166):=⟨_,rfl⟩;rw[<- m]at n;have s:(w.drew.alloc (.cells a 166)).heap[w.heap.size]?=some (.cells a 166 (0,0)):=Ic (w:=w.drew) rfl _;have C:∀j,j<(fs.length+1)*2->(f.cell? (aW w j)).isSome=true:=λj d=>by
  rw[m,Lib.cell_of_heap s,gJ O0];rfl
 have B:∀j,f.frozen? (aW w j)=false:=λj=>by rw[m];exact Lib.frozen_of_heap s j
 have A:∀q j v,q<w.heap.size->w.cell? (aA q j)=some v->f.cell? (aA q j)=some v:=λq j v V h=>by rw[m,Ei _ _ _ (by exact V)];exact h
 have hcpA:∀(W:World),(∀x,W.cell? x=f.cell? x)->(∀x,W.frozen? x=f.frozen? x)->∀ty g,(Builtin.copy_ #[44,44] ty #[vL (some (aW w (i*2))) (fs.length+1-i) g,vL (some (aA k 0)) 1 1]).run prog W=.ok (goInt 1) (W.setCells w.heap.size (i*2) [vS x.nm,vS x.tx]):=λW l z ty g=>
  Jp W ty w.heap.size (i*2) (fs.length+1-i) g (aA k 0) 1 1 1 [vS x.nm,vS x.tx] (by simp only[sD];split<;>omega) rfl
   (λj v d=>by rw[dM,l];exact A _ _ v S (H j v d))
   (λj d=>by rw[l];exact C _ (by simp at d;omega)) (λj=>by rw[z];exact B _) (by intro v hv;simp at hv;rcases hv with rfl|rfl<;>rfl)
 have hGn:fs.length+1<=G:=by rw[p];exact grownCap_ge w _ _ _
 have hG63:G<=9223372036854775807:=by
  have:=grownCap_le_maxLen w (fs.length+1) c 166 (by unfold maxLen;omega);rw[<- p]at this;unfold maxLen at this;omega
 have hGi:¬(G=i):=O0;have hGim:¬(G=i+1):=O0;have hci:¬(c=i):=O0;have hbN:b≠w.heap.size:=O0;have t:(J3 (fs.drop i)).length=(fs.length-i)*2:=by rw[E8,Lj]
 have K:∀(W:World),(∀y,W.cell? y=(f.setCells w.heap.size (i*2) [vS x.nm,vS x.tx]).cell? y)->(∀y,W.frozen? y=(f.setCells w.heap.size (i*2) [vS x.nm,vS x.tx]).frozen? y)->∀ty dl g sc,dl=fs.length-i->(Builtin.copy_ #[44,44] ty #[vL (some (aW w ((i+1)*2))) dl g,vL (some (aA b (i*2))) (fs.length-i) sc]).run prog W=.ok (goInt ((fs.length-i:Nat))) (W.setCells w.heap.size ((i+1)*2) (J3 (fs.drop i))):=λW l z ty dl g sc Z=>
  Jp W ty w.heap.size ((i+1)*2) dl g (aA b (i*2)) (fs.length-i) sc (fs.length-i) _ (by rw[Z];simp only[sD];split<;>omega) t
   (λj v d=>by
    rw[dM,l,World.cell?_setCells_out _ _ _ _ _ (λh _=>absurd h hbN)];have X:(J3 fs)[i*2+j]?=some v:=by
     have e:J3 fs=J3 (fs.take i)++J3 (fs.drop i):=by rw[<- Ld,Qk]
     rw[e,rf (by rw[E8,L_];omega),E8,L_,Oq O0,ZQ];exact d
    have:=u _ _ X;rw[l7]at this;exact A _ _ v hbw this)
   (λj d=>by rw[l];exact isSome_setCells _ _ _ _ _ (C _ (by rw[t]at d;omega)))
   (λj=>by rw[z,World.frozen?_setCells];exact B _) Dh
 subst m;have hE1:∀x,((w.alloc (.cells a 166)).drew).cell? x=(w.drew.alloc (.cells a 166)).cell? x:=λx=>rfl;have hE2:∀x,((w.alloc (.cells a 166)).drew).frozen? x=(w.drew.alloc (.cells a 166)).frozen? x:=λx=>rfl;have P:∀y,(((w.alloc (.cells a 166)).drew.setCells w.heap.size (i*2) [vS x.nm,vS x.tx]).drew).cell? y=((w.drew.alloc (.cells a 166)).setCells w.heap.size (i*2) [vS x.nm,vS x.tx]).cell? y:=λx=>rfl;have O:∀y,(((w.alloc (.cells a 166)).drew.setCells w.heap.size (i*2) [vS x.nm,vS x.tx]).drew).frozen? y=((w.drew.alloc (.cells a 166)).setCells w.heap.size (i*2) [vS x.nm,vS x.tx]).frozen? y:=λx=>rfl;have hw1:IntKind.i64.wrap ((i:Int)+1)=(i:Int)+1:=by rw[show(i:Int)+1=((i+1:Nat):Int) by omega];exact Na (i+1) O0
 have hb1:(0:Int)<=(i:Int)+1:=O0;have hin:i<=fs.length:=O0;have htn:((i:Int)+1).toNat=i+1:=O0;have hb3:(i:Int)<=(fs.length:Int):=O0;have hb6:(i:Int)+1<=(fs.length:Int)+1:=O0;have D:Hid (fs.length+1<=G/\(fs.length+1)*2<=a.size/\(∀j,j<i*2->a[j]?=(J3 fs)[j]?)):=⟨hGn,L,N⟩;clear s J r I o p L N u H C B A t
 go_in
 go_wp2_with(first
  | (at_builtin;refine Lib.wpList_append_run _ rfl _ _ _ _ rfl _ _ rfl rfl _ _ (n _) ?_)
  | (at_builtin;refine wpList_copy_runI _ rfl _ _ 44 44 rfl _ _ rfl rfl (hcpA _ hE1 hE2 _ _) ?_))
 go_region_law (first|(refine step_copy_runI rfl _ _ 44 44 rfl (vL (some (aW w ((i+1)*2))) (fs.length+1-(i+1)) (G-(i+1))) (vL (some (aA b (i*2))) (fs.length-i) (c-i)) (by simp[Act.eval,Act.put]) (by simp[Act.eval,Act.put]) (K _ P O 3 (fs.length+1-(i+1)) (G-(i+1)) (c-i) O0) ?_)|(refine step_copy_runI rfl _ _ 44 44 rfl (vL (some (aW w ((i+1)*2))) (fs.length-i) (G-(i+1))) (vL (some (aA b (i*2))) (fs.length-i) (c-i)) (by simp[Act.eval,Act.put]) (by simp[Act.eval,Act.put]) (K _ P O 3 (fs.length-i) (G-(i+1)) (c-i) O0) ?_))
 go_wp2;go_ret;exact⟨G,a,D.out.1,D.out.2.1,D.out.2.2,rfl,rfl⟩
theorem RZ(h:i<=fs.length)(a:j<i):(ins fs i x).getD j P8=fs.getD j P8:=by
 unfold ins;simp only[List.getD];rw[R_ (by rw[L_];omega),lD a]
theorem FV(h:i<=fs.length):(ins fs i x).getD i P8=x:=by
 unfold ins;simp only[List.getD];rw[rf (by rw[L_];omega),L_,Oq h,Hu];rfl
theorem a0l(h:i<=fs.length)(hj:i<j):(ins fs i x).getD j P8=(fs.drop i).getD (j-i-1) P8:=by
 unfold ins;simp only[List.getD];rw[rf (by rw[L_];omega),L_,Oq h];obtain⟨k,a⟩:∃k,j-i=k+1:=⟨j-i-1,O0⟩;rw[a,UO,dJ]
theorem nC{W:World}(a:i<=fs.length)(f:b<W.heap.size)
 (lo:∀j,j<i*2->W.cell? ⟨b,j,none⟩=(J3 fs)[j]?) (m0:W.cell? ⟨b,i*2,none⟩=some (.string x.nm)) (c:W.cell? ⟨b,i*2+1,none⟩=some (.string x.tx))
 (up:∀j,j<(fs.length-i)*2->W.cell? ⟨b,(i+1)*2+j,none⟩=(J3 (fs.drop i))[j]?):U5 W (some ⟨b,0,none⟩) (ins fs i x):=by
 refine .inr ⟨b,0,rfl,f,λj d=>?_⟩;rw[yE _ _ _ a]at d;rw[l7];rcases Yw j i with h|h|h
 ·rw[RZ a h,lo _ O0,lo _ O0];exact Qd fs j O0
 ·subst h;rw[FV a];exact⟨m0,c⟩
 rw[a0l a h];have e:=Qd (fs.drop i) (j-i-1) (by rw[Lj];omega);have u0:=up ((j-i-1)*2) O0;have u1:=up ((j-i-1)*2+1) O0;rw[show(i+1)*2+(j-i-1)*2=j*2 by omega]at u0;rw[show(i+1)*2+((j-i-1)*2+1)=j*2+1 by omega]at u1;rw[u0,u1];exact e
theorem EW(h:Vk w B v gs){p:Nat}(d:p<gs.length):∃a b,v=.slice a gs.length b/\ku B w a gs:=by
 obtain⟨g,b,hv,f,hnc,k,j,c⟩:=zu h d;have hf:U5 w (some (aA g 0)) gs:=.inr ⟨g,0,rfl,c,λi e=>by rw[l7];exact k i e⟩;exact⟨_,b,hv,hf,.inr ⟨g,rfl,f,Fh hf c j,JF h hv⟩⟩
theorem iY(fs:List F2)(x:F2):ins fs fs.length x=fs++[x]:=by unfold ins;rw[List.take_length,List.drop_length]
def IY(B:Nat)(gs:List F2)(n:Nat)(e:Ending)(w':World):Prop:=∃a' cap',e=.returned (.slice a' n cap')/\ku B w' a' gs
theorem a1g(B c:Nat)(f:OA)(d:Nat)(fs:List F2)(x:F2)(w:World)(a:Vk w B (.slice f fs.length d) fs)(hl:fs.length<=40)(hB:B<=w.heap.size)
 (h:∀j v,[Value.string x.nm,.string x.tx][j]?=some v->w.cell? ((⟨c,0,none⟩:Addr).add j)=some v):
 Calls prog 237 #[.slice f fs.length d,.int .i64 fs.length,.slice (some ⟨c,0,none⟩) 1 1] w λe w'=>IY B (ins fs fs.length x) (fs.length+1) e w'/\Below B w w':=by
 obtain⟨r,E,y,t,s⟩:=info_parts Vp;have hcv:=UK a;have C:=a.lt;have A:w.ownsRow B 166 2 (vL f fs.length d) fs.length (J3 fs):=a;have F:=U0 h;clear a h
 go_in
 go_wp2_with(at_builtin;refine wpList_append_own _ rfl _ _ 44 rfl B 166 r (.agg #[.string ⟨#[]⟩,.string ⟨#[]⟩]) 2 32 underlying44 E y t s rfl J6 _ _ _ rfl A ⟨c,0,none⟩ 1 1 [.string x.nm,.string x.tx] rfl rfl F.out (by intro u l;simp at l;rcases l with rfl|rfl<;>rfl) (by unfold maxLen;omega) O0 hB ?_;intro v' b m o _)
 all_goals
  have J:=U0 ((J4 B w).grown o hB (λk D=>(C k D).1));have H:Hid (Vk b B v' (fs++[x])):=by
   show b.ownsRow B 166 2 v' (fs++[x]).length (J3 (fs++[x]));rw[Ld,L9];exact m
  obtain⟨g,q,i,n⟩:=EW H.out (p:=fs.length) O4;have I:Hid (ku B b g (ins fs fs.length x)):=by rw[iY];exact n
  have z:v'=vL g (fs.length+1) q:=by rw[i];simp
  subst z;clear m o n i;go_wp2;go_ret;exact⟨⟨g,q,rfl,I.out⟩,J.out⟩
theorem ny(h:∀j,j<vs.length->(w.cell? ⟨b,o+j,none⟩).isSome=true)(j:Nat)(a:j<vs.length):(w.setCells b o vs).cell? ⟨b,o+j,none⟩=vs[j]?:=by
 rw[World.cell?_setCells_in b vs o w h j a,D9 a]
theorem Il(h:q<o\/o+vs.length<=q):(w.setCells b o vs).cell? ⟨b,q,none⟩=w.cell? ⟨b,q,none⟩:=World.cell?_setCells_out b vs o w _ (λ_ _=>h)
theorem a3P(B c p:Nat)(u:OA)(f:Nat)(fs:List F2)(x:F2)(w:World)(C:Vk w B (.slice u fs.length f) fs)(F:p<=fs.length)(hl:fs.length<=40)(hB:B<=w.heap.size)
 (r:w.heap[c]?=some (.cells #[.string x.nm,.string x.tx] 166 (0,0))) (U:∀k,(Value.slice u fs.length f).ownBlock=some k->c≠k):
 Calls prog 237 #[.slice u fs.length f,.int .i64 p,.slice (some ⟨c,0,none⟩) 1 1] w λe w'=>IY B (ins fs p x) (fs.length+1) e w'/\Below B w w':=by
 have O:=Xf r;have y:∀j v,[Value.string x.nm,vS x.tx][j]?=some v->w.cell? (aA c (0+j))=some v:=λj v h=>by
  rw[l7,Lib.cell_of_heap r];simpa using h
 have s:(J3 (fs.drop p)).length=(fs.length-p)*2:=by rw[E8,Lj]
 by_cases R:p=fs.length
 ·subst R;exact a1g B c u f fs x w C hl hB (λj v h=>by rw[dM];exact y j v h)
 have E:p<fs.length:=O0;have S:=C;rcases C.2 with⟨hv,h0⟩|⟨g,cap,cur,hv,I,m,V,hcm,W,htk⟩
 ·omega
 injection hv with e1 e2 e3;subst e1;subst e3;have H:=Xf m;have P:=U g rfl;have L:∀j,j<fs.length*2->w.cell? (aA g j)=(J3 fs)[j]?:=λj a=>S.cellAt j a;have K:∀j v,(J3 fs)[j]?=some v->w.cell? (aA g (0+j))=some v:=λj v h=>by
  have:j<fs.length*2:=by rw[<- E8];exact(Rl.1 h).1
  rw[l7,L j this];exact h
 by_cases Q:fs.length+1<=f
 ·have z:∀j,j<(fs.length+1)*2->(w.cell? (aA g j)).isSome=true:=λj a=>by
   rw[Lib.cell_of_heap m,gJ (by rw[W];omega)];rfl
  have J:∀j,w.frozen? (aA g j)=false:=λj=>Lib.frozen_of_heap m j;refine(a1r g f p c fs x w E hl Q P K z J y 166 166 2 cur.size (by simp[World.shape?,r]) (by simp[World.shape?,m]) O0 (λj=>Lib.frozen_of_heap r j)).mono ?_;rintro e w'⟨rfl,rfl⟩;have t:But g w ((w.drew.setCells g ((p+1)*2) (J3 (fs.drop p))).setCells g (p*2) [vS x.nm,vS x.tx]):=But.setCells g _ _ (But.setCells g _ _ (But.refl _ _).drew);have A:∀j,j<(fs.length+1)*2->((w.drew.setCells g ((p+1)*2) (J3 (fs.drop p))).cell? (aA g j)).isSome=true:=λj a=>isSome_setCells g _ _ _ _ (z j a);have D:∀j,((w.drew.setCells g ((p+1)*2) (J3 (fs.drop p))).setCells g (p*2) [vS x.nm,vS x.tx]).frozen? (aA g j)=false:=λj=>by rw[World.frozen?_setCells,World.frozen?_setCells];exact J j
  have n:=G9 H t.size;have i:∀j,j<2->((w.drew.setCells g ((p+1)*2) (J3 (fs.drop p))).setCells g (p*2) [vS x.nm,vS x.tx]).cell? (aA g (p*2+j))=[Value.string x.nm,vS x.tx][j]?:=λj a=>ny (λq d=>A _ (by simp at d;omega)) j (by simpa using a);have hF:=nC (x:=x) F n
   (λj a=>by rw[Il (.inl a),Il (.inl O0)];exact L j O0)
   (i 0 O0) (i 1 O0)
   (λj a=>by rw[Il (.inr X7)];exact ny (w:=w.drew) (o:=(p+1)*2) (λq d=>z ((p+1)*2+q) (by rw[s]at d;omega)) j (by rw[s];exact a))
  refine⟨⟨_,_,rfl,hF,.inr ⟨g,rfl,I,Fh hF n D,Jj _ _ _ (Jj (w:=w.drew) _ _ _ ⟨_,m⟩)⟩⟩,t.below I hB⟩
 refine(a1M g f p c fs x w E hl V O0 H O K y).mono ?_;rintro e w'⟨G,b,hG,hR,Y,rfl,rfl⟩;have X:Bw w (w.alloc (.cells b 166)).drew:=P6.drew;have l:(w.alloc (.cells b 166)).drew.heap[w.heap.size]?=some (.cells b 166 (0,0)):=Ic (w:=w) rfl _;have N:∀j,j<(fs.length+1)*2->((w.alloc (.cells b 166)).drew.cell? (aW w j)).isSome=true:=λj a=>by
  rw[Lib.cell_of_heap l,gJ O0];rfl
 have t:But w.heap.size w ((((w.alloc (.cells b 166)).drew.setCells w.heap.size (p*2) [vS x.nm,vS x.tx]).drew).setCells w.heap.size ((p+1)*2) (J3 (fs.drop p))):=But.setCells _ _ _ (But.setCells _ _ _ (But.of_below X)).drew;have A:∀j,j<(fs.length+1)*2->(((w.alloc (.cells b 166)).drew.setCells w.heap.size (p*2) [vS x.nm,vS x.tx]).drew.cell? (aW w j)).isSome=true:=λj a=>isSome_setCells _ _ _ _ _ (N j a);have n:w.heap.size<((((w.alloc (.cells b 166)).drew.setCells w.heap.size (p*2) [vS x.nm,vS x.tx]).drew).setCells w.heap.size ((p+1)*2) (J3 (fs.drop p))).heap.size:=by
  have h1:But w.heap.size (w.alloc (.cells b 166)).drew ((((w.alloc (.cells b 166)).drew.setCells w.heap.size (p*2) [vS x.nm,vS x.tx]).drew).setCells w.heap.size ((p+1)*2) (J3 (fs.drop p))):=But.setCells _ _ _ (But.setCells _ _ _ (But.refl _ _)).drew;exact G9 (Xf l) h1.size
 have D:∀j,((((w.alloc (.cells b 166)).drew.setCells w.heap.size (p*2) [vS x.nm,vS x.tx]).drew).setCells w.heap.size ((p+1)*2) (J3 (fs.drop p))).frozen? (aW w j)=false:=λj=>by
  rw[World.frozen?_setCells];exact(World.frozen?_setCells _ _ _ _ _).trans (Lib.frozen_of_heap l j)
 have i:∀j,j<2->((((w.alloc (.cells b 166)).drew.setCells w.heap.size (p*2) [vS x.nm,vS x.tx]).drew).setCells w.heap.size ((p+1)*2) (J3 (fs.drop p))).cell? (aW w (p*2+j))=[Value.string x.nm,vS x.tx][j]?:=λj a=>by
  rw[Il (.inl O0)];exact ny (w:=(w.alloc (.cells b 166)).drew) (λq d=>N _ (by simp at d;omega)) j (by simpa using a)
 have hF:=nC (x:=x) F n
  (λj a=>by
   rw[Il (.inl O0)];exact((Il (w:=(w.alloc (.cells b 166)).drew) (.inl a)).trans (Lib.cell_of_heap l j)).trans (Y j a))
  (i 0 O0) (i 1 O0)
  (λj a=>ny (λq d=>A _ (by rw[s]at d;omega)) j (by rw[s];exact a))
 refine⟨⟨_,_,rfl,hF,.inr ⟨w.heap.size,rfl,hB,Fh hF n D,Jj (w:=((w.alloc (.cells b 166)).drew.setCells w.heap.size (p*2) [vS x.nm,vS x.tx]).drew) _ _ _ (show JO ((w.alloc (.cells b 166)).drew.setCells w.heap.size (p*2) [vS x.nm,vS x.tx]) _ from Jj _ _ _ ⟨_,l⟩)⟩⟩,t.below hB hB⟩
theorem gX{a b:BY}(h:lt a b=true):lt b a=false:=by
 cases hb:lt b a
 ·rfl
 have:=qg h hb;rw[Uc]at this;cases this
theorem WT(h:p<fs.length):(del fs p).take p=fs.take p:=by
 unfold del;rw[fJ (by rw[L_];omega),List.take_take,Nat.min_self]
theorem NP(h:p<fs.length):(del fs p).drop p=fs.drop (p+1):=by
 unfold del;rw[yI (by rw[L_];omega),QI,Hu,List.take_zero,Qb]
def put(fs:List F2)(p:Nat)(x:F2):List F2:=fs.take p++x::fs.drop (p+1)
theorem LX(h:p<fs.length):ins (del fs p) p x=put fs p x:=by unfold ins put;rw[WT h,NP h]
theorem jK(h:p<fs.length):(put fs p x).length=fs.length:=by
 unfold put;rw[List.length_append,List.length_cons,List.length_take,List.length_drop];omega
theorem PS(h:p<fs.length):(put fs p x).getD p P8=x:=by
 unfold put;simp only[List.getD];rw[rf (by rw[L_];omega),L_,Oq O0,Hu];rfl
theorem uO(h:p<fs.length)(hi:i≠p):(put fs p x).getD i P8=fs.getD i P8:=by
 unfold put;simp only[List.getD];rcases P7 i p with h1|h1
 ·rw[R_ (by rw[L_];omega),lD h1]
 rw[rf (by rw[L_];omega),L_,Oq O0];obtain⟨k,a⟩:∃k,i-p=k+1:=⟨i-p-1,O0⟩;rw[a,UO,UE]
 congr 2
 omega
theorem iP(b:A_ fs)(f:T_ x=true)(d:Place fs x.nm p true):p<fs.length/\Ho fs x 0 (put fs p x):=by
 obtain⟨a,c⟩:=d.here.1 rfl;have ha:=Vh b;have hw:without fs x.nm=del fs p:=by rw[<- c];exact Uw ha a
 have g:=Zx a;refine⟨a,.inr (.inr (.inr ⟨b,f,by rw[hw,g];have:=b.1;omega,rfl,p,?_,by rw[hw,LX a]⟩))⟩;rw[hw];refine⟨O0,λj e=>by rw[XT a e];exact d.less j e,?_⟩;rcases P7 p (del fs p).length with h|h
 ·right;rw[nU a Y8,Hu,Eu,Iq];have:=ha p (p+1) O0 O0;rw[c]at this;exact gX this
 left;omega
theorem KQ(b:A_ fs)(d:T_ x=true)(a:Place fs x.nm p false):(40<=fs.length->Ho fs x 3 [])/\(fs.length<40->Ho fs x 0 (ins fs p x)):=by
 have f:∀i,i<fs.length->(fs.getD i P8).nm≠x.nm:=λi c e=>by
  rcases P7 i p with h|h
  ·have:=a.less i h;rw[e,Uc]at this;cases this
  rcases P7 p i with h1|h1
  ·have h2:=Vh b p i h1 c;rw[e,a.more p Y8 O0]at h2;cases h2
  obtain rfl:i=p:=O0;have:=a.here.2 ⟨c,e⟩;cases this
 have hw:=filter_all f;refine⟨λh=>.inr (.inr (.inl ⟨b,d,by rw[hw];exact h,rfl,rfl⟩)),λh=>.inr (.inr (.inr ⟨b,d,by rw[hw];exact h,rfl,p,?_,by rw[hw]⟩))⟩;rw[hw];refine⟨a.le,a.less,?_⟩;rcases P7 p fs.length with h1|h1
 ·exact .inr (a.more p Y8 h1)
 left;have:=a.le;omega
theorem PN{g:Nat}(b:p<fs.length)(c:g<u.heap.size)(hc:∀i,i<fs.length->u.cell? ⟨g,i*2,none⟩=some (.string (fs.getD i P8).nm)/\u.cell? ⟨g,i*2+1,none⟩=some (.string (fs.getD i P8).tx)):
 U5 ((u.setCell ⟨g,p*2,none⟩ (.string x.nm)).setCell ⟨g,p*2+1,none⟩ (.string x.tx)) (some ⟨g,0,none⟩) (put fs p x):=by
 refine .inr ⟨g,0,rfl,by simpa using c,λi a=>?_⟩;rw[jK b]at a;rw[l7];by_cases h:i=p
 ·subst h;rw[PS b];exact dm u g (i*2) _ _ _ _ (hc i a).1 (hc i a).2
 rw[uO b h,Uy _ _ _ _ _ _ O0 O0,Uy _ _ _ _ _ _ O0 O0];exact hc i a
theorem YG{B':Nat}{a:OA}(h:ku B u a gs)(hB:B'<=B)(hq:q<B):ku B' (u.setCell ⟨q,j,none⟩ v) a gs:=by
 refine⟨?_,?_⟩
 ·rcases h.2 with h0|⟨g,ha,b,ho⟩
  ·exact .inl h0
  have hf:=h.1;rw[ha]at hf ⊢;exact Pq hf (by show q≠g;omega)
 rcases h.2 with h0|⟨g,ha,b,ho⟩
 ·exact .inl h0
 exact .inr ⟨g,ha,O0,sH ho.1 O0,Ht ho.2⟩
theorem c171(a:OA)(m:Nat)(fs:List F2)(x:F2)(w:World)(hl:fs.length<=1048576)(N:∀i,(fs.getD i P8).le 1048576)(hx:x.le 1048576)(X:U5 w a fs):
 Calls prog 171 #[.agg #[.slice a fs.length m],.agg #[.string x.nm,.string x.tx]] w λe w'=>(∃o s c gs,e=.returned (.tuple #[.agg #[.slice o gs.length s],.int .i64 c])/\ku w.heap.size w' o gs/\Ho fs x c gs)/\Bw w w':=by
 have H:=U0 X;have HS:=U0 N;have HX7:Hid (x.le 1048700):=⟨Q8 hx.1 O0,Q8 hx.2 O0⟩;have L:Hid (Be w (((w.alloc (.cells #[vL a fs.length m] 46)).alloc (.cells #[vS x.nm,vS x.tx] 166)).alloc (.cells #[vN] 46)) (vL a fs.length m) x vN):=Be.start _ _ _ _;clear X N hx
 go_in
 go_wp2_with fail
 refine(a0Y a m fs _ hl HS.out (X4 H.out L.out.bel)).mono ?_;rintro e u1⟨⟨v,rfl,hv⟩,W⟩;have F:=U0 hv;have K:=U0 (L.out.later W);obtain⟨t1,n1,x1,r1,f1⟩:=K.out.cells;clear hv W L;cases v
 ·have b:Hid (Ho fs x 1 []):=.inl ⟨λh=>(by have:=F.out.2 h;cases this),rfl,rfl⟩;clear F;go_wp2;refine o7 (v:=.tuple #[.agg #[vN],vI 1]) (by simp[results,results171,go_sem,r1]) rfl ⟨⟨none,0,_,[],rfl,⟨.inl rfl,.inl rfl⟩,b.out⟩,K.out.bel.setCell X7 _⟩
 have Q:=F.out.1 rfl;have R:=Q.1;have u:=U0 Q
 go_wp2_with fail
 refine(xW x u1 HX7).mono ?_;rintro e u2⟨rfl,hb2⟩;have q:=U0 (K.out.later hb2);obtain⟨t2,n2,x2,r2,f2⟩:=q.out.cells;cases hfx:T_ x
 ·have b:Hid (Ho fs x 2 []):=.inr (.inl ⟨u,hfx,rfl,rfl⟩);go_wp2;refine o7 (v:=.tuple #[.agg #[vN],vI 2]) (by simp[results,results171,go_sem,r2]) rfl ⟨⟨none,0,_,[],rfl,⟨.inl rfl,.inl rfl⟩,b⟩,q.out.bel.setCell X7 _⟩
 have hz2:=q.out.sz
 go_wp2_with fail
 refine(c236 a m fs u2 O0 (X4 H q.out.bel)).mono ?_;rintro e u3⟨v,rfl,P,V⟩;obtain⟨E,n,r,hfv⟩:=P.form;subst r;have J:=U0 (q.out.later V);have HO3:=U0 P;have a7x:=V.size;obtain⟨t3,n3,x3,r3,f3⟩:=J.out.cells
 go_wp2_with fail
 refine(KU a m fs x.nm u3 R (X4 H J.out.bel) (Vh u)).mono ?_;rintro e u4⟨⟨p,f,rfl,d⟩,B⟩;have t:=U0 d;have l:=U0 (J.out.later B);have y:=U0 (HO3.out.below B);have a7y:=B.size;obtain⟨t4,n4,x4,r4,f4⟩:=l.out.cells;have hz4:=l.out.sz;cases f
 ·obtain⟨hs3,hs0⟩:=KQ u.out hfx t.out;by_cases h40:fs.length=40
  ·have b:=U0 (hs3 O0);have a7c:((fs.length:Int)==40)=true:=X7;go_wp2;refine o7 (v:=.tuple #[.agg #[vN],vI 3]) (by simp[results,results171,go_sem,r4]) rfl ⟨⟨none,0,_,[],rfl,⟨.inl rfl,.inl rfl⟩,b⟩,l.out.bel.setCell X7 _⟩
  have b:=U0 (hs0 O0);have a7c:((fs.length:Int)==40)=false:=X7;have D:Bw u4 (u4.alloc (.cells #[vS x.nm,vS x.tx] 166)):=P6;have I:=U0 (l.out.later D);have HO5:=U0 (y.out.below D);have HV5:Hid ((u4.alloc (.cells #[vS x.nm,vS x.tx] 166)).heap[u4.heap.size]?=some (.cells #[vS x.nm,vS x.tx] 166 (0,0))):=Ic rfl _;have HNE:Hid (∀k,(Value.slice E fs.length n).ownBlock=some k->u4.heap.size≠k):=λk hk=>by have:=(y.out.lt k hk).2;omega
  have hz5:u2.heap.size<=(u4.alloc (.cells #[vS x.nm,vS x.tx] 166)).heap.size:=X7
  go_wp2_with fail
  refine(a3P u2.heap.size u4.heap.size p E n fs x _ HO5 t.out.le R hz5 HV5 HNE).mono ?_;rintro e u6⟨⟨o,s,rfl,hnew⟩,hb6⟩;have HN:=U0 hnew;have U:=(D.mono O0).trans hb6;have O:u6.heap[w.heap.size+1+1]?=some (.cells #[vN] 46 (0,0)):=by rw[U.block _ O0];exact l.out.hr
  have r6:u6.cell? (aA (w.heap.size+1+1) 0)=some vN:=by rw[Lib.cell_of_heap O];rfl
  have f6:=Lib.frozen_of_heap O 0;have hB6:=l.out.bel.trans (U.mono O0);have hil:=yE fs p x t.out.le;go_wp2;refine o7 (v:=.tuple #[.agg #[vL o (fs.length+1) s],vO]) (by simp[results,results171,go_sem,r6]) rfl ⟨⟨o,s,0,ins fs p x,by rw[hil],?_,b.out⟩,hB6.setCell X7 _⟩;exact YG HN O0 O0
 obtain⟨d,hset⟩:=iP u.out hfx t.out;have b:=U0 hset;obtain⟨g,cap4,r,hg,hnc,A,z,S⟩:=zu y.out d;have H40:=U0 (JF y r);have C:E=some (aA g 0)/\n=cap4:=by injection r with h1 _ h3;exact⟨h1,h3⟩
 obtain⟨C,hcc⟩:=C;subst C;subst hcc;have g0:=(A p d).1;have g1:=(A p d).2;have z0:=z (p*2);have z1:=z (p*2+1);have Z:Hid (U5 ((u4.setCell (aA g (p*2)) (vS x.nm)).setCell (aA g (p*2+1)) (vS x.tx)) (some (aA g 0)) (put fs p x)):=PN d S A;have HFZ:=U0 z;have Y:But g u4 ((u4.setCell (aA g (p*2)) (vS x.nm)).setCell (aA g (p*2+1)) (vS x.tx)):=((But.refl _ _).setCell _ _).setCell _ _;have HBU:=U0 Y;have I:=U0 (l.out.but Y O0);have hpI:(p:Int)<(fs.length:Int):=O0;have HNF:Hid (ku u2.heap.size ((u4.setCell (aA g (p*2)) (vS x.nm)).setCell (aA g (p*2+1)) (vS x.tx)) (some (aA g 0)) (put fs p x)):=⟨Z,.inr ⟨g,rfl,hg,Fh Z (by simpa using S) (λj=>by have:=HFZ.out j;simpa using this),Ht (Ht H40)⟩⟩;go_wp2;have r5:=I.out.cells.2.2.2.1;refine o7 (v:=.tuple #[.agg #[vL (some (aA g 0)) fs.length n],vO]) (by simp[results,results171,go_sem,r5]) rfl ⟨⟨some (aA g 0),n,0,put fs p x,by rw[jK d],?_,b.out⟩,I.out.bel.setCell X7 _⟩;exact YG HNF O0 O0
end Go.Proofs.YtbgdfcmeheaiiaaGreatDoor.T
namespace Go.Proofs.YtbgdfcmeheaiiaaGreatDoor.G
open Proofs.Tryz Go.RowKit
section
variable{a l r:List UInt8}{b s:BY}{B g k n size:Nat}{w:World}{c y:Int}{ls ss:List (List UInt8)}{p:Addr}{e:TypeId}{xs:List Value}
theorem a2M{x:M3}{v:Bool}(hv:Xe x=v)(w:World)(a:x.le 1048700):
 Calls prog 98 #[.agg #[.string x.nm,.string x.tl,.string x.ar]] w λe w'=>e=.returned (.bool v)/\Bw w w':=hv▸c98 x w a
theorem IL{b q:List UInt8}(ha:(10:UInt8)∉a)(e:(10:UInt8)∉b)(h:a++10::r=b++10::q):a=b/\r=q:=by
 induction a generalizing b with
 | nil=>
  cases b with
  | nil=>simpa using h
  | cons c b=>simp at h;exact absurd (by rw[h.1];simp) e
 | cons d a ih=>
  cases b with
  | nil=>simp at h;exact absurd (by rw[h.1];simp) ha
  | cons c b=>
   simp only[Ff,qi]at h;obtain⟨h1,h2⟩:=ih (λh=>ha (vg _ h)) (λh=>e (vg _ h)) h.2;exact⟨by rw[h.1,h1],h2⟩
theorem a0e(l:List UInt8):((Lib.cut l [10]).2.2=true/\l=(Lib.cut l [10]).1++10::(Lib.cut l [10]).2.1/\(10:UInt8)∉(Lib.cut l [10]).1)\/((Lib.cut l [10]).2.2=false/\(Lib.cut l [10]).1=l/\(10:UInt8)∉l):=by
 unfold Lib.cut;rw[Lib.index_one];have hge:=Lib.indexByte_ge l 10;by_cases h:Lib.indexByte l 10=-1
 ·rw[h,Y7 O0];refine .inr ⟨rfl,rfl,λhm=>?_⟩;obtain⟨k,a,e⟩:=Ce hm;exact Lib.indexByte_none h k (by rw[D9 a,e])
 obtain⟨o,ho⟩:∃o:Nat,Lib.indexByte l 10=o:=⟨(Lib.indexByte l 10).toNat,O0⟩;obtain⟨h1,h2⟩:=Lib.indexByte_some ho;have hl:o<l.length:=by
  rcases P7 o l.length with h|h
  ·exact h
  rw[Mc h]at h1;cases h1
 rw[ho,D8 O0];refine .inl ⟨rfl,?_,λhm=>?_⟩
 ·simp only[KA,Aj];have hx:l[o]=10:=by rw[D9 hl]at h1;exact D_ h1
  conv=>lhs;rw[<- Qk o l,jA hl,hx]
 simp only[KA]at hm;obtain⟨k,a,e⟩:=Ce hm;rw[L_]at a;rw[fE]at e;exact h2 k O0 (by rw[D9 O0,e])
theorem cut_small(b:UInt8)(l:List UInt8)(k:Nat):((L8 b l).getD k []).length<=l.length:=by
 obtain⟨h1,h2⟩:=iD b l ([],[]) l.length O4 O4;have h:∀x∈L8 b l,x.length<=l.length:=by
  intro x hx;unfold L8 Z7 at hx;rcases Cf.1 hx with h|h
  ·exact h1 x h
  simp at h;subst h;exact h2
 rcases P7 k (L8 b l).length with a|a
 ·rw[List.getD,D9 a];exact h _ (ji a)
 rw[List.getD,Mc a];simp
theorem a2i(w:World)(x y z:Value)(t:TypeId):∀j u,[x,y,z][j]?=some u->(w.alloc (.cells #[x,y,z] t)).cell? ((⟨w.heap.size,0,none⟩:Addr).add j)=some u:=by
 intro j u h
 match j,h with
 | 0,h=>simp at h;subst h;simp[Addr.add]
 | 1,h=>simp at h;subst h;simp[Addr.add]
 | 2,h=>simp at h;subst h;simp[Addr.add]
theorem tY(a:g=w.heap.size)(x y z:Value)(t:TypeId):∀j u,[x,y,z][j]?=some u->(w.alloc (.cells #[x,y,z] t)).cell? ((⟨g,0,none⟩:Addr).add j)=some u:=by
 subst a;exact a2i w x y z t
theorem xq{v:Value}(h:w.ownsRow B e 3 v n xs):∃ao c,v=.slice ao n c:=by
 rcases h.2 with⟨hv,h0⟩|⟨g,cap,cur,hv,_⟩
 ·exact⟨none,0,by rw[hv,h0]⟩
 exact⟨_,_,hv⟩
end
section
variable{w:World}{B b base n size:Nat}{o:Obj}{e:TypeId}{v:Value}{xs:List Value}
theorem Z9(h:w.ownsRow B e 1 v n xs):∃ao c,v=.slice ao n c:=by
 rcases h.2 with⟨hv,h0⟩|⟨g,cap,cur,hv,_⟩
 ·exact⟨none,0,by rw[hv,h0]⟩
 exact⟨_,_,hv⟩
theorem yN(l:List UInt8):(J5 l).length<=3*l.length+2:=by
 have:=Tt l;unfold J5;simp only[List.length_cons,List.length_append,List.length_nil];omega
end
section
variable{w:World}{a:OA}{is:List M3}
def Ql(w:World)(a:OA)(is:List M3):Prop:=
 is=[]\/∃b off,a=some ⟨b,off,none⟩/\b<w.heap.size/\∀i,i<is.length->w.cell? ⟨b,off+i*3,none⟩=some (.string (is.getD i C_).nm)/\w.cell? ⟨b,off+i*3+1,none⟩=some (.string (is.getD i C_).tl)/\w.cell? ⟨b,off+i*3+2,none⟩=some (.string (is.getD i C_).ar)
theorem Xi(h:Ql w a is):∃b off,(is=[]\/(a=some ⟨b,off,none⟩/\b<w.heap.size/\∀i,i<is.length->w.cell? ⟨b,off+i*3,none⟩=some (.string (is.getD i C_).nm)/\w.cell? ⟨b,off+i*3+1,none⟩=some (.string (is.getD i C_).tl)/\w.cell? ⟨b,off+i*3+2,none⟩=some (.string (is.getD i C_).ar))):=by
 rcases h with h|⟨b,off,h⟩
 ·exact⟨0,0,.inl h⟩
 exact⟨b,off,.inr h⟩
theorem Uk{w':World}(h:Ql w a is)(c:Bw w w'):Ql w' a is:=by
 rcases h with h|⟨b,off,h1,h2,e⟩
 ·exact .inl h
 exact .inr ⟨b,off,h1,G9 h2 c.size,λi d=>by rw[c.cell (by exact h2),c.cell (by exact h2),c.cell (by exact h2)];exact e i d⟩
theorem Dw{B:Nat}(h:∀i,i<is.length->(is.getD i C_).le B)(i:Nat):(is.getD i C_).le B:=by
 rcases P7 i is.length with a|a
 ·exact h i a
 have e:is.getD i C_=C_:=by simp[List.getD,Mc a]
 rw[e];exact⟨I4 _,I4 _,I4 _⟩
theorem zU:(prog.info? 68).map (λi=>(i.zero,i.size,i.bytes))=some (some (.agg #[.string ⟨#[]⟩,.string ⟨#[]⟩,.string ⟨#[]⟩]),3,48):=Y0
end
def z_(x:M3):List UInt8:=[109,97,107,101,32]++Ad x++[10]
theorem a1k(s:BY)(w:World)(hs:s.size<=1048700):
 Calls prog 148 #[.string s,.int .i64 3] w λe w'=>(∃g y,e=.returned (.tuple #[.slice (some ⟨g,0,none⟩) 3 y,.string (Y2 (d_ s.data.toList 3))])/\w.heap.size<=g/\qc w' g (H_ s.data.toList 3))/\Bw w w':=by
 obtain⟨B,H,E,D,C⟩:=info_parts info9;have hlen:s.data.toList.length=s.size:=O4
 go_in
 go_wp2;go_loopw[0,6,7] (λK v i wr=>∃(m:Nat)(t:ByteArray)(ss:List (List UInt8)),m<=3/\i=.int .i64 m/\K=.string t/\wr.ownsRow w.heap.size 9 1 v m (ru ss)/\Hid (t=Y2 (d_ s.data.toList m)/\ss=H_ s.data.toList m)/\Below w.heap.size w wr/\w.heap.size+1<=wr.heap.size) (λ_ _ i _=>3-(RowKit.intOf i).toNat);exact⟨0,s,[],I4 _,rfl,rfl,Iu _ #[] 0 Y8 (I4 _) rfl,⟨rfl,rfl⟩,P6,O4⟩;obtain⟨m,t,ss,hm,rfl,rfl,a,hrel,o,hz⟩:=hrel;by_cases hlt:m<3;rotate_left
 ·obtain rfl:m=3:=O0;obtain⟨rfl,rfl⟩:=hrel.out;clear hrel;obtain⟨g,y,L⟩:=Ik a O0;subst L;go_wp2;go_ret2;exact⟨⟨g,y,rfl,(a.lt g rfl).1,Eh a rfl⟩,o⟩
 obtain⟨hT,rfl⟩:=hrel.out;have hts:t.size<=1048700:=by rw[hT,Y4];have:=Qi s.data.toList m;omega
 have I:t.data.toList=d_ s.data.toList m:=by rw[hT];simp[Y2]
 have p:=U0 I;have a6j:t.data.toList.length=t.size:=O4;clear hT I;clear hrel;go_wp2;go_loop[8] (λn=>∃k:Nat,k<=t.size/\n=.int .i64 k/\Hid ((t.data.toList.take k).all (· !=32)=true)) (λn=>t.size-(RowKit.intOf n).toNat);exact⟨0,I4 _,rfl,rfl⟩;obtain⟨k,hk,rfl,ha⟩:=hrel;by_cases F:k<t.size;rotate_left
 ·obtain⟨d,c⟩:=Pm (l:=t.data.toList) ha.out O0 (.inl O0);have z:Hid (t.extract 0 k=Y2 (O1 t.data.toList)):=yc (by rw[Ib,d];rfl);have A:Hid (t.extract k t.size=Y2 (Y1 t.data.toList)):=yc (by rw[Ib,c,p_ O0,Yq O0,Yq O0]);clear d c
  go_wp2_with(at_builtin;refine wpList_append_own _ rfl _ _ 22 rfl w.heap.size 9 B (.string ⟨#[]⟩) 1 16 underlying22 H E D C rfl J6 _ _ _ rfl (a.alloc _) ⟨wr.heap.size,0,none⟩ 1 1 [_] rfl rfl (cell_one_new _ _ _) (by intro u f;simp at f;subst f;rfl) (by unfold maxLen;omega) O0 X7 ?_;intro v' J q h _)
  go_roundw
  ·have x:=(o.alloc o.size _).grown h X7 (λj r=>(a.lt j r).1);refine⟨m+1,_,H_ s.data.toList (m+1),O0,by go_num,rfl,?_,⟨by rw[A.out,p.out];rfl,rfl⟩,x,by have:=h.size;simp at this;omega⟩;rw[Yj,Zf,<- p.out,<- z.out];exact q
  exact P9
 have a6S:(k:Int)<(t.size:Int):=O0;by_cases b:t[k]=32
 ·have e1:((t[k].toNat:Int) !=32)=false:=by rw[b];rfl
  obtain⟨d,c⟩:=Pm (l:=t.data.toList) ha.out O0 (.inr (by simp[F];exact b));have z:Hid (t.extract 0 k=Y2 (O1 t.data.toList)):=yc (by rw[Ib,d];rfl);have A:Hid (t.extract (k+1) t.size=Y2 (Y1 t.data.toList)):=yc (by rw[Ib,c,p_ O0]);clear b d c
  go_wp2_with(at_builtin;refine wpList_append_own _ rfl _ _ 22 rfl w.heap.size 9 B (.string ⟨#[]⟩) 1 16 underlying22 H E D C rfl J6 _ _ _ rfl (a.alloc _) ⟨wr.heap.size,0,none⟩ 1 1 [_] rfl rfl (cell_one_new _ _ _) (by intro u f;simp at f;subst f;rfl) (by unfold maxLen;omega) O0 X7 ?_;intro v' J q h _)
  go_roundw
  ·have x:=(o.alloc o.size _).grown h X7 (λj r=>(a.lt j r).1);refine⟨m+1,_,H_ s.data.toList (m+1),O0,by go_num,rfl,?_,⟨by rw[A.out,p.out];rfl,rfl⟩,x,by have:=h.size;simp at this;omega⟩;rw[Yj,Zf,<- p.out,<- z.out];exact q
  exact P9
 have e1:((t[k].toNat:Int) !=32)=true:=by
  simp only[Qr];intro e;exact b (Zh.1 (by have:t[k].toNat=32:=O0;rw[this];rfl))
 have N:Hid ((t.data.toList.take (k+1)).all (· !=32)=true):=by
  rw[take_snoc t k F,Dp,ha.out];simp[Hid,b]
 clear b;go_wp2
 go_round
 exact⟨k+1,O0,by go_num,N⟩;exact P9
end Go.Proofs.YtbgdfcmeheaiiaaGreatDoor.G
namespace Go.Proofs.YtbgdfcmeheaiiaaGreatDoor.G
open Proofs.Tryz Go.RowKit
open T (Na)
section
variable{is js ms:List M3}{base i k:Nat}{x y:M3}{b s:BY}{R S a l q r t:List UInt8}
def stepM(ms:List M3)(k:Nat):Bool:=Xe (ms.getD k C_)&&(decide (k=0)||Op.bytesLess (ms.getD (k-1) C_).nm.toList (ms.getD k C_).nm.toList)
def Dc(ms:List M3):Bool:=decide (ms.length<=30)&&(List.range ms.length).all (stepM ms)
theorem Ti(ms:List M3):Dc ms=true↔ms.length<=30/\∀k,k<ms.length->stepM ms k=true:=by simp[Dc]
def Ci(ms:List M3):List UInt8:=if Dc ms=true/\(ms.flatMap z_).length<=300 then ms.flatMap z_ else []
theorem eu(h:k<ms.length)(a:stepM ms k=false):Dc ms=false:=by
 cases hp:Dc ms
 ·rfl
 have:=((Ti ms).1 hp).2 k h;rw[a]at this;cases this
theorem XP(h:k<ms.length)(a:stepM ms k=false):Ci ms=[]:=by
 unfold Ci;rw[if_neg (by simp[eu h a])]
theorem AO(h:30<ms.length):Ci ms=[]:=by
 unfold Ci;rw[if_neg (by rw[Ti];omega)]
theorem Qz(h:Xe x=true):x.nm.size<=20/\x.tl.size<=20/\x.ar.size<=300:=by
 simp[Xe,Y5]at h;exact⟨h.1.1.1.2,h.1.2.1.2,O0⟩
theorem Le(h:s.size<=300):(Y2 (J5 s.data.toList)).size<=902:=by
 have:=yN s.data.toList;have e:s.data.toList.length=s.size:=O4;rw[Y4];omega
theorem step_ok(h:stepM ms k=true):Xe (ms.getD k C_)=true:=by
 unfold stepM at h;cases hx:Xe (ms.getD k C_)
 ·rw[hx]at h;cases h
 rfl
theorem TT(h:Xe x=true):(z_ x).length<=950:=by
 obtain⟨h1,h2,b⟩:=Qz h;have a:=Le b;rw[Y4]at a;have e1:x.nm.data.toList.length=x.nm.size:=O4;have c:x.tl.data.toList.length=x.tl.size:=O4;simp only[z_,Ad,L9,x_,ve,e1,c];omega
theorem pz(a:k<ms.length):(ms.take (k+1)).flatMap z_=(ms.take k).flatMap z_++z_ (ms.getD k C_):=by
 have e:ms.getD k C_=ms[k]:=by simp[a]
 rw[Bz a,Vq,e];simp
theorem tN:∀k,k<=ms.length->(∀j,j<k->stepM ms j=true)->((ms.take k).flatMap z_).length<=950*k:=by
 intro k
 induction k with
 | zero=>intro _ _;simp
 | succ k ih=>
  intro hk hd;rw[pz O0,L9];have:=ih O0 (λj hj=>hd j O0);have:=TT (step_ok (hd k O0));omega
theorem aS{a:BY}(h:a=b):Value.string a=.string b:=by rw[h]
theorem pV(l:List UInt8)(x:M3):Y2 l++(⟨#[109,97,107,101,32]⟩:BY)++x.nm++(⟨#[32]⟩:BY)++x.tl++(⟨#[32]⟩:BY)++Y2 (J5 x.ar.data.toList)++(⟨#[10]⟩:BY)=Y2 (l++z_ x):=by
 apply mg;simp[Y2,z_,Ad]
theorem a3o(a:OA)(cap:Nat)(is:List M3)(w:World)(E:∀i,(is.getD i C_).le 1048576)(hl:is.length<=1048576)(hat:Ql w a is):
 Calls prog 270 #[.slice a is.length cap] w λe w'=>e=.returned (.string (Y2 (Ci is)))/\Bw w w':=by
 obtain⟨b,off,hc⟩:=Xi hat;have p:=U0 hc;by_cases hbig:30<is.length
 ·go_in
  go_wp2;go_ret;exact⟨Xx (by rw[AO hbig];rfl),J4 _ _⟩
 go_in
 go_wp2;go_loopw[3,4] (λo i wr=>∃(k:Nat),k<=is.length/\i=.int .i64 k/\o=.string (Y2 ((is.take k).flatMap z_))/\Below w.heap.size w wr/\Hid (∀j,j<k->stepM is j=true)) (λ_ i _=>is.length-(RowKit.intOf i).toNat);exact⟨0,I4 _,rfl,rfl,J4 _ _,λj h=>absurd h (U7 _)⟩;obtain⟨k,hk,rfl,rfl,d,F⟩:=hrel;have hL:(Y2 ((is.take k).flatMap z_)).size<=950*30:=by
  have:=tN k hk F.out;rw[Y4];omega
 by_cases m:k<is.length;rotate_left
 ·have hp:=(Ti is).2 ⟨O0,λj hj=>F.out j O0⟩;have J:Hid ((is.take k).flatMap z_=is.flatMap z_):=by rw[p_ O0];rfl
  have U:Hid (Ci is=if (is.flatMap z_).length<=300 then is.flatMap z_ else []):=by unfold Ci;simp only[hp,true_and];trivial
  rw[J.out]at hL ⊢;generalize is.flatMap z_=l at*;by_cases Q:300<(Y2 l).size
  ·go_wp2;go_ret;exact⟨Xx (by rw[U.out,Y7 (by rw[Y4]at Q;omega)];rfl),d⟩
  go_wp2;go_ret;exact⟨Xx (by rw[U.out,D8 (by rw[Y4]at Q;omega)]),d⟩
 obtain⟨ha,r,A⟩:=Zb p.out m;subst ha;have X:=U0 d;have g0:=(d.cell (by exact r)).trans (A k m).1;have g1:=(d.cell (by exact r)).trans (A k m).2.1;have g2:=(d.cell (by exact r)).trans (A k m).2.2;have N:Hid ((is.getD k C_).le 1048700):=⟨Q8 (E k).1 O0,Q8 (E k).2.1 O0,Q8 (E k).2.2 O0⟩;have J:=U0 (pz m);generalize (is.take k).flatMap z_=l at*;generalize hx0:is.getD k C_=x at*
 go_wp2_with fail
 have HBW:Hid (Bw w (wr.alloc (.cells #[vS x.nm,vS x.tl,vS x.ar] 68))):=X.out.alloc X.out.size _;have v:=U0 (U3 wr [vS x.nm,vS x.tl,vS x.ar] 68);have bW:Bw wr (wr.alloc (.cells #[vS x.nm,vS x.tl,vS x.ar] 68)):=P6;generalize wr.alloc (.cells #[vS x.nm,vS x.tl,vS x.ar] 68)=W at*;have n:=v.out.lt;have V:Hid (∀u,Bw W u->u.cell? ⟨wr.heap.size,0,none⟩=some (vS x.nm)/\u.cell? ⟨wr.heap.size,1,none⟩=some (vS x.tl)/\u.cell? ⟨wr.heap.size,2,none⟩=some (vS x.ar)):=λu g=>⟨((v.out.below g n).cell 0),((v.out.below g n).cell 1),((v.out.below g n).cell 2)⟩
 go_cut[36] from 15 to 36 (λs Y=>s=.bool (!stepM is k)/\Hid (Bw W Y))
 case first=>
  obtain⟨f,o1,y,t,G3,HY⟩:∃(f o1:Nat)(y:M3),f<W.heap.size/\W.cell? ⟨f,o1,none⟩=some (vS y.nm)/\(k=0/\stepM is k=Xe x\/∃q,q+1=k/\f=b/\o1=off+q*3/\stepM is k=(Xe x&&Op.bytesLess y.nm.toList x.nm.toList)):=by
   rcases Ku k with h0|h0
   ·exact⟨_,_,x,n,v.out.cell 0,.inl ⟨h0,by subst h0;rw[<- hx0];simp[stepM]⟩⟩
   obtain⟨q,O⟩:∃q,q+1=k:=⟨k-1,O0⟩;have P:=G9 r d.size;refine⟨b,off+q*3,is.getD q C_,Nat.lt_trans P n,(bW.cell P).trans ((d.cell (by exact r)).trans (A q O0).1),.inr ⟨q,O,rfl,rfl,?_⟩⟩;have e1:decide (k=0)=false:=y9 O0;have R:k-1=q:=O0;unfold stepM;rw[e1,R,hx0];rfl
  have p:Hid (∀u,Bw W u->u.cell? ⟨wr.heap.size,0,none⟩=some (vS x.nm)/\u.cell? ⟨wr.heap.size,1,none⟩=some (vS x.tl)/\u.cell? ⟨wr.heap.size,2,none⟩=some (vS x.ar)/\u.cell? ⟨f,o1,none⟩=some (vS y.nm)):=λu g=>by
   obtain⟨h1,h2,h3⟩:=V.out u g;exact⟨h1,h2,h3,(g.cell t).trans G3⟩
  rcases HY with⟨rfl,c⟩|⟨q,O,rfl,rfl,c⟩
  ·clear G3;cases hx:Xe x
   all_goals
    rw[hx]at c
    replace c:=U0 c
    refine wp_region_held_drew (S:=λu=>u.cell? ⟨wr.heap.size,0,none⟩=some (vS x.nm)/\u.cell? ⟨wr.heap.size,1,none⟩=some (vS x.tl)/\u.cell? ⟨wr.heap.size,2,none⟩=some (vS x.ar)/\u.cell? ⟨f,o1,none⟩=some (vS y.nm)) Y0 (p _ (J4 _ _).drew) λhH=>?_;refine sq ?_;refine rq 1 λK H=>?_;go_simp;refine(a2M hx _ N).mono ?_;rintro e C⟨rfl,t⟩;have z:Bw W C:=((J4 _ _).drew).trans t;go_simp;refine H _ _ (p _ z) λhH=>?_
    iterate 16 refine sq ?_
    refine wdn ?_
    go_wp2_with fail
    go_meet
    exact⟨by rw[c.out];rfl,z⟩
  have hk0:0<k:=O0;have hm0:(0:Int)<(k:Int):=O0;have hm1:=m_ hm0;have hwr:IntKind.i64.wrap ((k:Int)-1)=(q:Int):=by rw[show(k:Int)-1=(q:Int) by omega];exact Na q O0
  have hql:(q:Int)<(is.length:Int):=O0;cases hx:Xe x
  all_goals
   cases hy:Op.bytesLess y.nm.toList x.nm.toList
   all_goals
    rw[hx,hy]at c
    replace c:=U0 c
    refine wp_region_held_drew (S:=λu=>u.cell? ⟨wr.heap.size,0,none⟩=some (vS x.nm)/\u.cell? ⟨wr.heap.size,1,none⟩=some (vS x.tl)/\u.cell? ⟨wr.heap.size,2,none⟩=some (vS x.ar)/\u.cell? ⟨f,off+q*3,none⟩=some (vS y.nm)) Y0 (p _ (J4 _ _).drew) λhH=>?_;refine sq ?_;refine rq 1 λK H=>?_;go_simp;refine(a2M hx _ N).mono ?_;rintro e C⟨rfl,t⟩;have z:Bw W C:=((J4 _ _).drew).trans t;go_simp;refine H _ _ (p _ z) λhH=>?_
    iterate 16 refine sq ?_
    refine wdn ?_
    go_wp2_with fail
    go_meet
    exact⟨by rw[c.out];rfl,z⟩
 obtain⟨rfl,L⟩:=hcut;have I:=P5 HBW.out L.out;obtain⟨p0,p1,p2⟩:=V.out _ L.out;have D:=G9 n L.out.size;cases hst:stepM is k
 ·have HF:=U0 (XP m hst);go_wp2;go_ret;exact⟨Xx (by rw[HF.out];rfl),I⟩
 have hx:=hx0▸step_ok hst;have c:=U0 hst;have hd':Hid (∀j,j<k+1->stepM is j=true):=λj hj=>by
  rcases P7 j k with h|h
  ·exact F j h
  obtain rfl:j=k:=O0;exact c
 obtain⟨j1,j2,j3⟩:=Qz hx;have s3:=Le j3;have k0:¬9223372036854775807<(Y2 l).size+5:=O0;have k1:¬9223372036854775807<(Y2 l).size+5+x.nm.size:=O0;have k2:¬9223372036854775807<(Y2 l).size+5+x.nm.size+1:=O0;have k2':¬9223372036854775807<=(Y2 l).size+5+x.nm.size:=O0;have k3:¬9223372036854775807<(Y2 l).size+5+x.nm.size+1+x.tl.size:=O0;have k4:¬9223372036854775807<(Y2 l).size+5+x.nm.size+1+x.tl.size+1:=O0;have k4':¬9223372036854775807<=(Y2 l).size+5+x.nm.size+1+x.tl.size:=O0;have k5:¬9223372036854775807<(Y2 l).size+5+x.nm.size+1+x.tl.size+1+(Y2 (J5 x.ar.data.toList)).size:=O0;have k6:¬9223372036854775807<(Y2 l).size+5+x.nm.size+1+x.tl.size+1+(Y2 (J5 x.ar.data.toList)).size+1:=O0;have k6':¬9223372036854775807<=(Y2 l).size+5+x.nm.size+1+x.tl.size+1+(Y2 (J5 x.ar.data.toList)).size:=O0;have a6T:x.ar.size<=1048700:=O0
 go_wp2_with fail
 go_region_held3 (λu=>u.cell? ⟨wr.heap.size,0,none⟩=some (vS x.nm)/\u.cell? ⟨wr.heap.size,1,none⟩=some (vS x.tl)/\u.cell? ⟨wr.heap.size,2,none⟩=some (vS x.ar)) (go_keep) (first|(go_at_call 101;refine(eH x.ar _ a6T).mono ?_;rintro e Z⟨rfl,B⟩;have HB2:Hid (Bw w Z):=I.trans (((J4 _ _).drew.trans B).mono I.size);have e0:=(B.cell (by simpa using D)).trans p0;have e1:=(B.cell (by simpa using D)).trans p1;have R:=(B.cell (by simpa using D)).trans p2))
 all_goals go_wp2
 all_goals go_roundw
 all_goals first
  | exact⟨k+1,O0,by go_num,aS (by rw[J.out];exact pV l x),HB2.out,hd'⟩
  | (exact P9)
def Yf(x:M3):List UInt8:=[109,97,107,101]++32::Ad x
theorem Si(x:M3):z_ x=Yf x++[10]:=rfl
theorem Bq(h:Xe x=true):(10:UInt8)∉Yf x:=by
 obtain⟨h1,h2,_⟩:=Ah h;unfold Yf;rw[Nc];simp only[Cf,je,lm];refine⟨J6,J6,(N_ h1).2,J6,(N_ h2).2,J6,Zi _⟩
theorem vP(hx:Xe x=true)(a:Xe y=true)(h:Yf x=Yf y):x=y:=by
 unfold Yf at h;exact tC hx a (by simpa using h)
theorem kF(_hy:Xe y=true):l=Yf y↔O1 l=[109,97,107,101]/\Y1 l=Ad y:=by
 constructor
 ·rintro rfl;exact N7 J6
 rintro⟨h1,h2⟩;by_cases hm:(32:UInt8)∈l
 ·have:=(gm hm).1;rw[h1,h2]at this;exact this
 rw[(Oi hm).2]at h2;exact absurd h2.symm (VL y)
theorem jT(hx:Xe x=true)(a:Xe y=true)(h:z_ x++r=z_ y++q):x=y/\r=q:=by
 rw[Si,Si,Jq,Jq]at h;obtain⟨h1,h2⟩:=IL (Bq hx) (Bq a) h;exact⟨vP hx a h1,h2⟩
theorem yF(x:M3):z_ x≠[]:=by rw[Si];simp
theorem SC(b:is.all Xe=true)(a:js.all Xe=true)(h:is.flatMap z_++R=js.flatMap z_):∃r,R=r.flatMap z_/\js=is++r:=by
 induction is generalizing js with
 | nil=>exact⟨js,by simpa using h,rfl⟩
 | cons x is ih=>
  simp only[qm,X_]at b
  cases js with
  | nil=>
   have:=yF x;simp at h;exact absurd h.1 this
  | cons y js=>
   simp only[qm,X_]at a;simp only[Ag,Jq]at h;obtain⟨rfl,h2⟩:=jT b.1 a.1 h;obtain⟨r,hr,hl⟩:=ih b.2 a.2 h2;exact⟨r,hr,by rw[hl];rfl⟩
theorem yC(b:is.all Xe=true)(a:js.all Xe=true)(h:is.flatMap z_=js.flatMap z_):is=js:=by
 obtain⟨r,hr,hl⟩:=SC (R:=[]) b a (by simpa using h)
 cases r with
 | nil=>simpa using hl.symm
 | cons y r=>
  have:=yF y;simp at hr;exact absurd hr.1 this
theorem iH(is:List M3):is.length<=(is.flatMap z_).length:=by
 induction is with
 | nil=>simp
 | cons x r ih=>
  have:1<=(z_ x).length:=Us.2 (yF x);simp only[Ag,L9,x_];omega
theorem Ij(h:Dc ms=true):ms.all Xe=true:=by
 rw[Oo];intro x hx;obtain⟨k,a,e⟩:=Ce hx;have:=step_ok (((Ti ms).1 h).2 k a);rw[List.getD,D9 a]at this;rw[<- e];exact this
def n_(l:List UInt8)(is:List M3)(ok:Bool):Prop:=(ok=true->Dc is=true/\is.flatMap z_=l/\l.length<=300)/\(ok=false->is=[]/\∀js,Dc js=true->js.flatMap z_=l->300<l.length)
theorem uJ{a b:Bool}(h:n_ l is a)(k:n_ l js b):is=js/\a=b:=by
 cases a<;>cases b
 ·exact⟨(h.2 rfl).1.trans (k.2 rfl).1.symm,rfl⟩
 ·obtain⟨d,c,e⟩:=k.1 rfl;have:=(h.2 rfl).2 js d c;omega
 ·obtain⟨d,c,e⟩:=h.1 rfl;have:=(k.2 rfl).2 is d c;omega
 obtain⟨d,c,e⟩:=k.1 rfl;obtain⟨h1,h2,h3⟩:=h.1 rfl;exact⟨yC (Ij h1) (Ij d) (h2.trans c.symm),rfl⟩
def Way(l:List UInt8)(is:List M3)(r:List UInt8):Prop:=l=is.flatMap z_++r/\is.all Xe=true
theorem YM(l:List UInt8):Way l [] l:=⟨rfl,rfl⟩
theorem wU(h:Way l is (a++10::r))(hx:Xe x=true/\a=Yf x):Way l (is++[x]) r:=by
 refine⟨?_,by rw[Dp,h.2];simp[hx.1]⟩;rw[h.1,Vq,hx.2];simp[Si]
theorem WC(h:Way l is r)(hr:r≠[])(d:∀y q,Xe y=true->r≠Yf y++10::q):n_ l [] false:=by
 refine⟨(λh=>by cases h),λ_=>⟨rfl,λjs b e=>?_⟩⟩;exfalso;obtain⟨q,a,hl⟩:=SC h.2 (Ij b) (h.1.symm.trans e.symm)
 cases q with
 | nil=>exact hr a
 | cons y q=>
  have c:Xe y=true:=by
   have:=(Ij b);rw[hl,Dp,qm]at this;simp only[X_]at this;exact this.2.1
  apply d y (q.flatMap z_) c;rw[a,Ag,Si,Jq];rfl
theorem yV(h:Way l is [])(c:l.length<=300):(Dc is=true->n_ l is true)/\(Dc is=false->n_ l [] false):=by
 have e:l=is.flatMap z_:=by simpa using h.1
 refine⟨λa=>⟨λ_=>⟨a,e.symm,c⟩,(λh=>by cases h)⟩,λa=>⟨(λh=>by cases h),λ_=>⟨rfl,λjs b d=>?_⟩⟩⟩;have:=yC (Ij b) h.2 (d.trans e);rw[this,a]at b;cases b
theorem vC(h:300<l.length):n_ l [] false:=⟨(λh=>by cases h),λ_=>⟨rfl,λ_ _ _=>h⟩⟩
theorem SK(h:ms.all Xe=true)(a:i<ms.length):Xe (ms.getD i C_)=true:=by
 rw[List.getD,D9 a];exact Oo.1 h _ (ji a)
theorem ZT(h:Xe x=true):x.le 300:=by
 obtain⟨h1,h2,a⟩:=Qz h;exact⟨O0,O0,a⟩
theorem sV(h:Way l is r):is.length+r.length<=l.length/\∀i,(is.getD i C_).le 300:=by
 have h1:=iH is;have h2:=U6 List.length h.1;rw[L9]at h2;exact⟨O0,Dw λi a=>ZT (SK h.2 a)⟩
def Q_(is:List M3):List Value:=is.flatMap λx=>[.string x.nm,.string x.tl,.string x.ar]
theorem Vt(is:List M3)(x:M3):Q_ (is++[x])=Q_ is++[.string x.nm,.string x.tl,.string x.ar]:=by simp[Q_]
theorem MG(is:List M3)(i:Nat)(h:i<is.length):(Q_ is)[i*3]?=some (.string (is.getD i C_).nm)/\(Q_ is)[i*3+1]?=some (.string (is.getD i C_).tl)/\(Q_ is)[i*3+2]?=some (.string (is.getD i C_).ar):=by
 induction is generalizing i with
 | nil=>simp at h
 | cons x r ih=>
  cases i with
  | zero=>exact⟨rfl,rfl,rfl⟩
  | succ i=>
   have:=ih i (by simpa using h);have e:∀j,(Q_ (x::r))[(i+1)*3+j]?=(Q_ r)[i*3+j]?:=λj=>by
    show([Value.string x.nm,vS x.tl,vS x.ar]++Q_ r)[(i+1)*3+j]?=_;rw[rf X7]
    congr 1
    simp;omega
   have e0:=e 0;simp only[Iq]at e0;rw[e0,e 1,e 2];exact this
theorem Qp{w:World}{v:Value}(h:w.ownsRow base 68 3 v is.length (Q_ is)):∃a c,v=.slice a is.length c/\Ql w a is:=by
 have b:=h;rcases h.2 with⟨hv,h0⟩|⟨g,c,cur,hv,hg,e,_⟩
 ·exact⟨none,0,by rw[hv,h0],.inl (La.1 h0)⟩
 refine⟨some ⟨g,0,none⟩,c,hv,?_⟩;subst hv;refine .inr ⟨g,0,rfl,Xf e,λi d=>?_⟩;obtain⟨e0,e1,f⟩:=MG is i d;rw[l7,b.cellAt _ O0,b.cellAt _ O0,b.cellAt _ O0];exact⟨e0,e1,f⟩
theorem ZL(js:List M3)(a:js.all Xe=true)(o:List (List UInt8)):(js.flatMap z_).foldl (cst 10) (o,[])=(o++js.map Yf,[]):=by
 induction js generalizing o with
 | nil=>simp
 | cons x r ih=>
  simp only[qm,X_]at a;rw[Ag,PE,Si,qG _ _ (Bq a.1)];simp only[Qb];rw[ih a.2];simp
theorem QC(js:List M3)(a:js.all Xe=true):L8 10 (js.flatMap z_)=js.map Yf++[[]]:=by
 unfold L8 Z7;rw[ZL js a];simp
def Parsed(l:List UInt8)(x:M3):Prop:=∀y,Xe y=true->l=Yf y->x=y
theorem parsed(ht:∀q,d_ l 3=J5 q->t=q):Parsed l ⟨Y2 (O1 (d_ l 1)),Y2 (O1 (d_ l 2)),Y2 t⟩:=by
 intro y f e;obtain⟨h1,h2,_⟩:=Ah f;have a:d_ l 1=Ad y:=((kF f).1 e).2;rw[Nc]at a;have c:=N7 (r:=y.tl.data.toList++32::J5 y.ar.data.toList) (N_ h1).1;have d:d_ l 2=y.tl.data.toList++32::J5 y.ar.data.toList:=by show Y1 (d_ l 1)=_;rw[a];exact c.2
 have b:=N7 (r:=J5 y.ar.data.toList) (N_ h2).1;have g:d_ l 3=J5 y.ar.data.toList:=by show Y1 (d_ l 2)=_;rw[d];exact b.2
 have:=ht _ g;subst this;rw[a,d,c.1,b.1];rfl
def oH(S:List UInt8)(is:List M3)(k:Nat):Prop:=∀js:List M3,js.all Xe=true->js.flatMap z_=S->is=js.take k
theorem WG(S:List UInt8):oH S [] 0:=λ_ _ _=>rfl
theorem qJ(h:oH S is k)(d:k+1<(L8 10 S).length)(b:Parsed ((L8 10 S).getD k []) x):oH S (is++[x]) (k+1):=by
 intro js c e;have h1:=h js c e;have hc:=QC js c;rw[e]at hc;rw[hc]at d b;simp only[L9,Je,x_,ve]at d;have a:k<js.length:=O0;have g:(js.map Yf++[[]]).getD k []=Yf js[k]:=by
  simp only[List.getD,R_ (show k<(js.map Yf).length by simpa using a),Az,D9 a];rfl
 rw[g]at b;have f:=(Oo.1 c) _ (ji a);rw[h1,b js[k] f rfl,<- Bz a]
theorem uM(h:oH S is k)(hkl:is.length=k)(a:k+1=(L8 10 S).length)(d:S.length<=300):(Ci is=S->n_ S is true)/\(Ci is≠S->n_ S [] false):=by
 constructor
 ·intro h2;unfold Ci at h2;by_cases hc:Dc is=true/\(is.flatMap z_).length<=300
  ·rw[D8 hc]at h2;exact⟨λ_=>⟨hc.1,h2,d⟩,(λh=>by cases h)⟩
  rw[Y7 hc]at h2;subst h2;have:k=0:=by simpa[L8,Z7]using a
  have:is=[]:=La.1 O0;subst this;exact absurd ⟨rfl,O4⟩ hc
 intro f;refine⟨(λh=>by cases h),λ_=>⟨rfl,λjs b e=>?_⟩⟩;exfalso;apply f;have c:=Ij b;have h1:=h js c e;have hc:=QC js c;rw[e]at hc;rw[hc]at a;simp only[L9,Je,x_,ve]at a;rw[p_ O0]at h1;subst h1;unfold Ci;rw[D8 ⟨b,by rw[e];exact d⟩,e]
def a2r(is:List M3)(e:Ending):Prop:=
 (Dc is=true/\e=.returned .nilIface)\/(Dc is=false/\∃n ty va,e=.returned (.iface 318 (.agg #[.int .i64 n,.iface ty va])))
theorem a3v(a:OA)(W:Nat)(is:List M3)(w:World)(p:∀i,(is.getD i C_).le 1048576)(hl:is.length<=1048576)(P:Ql w a is)(J I t2:TypeId)(H F v2:Value)(z:w.cell? ⟨6,0,none⟩=some (.iface J H))(D:w.cell? ⟨7,0,none⟩=some (.iface I F))(v:w.cell? ⟨8,0,none⟩=some (.iface t2 v2)):
 Calls prog 256 #[.slice a is.length W] w λe w'=>a2r is e/\Bw w w':=by
 have h3z:8<w.heap.size:=by
  rcases P7 8 w.heap.size with h|h
  ·exact h
  simp[World.cell?,Kq h]at v
 obtain⟨b,off,hc⟩:=Xi P;have Y:=U0 hc
 go_in
 go_wp2;go_loopw[7] (λi wr=>∃(k:Nat),k<=is.length/\k<=30/\i=.int .i64 k/\Below w.heap.size w wr/\Hid (∀j,j<k->stepM is j=true)) (λi _=>is.length-(RowKit.intOf i).toNat);exact⟨0,I4 _,I4 _,rfl,J4 _ _,λj h=>absurd h (U7 _)⟩;obtain⟨k,hk,a7v,rfl,f,s⟩:=hrel;by_cases l:k<is.length;rotate_left
 ·have r:Hid (∀_:is.length<=30,Dc is=true):=λh=>(Ti is).2 ⟨h,λj C=>s.out j O0⟩;have Q:Hid (is.length<=30):=by show is.length<=30;omega
  go_wp2;go_ret;exact⟨.inl ⟨r Q,rfl⟩,f⟩
 obtain⟨ha,n,o⟩:=Zb Y.out l;subst ha;have g:=U0 f;have g0:=(f.cell (by exact n)).trans (o k l).1;have g1:=(f.cell (by exact n)).trans (o k l).2.1;have g2:=(f.cell (by exact n)).trans (o k l).2.2;have B:Hid ((is.getD k C_).le 1048700):=⟨Q8 (p k).1 O0,Q8 (p k).2.1 O0,Q8 (p k).2.2 O0⟩;have O:=G9 n f.size;by_cases R:k=30
 ·have X:Hid (Dc is=false):=by
   cases r:Dc is
   ·rfl
   have:=((Ti is).1 r).1;omega
  subst R;have A:=(Ei wr (.cells #[vS (is.getD 30 C_).nm,vS (is.getD 30 C_).tl,vS (is.getD 30 C_).ar] 68) ⟨6,0,none⟩ (G9 (by show 6<w.heap.size;omega) f.size)).trans ((f.cell (by show 6<w.heap.size;omega)).trans z);generalize is.getD 30 C_=x at*;go_wp2;go_ret;exact⟨.inr ⟨X,_,_,_,rfl⟩,g.out.alloc g.out.size _⟩
 rcases Ku k with h0|h0
 ·subst h0;have c:Hid (stepM is 0=Xe (is.getD 0 C_)):=by simp[stepM,Hid]
  simp only[Ov,Iq]at g0 g1 g2;generalize is.getD 0 C_=x at*
  go_wp2_with fail
  refine(KT x _ B).mono ?_;rintro e E⟨rfl,m⟩;have d:=U0 ((g.out.alloc g.out.size _).trans (m.mono (by simp;exact DJ g.out.size)));have m0:=(m.cell O4).trans (show(wr.alloc (.cells #[vS x.nm,vS x.tl,vS x.ar] 68)).cell? ⟨wr.heap.size,0,none⟩=some (vS x.nm) by simp);have A:=(d.out.cell (by show 6<w.heap.size;omega)).trans z;have L:=(d.out.cell (by show 7<w.heap.size;omega)).trans D;have K:=(d.out.cell (by show 8<w.heap.size;omega)).trans v;cases hx:Xe x
  ·rw[hx]at c;go_wp2;go_ret;exact⟨.inr ⟨eu l c,_,_,_,rfl⟩,d⟩
  go_wp2_with fail
  refine wp_region_held_drew (S:=(λu=>u.cell? ⟨wr.heap.size,0,none⟩=some (vS x.nm))) Y0 ?_ λhH=>?_
  · ((try dsimp only);go_keep)
  iterate 14 refine sq ?_
  refine wpAnyH_done Y0 ?_ _;rw[hx]at c;have t:Hid (∀j,j<0+1->stepM is j=true):=λj C=>by
   rcases P7 j 0 with h|h
   ·exact s j h
   obtain rfl:j=0:=O0;exact c
  go_wp2;go_roundw;exact⟨0+1,O0,O0,by go_num,d.out.drew,t⟩;exact P9
 obtain⟨q,hq⟩:∃q,q+1=k:=⟨k-1,O0⟩;have U:=(f.cell (by exact n)).trans (o q O0).1;have c:Hid (stepM is k=(Xe (is.getD k C_)&&Op.bytesLess (is.getD q C_).nm.toList (is.getD k C_).nm.toList)):=by
  have e1:decide (k=0)=false:=y9 O0;have V:k-1=q:=O0;unfold stepM;rw[e1,V];rfl
 have N:(0:Int)<(k:Int):=O0;have hm1:=m_ N;generalize is.getD k C_=x at*;generalize is.getD q C_=y at*;have hwr:IntKind.i64.wrap ((k:Int)-1)=(q:Int):=by rw[show(k:Int)-1=(q:Int) by omega];exact Na q O0
 have hql:(q:Int)<(is.length:Int):=O0
 go_wp2_with fail
 refine(KT x _ B).mono ?_;rintro e E⟨rfl,m⟩;have d:=U0 ((g.out.alloc g.out.size _).trans (m.mono (by simp;exact DJ g.out.size)));have m0:=(m.cell O4).trans (show(wr.alloc (.cells #[vS x.nm,vS x.tl,vS x.ar] 68)).cell? ⟨wr.heap.size,0,none⟩=some (vS x.nm) by simp);have g3:=(m.cell X7).trans ((Ei _ _ ⟨b,off+q*3,none⟩ O).trans U);have A:=(d.out.cell (by show 6<w.heap.size;omega)).trans z;have L:=(d.out.cell (by show 7<w.heap.size;omega)).trans D;have K:=(d.out.cell (by show 8<w.heap.size;omega)).trans v;cases hx:Xe x
 ·have c:Hid (stepM is k=false):=by rw[c.out,hx];rfl
  go_wp2;go_ret;exact⟨.inr ⟨eu l c,_,_,_,rfl⟩,d⟩
 cases hy:Op.bytesLess y.nm.toList x.nm.toList
 ·go_wp2_with fail
  refine wp_region_held_drew (S:=(λu=>u.cell? ⟨wr.heap.size,0,none⟩=some (vS x.nm)/\u.cell? ⟨b,off+q*3,none⟩=some (vS y.nm))) Y0 ?_ λhH=>?_
  · ((try dsimp only);go_keep)
  iterate 14 refine sq ?_
  refine wpAnyH_done Y0 ?_ _;rw[hx,hy]at c;go_wp2;go_ret;exact⟨.inr ⟨eu l c,_,_,_,rfl⟩,d.out.drew⟩
 go_wp2_with fail
 refine wp_region_held_drew (S:=(λu=>u.cell? ⟨wr.heap.size,0,none⟩=some (vS x.nm)/\u.cell? ⟨b,off+q*3,none⟩=some (vS y.nm))) Y0 ?_ λhH=>?_
 · ((try dsimp only);go_keep)
 iterate 14 refine sq ?_
 refine wpAnyH_done Y0 ?_ _;rw[hx,hy]at c;have t:Hid (∀j,j<k+1->stepM is j=true):=λj C=>by
  rcases P7 j k with h|h
  ·exact s j h
  obtain rfl:j=k:=O0;exact c
 go_wp2;go_roundw;exact⟨k+1,O0,O0,by go_num,d.out.drew,t⟩;exact P9
end
end Go.Proofs.YtbgdfcmeheaiiaaGreatDoor.G
namespace Go.Proofs.YtbgdfcmeheaiiaaGreatDoor.G
open Proofs.Tryz Go.RowKit
open T (F2 P8 A_ Asc U5 X4 ig Na)
section
variable{w w':World}
structure iw(w:World):Prop where
 g0:∃t v,w.cell? ⟨6,0,none⟩=some (.iface t v)
 g1:∃t v,w.cell? ⟨7,0,none⟩=some (.iface t v)
 g2:∃t v,w.cell? ⟨8,0,none⟩=some (.iface t v)
 g6:w.cell? ⟨4,0,none⟩=some (.iface 435 (.agg #[.pointer (some ⟨14,218,none⟩)]))
theorem iw.pos(h:iw w):8<w.heap.size:=by
 obtain⟨t,v,a⟩:=h.g2;rcases P7 8 w.heap.size with h|h
 ·exact h
 simp[World.cell?,Kq h]at a
theorem iw.below(h:iw w)(a:Bw w w'):iw w':=by
 have hp:=h.pos;obtain⟨e,c,h0⟩:=h.g0;obtain⟨d,b,h1⟩:=h.g1;obtain⟨t2,v2,h2⟩:=h.g2;exact⟨⟨e,c,(a.cell (by show 6<w.heap.size;omega)).trans h0⟩,⟨d,b,(a.cell (by show 7<w.heap.size;omega)).trans h1⟩,⟨t2,v2,(a.cell (by show 8<w.heap.size;omega)).trans h2⟩,(a.cell (by show 4<w.heap.size;omega)).trans h.g6⟩
theorem YR(l:List UInt8)(w:World)(hs:l.length<=1048700)(hm:Oc w):
 Calls prog 229 #[.string (Y2 l),.string ⟨#[32]⟩] w λe w'=>(∃y,e=.returned (.tuple #[.string (Y2 (O1 l)),.string (Y2 (Y1 l)),.bool y]))/\Bw w w':=by
 obtain⟨_,m,hm⟩:=hm;refine(Tryz.strings_Cut (Y2 l) ⟨#[32]⟩ m w (by rw[Y4];omega) hm).mono ?_;rintro e w'⟨rfl,n,rfl⟩;refine⟨⟨(Lib.cut l [32]).2.2,?_⟩,below_drewN n⟩;rw[<- JI,<- JD];rfl
theorem a1c(l:List UInt8)(w:World)(hs:l.length<=1048700)(hm:Oc w):
 Calls prog 229 #[.string (Y2 l),.string ⟨#[10]⟩] w λe w'=>e=.returned (.tuple #[.string (Y2 (Lib.cut l [10]).1),.string (Y2 (Lib.cut l [10]).2.1),.bool (Lib.cut l [10]).2.2])/\Bw w w':=by
 obtain⟨_,m,hm⟩:=hm;refine(Tryz.strings_Cut (Y2 l) ⟨#[10]⟩ m w (by rw[Y4];omega) hm).mono ?_;rintro e w'⟨rfl,n,rfl⟩;exact⟨rfl,below_drewN n⟩
theorem a3T(s:BY)(w:World):
 Calls prog 254 #[.string s,.string ⟨#[10]⟩] w λe w'=>(∃n,e=.returned (.int .i64 n))/\w'=w:=by
 go_in
 go_wp2;rw[run_callFunc_extern func308 Y0 Y0 Y0 (e:=Extern.BytealgCount.count) Y0,Lib.run_countString];simp only[Result.andThen];rw[Oper.upon_value];go_wp2;go_ret;exact⟨⟨_,rfl⟩,rfl⟩
structure zn(w:World):Prop where
 va:iw w
 g3:∃t v,w.cell? ⟨1,0,none⟩=some (.iface t v)
 g4:∃t v,w.cell? ⟨2,0,none⟩=some (.iface t v)
 g5:∃t v,w.cell? ⟨3,0,none⟩=some (.iface t v)
 mx:Oc w
theorem zn.below(h:zn w)(a:Bw w w'):zn w':=by
 have hp:=h.va.pos;obtain⟨g,d,k⟩:=h.g3;obtain⟨f,c,j⟩:=h.g4;obtain⟨e,b,i⟩:=h.g5;exact⟨h.va.below a,⟨g,d,(a.cell (by show 1<w.heap.size;omega)).trans k⟩,⟨f,c,(a.cell (by show 2<w.heap.size;omega)).trans j⟩,⟨e,b,(a.cell (by show 3<w.heap.size;omega)).trans i⟩,H9 h.mx a⟩
def MX(w:World)(l:List UInt8)(e:Ending)(w':World):Prop:=∃(ms:List M3)(v er:Value),e=.returned (.tuple #[v,er])/\w'.ownsRow w.heap.size 68 3 v ms.length (Q_ ms)/\((er=.nilIface/\n_ l ms true)\/((∃n ty va,er=.iface 318 (.agg #[.int .i64 n,.iface ty va]))/\n_ l [] false))
theorem zy{l:List UInt8}(n:Int)(ty:TypeId)(va:Value)(h:n_ l [] false):MX w l (.returned (.tuple #[.slice none 0 0,.iface 318 (.agg #[.int .i64 n,.iface ty va])])) w':=⟨[],_,_,rfl,og _ _ _ _,.inr ⟨⟨n,ty,va,rfl⟩,h⟩⟩
theorem iM(s:BY)(w:World)(hs:s.size<=1048576)(a:300<s.size)(hv:zn w):
 Calls prog 190 #[.string s] w λe w'=>MX w s.data.toList e w'/\Bw w w':=by
 have b:Hid (n_ s.data.toList [] false):=vC (by simpa using a);obtain⟨t3,v3,g3⟩:=hv.g3
 go_in
 go_wp2_with fail
 go_region_with(go_at_call 254;refine(a3T _ _).mono ?_;rintro e w'⟨⟨n,rfl⟩,rfl⟩)
 all_goals go_wp2
 all_goals go_ret2
 all_goals exact⟨zy _ _ _ b.out,by first|exact J4 _ _|exact(J4 _ _).drew⟩
theorem a1G(s:BY)(b:UInt8)(w:World)(hs:s.size<=1048700):
 Calls prog 147 #[.string s,.int .u8 b.toNat] w λe w'=>(∃g h,e=.returned (.slice (some ⟨g,0,none⟩) (L8 b s.data.toList).length h)/\w'.ownsRow w.heap.size 9 1 (.slice (some ⟨g,0,none⟩) (L8 b s.data.toList).length h) (L8 b s.data.toList).length (ru (L8 b s.data.toList)))/\Bw w w':=by
 obtain⟨z,F,C,B,A⟩:=info_parts info9;have hlen:s.data.toList.length=s.size:=O4
 go_in
 go_wp2;go_loopw[5,6,7] (λv fr i wr=>∃(k f:Nat),k<=s.size/\f<=k/\i=.int .i64 k/\fr=.int .i64 f/\wr.ownsRow w.heap.size 9 1 v (Z7 b (s.data.toList.take k)).1.length (ru (Z7 b (s.data.toList.take k)).1)/\Hid ((s.data.toList.take k).drop f=(Z7 b (s.data.toList.take k)).2)/\Below w.heap.size w wr/\w.heap.size+1<=wr.heap.size) (λ_ _ i _=>s.size-(RowKit.intOf i).toNat);exact⟨0,0,I4 _,J9 _,rfl,rfl,Iu _ #[] 0 Y8 (I4 _) rfl,rfl,P6,O4⟩;obtain⟨k,f,hk,hf,rfl,rfl,c,q,d,I⟩:=hrel;have hL:(Z7 b (s.data.toList.take k)).1.length<=k:=by
  have:=dw b (s.data.toList.take k);rw[L_]at this;omega
 by_cases D:k<s.size;rotate_left
 ·have L:Hid (s.data.toList.take k=s.data.toList):=p_ O0;have t:Hid (s.extract f s.size=Y2 (Z7 b (s.data.toList.take k)).2):=yc (by rw[Ib,<- show k=s.size by omega];exact q.out);have H:Hid (L8 b s.data.toList=(Z7 b (s.data.toList.take k)).1++[(Z7 b (s.data.toList.take k)).2]):=by rw[L.out];rfl
  generalize Z7 b (s.data.toList.take k)=st at*
  go_wp2_with(at_builtin;refine wpList_append_own _ rfl _ _ 22 rfl w.heap.size 9 z (.string ⟨#[]⟩) 1 16 underlying22 F C B A rfl J6 _ _ _ rfl (c.alloc _) ⟨wr.heap.size,0,none⟩ 1 1 [_] rfl rfl (cell_one_new _ _ _) (by intro u a;simp at a;subst a;rfl) (by unfold maxLen;omega) O0 X7 ?_;intro v' y m n _;obtain⟨g,h,J⟩:=Ik m O0;subst J)
  go_ret;have r:=(d.alloc d.size _).grown n X7 (λj p=>(c.lt j p).1);have K:y.ownsRow w.heap.size 9 1 (vL (some (aA g 0)) (st.1.length+1) h) (st.1.length+1) (ru (L8 b s.data.toList)):=by
   rw[H.out,Zf,<- t.out];exact m
  have E:(L8 b s.data.toList).length=st.1.length+1:=by rw[H.out];simp
  refine⟨⟨g,h,by rw[E];rfl,by rw[E];exact K⟩,r⟩
 have o:Hid (Z7 b (s.data.toList.take (k+1))=cst b (Z7 b (s.data.toList.take k)) s[k]):=by rw[take_snoc s k D,Po];rfl
 have t:Hid (s.extract f k=Y2 (Z7 b (s.data.toList.take k)).2):=yc (by rw[Ib];exact q.out);by_cases hc:s[k]=b
 ·have e1:((s[k].toNat:Int)==(b.toNat:Int))=true:=by rw[hc];simp
  have l:Hid (cst b (Z7 b (s.data.toList.take k)) s[k]=((Z7 b (s.data.toList.take k)).1++[(Z7 b (s.data.toList.take k)).2],[])):=by unfold cst;rw[if_pos hc];rfl
  have x:Hid ((s.data.toList.take (k+1)).drop (k+1)=[]):=Yq X7;generalize Z7 b (s.data.toList.take k)=st at*
  go_wp2_with(at_builtin;refine wpList_append_own _ rfl _ _ 22 rfl w.heap.size 9 z (.string ⟨#[]⟩) 1 16 underlying22 F C B A rfl J6 _ _ _ rfl (c.alloc _) ⟨wr.heap.size,0,none⟩ 1 1 [_] rfl rfl (cell_one_new _ _ _) (by intro u a;simp at a;subst a;rfl) (by unfold maxLen;omega) O0 X7 ?_;intro v' y m n _)
  go_roundw
  ·have r:=(d.alloc d.size _).grown n X7 (λj p=>(c.lt j p).1);refine⟨k+1,k+1,O0,J9 _,by go_num,by go_num,?_,?_,r,by have:=n.size;simp at this;omega⟩
   ·rw[o.out,l.out,L9,Zf,<- t.out];exact m
   rw[o.out,l.out];exact x.out
  exact P9
 have e1:((s[k].toNat:Int)==(b.toNat:Int))=false:=by
  simp only[K_];intro e;exact hc (Zh.1 O0)
 have l:Hid (cst b (Z7 b (s.data.toList.take k)) s[k]=((Z7 b (s.data.toList.take k)).1,(Z7 b (s.data.toList.take k)).2++[s[k]])):=by unfold cst;rw[if_neg hc];rfl
 have x:Hid ((s.data.toList.take (k+1)).drop f=(s.data.toList.take k).drop f++[s[k]]):=by rw[take_snoc s k D,yI X7];rfl
 generalize Z7 b (s.data.toList.take k)=st at*;go_wp2;go_roundw
 ·refine⟨k+1,f,O0,O0,by go_num,rfl,?_,?_,d,I⟩
  ·rw[o.out,l.out];exact c
  rw[o.out,l.out,x.out,q.out];rfl
 exact P9
theorem own_ne{B B' e b size c n d:Nat}{v v':Value}{xs xs':List Value}(h:w.ownsRow B e size v n xs)(j:w.ownsRow B' b c v' d xs')(f:e≠b):v.ownBlock=none\/v.ownBlock≠v'.ownBlock:=by
 rcases h.2 with⟨rfl,_⟩|⟨g,cap,cur,rfl,_,i,_⟩
 ·exact .inl rfl
 rcases j.2 with⟨rfl,_⟩|⟨g',cap',cur',rfl,_,a,_⟩
 ·exact .inr (by simp[Value.ownBlock])
 refine .inr λhe=>?_;simp only[Value.ownBlock,Au]at he;subst he;rw[i]at a;simp only[Au,Obj.cells.injEq]at a;exact f a.2.1
theorem a1S(l:List UInt8)(w:World)(a:l.length<=1048700):
 Calls prog 150 #[.string (Y2 l)] w λe w'=>(∃t,e=.returned (.string (Y2 t))/\t.length<=l.length+1/\∀q,l=J5 q->t=q)/\Bw w w':=by
 have:=a0y (Y2 l) w (by rw[Y4];exact a);rw[Y4]at this;exact this
theorem a2y(l:List UInt8)(w:World)(a:l.length<=1048700):
 Calls prog 148 #[.string (Y2 l),.int .i64 3] w λe w'=>(∃g b,e=.returned (.tuple #[.slice (some ⟨g,0,none⟩) 3 b,.string (Y2 (d_ l 3))])/\w.heap.size<=g/\qc w' g (H_ l 3))/\Bw w w':=a1k (Y2 l) w (by rw[Y4];exact a)
theorem WI{ms:List M3}{x:M3}{B:Nat}(h:∀j,(ms.getD j C_).le B)(hx:x.le B)(j:Nat):((ms++[x]).getD j C_).le B:=by
 rcases Yw j ms.length with a|a|a
 ·have:(ms++[x]).getD j C_=ms.getD j C_:=by simp[List.getD,R_ a]
  rw[this];exact h j
 ·subst a;have:(ms++[x]).getD ms.length C_=x:=by simp[List.getD]
  rw[this];exact hx
 have:(ms++[x]).getD j C_=C_:=by simp[List.getD,Mc (show(ms++[x]).length<=j by simp;omega)]
 rw[this];exact⟨I4 _,I4 _,I4 _⟩
theorem cell_grown{row:Option Nat}(c:w.grownBy w' row){p:Addr}(a:p.block<w.heap.size)(b:some p.block≠row):w'.cell? p=w.cell? p:=by
 unfold World.cell?;rw[c.block p.block a b]
def a3Q(l:List UInt8)(e:Ending)(w':World):Prop:=∃(ms:List M3)(ok:Bool)(a:OA)(cap:Nat),e=.returned (.tuple #[.slice a ms.length cap,.bool ok])/\Ql w' a ms/\n_ l ms ok
theorem a4T(s:BY)(w:World)(hs:s.size<=1048576):
 Calls prog 217 #[.string s] w λe w'=>a3Q s.data.toList e w'/\Bw w w':=by
 have hlen:s.data.toList.length=s.size:=O4;obtain⟨i0,hi,hz0,hz1,hz2⟩:=info_parts zU;by_cases a5s:300<s.size
 ·have n:Hid (n_ s.data.toList [] false):=vC O0
  go_in
  go_wp2;go_ret2;exact⟨⟨[],false,_,_,rfl,.inl rfl,n⟩,P6⟩
 go_in
 go_wp2_with fail
 refine(a1G s 10 _ O0).mono ?_;rintro e r⟨⟨g,U,rfl,hln⟩,z⟩;have hx1:=P6.trans (z.mono O4);have hz1':w.heap.size+1<=r.heap.size:=by have:=z.size;simpa using this
 have hrow0:r.ownsRow w.heap.size 68 3 (vL (some (aW w 0)) 0 0) 0 (Q_ []):=ownsRow_below (Iu _ #[] 0 Y8 (I4 _) rfl) z;have a5O:r.ownsRow w.heap.size 9 1 (vL (some (aA g 0)) (L8 10 s.data.toList).length U) (L8 10 s.data.toList).length (ru (L8 10 s.data.toList)):=ig hln O4;obtain⟨hn1,hn2⟩:=Sm 10 s.data.toList;have HCS:=U0 (cut_small 10 s.data.toList)
 go_wp2_with fail
 generalize hLs:L8 10 s.data.toList=a at*;have D:=U0 hLs;go_loopw[4,6] (λv i wr=>∃(k:Nat)(ms:List M3),k+1<=a.length/\i=.int .i64 k/\ms.length=k/\Hid (oH s.data.toList ms k)/\Hid (∀j,(ms.getD j C_).le 1048576)/\wr.ownsRow w.heap.size 68 3 v ms.length (Q_ ms)/\wr.ownsRow w.heap.size 9 1 (.slice (some ⟨g,0,none⟩) a.length U) a.length (ru a)/\Below w.heap.size w wr/\w.heap.size+1<=wr.heap.size) (λ_ i _=>a.length-(RowKit.intOf i).toNat);exact⟨0,[],O0,rfl,rfl,WG _,(λj=>⟨I4 _,I4 _,I4 _⟩),hrow0,a5O,hx1,hz1'⟩;obtain⟨k,ms,hk,rfl,a6U,H,F,d,J,P,hzr⟩:=hrel;subst a6U;obtain⟨ao,co,hv⟩:=xq d;subst hv;by_cases hlt:ms.length+1<a.length;rotate_left
 ·obtain⟨E1,E2⟩:=uM H.out rfl (by rw[D.out];omega) O0;have W:=U0 E1;have V:=U0 E2;obtain⟨ao',cap',hv',R⟩:=Qp d;injection hv' with h1 h2 h3;subst h1 h3;have HAT:=U0 R;have hmm:ms.length<=1048576:=O0;have HC:=a3o ao co ms wr F hmm R
  go_wp2_with fail
  refine HC.mono ?_;rintro e w5⟨rfl,O⟩;have C:=P5 P O;have a6V:=U0 (Uk HAT O);by_cases hf:Ci ms=s.data.toList
  ·have n:=U0 (W.out hf);have m:(Y2 (Ci ms)).toList=s.toList:=by rw[hf,ByteArray.toList_eq,ByteArray.toList_eq];rfl
   have e1:((Y2 (Ci ms)).toList==s.toList)=true:=by simpa using m
   clear W V hf;go_wp2;go_ret2;exact⟨⟨ms,true,_,_,rfl,a6V.out,n.out⟩,C⟩
  have n:=U0 (V.out hf);have m:¬(Y2 (Ci ms)).toList=s.toList:=by rw[ByteArray.toList_eq,ByteArray.toList_eq];simpa[Y2]using hf
  have e1:((Y2 (Ci ms)).toList==s.toList)=false:=by simpa using m
  go_wp2;go_ret2;exact⟨⟨[],false,_,_,rfl,.inl rfl,n⟩,C.alloc C.size _⟩
 have a6W:=Eh J rfl;have l0:=a6W.2 ms.length O0;have hLl:=HCS.out ms.length;have a6X:=λ(t:List UInt8) ht=>parsed (l:=a.getD ms.length []) (t:=t) ht;generalize hL:a.getD ms.length []=L at*;have HL:=U0 hL;have hiB:(ms.length:Int)<(a.length:Int):=O0
 go_wp2_with fail
 refine(a2y L _ O0).mono ?_;rintro e q⟨⟨g2,cp2,rfl,hg2,y⟩,o⟩;have hB2:=P5 P o;have hown2:=ownsRow_below d o;have hrow2:=ownsRow_below J o;have hz2':=Q8 hzr o.size;have Z:q.cell? (aA g2 1)=some (vS (Y2 (O1 (d_ L 1)))):=y.2 1 (by simp[H_]);have Y:q.cell? (aA g2 2)=some (vS (Y2 (O1 (d_ L 2)))):=y.2 2 (by simp[H_]);have N:=y.1;have r1:=Qi L 1;have r2:=Qi L 2;have r3:=Qi L 3;have r1':=(H8 (d_ L 1)).1;have r2':=(H8 (d_ L 2)).1;generalize hA:O1 (d_ L 1)=A at*;generalize hBB:O1 (d_ L 2)=B at*;generalize hQ:d_ L 3=Q at*
 go_wp2_with fail
 refine wp_region_held_drew (S:=(λu=>u.cell? (aA g2 1)=some (vS (Y2 A))/\u.cell? (aA g2 2)=some (vS (Y2 B)))) Y0 ?_ λhH=>?_
 · ((try dsimp only);go_keep)
 iterate 8 refine sq ?_
 refine rq 8 λK h=>?_;go_simp;refine(a1S Q _ O0).mono ?_;rintro e c⟨⟨t,rfl,htl,htq⟩,hb3⟩;have b:Hid (Bw q c):=(J4 _ _).drew.trans hb3;have e1:=(b.out.cell (by exact N)).trans Z;have m:=(b.out.cell (by exact N)).trans Y;have x:=ownsRow_below hown2 b;have I:=ownsRow_below hrow2 b;have a7w:=b.out.size;have e1a:=past (by show g2<c.heap.size;omega) e1;have e2a:=past (by show g2<c.heap.size;omega) m
 go_wp2_with fail
 refine h _ _ ?_ λhH=>?_
 · ((try dsimp only);go_keep)
 refine sq ?_;refine rq 10 λK h=>?_;go_simp;refine h _ _ ?_ λhH=>?_
 · ((try dsimp only);go_keep)
 try simp only[qq]
 refine rq 11 λK h=>?_;refine gu rfl (.tmp 31) (.tmp 41) 144 rfl w.heap.size 68 i0 (.agg #[vE,vE,vE]) 3 48 underlying144 hi hz0 hz1 hz2 rfl J6 _ _ _ rfl (x.alloc _) (aW c 0) 1 1 [_,_,_] rfl rfl (tY rfl _ _ _ _) (by intro u E;simp at E;rcases E with rfl|rfl|rfl<;>rfl) (by unfold maxLen;omega) O0 X7 ?_;intro v' X hown4 f;have hB4:=U0 ((((P5 hB2 b.out).alloc O0 _).grown f X7 (λj hj=>(x.lt j hj).1)));have hrow4:=U0 ((I.alloc _).kept f (own_ne I x J6));have f1:=(cell_grown f (p:=(aA g2 1)) X7 (λe=>by have:=(d.lt _ e.symm).2;simp at this;omega)).trans (e1a _);have f2:=(cell_grown f (p:=(aA g2 2)) X7 (λe=>by have:=(d.lt _ e.symm).2;simp at this;omega)).trans (e2a _);have hz4:c.heap.size+1<=X.heap.size:=by have:=f.size;simp at this;omega
 refine h _ _ ?_ λhH=>?_
 · ((try dsimp only);go_keep)
 refine sq ?_;refine wpAnyH_done Y0 ?_ _;have HSO:=U0 (qJ H (by rw[D.out];exact hlt) (by rw[D.out,HL.out];exact a6X t htq));have HTX:Hid (∀j,((ms++[(⟨Y2 A,Y2 B,Y2 t⟩:M3)]).getD j C_).le 1048576):=WI F ⟨by rw[Y4];omega,by rw[Y4];omega,by rw[Y4];omega⟩;go_wp2;go_roundw
 ·refine⟨ms.length+1,ms++[(⟨Y2 A,Y2 B,Y2 t⟩:M3)],O0,by go_num,O4,HSO,HTX,?_,hrow4.out,hB4.out,O0⟩;rw[Vt,L9];exact hown4
 exact P9
end
section
variable{fs:List F2}{ms:List M3}
def Ns:BY:=⟨#[112,108,97,110]⟩
def Free(fs:List F2)(nm:BY):Prop:=∀j,j<fs.length->(fs.getD j P8).nm≠nm
def um(fs:List F2)(ms:List M3):Prop:=∀i,i<ms.length->Free fs (ms.getD i C_).nm
def Bg(fs:List F2)(ms:List M3):Prop:=
 (¬A_ fs/\ms=[])\/(A_ fs/\Free fs Ns/\ms=[])\/
 (A_ fs/\∃i,i<fs.length/\(fs.getD i P8).nm=Ns/\∃ks ok,n_ (fs.getD i P8).tx.data.toList ks ok/\((ok=true/\um fs ks/\ms=ks)\/(¬(ok=true/\um fs ks)/\ms=[])))
theorem XL(h:A_ fs){i j:Nat}(b:i<fs.length)(a:j<fs.length)(e:(fs.getD i P8).nm=(fs.getD j P8).nm):i=j:=by
 have hm:=T.Vh h;rcases Yw i j with h1|h1|h1
 ·have:=hm i j h1 a;rw[e,T.Uc]at this;cases this
 ·exact h1
 have:=hm j i h1 b;rw[e,T.Uc]at this;cases this
theorem TA{ns:List M3}(h:Bg fs ms)(k:Bg fs ns):ms=ns:=by
 rcases h with⟨h1,rfl⟩|⟨h1,h2,rfl⟩|⟨h1,i,g,f,ks,ok,n,hr⟩
 ·rcases k with⟨_,rfl⟩|⟨a,_⟩|⟨a,_⟩
  ·rfl
  ·exact absurd a h1
  exact absurd a h1
 ·rcases k with⟨a,_⟩|⟨_,_,rfl⟩|⟨_,j,c,b,_⟩
  ·exact absurd h1 a
  ·rfl
  exact absurd b (h2 j c)
 rcases k with⟨a,_⟩|⟨_,l,_⟩|⟨_,j,c,b,ks',ok',m,e⟩
 ·exact absurd h1 a
 ·exact absurd f (l i g)
 obtain rfl:=XL h1 g c (f.trans b.symm);obtain⟨rfl,rfl⟩:=uJ n m;rcases hr with⟨a1,a2,rfl⟩|⟨a1,rfl⟩
 ·rcases e with⟨_,_,rfl⟩|⟨d,_⟩
  ·rfl
  exact absurd ⟨a1,a2⟩ d
 rcases e with⟨d,o,_⟩|⟨_,rfl⟩
 ·exact absurd ⟨d,o⟩ a1
 rfl
theorem Kr{l:List UInt8}{ok:Bool}(h:n_ l ms ok):ms.length<=300/\∀i,(ms.getD i C_).le 300:=by
 cases ok
 ·rw[(h.2 rfl).1];exact⟨I4 _,λi=>⟨I4 _,I4 _,I4 _⟩⟩
 obtain⟨h1,h2,h3⟩:=h.1 rfl;have:=iH ms;rw[h2]at this;exact⟨O0,Dw λi a=>ZT (SK (Ij h1) a)⟩
theorem JH(h:Bg fs ms):ms.length<=300:=by
 rcases h with⟨_,rfl⟩|⟨_,_,rfl⟩|⟨_,i,hi,hn,ks,ok,a,hr⟩
 ·exact I4 _
 ·exact I4 _
 rcases hr with⟨_,_,rfl⟩|⟨_,rfl⟩
 ·exact(Kr a).1
 exact I4 _

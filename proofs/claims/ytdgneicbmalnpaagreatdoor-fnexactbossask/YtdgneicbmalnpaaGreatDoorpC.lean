import Derived.Test.YtdgneicbmalnpaaGreatDoorvI
import Derived.Lib.Overlaps
import Derived.Lib.AppendZerosOnto
set_option linter.all false
set_option maxHeartbeats 0
set_option maxRecDepth 99999
open Go.Value renaming slice->Sa,string->Sb,int->Sc,pointer->Sd
open Go.IntKind renaming i64->Se
open Go.Ending renaming returned->Sf
open Go.Obj renaming cells->Sg
namespace Go.Proofs.YtdgneicbmalnpaaGreatDoor.T
open Proofs.Tryz Go.RowKit
variable{u w:World}{fs gs:List F2}{B b i j o p q:Nat}{x:F2}{v:Value}{vs:List Value}
theorem Kr(w:World)(ty:TypeId)(b o e m:Nat)(a:Addr)(c d n:Nat)(cs:List Value)(i:Nat.min c e=n)(hl:cs.length=n*2)
 (h:∀j v,cs[j]?=some v->w.cell? (a.add j)=some v) (hc:∀j,j<cs.length->(w.cell? ⟨b,o+j,none⟩).isSome=true) (hf:∀j,w.frozen? ⟨b,j,none⟩=false) (h1:∀v∈cs,v.oneCell'=true):
 (Builtin.copy_ #[38,38] ty #[Sa (some ⟨b,o,none⟩) e m,Sa (some a) c d]).run prog w=.ok (goInt n) (w.setCells b o cs):=by
 obtain⟨i0,k,hz0,f,hz2⟩:=info_parts Nr;have l:=run_firstCells_some (P:=prog) w 2 n a c d cs hl h;have g:=run_storeCells_cells (P:=prog) b o cs 0 w (by simpa using hc) (λj _=>hf _) h1;simp[Builtin.copy_,Zt underlying38,Builtin.lenOf,sizeOf,typeInfo,k,f,i,l,g]
theorem wpList_copy_runI(w:World){P:Program}{ops:Array Oper}{rest:List Oper}{o:Oper}{a:Act}{Q:Exit->Act->World->Prop}(c:o.guard=none)(d s:Operand)(t b:TypeId)
 (ho:o.op=.call { callee:=.builtin .copy,args:=#[d,s],argTypes:=#[t,b] }) (v u:Value) (hd:a.eval d=v) (hs:a.eval s=u) {v':Value} {w':World}
 (hr:(Builtin.copy_ #[t,b] o.type #[v,u]).run P w=.ok v' w') (h:wpList P ops Q rest (a.put o.dst v') w'):wpList P ops Q (o::rest) a w:=
 zx c λK e=>by
  unfold Oper.wp execOp;simp only[ho,resolve,invoke,builtin,Xi,Tj,Sm,JJ,Xq,WE,hd,hs,hr];exact e _ _ h
theorem step_copy_runI{P:Program}{ops:Array Oper}{o:Oper}{a:Act}{K:Act->World->Prop}{Q:Exit->Act->World->Prop}{E:Prop}
 (f:o.guard=none) (d x:Operand) (c b:TypeId) (e:o.op=Op.call { callee:=Callee.builtin Builtin.copy,args:=#[d,x],argTypes:=#[c,b] })
 (v u:Value) (hd:a.eval d=v) (hx:a.eval x=u) {v':Value} {w':World} (hr:(Builtin.copy_ #[c,b] o.type #[v,u]).run P w=.ok v' w') (g:K (a.put o.dst v') w'):
 if Region.wanted o (yielded ops a.tmps)=true then Oper.wp P o a w K Q else E:=by
 have hw:Region.wanted o (yielded ops a.tmps)=true:=by simp[Region.wanted,f]
 rw[D8 hw];unfold Oper.wp;simp[execOp,e,resolve,invoke,builtin,hd,hx,hr,Result.andThen];exact g
theorem a1b:∀w,(sizeOf 169).run prog w=.ok 2 w:=λw=>by
 obtain⟨i0,b,hz0,a,hz2⟩:=info_parts Nr;simp[sizeOf,typeInfo,b,a]
theorem a3P(b c i a:Nat)(fs:List F2)(x:F2)(w:World)(hi:i<fs.length)(hl:fs.length<=40)(hroom:fs.length+1<=c)(y:a≠b)
 (C:∀j v,(J3 fs)[j]?=some v->w.cell? ⟨b,0+j,none⟩=some v) (n:∀j,j<(fs.length+1)*2->(w.cell? ⟨b,j,none⟩).isSome=true) (o:∀j,w.frozen? ⟨b,j,none⟩=false)
 (u:∀j v,[Sb x.nm,Sb x.tx][j]?=some v->w.cell? ⟨a,0+j,none⟩=some v)
 (s r:TypeId) (t m:Nat) (B:w.shape? a=some (s,t)) (A:w.shape? b=some (r,m)) (H:m≠0) (p:∀j,w.frozen? ⟨a,j,none⟩=false):
 Calls prog 263 #[Sa (some ⟨b,0,none⟩) fs.length c,Sc Se i,Sa (some ⟨a,0,none⟩) 1 1] w λe w'=>
  e=Sf (Sa (some ⟨b,0,none⟩) (fs.length+1) c)/\w'=(w.drew.setCells b ((i+1)*2) (J3 (fs.drop i))).setCells b (i*2) [Sb x.nm,Sb x.tx]:=by
 have hz2:¬((i:Int)=(fs.length:Int)):=O0;have F:∀lb cb,(callFunc 304 #[vL (some (aA a 0)) 1 1,vL (some (aA b ((i+1)*2))) lb cb]).run prog w=.ok (.value (.bool false)) w:=λlb cb=>by
  rw[run_callFunc_extern func304 Y0 Y0 Y0 (e:=Extern.SlicesOverlaps.overlaps #[38,38] #[4]) Y0,
   Lib.run_overlaps_apart w 38 4 169 underlying38 2 a1b (aA a 0) (aA b ((i+1)*2)) 1 1 lb cb y s r t m B A H (p _) (p _)]
  rfl
 have q:(J3 (fs.drop i)).length=(fs.length-i)*2:=by rw[Q8,Oj]
 have hw1:IntKind.i64.wrap ((i:Int)+1)=(i:Int)+1:=by rw[show(i:Int)+1=((i+1:Nat):Int) by omega];exact Yb (i+1) O0
 have hb1:(0:Int)<=(i:Int)+1:=O0;have hb6:(i:Int)+1<=(fs.length:Int)+1:=O0;have hin:i<=fs.length:=O0;have htn:((i:Int)+1).toNat=i+1:=O0;have hb2:¬(c=i+1):=O0;have hb3:(i:Int)<=(fs.length:Int)+1:=O0;have hb4:¬(c=i):=O0;have hb5:¬(c<fs.length+1):=O0;have D:∀ty f sc,(Builtin.copy_ #[38,38] ty #[vL (some (aA b ((i+1)*2))) (fs.length-i) f,vL (some (aA b (i*2))) (fs.length+1-i) sc]).run prog w.drew=.ok (goInt ((fs.length-i:Nat))) (w.drew.setCells b ((i+1)*2) (J3 (fs.drop i))):=λty f sc=>
  Kr w.drew ty b ((i+1)*2) (fs.length-i) f (aA b (i*2)) (fs.length+1-i) sc (fs.length-i) _ (by simp only[BG];split<;>omega) q
   (λj v d=>by
    rw[rO];have I:(J3 fs)[i*2+j]?=some v:=by
     have e:J3 fs=J3 (fs.take i)++J3 (fs.drop i):=by rw[<- Ae,Zk]
     rw[e,Yf (by rw[Q8,L_];omega),Q8,L_,Ot O0,nU];exact d
    have:=C _ _ I;rw[Y8]at this;exact this)
   (λj d=>n _ (by rw[q]at d;omega)) o Be
 obtain⟨l,g⟩:∃l,l=w.drew.setCells b ((i+1)*2) (J3 (fs.drop i)):=⟨_,rfl⟩;have z:∀k,k<(fs.length+1)*2->(l.cell? (aA b k)).isSome=true:=λk hk=>by
  rw[g];exact isSome_setCells b _ _ _ _ (n k hk)
 have J:∀(W:World),(∀x,W.cell? x=l.cell? x)->(∀x,W.frozen? x=l.frozen? x)->∀ty f,(Builtin.copy_ #[38,38] ty #[vL (some (aA b (i*2))) (fs.length+1-i) f,vL (some (aA a 0)) 1 1]).run prog W=.ok (goInt 1) (W.setCells b (i*2) [vS x.nm,vS x.tx]):=λW E K ty f=>
  Kr W ty b (i*2) (fs.length+1-i) f (aA a 0) 1 1 1 [vS x.nm,vS x.tx] (by simp only[BG];split<;>omega) rfl
   (λj v d=>by
    rw[rO,E,g,World.cell?_setCells_out b _ _ _ _ (λh _=>absurd h y)];exact u j v d)
   (λj d=>by rw[E];exact z _ (by simp at d;omega)) (λj=>by rw[K,g,World.frozen?_setCells];exact o _) (by intro v hv;simp at hv;rcases hv with rfl|rfl<;>rfl)
 rw[<- g]at D;clear C n o u p B A z q
 go_in
 go_wp2_with(simp only[F])
 go_region_law (refine step_copy_runI rfl _ _ 38 38 rfl _ _ (by simp[Act.eval,Act.put]) (by simp[Act.eval,Act.put]) (D _ _ _) ?_)
 go_wp2_with(at_builtin;refine wpList_copy_runI _ rfl _ _ 38 38 rfl _ _ rfl rfl (J _ (λ_=>rfl) (λ_=>rfl) _ _) ?_)
 go_ret
 first|exact⟨rfl,rfl⟩|exact⟨rfl,by rw[g]⟩
theorem a3u(b c i k:Nat)(fs:List F2)(x:F2)(w:World)(hi:i<fs.length)(hl:fs.length<=40)(hnc:fs.length<=c)(U:c<fs.length+1)(hbw:b<w.heap.size)(S:k<w.heap.size)
 (u:∀j v,(J3 fs)[j]?=some v->w.cell? ⟨b,0+j,none⟩=some v)
 (H:∀j v,[Sb x.nm,Sb x.tx][j]?=some v->w.cell? ⟨k,0+j,none⟩=some v):
 Calls prog 263 #[Sa (some ⟨b,0,none⟩) fs.length c,Sc Se i,Sa (some ⟨k,0,none⟩) 1 1] w λe w'=>∃(G:Nat)(a:Array Value),fs.length+1<=G/\(fs.length+1)*2<=a.size/\(∀j,j<i*2->a[j]?=(J3 fs)[j]?)/\
  e=Sf (Sa (some ⟨w.heap.size,0,none⟩) (fs.length+1) G)/\
  w'=(((w.alloc (Sg a 169)).drew.setCells w.heap.size (i*2) [Sb x.nm,Sb x.tx]).drew).setCells w.heap.size ((i+1)*2) (J3 (fs.drop i)):=by
 obtain⟨E,Y,R,Q,F⟩:=info_parts Nr;have hz2:¬((i:Int)=(fs.length:Int)):=O0;have hz3:(c:Int)<(fs.length:Int)+1:=O0;have J:(fs.length:Int)+1-(i:Int)=((fs.length+1-i:Nat):Int):=O0;have r:i+(fs.length+1-i)=fs.length+1:=O0;have I:(Builtin.firstCells E.size i (vL (some (aA b 0)) i c)).run prog w.drew=.ok (J3 (fs.take i)).toArray w.drew:=by
  rw[Q];exact run_firstCells_some w.drew 2 i (aA b 0) i c (J3 (fs.take i)) (by rw[Q8,L_];omega) (λj v d=>by
   rw[rO];refine u j v ?_;have hjl:j<i*2:=by have:=(ah.1 d).1;rw[Q8,L_]at this;omega
   have e:J3 fs=J3 (fs.take i)++J3 (fs.drop i):=by rw[<- Ae,Zk]
   rw[e,D_ (by rw[Q8,L_];omega)];exact d)
 have n:∀ty,(Builtin.append_ #[38,3] ty #[vL (some (aA b 0)) i c,vI ((fs.length:Int)+1-(i:Int))]).run prog w=
  .ok (vL (some (aW w 0)) (fs.length+1) (grownCap w (fs.length+1) c 169)) (w.drew.alloc (Sg ((J3 (fs.take i)).toArray++Builtin.zeroCells (Value.agg #[vE,vE]).cells (fs.length+1-i)++Builtin.zeroCells (Value.agg #[vE,vE]).cells (grownCap w (fs.length+1) c 169-(fs.length+1))) 169)):=λty=>by
  have h:=Lib.run_append_grow_zeros w 38 3 ty 169 E _ .i64 .i64 underlying38 underlying3 Y R (some (aA b 0)) i c (J3 (fs.take i)) I (fs.length+1-i) O0 O0 O0 O0 (by rw[F];omega) (by rw[F,r];exact growslice_fits U O0);rw[r]at h;rw[J];exact h
 obtain⟨G,p⟩:∃G,G=grownCap w (fs.length+1) c 169:=⟨_,rfl⟩;obtain⟨a,o⟩:∃a:Array Value,a=(J3 (fs.take i)).toArray++Builtin.zeroCells (Value.agg #[vE,vE]).cells (fs.length+1-i)++Builtin.zeroCells (Value.agg #[vE,vE]).cells (G-(fs.length+1)):=⟨_,rfl⟩;rw[<- p]at n;rw[<- o]at n;have L:(fs.length+1)*2<=a.size:=by
  rw[o];simp[Builtin.zeroCells,Value.cells,Q8];omega
 have N:∀j,j<i*2->a[j]?=(J3 fs)[j]?:=λj d=>by
  have e:J3 fs=J3 (fs.take i)++J3 (fs.drop i):=by rw[<- Ae,Zk]
  have hlen:(J3 (fs.take i)).length=i*2:=by rw[Q8,L_];omega
  rw[o,e,D_ O0,Array.append_assoc,Array.getElem?_append_left (by simpa using(by omega:j<(J3 (fs.take i)).length))];simp
 obtain⟨f,m⟩:∃f,f=w.drew.alloc (Sg a 169):=⟨_,rfl⟩;rw[<- m]at n;have s:(w.drew.alloc (Sg a 169)).heap[w.heap.size]?=some (Sg a 169 (0,0)):=Jd (w:=w.drew) rfl _;have C:∀j,j<(fs.length+1)*2->(f.cell? (aW w j)).isSome=true:=λj d=>by
  rw[m,Lib.cell_of_heap s,MK O0];rfl
 have B:∀j,f.frozen? (aW w j)=false:=λj=>by rw[m];exact Lib.frozen_of_heap s j
 have A:∀q j v,q<w.heap.size->w.cell? (aA q j)=some v->f.cell? (aA q j)=some v:=λq j v V h=>by rw[m,yj _ _ _ (by exact V)];exact h
 have hcpA:∀(W:World),(∀x,W.cell? x=f.cell? x)->(∀x,W.frozen? x=f.frozen? x)->∀ty g,(Builtin.copy_ #[38,38] ty #[vL (some (aW w (i*2))) (fs.length+1-i) g,vL (some (aA k 0)) 1 1]).run prog W=.ok (goInt 1) (W.setCells w.heap.size (i*2) [vS x.nm,vS x.tx]):=λW l z ty g=>
  Kr W ty w.heap.size (i*2) (fs.length+1-i) g (aA k 0) 1 1 1 [vS x.nm,vS x.tx] (by simp only[BG];split<;>omega) rfl
   (λj v d=>by rw[rO,l];exact A _ _ v S (H j v d))
   (λj d=>by rw[l];exact C _ (by simp at d;omega)) (λj=>by rw[z];exact B _) (by intro v hv;simp at hv;rcases hv with rfl|rfl<;>rfl)
 have hGn:fs.length+1<=G:=by rw[p];exact grownCap_ge w _ _ _
 have hG63:G<=9223372036854775807:=by
  have:=grownCap_le_maxLen w (fs.length+1) c 169 (by unfold maxLen;omega);rw[<- p]at this;unfold maxLen at this;omega
 have hGi:¬(G=i):=O0;have hGim:¬(G=i+1):=O0;have hci:¬(c=i):=O0;have hbN:b≠w.heap.size:=O0;have t:(J3 (fs.drop i)).length=(fs.length-i)*2:=by rw[Q8,Oj]
 have K:∀(W:World),(∀y,W.cell? y=(f.setCells w.heap.size (i*2) [vS x.nm,vS x.tx]).cell? y)->(∀y,W.frozen? y=(f.setCells w.heap.size (i*2) [vS x.nm,vS x.tx]).frozen? y)->∀ty dl g sc,dl=fs.length-i->(Builtin.copy_ #[38,38] ty #[vL (some (aW w ((i+1)*2))) dl g,vL (some (aA b (i*2))) (fs.length-i) sc]).run prog W=.ok (goInt ((fs.length-i:Nat))) (W.setCells w.heap.size ((i+1)*2) (J3 (fs.drop i))):=λW l z ty dl g sc Z=>
  Kr W ty w.heap.size ((i+1)*2) dl g (aA b (i*2)) (fs.length-i) sc (fs.length-i) _ (by rw[Z];simp only[BG];split<;>omega) t
   (λj v d=>by
    rw[rO,l,World.cell?_setCells_out _ _ _ _ _ (λh _=>absurd h hbN)];have X:(J3 fs)[i*2+j]?=some v:=by
     have e:J3 fs=J3 (fs.take i)++J3 (fs.drop i):=by rw[<- Ae,Zk]
     rw[e,Yf (by rw[Q8,L_];omega),Q8,L_,Ot O0,nU];exact d
    have:=u _ _ X;rw[Y8]at this;exact A _ _ v hbw this)
   (λj d=>by rw[l];exact isSome_setCells _ _ _ _ _ (C _ (by rw[t]at d;omega)))
   (λj=>by rw[z,World.frozen?_setCells];exact B _) Be
 subst m;have hE1:∀x,((w.alloc (Sg a 169)).drew).cell? x=(w.drew.alloc (Sg a 169)).cell? x:=λx=>rfl;have hE2:∀x,((w.alloc (Sg a 169)).drew).frozen? x=(w.drew.alloc (Sg a 169)).frozen? x:=λx=>rfl;have P:∀y,(((w.alloc (Sg a 169)).drew.setCells w.heap.size (i*2) [vS x.nm,vS x.tx]).drew).cell? y=((w.drew.alloc (Sg a 169)).setCells w.heap.size (i*2) [vS x.nm,vS x.tx]).cell? y:=λx=>rfl;have O:∀y,(((w.alloc (Sg a 169)).drew.setCells w.heap.size (i*2) [vS x.nm,vS x.tx]).drew).frozen? y=((w.drew.alloc (Sg a 169)).setCells w.heap.size (i*2) [vS x.nm,vS x.tx]).frozen? y:=λx=>rfl;have hw1:IntKind.i64.wrap ((i:Int)+1)=(i:Int)+1:=by rw[show(i:Int)+1=((i+1:Nat):Int) by omega];exact Yb (i+1) O0
 have hb1:(0:Int)<=(i:Int)+1:=O0;have hin:i<=fs.length:=O0;have htn:((i:Int)+1).toNat=i+1:=O0;have hb3:(i:Int)<=(fs.length:Int):=O0;have hb6:(i:Int)+1<=(fs.length:Int)+1:=O0;have D:Hid (fs.length+1<=G/\(fs.length+1)*2<=a.size/\(∀j,j<i*2->a[j]?=(J3 fs)[j]?)):=⟨hGn,L,N⟩;clear s J r I o p L N u H C B A t
 go_in
 go_wp2_with(first
  | (at_builtin;refine Lib.wpList_append_run _ rfl _ _ _ _ rfl _ _ rfl rfl _ _ (n _) ?_)
  | (at_builtin;refine wpList_copy_runI _ rfl _ _ 38 38 rfl _ _ rfl rfl (hcpA _ hE1 hE2 _ _) ?_))
 go_region_law (first|(refine step_copy_runI rfl _ _ 38 38 rfl (vL (some (aW w ((i+1)*2))) (fs.length+1-(i+1)) (G-(i+1))) (vL (some (aA b (i*2))) (fs.length-i) (c-i)) (by simp[Act.eval,Act.put]) (by simp[Act.eval,Act.put]) (K _ P O 3 (fs.length+1-(i+1)) (G-(i+1)) (c-i) O0) ?_)|(refine step_copy_runI rfl _ _ 38 38 rfl (vL (some (aW w ((i+1)*2))) (fs.length-i) (G-(i+1))) (vL (some (aA b (i*2))) (fs.length-i) (c-i)) (by simp[Act.eval,Act.put]) (by simp[Act.eval,Act.put]) (K _ P O 3 (fs.length-i) (G-(i+1)) (c-i) O0) ?_))
 go_wp2;go_ret;exact⟨G,a,D.o.1,D.o.2.1,D.o.2.2,rfl,rfl⟩
theorem a2a(h:i<=fs.length)(a:j<i):(ins fs i x).getD j o9=fs.getD j o9:=by
 unfold ins;simp only[List.getD];rw[D_ (by rw[L_];omega),zC a]
theorem IY(h:i<=fs.length):(ins fs i x).getD i o9=x:=by
 unfold ins;simp only[List.getD];rw[Yf (by rw[L_];omega),L_,Ot h,Uw];rfl
theorem a1m(h:i<=fs.length)(hj:i<j):(ins fs i x).getD j o9=(fs.drop i).getD (j-i-1) o9:=by
 unfold ins;simp only[List.getD];rw[Yf (by rw[L_];omega),L_,Ot h];obtain⟨k,hk⟩:∃k,j-i=k+1:=⟨j-i-1,O0⟩;rw[hk,fV,dK]
theorem YD{W:World}(a:i<=fs.length)(d:b<W.heap.size)
 (lo:∀j,j<i*2->W.cell? ⟨b,j,none⟩=(J3 fs)[j]?) (m0:W.cell? ⟨b,i*2,none⟩=some (Sb x.nm)) (m1:W.cell? ⟨b,i*2+1,none⟩=some (Sb x.tx))
 (up:∀j,j<(fs.length-i)*2->W.cell? ⟨b,(i+1)*2+j,none⟩=(J3 (fs.drop i))[j]?):P6 W (some ⟨b,0,none⟩) (ins fs i x):=by
 refine .inr ⟨b,0,rfl,d,λj c=>?_⟩;rw[aG _ _ _ a]at c;rw[Y8];rcases Jt j i with h|h|h
 ·rw[a2a a h,lo _ O0,lo _ O0];exact Ce fs j O0
 ·subst h;rw[IY a];exact⟨m0,m1⟩
 rw[a1m a h];have e:=Ce (fs.drop i) (j-i-1) (by rw[Oj];omega);have u0:=up ((j-i-1)*2) O0;have u1:=up ((j-i-1)*2+1) O0;rw[show(i+1)*2+(j-i-1)*2=j*2 by omega]at u0;rw[show(i+1)*2+((j-i-1)*2+1)=j*2+1 by omega]at u1;rw[u0,u1];exact e
theorem wZ(h:Um w B v gs){p:Nat}(c:p<gs.length):∃a cap,v=Sa a gs.length cap/\Wn B w a gs:=by
 obtain⟨g,cap,hv,e,hnc,j,f,b⟩:=Ey h c;have hf:P6 w (some (aA g 0)) gs:=.inr ⟨g,0,rfl,b,λi d=>by rw[Y8];exact j i d⟩;exact⟨_,cap,hv,hf,.inr ⟨g,rfl,e,Ci hf b f,uG h hv⟩⟩
theorem DY(fs:List F2)(x:F2):ins fs fs.length x=fs++[x]:=by unfold ins;rw[List.take_length,List.drop_length]
def a0p(B:Nat)(gs:List F2)(n:Nat)(e:Ending)(w':World):Prop:=∃a' cap',e=Sf (Sa a' n cap')/\Wn B w' a' gs
theorem a3V(B b:Nat)(d:OA)(c:Nat)(fs:List F2)(x:F2)(w:World)(a:Um w B (Sa d fs.length c) fs)(hl:fs.length<=40)(hB:B<=w.heap.size)
 (g:∀j v,[Sb x.nm,Sb x.tx][j]?=some v->w.cell? ((⟨b,0,none⟩:Addr).add j)=some v):
 Calls prog 263 #[Sa d fs.length c,Sc Se fs.length,Sa (some ⟨b,0,none⟩) 1 1] w λe w'=>a0p B (ins fs fs.length x) (fs.length+1) e w'/\Below B w w':=by
 obtain⟨q,C,t,s,r⟩:=info_parts Nr;have hcv:=LM a;have A:=a.lt;have z:w.ownsRow B 169 2 (vL d fs.length c) fs.length (J3 fs):=a;have D:=U0 g;clear a g
 go_in
 go_wp2_with(at_builtin;refine wpList_append_own _ rfl _ _ 38 rfl B 169 q (.agg #[Sb ⟨#[]⟩,Sb ⟨#[]⟩]) 2 32 underlying38 C t s r rfl U5 _ _ _ rfl z ⟨b,0,none⟩ 1 1 [Sb x.nm,Sb x.tx] rfl rfl D.o (by intro u i;simp at i;rcases i with rfl|rfl<;>rfl) (by unfold maxLen;omega) O0 hB ?_;intro v' w1 l n _)
 all_goals
  have H:=U0 ((O4 B w).grown n hB (λk hk=>(A k hk).1));have E:Hid (Um w1 B v' (fs++[x])):=by
   show w1.ownsRow B 169 2 v' (fs++[x]).length (J3 (fs++[x]));rw[Ae,Q9];exact l
  obtain⟨f,o,h,m⟩:=wZ E.o (p:=fs.length) J4;have F:Hid (Wn B w1 f (ins fs fs.length x)):=by rw[DY];exact m
  have y:v'=vL f (fs.length+1) o:=by rw[h];simp
  subst y;clear l n m h;go_wp2;go_ret;exact⟨⟨f,o,rfl,F.o⟩,H.o⟩
theorem Vz(h:∀j,j<vs.length->(w.cell? ⟨b,o+j,none⟩).isSome=true)(j:Nat)(a:j<vs.length):(w.setCells b o vs).cell? ⟨b,o+j,none⟩=vs[j]?:=by
 rw[World.cell?_setCells_in b vs o w h j a,V8 a]
theorem Wl(h:q<o\/o+vs.length<=q):(w.setCells b o vs).cell? ⟨b,q,none⟩=w.cell? ⟨b,q,none⟩:=World.cell?_setCells_out b vs o w _ (λ_ _=>h)
theorem a5A(B c p:Nat)(u:OA)(f:Nat)(fs:List F2)(x:F2)(w:World)(C:Um w B (Sa u fs.length f) fs)(F:p<=fs.length)(hl:fs.length<=40)(hB:B<=w.heap.size)
 (r:w.heap[c]?=some (Sg #[Sb x.nm,Sb x.tx] 169 (0,0))) (U:∀k,(Sa u fs.length f).ownBlock=some k->c≠k):
 Calls prog 263 #[Sa u fs.length f,Sc Se p,Sa (some ⟨c,0,none⟩) 1 1] w λe w'=>a0p B (ins fs p x) (fs.length+1) e w'/\Below B w w':=by
 have O:=xg r;have y:∀j v,[Sb x.nm,vS x.tx][j]?=some v->w.cell? (aA c (0+j))=some v:=λj v h=>by
  rw[Y8,Lib.cell_of_heap r];simpa using h
 have s:(J3 (fs.drop p)).length=(fs.length-p)*2:=by rw[Q8,Oj]
 by_cases R:p=fs.length
 ·subst R;exact a3V B c u f fs x w C hl hB (λj v h=>by rw[rO];exact y j v h)
 have E:p<fs.length:=O0;have S:=C;rcases C.2 with⟨hv,h0⟩|⟨g,cap,cur,hv,I,m,V,hcm,W,htk⟩
 ·omega
 injection hv with e1 e2 e3;subst e1;subst e3;have H:=xg m;have P:=U g rfl;have L:∀j,j<fs.length*2->w.cell? (aA g j)=(J3 fs)[j]?:=λj a=>S.cellAt j a;have K:∀j v,(J3 fs)[j]?=some v->w.cell? (aA g (0+j))=some v:=λj v h=>by
  have:j<fs.length*2:=by rw[<- Q8];exact(ah.1 h).1
  rw[Y8,L j this];exact h
 by_cases Q:fs.length+1<=f
 ·have z:∀j,j<(fs.length+1)*2->(w.cell? (aA g j)).isSome=true:=λj a=>by
   rw[Lib.cell_of_heap m,MK (by rw[W];omega)];rfl
  have J:∀j,w.frozen? (aA g j)=false:=λj=>Lib.frozen_of_heap m j;refine(a3P g f p c fs x w E hl Q P K z J y 169 169 2 cur.size (by simp[World.shape?,r]) (by simp[World.shape?,m]) O0 (λj=>Lib.frozen_of_heap r j)).mono ?_;rintro e w'⟨rfl,rfl⟩;have t:But g w ((w.drew.setCells g ((p+1)*2) (J3 (fs.drop p))).setCells g (p*2) [vS x.nm,vS x.tx]):=But.setCells g _ _ (But.setCells g _ _ (But.refl _ _).drew);have A:∀j,j<(fs.length+1)*2->((w.drew.setCells g ((p+1)*2) (J3 (fs.drop p))).cell? (aA g j)).isSome=true:=λj a=>isSome_setCells g _ _ _ _ (z j a);have D:∀j,((w.drew.setCells g ((p+1)*2) (J3 (fs.drop p))).setCells g (p*2) [vS x.nm,vS x.tx]).frozen? (aA g j)=false:=λj=>by rw[World.frozen?_setCells,World.frozen?_setCells];exact J j
  have n:=P9 H t.size;have i:∀j,j<2->((w.drew.setCells g ((p+1)*2) (J3 (fs.drop p))).setCells g (p*2) [vS x.nm,vS x.tx]).cell? (aA g (p*2+j))=[Sb x.nm,vS x.tx][j]?:=λj a=>Vz (λq d=>A _ (by simp at d;omega)) j (by simpa using a);have hF:=YD (x:=x) F n
   (λj a=>by rw[Wl (.inl a),Wl (.inl O0)];exact L j O0)
   (i 0 O0) (i 1 O0)
   (λj a=>by rw[Wl (.inr L8)];exact Vz (w:=w.drew) (o:=(p+1)*2) (λq d=>z ((p+1)*2+q) (by rw[s]at d;omega)) j (by rw[s];exact a))
  refine⟨⟨_,_,rfl,hF,.inr ⟨g,rfl,I,Ci hF n D,Dk _ _ _ (Dk (w:=w.drew) _ _ _ ⟨_,m⟩)⟩⟩,t.below I hB⟩
 refine(a3u g f p c fs x w E hl V O0 H O K y).mono ?_;rintro e w'⟨G,b,hG,hR,Y,rfl,rfl⟩;have X:Bw w (w.alloc (Sg b 169)).drew:=U6.drew;have l:(w.alloc (Sg b 169)).drew.heap[w.heap.size]?=some (Sg b 169 (0,0)):=Jd (w:=w) rfl _;have N:∀j,j<(fs.length+1)*2->((w.alloc (Sg b 169)).drew.cell? (aW w j)).isSome=true:=λj a=>by
  rw[Lib.cell_of_heap l,MK O0];rfl
 have t:But w.heap.size w ((((w.alloc (Sg b 169)).drew.setCells w.heap.size (p*2) [vS x.nm,vS x.tx]).drew).setCells w.heap.size ((p+1)*2) (J3 (fs.drop p))):=But.setCells _ _ _ (But.setCells _ _ _ (But.of_below X)).drew;have A:∀j,j<(fs.length+1)*2->(((w.alloc (Sg b 169)).drew.setCells w.heap.size (p*2) [vS x.nm,vS x.tx]).drew.cell? (aW w j)).isSome=true:=λj a=>isSome_setCells _ _ _ _ _ (N j a);have n:w.heap.size<((((w.alloc (Sg b 169)).drew.setCells w.heap.size (p*2) [vS x.nm,vS x.tx]).drew).setCells w.heap.size ((p+1)*2) (J3 (fs.drop p))).heap.size:=by
  have h1:But w.heap.size (w.alloc (Sg b 169)).drew ((((w.alloc (Sg b 169)).drew.setCells w.heap.size (p*2) [vS x.nm,vS x.tx]).drew).setCells w.heap.size ((p+1)*2) (J3 (fs.drop p))):=But.setCells _ _ _ (But.setCells _ _ _ (But.refl _ _)).drew;exact P9 (xg l) h1.size
 have D:∀j,((((w.alloc (Sg b 169)).drew.setCells w.heap.size (p*2) [vS x.nm,vS x.tx]).drew).setCells w.heap.size ((p+1)*2) (J3 (fs.drop p))).frozen? (aW w j)=false:=λj=>by
  rw[World.frozen?_setCells];exact(World.frozen?_setCells _ _ _ _ _).trans (Lib.frozen_of_heap l j)
 have i:∀j,j<2->((((w.alloc (Sg b 169)).drew.setCells w.heap.size (p*2) [vS x.nm,vS x.tx]).drew).setCells w.heap.size ((p+1)*2) (J3 (fs.drop p))).cell? (aW w (p*2+j))=[Sb x.nm,vS x.tx][j]?:=λj a=>by
  rw[Wl (.inl O0)];exact Vz (w:=(w.alloc (Sg b 169)).drew) (λq d=>N _ (by simp at d;omega)) j (by simpa using a)
 have hF:=YD (x:=x) F n
  (λj a=>by
   rw[Wl (.inl O0)];exact((Wl (w:=(w.alloc (Sg b 169)).drew) (.inl a)).trans (Lib.cell_of_heap l j)).trans (Y j a))
  (i 0 O0) (i 1 O0)
  (λj a=>Vz (λq d=>A _ (by rw[s]at d;omega)) j (by rw[s];exact a))
 refine⟨⟨_,_,rfl,hF,.inr ⟨w.heap.size,rfl,hB,Ci hF n D,Dk (w:=((w.alloc (Sg b 169)).drew.setCells w.heap.size (p*2) [vS x.nm,vS x.tx]).drew) _ _ _ (show bQ ((w.alloc (Sg b 169)).drew.setCells w.heap.size (p*2) [vS x.nm,vS x.tx]) _ from Dk _ _ _ ⟨_,l⟩)⟩⟩,t.below hB hB⟩
theorem pX{a b:BY}(h:lt a b=true):lt b a=false:=by
 cases hb:lt b a
 ·rfl
 have:=Gg h hb;rw[Xd]at this;cases this
theorem RU(h:p<fs.length):(del fs p).take p=fs.take p:=by
 unfold del;rw[lJ (by rw[L_];omega),List.take_take,Nat.min_self]
theorem TT(h:p<fs.length):(del fs p).drop p=fs.drop (p+1):=by
 unfold del;rw[YJ (by rw[L_];omega),qK,Uw,List.take_zero,Y9]
def put(fs:List F2)(p:Nat)(x:F2):List F2:=fs.take p++x::fs.drop (p+1)
theorem LX(h:p<fs.length):ins (del fs p) p x=put fs p x:=by unfold ins put;rw[RU h,TT h]
theorem qN(h:p<fs.length):(put fs p x).length=fs.length:=by
 unfold put;rw[List.length_append,List.length_cons,List.length_take,List.length_drop];omega
theorem jS(h:p<fs.length):(put fs p x).getD p o9=x:=by
 unfold put;simp only[List.getD];rw[Yf (by rw[L_];omega),L_,Ot O0,Uw];rfl
theorem VO(h:p<fs.length)(hi:i≠p):(put fs p x).getD i o9=fs.getD i o9:=by
 unfold put;simp only[List.getD];rcases Z7 i p with h1|h1
 ·rw[D_ (by rw[L_];omega),zC h1]
 rw[Yf (by rw[L_];omega),L_,Ot O0];obtain⟨k,hk⟩:∃k,i-p=k+1:=⟨i-p-1,O0⟩;rw[hk,fV,vG]
 congr 2
 omega
theorem yT(b:G_ fs)(f:Qa x=true)(d:Place fs x.nm p true):p<fs.length/\Wq fs x 0 (put fs p x):=by
 obtain⟨a,c⟩:=d.here.1 rfl;have ha:=Yh b;have hw:without fs x.nm=del fs p:=by rw[<- c];exact Hy ha a
 have g:=Oz a;refine⟨a,.inr (.inr (.inr ⟨b,f,by rw[hw,g];have:=b.1;omega,rfl,p,?_,by rw[hw,LX a]⟩))⟩;rw[hw];refine⟨O0,λj e=>by rw[DR a e];exact d.less j e,?_⟩;rcases Z7 p (del fs p).length with h|h
 ·right;rw[JV a A8,Uw,Zw,Zo];have:=ha p (p+1) O0 O0;rw[c]at this;exact pX this
 left;omega
theorem PU(b:G_ fs)(d:Qa x=true)(a:Place fs x.nm p false):(40<=fs.length->Wq fs x 3 [])/\(fs.length<40->Wq fs x 0 (ins fs p x)):=by
 have f:∀i,i<fs.length->(fs.getD i o9).nm≠x.nm:=λi c e=>by
  rcases Z7 i p with h|h
  ·have:=a.less i h;rw[e,Xd]at this;cases this
  rcases Z7 p i with h1|h1
  ·have h2:=Yh b p i h1 c;rw[e,a.more p A8 O0]at h2;cases h2
  obtain rfl:i=p:=O0;have:=a.here.2 ⟨c,e⟩;cases this
 have hw:=filter_all f;refine⟨λh=>.inr (.inr (.inl ⟨b,d,by rw[hw];exact h,rfl,rfl⟩)),λh=>.inr (.inr (.inr ⟨b,d,by rw[hw];exact h,rfl,p,?_,by rw[hw]⟩))⟩;rw[hw];refine⟨a.le,a.less,?_⟩;rcases Z7 p fs.length with h1|h1
 ·exact .inr (a.more p A8 h1)
 left;have:=a.le;omega
theorem WN{g:Nat}(b:p<fs.length)(c:g<u.heap.size)(hc:∀i,i<fs.length->u.cell? ⟨g,i*2,none⟩=some (Sb (fs.getD i o9).nm)/\u.cell? ⟨g,i*2+1,none⟩=some (Sb (fs.getD i o9).tx)):
 P6 ((u.setCell ⟨g,p*2,none⟩ (Sb x.nm)).setCell ⟨g,p*2+1,none⟩ (Sb x.tx)) (some ⟨g,0,none⟩) (put fs p x):=by
 refine .inr ⟨g,0,rfl,by simpa using c,λi a=>?_⟩;rw[qN b]at a;rw[Y8];by_cases h:i=p
 ·subst h;rw[jS b];exact Eo u g (i*2) _ _ _ _ (hc i a).1 (hc i a).2
 rw[VO b h,OB _ _ _ _ _ _ O0 O0,OB _ _ _ _ _ _ O0 O0];exact hc i a
theorem FI{B':Nat}{a:OA}(h:Wn B u a gs)(hB:B'<=B)(hq:q<B):Wn B' (u.setCell ⟨q,j,none⟩ v) a gs:=by
 refine⟨?_,?_⟩
 ·rcases h.2 with h0|⟨g,ha,b,ho⟩
  ·exact .inl h0
  have hf:=h.1;rw[ha]at hf ⊢;exact Et hf (by show q≠g;omega)
 rcases h.2 with h0|⟨g,ha,b,ho⟩
 ·exact .inl h0
 exact .inr ⟨g,ha,O0,KH ho.1 O0,Xv ho.2⟩
theorem a5K(a:OA)(cap:Nat)(fs:List F2)(x:F2)(w:World)(hl:fs.length<=1048576)(hs:∀i,(fs.getD i o9).le 1048576)(hx:x.le 1048576)(V:P6 w a fs):
 Calls prog 219 #[.agg #[Sa a fs.length cap],.agg #[Sb x.nm,Sb x.tx]] w λe w'=>(∃n r c gs,e=Sf (.tuple #[.agg #[Sa n gs.length r],Sc Se c])/\Wn w.heap.size w' n gs/\Wq fs x c gs)/\Bw w w':=by
 have F:=U0 V;have HS:=U0 hs;have HX7:Hid (x.le 1048700):=⟨X7 hx.1 O0,X7 hx.2 O0⟩;have K:Hid (Ze w (((w.alloc (Sg #[vL a fs.length cap] 40)).alloc (Sg #[vS x.nm,vS x.tx] 169)).alloc (Sg #[vN] 40)) (vL a fs.length cap) x vN):=Ze.start _ _ _ _;clear V hs hx
 go_in
 go_wp2_with fail
 refine(c173 a cap fs _ hl HS.o (J5 F.o K.o.bel)).mono ?_;rintro e u1⟨⟨v,rfl,hv⟩,U⟩;have E:=U0 hv;have J:=U0 (K.o.later U);obtain⟨t1,n1,x1,r1,f1⟩:=J.o.cells;clear hv U K;cases v
 ·have b:Hid (Wq fs x 1 []):=.inl ⟨λh=>(by have:=E.o.2 h;cases this),rfl,rfl⟩;clear E;go_wp2;refine P7 (v:=.tuple #[.agg #[vN],vI 1]) (by simp[results,results219,go_sem,r1]) rfl ⟨⟨none,0,_,[],rfl,⟨.inl rfl,.inl rfl⟩,b.o⟩,J.o.bel.setCell L8 _⟩
 have O:=E.o.1 rfl;have P:=O.1;have t:=U0 O
 go_wp2_with fail
 refine(IW x u1 HX7).mono ?_;rintro e u2⟨rfl,hb2⟩;have o:=U0 (J.o.later hb2);obtain⟨t2,n2,x2,r2,f2⟩:=o.o.cells;cases hfx:Qa x
 ·have b:Hid (Wq fs x 2 []):=.inr (.inl ⟨t,hfx,rfl,rfl⟩);go_wp2;refine P7 (v:=.tuple #[.agg #[vN],vI 2]) (by simp[results,results219,go_sem,r2]) rfl ⟨⟨none,0,_,[],rfl,⟨.inl rfl,.inl rfl⟩,b⟩,o.o.bel.setCell L8 _⟩
 have hz2:=o.o.sz
 go_wp2_with fail
 refine(a2O a cap fs u2 O0 (J5 F o.o.bel)).mono ?_;rintro e u3⟨v,rfl,N,S⟩;obtain⟨D,m,q,hfv⟩:=N.form;subst q;have I:=U0 (o.o.later S);have HO3:=U0 N;have a9o:=S.size;obtain⟨t3,n3,x3,r3,f3⟩:=I.o.cells
 go_wp2_with fail
 refine(UX a cap fs x.nm u3 P (J5 F I.o.bel) (Yh t)).mono ?_;rintro e u4⟨⟨p,f,rfl,d⟩,A⟩;have s:=U0 d;have l:=U0 (I.o.later A);have u:=U0 (HO3.o.below A);have a7N:=A.size;obtain⟨t4,n4,x4,r4,f4⟩:=l.o.cells;have hz4:=l.o.sz;cases f
 ·obtain⟨hs3,hs0⟩:=PU t.o hfx s.o;by_cases h40:fs.length=40
  ·have b:=U0 (hs3 O0);have a8Q:((fs.length:Int)==40)=true:=L8;go_wp2;refine P7 (v:=.tuple #[.agg #[vN],vI 3]) (by simp[results,results219,go_sem,r4]) rfl ⟨⟨none,0,_,[],rfl,⟨.inl rfl,.inl rfl⟩,b⟩,l.o.bel.setCell L8 _⟩
  have b:=U0 (hs0 O0);have a8Q:((fs.length:Int)==40)=false:=L8;have C:Bw u4 (u4.alloc (Sg #[vS x.nm,vS x.tx] 169)):=U6;have H:=U0 (l.o.later C);have HO5:=U0 (u.o.below C);have HV5:Hid ((u4.alloc (Sg #[vS x.nm,vS x.tx] 169)).heap[u4.heap.size]?=some (Sg #[vS x.nm,vS x.tx] 169 (0,0))):=Jd rfl _;have HNE:Hid (∀k,(Sa D fs.length m).ownBlock=some k->u4.heap.size≠k):=λk hk=>by have:=(u.o.lt k hk).2;omega
  have hz5:u2.heap.size<=(u4.alloc (Sg #[vS x.nm,vS x.tx] 169)).heap.size:=L8
  go_wp2_with fail
  refine(a5A u2.heap.size u4.heap.size p D m fs x _ HO5 s.o.le P hz5 HV5 HNE).mono ?_;rintro e u6⟨⟨n,r,rfl,hnew⟩,hb6⟩;have HN:=U0 hnew;have R:=(C.mono O0).trans hb6;have L:u6.heap[w.heap.size+1+1]?=some (Sg #[vN] 40 (0,0)):=by rw[R.block _ O0];exact l.o.hr
  have Y:u6.cell? (aA (w.heap.size+1+1) 0)=some vN:=by rw[Lib.cell_of_heap L];rfl
  have f6:=Lib.frozen_of_heap L 0;have hB6:=l.o.bel.trans (R.mono O0);have hil:=aG fs p x s.o.le;go_wp2;refine P7 (v:=.tuple #[.agg #[vL n (fs.length+1) r],vO]) (by simp[results,results219,go_sem,Y]) rfl ⟨⟨n,r,0,ins fs p x,by rw[hil],?_,b.o⟩,hB6.setCell L8 _⟩;exact FI HN O0 O0
 obtain⟨d,hset⟩:=yT t.o hfx s.o;have b:=U0 hset;obtain⟨g,cap4,q,hg,hnc,z,y,Q⟩:=Ey u.o d;have H40:=U0 (uG u q);have B:D=some (aA g 0)/\m=cap4:=by injection q with h1 _ h3;exact⟨h1,h3⟩
 obtain⟨B,hcc⟩:=B;subst B;subst hcc;have g0:=(z p d).1;have g1:=(z p d).2;have z0:=y (p*2);have z1:=y (p*2+1);have X:Hid (P6 ((u4.setCell (aA g (p*2)) (vS x.nm)).setCell (aA g (p*2+1)) (vS x.tx)) (some (aA g 0)) (put fs p x)):=WN d Q z;have HFZ:=U0 y;have W:But g u4 ((u4.setCell (aA g (p*2)) (vS x.nm)).setCell (aA g (p*2+1)) (vS x.tx)):=((But.refl _ _).setCell _ _).setCell _ _;have HBU:=U0 W;have H:=U0 (l.o.but W O0);have hpI:(p:Int)<(fs.length:Int):=O0;have HNF:Hid (Wn u2.heap.size ((u4.setCell (aA g (p*2)) (vS x.nm)).setCell (aA g (p*2+1)) (vS x.tx)) (some (aA g 0)) (put fs p x)):=⟨X,.inr ⟨g,rfl,hg,Ci X (by simpa using Q) (λj=>by have:=HFZ.o j;simpa using this),Xv (Xv H40)⟩⟩;go_wp2;have Z:=H.o.cells.2.2.2.1;refine P7 (v:=.tuple #[.agg #[vL (some (aA g 0)) fs.length m],vO]) (by simp[results,results219,go_sem,Z]) rfl ⟨⟨some (aA g 0),m,0,put fs p x,by rw[qN d],?_,b.o⟩,H.o.bel.setCell L8 _⟩;exact FI HNF O0 O0
end Go.Proofs.YtdgneicbmalnpaaGreatDoor.T
namespace Go.Proofs.YtdgneicbmalnpaaGreatDoor.G
open Proofs.Tryz Go.RowKit
section
variable{a l r:List UInt8}{b s:BY}{B g k n size:Nat}{w:World}{c y:Int}{ls ss:List (List UInt8)}{p:Addr}{e:TypeId}{xs:List Value}
theorem IZ{x:M3}{v:Bool}(hv:ig x=v)(w:World)(hs:x.le 1048700):
 Calls prog 251 #[.agg #[Sb x.nm,Sb x.tl,Sb x.ar]] w λe w'=>e=Sf (.bool v)/\Bw w w':=hv▸a2M x w hs
theorem ZM{b q:List UInt8}(ha:(10:UInt8)∉a)(e:(10:UInt8)∉b)(h:a++10::r=b++10::q):a=b/\r=q:=by
 induction a generalizing b with
 | nil=>
  cases b with
  | nil=>simpa using h
  | cons c b=>simp at h;exact absurd (by rw[h.1];simp) e
 | cons d a ih=>
  cases b with
  | nil=>simp at h;exact absurd (by rw[h.1];simp) ha
  | cons c b=>
   simp only[jd,Yi]at h;obtain⟨h1,h2⟩:=ih (λh=>ha (Ug _ h)) (λh=>e (Ug _ h)) h.2;exact⟨by rw[h.1,h1],h2⟩
theorem a2f(l:List UInt8):((Lib.cut l [10]).2.2=true/\l=(Lib.cut l [10]).1++10::(Lib.cut l [10]).2.1/\(10:UInt8)∉(Lib.cut l [10]).1)\/((Lib.cut l [10]).2.2=false/\(Lib.cut l [10]).1=l/\(10:UInt8)∉l):=by
 unfold Lib.cut;rw[Lib.index_one];have hge:=Lib.indexByte_ge l 10;by_cases h:Lib.indexByte l 10=-1
 ·rw[h,U7 O0];refine .inr ⟨rfl,rfl,λhm=>?_⟩;obtain⟨k,hk,e⟩:=Qe hm;exact Lib.indexByte_none h k (by rw[V8 hk,e])
 obtain⟨o,ho⟩:∃o:Nat,Lib.indexByte l 10=o:=⟨(Lib.indexByte l 10).toNat,O0⟩;obtain⟨h1,h2⟩:=Lib.indexByte_some ho;have hl:o<l.length:=by
  rcases Z7 o l.length with h|h
  ·exact h
  rw[Eb h]at h1;cases h1
 rw[ho,D8 O0];refine .inl ⟨rfl,?_,λhm=>?_⟩
 ·simp only[Yz,jk];have hx:l[o]=10:=by rw[V8 hl]at h1;exact C_ h1
  conv=>lhs;rw[<- Zk o l,Ky hl,hx]
 simp only[Yz]at hm;obtain⟨k,hk,e⟩:=Qe hm;rw[L_]at hk;rw[IB]at e;exact h2 k O0 (by rw[V8 O0,e])
theorem cut_small(b:UInt8)(l:List UInt8)(k:Nat):((Z8 b l).getD k []).length<=l.length:=by
 obtain⟨h1,h2⟩:=ZC b l ([],[]) l.length J4 J4;have h:∀x∈Z8 b l,x.length<=l.length:=by
  intro x hx;unfold Z8 P8 at hx;rcases Ph.1 hx with h|h
  ·exact h1 x h
  simp at h;subst h;exact h2
 rcases Z7 k (Z8 b l).length with hk|hk
 ·rw[List.getD,V8 hk];exact h _ (dh hk)
 rw[List.getD,Eb hk];simp
theorem a3D(w:World)(x y z:Value)(t:TypeId):∀j u,[x,y,z][j]?=some u->(w.alloc (Sg #[x,y,z] t)).cell? ((⟨w.heap.size,0,none⟩:Addr).add j)=some u:=by
 intro j u h
 match j,h with
 | 0,h=>simp at h;subst h;simp[Addr.add]
 | 1,h=>simp at h;subst h;simp[Addr.add]
 | 2,h=>simp at h;subst h;simp[Addr.add]
theorem a0e(a:g=w.heap.size)(x y z:Value)(t:TypeId):∀j u,[x,y,z][j]?=some u->(w.alloc (Sg #[x,y,z] t)).cell? ((⟨g,0,none⟩:Addr).add j)=some u:=by
 subst a;exact a3D w x y z t
theorem Js{v:Value}(h:w.ownsRow B e 3 v n xs):∃ao c,v=Sa ao n c:=by
 rcases h.2 with⟨hv,h0⟩|⟨g,cap,cur,hv,_⟩
 ·exact⟨none,0,by rw[hv,h0]⟩
 exact⟨_,_,hv⟩
end
section
variable{w:World}{B b base n size:Nat}{o:Obj}{e:TypeId}{v:Value}{xs:List Value}
theorem x9(h:w.ownsRow B e 1 v n xs):∃ao c,v=Sa ao n c:=by
 rcases h.2 with⟨hv,h0⟩|⟨g,cap,cur,hv,_⟩
 ·exact⟨none,0,by rw[hv,h0]⟩
 exact⟨_,_,hv⟩
theorem XO(l:List UInt8):(Z5 l).length<=3*l.length+2:=by
 have:=Dv l;unfold Z5;simp only[List.length_cons,List.length_append,List.length_nil];omega
end
section
variable{w:World}{a:OA}{is:List M3}
def Em(w:World)(a:OA)(is:List M3):Prop:=
 is=[]\/∃b off,a=some ⟨b,off,none⟩/\b<w.heap.size/\∀i,i<is.length->w.cell? ⟨b,off+i*3,none⟩=some (Sb (is.getD i J_).nm)/\w.cell? ⟨b,off+i*3+1,none⟩=some (Sb (is.getD i J_).tl)/\w.cell? ⟨b,off+i*3+2,none⟩=some (Sb (is.getD i J_).ar)
theorem Sj(h:Em w a is):∃b off,(is=[]\/(a=some ⟨b,off,none⟩/\b<w.heap.size/\∀i,i<is.length->w.cell? ⟨b,off+i*3,none⟩=some (Sb (is.getD i J_).nm)/\w.cell? ⟨b,off+i*3+1,none⟩=some (Sb (is.getD i J_).tl)/\w.cell? ⟨b,off+i*3+2,none⟩=some (Sb (is.getD i J_).ar))):=by
 rcases h with h|⟨b,off,h⟩
 ·exact⟨0,0,.inl h⟩
 exact⟨b,off,.inr h⟩
theorem Qm{w':World}(h:Em w a is)(c:Bw w w'):Em w' a is:=by
 rcases h with h|⟨b,off,h1,h2,e⟩
 ·exact .inl h
 exact .inr ⟨b,off,h1,P9 h2 c.size,λi d=>by rw[c.cell (by exact h2),c.cell (by exact h2),c.cell (by exact h2)];exact e i d⟩
theorem Yy{B:Nat}(h:∀i,i<is.length->(is.getD i J_).le B)(i:Nat):(is.getD i J_).le B:=by
 rcases Z7 i is.length with a|a
 ·exact h i a
 have e:is.getD i J_=J_:=by simp[List.getD,Eb a]
 rw[e];exact⟨Y4 _,Y4 _,Y4 _⟩
theorem oN:(prog.info? 142).map (λi=>(i.zero,i.size,i.bytes))=some (some (.agg #[Sb ⟨#[]⟩,Sb ⟨#[]⟩,Sb ⟨#[]⟩]),3,48):=Y0
end
def E_(x:M3):List UInt8:=[109,97,107,101,32]++je x++[10]
theorem a2s(s:BY)(w:World)(hs:s.size<=1048700):
 Calls prog 147 #[Sb s,Sc Se 3] w λe w'=>(∃g cp,e=Sf (.tuple #[Sa (some ⟨g,0,none⟩) 3 cp,Sb (U3 (g_ s.data.toList 3))])/\w.heap.size<=g/\Tc w' g (Q_ s.data.toList 3))/\Bw w w':=by
 obtain⟨A,F,D,C,B⟩:=info_parts info9;have hlen:s.data.toList.length=s.size:=J4
 go_in
 go_wp2;go_loopw[0,6,7] (λJ v i wr=>∃(m:Nat)(t:ByteArray)(ss:List (List UInt8)),m<=3/\i=Sc Se m/\J=Sb t/\wr.ownsRow w.heap.size 9 1 v m (Ou ss)/\Hid (t=U3 (g_ s.data.toList m)/\ss=Q_ s.data.toList m)/\Below w.heap.size w wr/\w.heap.size+1<=wr.heap.size) (λ_ _ i _=>3-(RowKit.intOf i).toNat);exact⟨0,s,[],Y4 _,rfl,rfl,ax _ #[] 0 A8 (Y4 _) rfl,⟨rfl,rfl⟩,U6,J4⟩;obtain⟨m,t,ss,hm,rfl,rfl,a,hrel,o,hz⟩:=hrel;by_cases hlt:m<3;rotate_left
 ·obtain rfl:m=3:=O0;obtain⟨rfl,rfl⟩:=hrel.o;clear hrel;obtain⟨g,cp,K⟩:=um a O0;subst K;go_wp2;go_ret2;exact⟨⟨g,cp,rfl,(a.lt g rfl).1,Ei a rfl⟩,o⟩
 obtain⟨hT,rfl⟩:=hrel.o;have hts:t.size<=1048700:=by rw[hT,I5];have:=Gj s.data.toList m;omega
 have H:t.data.toList=g_ s.data.toList m:=by rw[hT];simp[U3]
 have p:=U0 H;have a7V:t.data.toList.length=t.size:=J4;clear hT H;clear hrel;go_wp2;go_loop[8] (λn=>∃k:Nat,k<=t.size/\n=Sc Se k/\Hid ((t.data.toList.take k).all (· !=32)=true)) (λn=>t.size-(RowKit.intOf n).toNat);exact⟨0,Y4 _,rfl,rfl⟩;obtain⟨k,hk,rfl,ha⟩:=hrel;by_cases E:k<t.size;rotate_left
 ·obtain⟨d,c⟩:=Ho (l:=t.data.toList) ha.o O0 (.inl O0);have y:Hid (t.extract 0 k=U3 (Y1 t.data.toList)):=Uc (by rw[Ac,d];rfl);have z:Hid (t.extract k t.size=U3 (Y2 t.data.toList)):=Uc (by rw[Ac,c,p_ O0,Ht O0,Ht O0]);clear d c
  go_wp2_with(at_builtin;refine wpList_append_own _ rfl _ _ 22 rfl w.heap.size 9 A (Sb ⟨#[]⟩) 1 16 underlying22 F D C B rfl U5 _ _ _ rfl (a.alloc _) ⟨wr.heap.size,0,none⟩ 1 1 [_] rfl rfl (cell_one_new _ _ _) (by intro u f;simp at f;subst f;rfl) (by unfold maxLen;omega) O0 L8 ?_;intro v' I q h _)
  go_roundw
  ·have x:=(o.alloc o.size _).grown h L8 (λj r=>(a.lt j r).1);refine⟨m+1,_,Q_ s.data.toList (m+1),O0,by go_num,rfl,?_,⟨by rw[z.o,p.o];rfl,rfl⟩,x,by have:=h.size;simp at this;omega⟩;rw[Gl,Pg,<- p.o,<- y.o];exact q
  exact V9
 have a8F:(k:Int)<(t.size:Int):=O0;by_cases b:t[k]=32
 ·have e1:((t[k].toNat:Int) !=32)=false:=by rw[b];rfl
  obtain⟨d,c⟩:=Ho (l:=t.data.toList) ha.o O0 (.inr (by simp[E];exact b));have y:Hid (t.extract 0 k=U3 (Y1 t.data.toList)):=Uc (by rw[Ac,d];rfl);have z:Hid (t.extract (k+1) t.size=U3 (Y2 t.data.toList)):=Uc (by rw[Ac,c,p_ O0]);clear b d c
  go_wp2_with(at_builtin;refine wpList_append_own _ rfl _ _ 22 rfl w.heap.size 9 A (Sb ⟨#[]⟩) 1 16 underlying22 F D C B rfl U5 _ _ _ rfl (a.alloc _) ⟨wr.heap.size,0,none⟩ 1 1 [_] rfl rfl (cell_one_new _ _ _) (by intro u f;simp at f;subst f;rfl) (by unfold maxLen;omega) O0 L8 ?_;intro v' I q h _)
  go_roundw
  ·have x:=(o.alloc o.size _).grown h L8 (λj r=>(a.lt j r).1);refine⟨m+1,_,Q_ s.data.toList (m+1),O0,by go_num,rfl,?_,⟨by rw[z.o,p.o];rfl,rfl⟩,x,by have:=h.size;simp at this;omega⟩;rw[Gl,Pg,<- p.o,<- y.o];exact q
  exact V9
 have e1:((t[k].toNat:Int) !=32)=true:=by
  simp only[ru];intro e;exact b (uj.1 (by have:t[k].toNat=32:=O0;rw[this];rfl))
 have L:Hid ((t.data.toList.take (k+1)).all (· !=32)=true):=by
  rw[take_snoc t k E,jr,ha.o];simp[Hid,b]
 clear b;go_wp2
 go_round
 exact⟨k+1,O0,by go_num,L⟩;exact V9
end Go.Proofs.YtdgneicbmalnpaaGreatDoor.G
namespace Go.Proofs.YtdgneicbmalnpaaGreatDoor.G
open Proofs.Tryz Go.RowKit
open T (Yb)
section
variable{is js ms:List M3}{base i k:Nat}{x y:M3}{b s:BY}{R S a l q r t:List UInt8}
def stepM(ms:List M3)(k:Nat):Bool:=ig (ms.getD k J_)&&(decide (k=0)||Op.bytesLess (ms.getD (k-1) J_).nm.toList (ms.getD k J_).nm.toList)
def Ad(ms:List M3):Bool:=decide (ms.length<=30)&&(List.range ms.length).all (stepM ms)
theorem Yj(ms:List M3):Ad ms=true↔ms.length<=30/\∀k,k<ms.length->stepM ms k=true:=by simp[Ad]
def aj(ms:List M3):List UInt8:=if Ad ms=true/\(ms.flatMap E_).length<=300 then ms.flatMap E_ else []
theorem jw(h:k<ms.length)(hs:stepM ms k=false):Ad ms=false:=by
 cases hp:Ad ms
 ·rfl
 have:=((Yj ms).1 hp).2 k h;rw[hs]at this;cases this
theorem iT(h:k<ms.length)(hs:stepM ms k=false):aj ms=[]:=by
 unfold aj;rw[if_neg (by simp[jw h hs])]
theorem EO(h:30<ms.length):aj ms=[]:=by
 unfold aj;rw[if_neg (by rw[Yj];omega)]
theorem VB(h:ig x=true):x.nm.size<=20/\x.tl.size<=20/\x.ar.size<=300:=by
 simp[ig,Y5]at h;exact⟨h.1.1.1.2,h.1.2.1.2,O0⟩
theorem vg(h:s.size<=300):(U3 (Z5 s.data.toList)).size<=902:=by
 have:=XO s.data.toList;have e:s.data.toList.length=s.size:=J4;rw[I5];omega
theorem step_ok(h:stepM ms k=true):ig (ms.getD k J_)=true:=by
 unfold stepM at h;cases hx:ig (ms.getD k J_)
 ·rw[hx]at h;cases h
 rfl
theorem zU(h:ig x=true):(E_ x).length<=950:=by
 obtain⟨h1,h2,b⟩:=VB h;have a:=vg b;rw[I5]at a;have e1:x.nm.data.toList.length=x.nm.size:=J4;have c:x.tl.data.toList.length=x.tl.size:=J4;simp only[E_,je,Q9,f_,Fb,e1,c];omega
theorem UA(hk:k<ms.length):(ms.take (k+1)).flatMap E_=(ms.take k).flatMap E_++E_ (ms.getD k J_):=by
 have e:ms.getD k J_=ms[k]:=by simp[hk]
 rw[SB hk,Vo,e];simp
theorem CP:∀k,k<=ms.length->(∀j,j<k->stepM ms j=true)->((ms.take k).flatMap E_).length<=950*k:=by
 intro k
 induction k with
 | zero=>intro _ _;simp
 | succ k ih=>
  intro hk hd;rw[UA O0,Q9];have:=ih O0 (λj hj=>hd j O0);have:=zU (step_ok (hd k O0));omega
theorem gV{a:BY}(h:a=b):Sb a=Sb b:=by rw[h]
theorem WY(l:List UInt8)(x:M3):U3 l++(⟨#[109,97,107,101,32]⟩:BY)++x.nm++(⟨#[32]⟩:BY)++x.tl++(⟨#[32]⟩:BY)++U3 (Z5 x.ar.data.toList)++(⟨#[10]⟩:BY)=U3 (l++E_ x):=by
 apply jg;simp[U3,E_,je]
theorem a6i(a:OA)(cap:Nat)(is:List M3)(w:World)(hs:∀i,(is.getD i J_).le 1048576)(hl:is.length<=1048576)(hat:Em w a is):
 Calls prog 255 #[Sa a is.length cap] w λe w'=>e=Sf (Sb (U3 (aj is)))/\Bw w w':=by
 obtain⟨b,off,hc⟩:=Sj hat;have p:=U0 hc;by_cases hbig:30<is.length
 ·go_in
  go_wp2;go_ret;exact⟨Ov (by rw[EO hbig];rfl),O4 _ _⟩
 go_in
 go_wp2;go_loopw[3,4] (λo i wr=>∃(k:Nat),k<=is.length/\i=Sc Se k/\o=Sb (U3 ((is.take k).flatMap E_))/\Below w.heap.size w wr/\Hid (∀j,j<k->stepM is j=true)) (λ_ i _=>is.length-(RowKit.intOf i).toNat);exact⟨0,Y4 _,rfl,rfl,O4 _ _,λj h=>absurd h (U8 _)⟩;obtain⟨k,hk,rfl,rfl,d,D⟩:=hrel;have hL:(U3 ((is.take k).flatMap E_)).size<=950*30:=by
  have:=CP k hk D.o;rw[I5];omega
 by_cases m:k<is.length;rotate_left
 ·have hp:=(Yj is).2 ⟨O0,λj hj=>D.o j O0⟩;have H:Hid ((is.take k).flatMap E_=is.flatMap E_):=by rw[p_ O0];rfl
  have P:Hid (aj is=if (is.flatMap E_).length<=300 then is.flatMap E_ else []):=by unfold aj;simp only[hp,true_and];trivial
  rw[H.o]at hL ⊢;generalize is.flatMap E_=l at*;by_cases N:300<(U3 l).size
  ·go_wp2;go_ret;exact⟨Ov (by rw[P.o,U7 (by rw[I5]at N;omega)];rfl),d⟩
  go_wp2;go_ret;exact⟨Ov (by rw[P.o,D8 (by rw[I5]at N;omega)]),d⟩
 obtain⟨ha,r,A⟩:=Ud p.o m;subst ha;have R:=U0 d;have g0:=(d.cell (by exact r)).trans (A k m).1;have g1:=(d.cell (by exact r)).trans (A k m).2.1;have g2:=(d.cell (by exact r)).trans (A k m).2.2;have I:Hid ((is.getD k J_).le 1048700):=⟨X7 (hs k).1 O0,X7 (hs k).2.1 O0,X7 (hs k).2.2 O0⟩;have H:=U0 (UA m);generalize (is.take k).flatMap E_=l at*;generalize hx0:is.getD k J_=x at*
 go_wp2_with fail
 have HBW:Hid (Bw w (wr.alloc (Sg #[vS x.nm,vS x.tl,vS x.ar] 142))):=R.o.alloc R.o.size _;have v:=U0 (I4 wr [vS x.nm,vS x.tl,vS x.ar] 142);have bW:Bw wr (wr.alloc (Sg #[vS x.nm,vS x.tl,vS x.ar] 142)):=U6;generalize wr.alloc (Sg #[vS x.nm,vS x.tl,vS x.ar] 142)=W at*;have n:=v.o.lt;have Q:Hid (∀u,Bw W u->u.cell? ⟨wr.heap.size,0,none⟩=some (vS x.nm)/\u.cell? ⟨wr.heap.size,1,none⟩=some (vS x.tl)/\u.cell? ⟨wr.heap.size,2,none⟩=some (vS x.ar)):=λu g=>⟨((v.o.below g n).cell 0),((v.o.below g n).cell 1),((v.o.below g n).cell 2)⟩
 go_cut[36] from 15 to 36 (λs U=>s=.bool (!stepM is k)/\Hid (Bw W U))
 case first=>
  obtain⟨f,o1,y,t,G3,HY⟩:∃(f o1:Nat)(y:M3),f<W.heap.size/\W.cell? ⟨f,o1,none⟩=some (vS y.nm)/\(k=0/\stepM is k=ig x\/∃q,q+1=k/\f=b/\o1=off+q*3/\stepM is k=(ig x&&Op.bytesLess y.nm.toList x.nm.toList)):=by
   rcases wu k with h0|h0
   ·exact⟨_,_,x,n,v.o.cell 0,.inl ⟨h0,by subst h0;rw[<- hx0];simp[stepM]⟩⟩
   obtain⟨q,J⟩:∃q,q+1=k:=⟨k-1,O0⟩;have L:=P9 r d.size;refine⟨b,off+q*3,is.getD q J_,Nat.lt_trans L n,(bW.cell L).trans ((d.cell (by exact r)).trans (A q O0).1),.inr ⟨q,J,rfl,rfl,?_⟩⟩;have e1:decide (k=0)=false:=j_ O0;have O:k-1=q:=O0;unfold stepM;rw[e1,O,hx0];rfl
  have p:Hid (∀u,Bw W u->u.cell? ⟨wr.heap.size,0,none⟩=some (vS x.nm)/\u.cell? ⟨wr.heap.size,1,none⟩=some (vS x.tl)/\u.cell? ⟨wr.heap.size,2,none⟩=some (vS x.ar)/\u.cell? ⟨f,o1,none⟩=some (vS y.nm)):=λu g=>by
   obtain⟨h1,h2,h3⟩:=Q.o u g;exact⟨h1,h2,h3,(g.cell t).trans G3⟩
  rcases HY with⟨rfl,c⟩|⟨q,J,rfl,rfl,c⟩
  ·clear G3;cases hx:ig x
   all_goals
    rw[hx]at c
    replace c:=U0 c
    refine wp_region_held_drew (S:=λu=>u.cell? ⟨wr.heap.size,0,none⟩=some (vS x.nm)/\u.cell? ⟨wr.heap.size,1,none⟩=some (vS x.tl)/\u.cell? ⟨wr.heap.size,2,none⟩=some (vS x.ar)/\u.cell? ⟨f,o1,none⟩=some (vS y.nm)) Y0 (p _ (O4 _ _).drew) λhH=>?_;refine sq ?_;refine rq 1 λK E=>?_;go_simp;refine(IZ hx _ I).mono ?_;rintro e w1⟨rfl,t⟩;have z:Bw W w1:=((O4 _ _).drew).trans t;go_simp;refine E _ _ (p _ z) λhH=>?_
    iterate 16 refine sq ?_
    refine wdn ?_
    go_wp2_with fail
    go_meet
    exact⟨by rw[c.o];rfl,z⟩
  have hk0:0<k:=O0;have hm0:(0:Int)<(k:Int):=O0;have hm1:=X_ hm0;have hwr:IntKind.i64.wrap ((k:Int)-1)=(q:Int):=by rw[show(k:Int)-1=(q:Int) by omega];exact Yb q O0
  have hql:(q:Int)<(is.length:Int):=O0;cases hx:ig x
  all_goals
   cases hy:Op.bytesLess y.nm.toList x.nm.toList
   all_goals
    rw[hx,hy]at c
    replace c:=U0 c
    refine wp_region_held_drew (S:=λu=>u.cell? ⟨wr.heap.size,0,none⟩=some (vS x.nm)/\u.cell? ⟨wr.heap.size,1,none⟩=some (vS x.tl)/\u.cell? ⟨wr.heap.size,2,none⟩=some (vS x.ar)/\u.cell? ⟨f,off+q*3,none⟩=some (vS y.nm)) Y0 (p _ (O4 _ _).drew) λhH=>?_;refine sq ?_;refine rq 1 λK E=>?_;go_simp;refine(IZ hx _ I).mono ?_;rintro e w1⟨rfl,t⟩;have z:Bw W w1:=((O4 _ _).drew).trans t;go_simp;refine E _ _ (p _ z) λhH=>?_
    iterate 16 refine sq ?_
    refine wdn ?_
    go_wp2_with fail
    go_meet
    exact⟨by rw[c.o];rfl,z⟩
 obtain⟨rfl,BX⟩:=hcut;have F:=E5 HBW.o BX.o;obtain⟨Z,Y,X⟩:=Q.o _ BX.o;have C:=P9 n BX.o.size;cases hst:stepM is k
 ·have HF:=U0 (iT m hst);go_wp2;go_ret;exact⟨Ov (by rw[HF.o];rfl),F⟩
 have hx:=hx0▸step_ok hst;have c:=U0 hst;have hd':Hid (∀j,j<k+1->stepM is j=true):=λj hj=>by
  rcases Z7 j k with h|h
  ·exact D j h
  obtain rfl:j=k:=O0;exact c
 obtain⟨j1,j2,j3⟩:=VB hx;have s3:=vg j3;have k0:¬9223372036854775807<(U3 l).size+5:=O0;have k1:¬9223372036854775807<(U3 l).size+5+x.nm.size:=O0;have k2:¬9223372036854775807<(U3 l).size+5+x.nm.size+1:=O0;have k2':¬9223372036854775807<=(U3 l).size+5+x.nm.size:=O0;have k3:¬9223372036854775807<(U3 l).size+5+x.nm.size+1+x.tl.size:=O0;have k4:¬9223372036854775807<(U3 l).size+5+x.nm.size+1+x.tl.size+1:=O0;have k4':¬9223372036854775807<=(U3 l).size+5+x.nm.size+1+x.tl.size:=O0;have k5:¬9223372036854775807<(U3 l).size+5+x.nm.size+1+x.tl.size+1+(U3 (Z5 x.ar.data.toList)).size:=O0;have k6:¬9223372036854775807<(U3 l).size+5+x.nm.size+1+x.tl.size+1+(U3 (Z5 x.ar.data.toList)).size+1:=O0;have k6':¬9223372036854775807<=(U3 l).size+5+x.nm.size+1+x.tl.size+1+(U3 (Z5 x.ar.data.toList)).size:=O0;have a8G:x.ar.size<=1048700:=O0
 go_wp2_with fail
 go_region_held3 (λu=>u.cell? ⟨wr.heap.size,0,none⟩=some (vS x.nm)/\u.cell? ⟨wr.heap.size,1,none⟩=some (vS x.tl)/\u.cell? ⟨wr.heap.size,2,none⟩=some (vS x.ar)) (go_keep) (first|(go_at_call 201;refine(NM x.ar _ a8G).mono ?_;rintro e V⟨rfl,B⟩;have HB2:Hid (Bw w V):=F.trans (((O4 _ _).drew.trans B).mono F.size);have e0:=(B.cell (by simpa using C)).trans Z;have e1:=(B.cell (by simpa using C)).trans Y;have O:=(B.cell (by simpa using C)).trans X))
 all_goals go_wp2
 all_goals go_roundw
 all_goals first
  | exact⟨k+1,O0,by go_num,gV (by rw[H.o];exact WY l x),HB2.o,hd'⟩
  | (exact V9)
def Eg(x:M3):List UInt8:=[109,97,107,101]++32::je x
theorem Nj(x:M3):E_ x=Eg x++[10]:=rfl
theorem Qr(h:ig x=true):(10:UInt8)∉Eg x:=by
 obtain⟨h1,h2,_⟩:=Wh h;unfold Eg;rw[Ed];simp only[Ph,qf,Zm];refine⟨U5,U5,(Ja h1).2,U5,(Ja h2).2,U5,Rj _⟩
theorem YR(hx:ig x=true)(a:ig y=true)(h:Eg x=Eg y):x=y:=by
 unfold Eg at h;exact oD hx a (by simpa using h)
theorem pG(_hy:ig y=true):l=Eg y↔Y1 l=[109,97,107,101]/\Y2 l=je y:=by
 constructor
 ·rintro rfl;exact G8 U5
 rintro⟨h1,h2⟩;by_cases hm:(32:UInt8)∈l
 ·have:=(Pn hm).1;rw[h1,h2]at this;exact this
 rw[(Jj hm).2]at h2;exact absurd h2.symm (QM y)
theorem JS(hx:ig x=true)(a:ig y=true)(h:E_ x++r=E_ y++q):x=y/\r=q:=by
 rw[Nj,Nj,Tt,Tt]at h;obtain⟨h1,h2⟩:=ZM (Qr hx) (Qr a) h;exact⟨YR hx a h1,h2⟩
theorem lG(x:M3):E_ x≠[]:=by rw[Nj];simp
theorem sD(b:is.all ig=true)(a:js.all ig=true)(h:is.flatMap E_++R=js.flatMap E_):∃r,R=r.flatMap E_/\js=is++r:=by
 induction is generalizing js with
 | nil=>exact⟨js,by simpa using h,rfl⟩
 | cons x is ih=>
  simp only[zo,Fa]at b
  cases js with
  | nil=>
   have:=lG x;simp at h;exact absurd h.1 this
  | cons y js=>
   simp only[zo,Fa]at a;simp only[Xf,Tt]at h;obtain⟨rfl,h2⟩:=JS b.1 a.1 h;obtain⟨r,hr,hl⟩:=ih b.2 a.2 h2;exact⟨r,hr,by rw[hl];rfl⟩
theorem JD(b:is.all ig=true)(a:js.all ig=true)(h:is.flatMap E_=js.flatMap E_):is=js:=by
 obtain⟨r,hr,hl⟩:=sD (R:=[]) b a (by simpa using h)
 cases r with
 | nil=>simpa using hl.symm
 | cons y r=>
  have:=lG y;simp at hr;exact absurd hr.1 this
theorem wI(is:List M3):is.length<=(is.flatMap E_).length:=by
 induction is with
 | nil=>simp
 | cons x r ih=>
  have:1<=(E_ x).length:=dm.2 (lG x);simp only[Xf,Q9,f_];omega
theorem Jk(h:Ad ms=true):ms.all ig=true:=by
 rw[Uo];intro x hx;obtain⟨k,hk,e⟩:=Qe hx;have:=step_ok (((Yj ms).1 h).2 k hk);rw[List.getD,V8 hk]at this;rw[<- e];exact this
def t_(l:List UInt8)(is:List M3)(ok:Bool):Prop:=(ok=true->Ad is=true/\is.flatMap E_=l/\l.length<=300)/\(ok=false->is=[]/\∀js,Ad js=true->js.flatMap E_=l->300<l.length)
theorem wK{a b:Bool}(h:t_ l is a)(k:t_ l js b):is=js/\a=b:=by
 cases a<;>cases b
 ·exact⟨(h.2 rfl).1.trans (k.2 rfl).1.symm,rfl⟩
 ·obtain⟨d,c,e⟩:=k.1 rfl;have:=(h.2 rfl).2 js d c;omega
 ·obtain⟨d,c,e⟩:=h.1 rfl;have:=(k.2 rfl).2 is d c;omega
 obtain⟨d,c,e⟩:=k.1 rfl;obtain⟨h1,h2,h3⟩:=h.1 rfl;exact⟨JD (Jk h1) (Jk d) (h2.trans c.symm),rfl⟩
def Way(l:List UInt8)(is:List M3)(r:List UInt8):Prop:=l=is.flatMap E_++r/\is.all ig=true
theorem MO(l:List UInt8):Way l [] l:=⟨rfl,rfl⟩
theorem DT(h:Way l is (a++10::r))(hx:ig x=true/\a=Eg x):Way l (is++[x]) r:=by
 refine⟨?_,by rw[jr,h.2];simp[hx.1]⟩;rw[h.1,Vo,hx.2];simp[Nj]
theorem bD(h:Way l is r)(hr:r≠[])(d:∀y q,ig y=true->r≠Eg y++10::q):t_ l [] false:=by
 refine⟨(λh=>by cases h),λ_=>⟨rfl,λjs b e=>?_⟩⟩;exfalso;obtain⟨q,a,hl⟩:=sD h.2 (Jk b) (h.1.symm.trans e.symm)
 cases q with
 | nil=>exact hr a
 | cons y q=>
  have c:ig y=true:=by
   have:=(Jk b);rw[hl,jr,zo]at this;simp only[Fa]at this;exact this.2.1
  apply d y (q.flatMap E_) c;rw[a,Xf,Nj,Tt];rfl
theorem pY(h:Way l is [])(b:l.length<=300):(Ad is=true->t_ l is true)/\(Ad is=false->t_ l [] false):=by
 have e:l=is.flatMap E_:=by simpa using h.1
 refine⟨λhk=>⟨λ_=>⟨hk,e.symm,b⟩,(λh=>by cases h)⟩,λhk=>⟨(λh=>by cases h),λ_=>⟨rfl,λjs a c=>?_⟩⟩⟩;have:=JD (Jk a) h.2 (c.trans e);rw[this,hk]at a;cases a
theorem qE(h:300<l.length):t_ l [] false:=⟨(λh=>by cases h),λ_=>⟨rfl,λ_ _ _=>h⟩⟩
theorem kL(h:ms.all ig=true)(a:i<ms.length):ig (ms.getD i J_)=true:=by
 rw[List.getD,V8 a];exact Uo.1 h _ (dh a)
theorem dV(h:ig x=true):x.le 300:=by
 obtain⟨h1,h2,a⟩:=VB h;exact⟨O0,O0,a⟩
theorem dW(h:Way l is r):is.length+r.length<=l.length/\∀i,(is.getD i J_).le 300:=by
 have h1:=wI is;have h2:=G7 List.length h.1;rw[Q9]at h2;exact⟨O0,Yy λi a=>dV (kL h.2 a)⟩
def La(is:List M3):List Value:=is.flatMap λx=>[Sb x.nm,Sb x.tl,Sb x.ar]
theorem jv(is:List M3)(x:M3):La (is++[x])=La is++[Sb x.nm,Sb x.tl,Sb x.ar]:=by simp[La]
theorem DI(is:List M3)(i:Nat)(h:i<is.length):(La is)[i*3]?=some (Sb (is.getD i J_).nm)/\(La is)[i*3+1]?=some (Sb (is.getD i J_).tl)/\(La is)[i*3+2]?=some (Sb (is.getD i J_).ar):=by
 induction is generalizing i with
 | nil=>simp at h
 | cons x r ih=>
  cases i with
  | zero=>exact⟨rfl,rfl,rfl⟩
  | succ i=>
   have:=ih i (by simpa using h);have e:∀j,(La (x::r))[(i+1)*3+j]?=(La r)[i*3+j]?:=λj=>by
    show([Sb x.nm,vS x.tl,vS x.ar]++La r)[(i+1)*3+j]?=_;rw[Yf L8]
    congr 1
    simp;omega
   have e0:=e 0;simp only[Zo]at e0;rw[e0,e 1,e 2];exact this
theorem yt{w:World}{v:Value}(h:w.ownsRow base 142 3 v is.length (La is)):∃a cap,v=Sa a is.length cap/\Em w a is:=by
 have b:=h;rcases h.2 with⟨hv,h0⟩|⟨g,cap,cur,hv,hg,d,_⟩
 ·exact⟨none,0,by rw[hv,h0],.inl (Xb.1 h0)⟩
 refine⟨some ⟨g,0,none⟩,cap,hv,?_⟩;subst hv;refine .inr ⟨g,0,rfl,xg d,λi c=>?_⟩;obtain⟨e0,e1,e⟩:=DI is i c;rw[Y8,b.cellAt _ O0,b.cellAt _ O0,b.cellAt _ O0];exact⟨e0,e1,e⟩
theorem qO(js:List M3)(a:js.all ig=true)(o:List (List UInt8)):(js.flatMap E_).foldl (cst 10) (o,[])=(o++js.map Eg,[]):=by
 induction js generalizing o with
 | nil=>simp
 | cons x r ih=>
  simp only[zo,Fa]at a;rw[Xf,NF,Nj,GI _ _ (Qr a.1)];simp only[Y9];rw[ih a.2];simp
theorem xE(js:List M3)(a:js.all ig=true):Z8 10 (js.flatMap E_)=js.map Eg++[[]]:=by
 unfold Z8 P8;rw[qO js a];simp
def Parsed(l:List UInt8)(x:M3):Prop:=∀y,ig y=true->l=Eg y->x=y
theorem parsed(ht:∀q,g_ l 3=Z5 q->t=q):Parsed l ⟨U3 (Y1 (g_ l 1)),U3 (Y1 (g_ l 2)),U3 t⟩:=by
 intro y d e;obtain⟨h1,h2,_⟩:=Wh d;have a:g_ l 1=je y:=((pG d).1 e).2;rw[Ed]at a;have w1:=G8 (r:=y.tl.data.toList++32::Z5 y.ar.data.toList) (Ja h1).1;have c:g_ l 2=y.tl.data.toList++32::Z5 y.ar.data.toList:=by show Y2 (g_ l 1)=_;rw[a];exact w1.2
 have b:=G8 (r:=Z5 y.ar.data.toList) (Ja h2).1;have f:g_ l 3=Z5 y.ar.data.toList:=by show Y2 (g_ l 2)=_;rw[c];exact b.2
 have:=ht _ f;subst this;rw[a,c,w1.1,b.1];rfl
def MI(S:List UInt8)(is:List M3)(k:Nat):Prop:=∀js:List M3,js.all ig=true->js.flatMap E_=S->is=js.take k
theorem MH(S:List UInt8):MI S [] 0:=λ_ _ _=>rfl
theorem pJ(h:MI S is k)(hk:k+1<(Z8 10 S).length)(b:Parsed ((Z8 10 S).getD k []) x):MI S (is++[x]) (k+1):=by
 intro js c e;have h1:=h js c e;have hc:=xE js c;rw[e]at hc;rw[hc]at hk b;simp only[Q9,Ve,f_,Fb]at hk;have a:k<js.length:=O0;have f:(js.map Eg++[[]]).getD k []=Eg js[k]:=by
  simp only[List.getD,D_ (show k<(js.map Eg).length by simpa using a),yu,V8 a];rfl
 rw[f]at b;have d:=(Uo.1 c) _ (dh a);rw[h1,b js[k] d rfl,<- SB a]
theorem uP(h:MI S is k)(hkl:is.length=k)(hk:k+1=(Z8 10 S).length)(c:S.length<=300):(aj is=S->t_ S is true)/\(aj is≠S->t_ S [] false):=by
 constructor
 ·intro h2;unfold aj at h2;by_cases hc:Ad is=true/\(is.flatMap E_).length<=300
  ·rw[D8 hc]at h2;exact⟨λ_=>⟨hc.1,h2,c⟩,(λh=>by cases h)⟩
  rw[U7 hc]at h2;subst h2;have:k=0:=by simpa[Z8,P8]using hk
  have:is=[]:=Xb.1 O0;subst this;exact absurd ⟨rfl,J4⟩ hc
 intro d;refine⟨(λh=>by cases h),λ_=>⟨rfl,λjs a e=>?_⟩⟩;exfalso;apply d;have b:=Jk a;have h1:=h js b e;have hc:=xE js b;rw[e]at hc;rw[hc]at hk;simp only[Q9,Ve,f_,Fb]at hk;rw[p_ O0]at h1;subst h1;unfold aj;rw[D8 ⟨a,by rw[e];exact c⟩,e]
def a2U(is:List M3)(e:Ending):Prop:=
 (Ad is=true/\e=Sf .nilIface)\/(Ad is=false/\∃n ty va,e=Sf (.iface 334 (.agg #[Sc Se n,.iface ty va])))
theorem a5C(a:OA)(cap:Nat)(is:List M3)(w:World)(hs:∀i,(is.getD i J_).le 1048576)(hl:is.length<=1048576)(L:Em w a is)(F E t2:TypeId)(D v1 v2:Value)(v:w.cell? ⟨6,0,none⟩=some (.iface F D))(C:w.cell? ⟨7,0,none⟩=some (.iface E v1))(t:w.cell? ⟨8,0,none⟩=some (.iface t2 v2)):
 Calls prog 281 #[Sa a is.length cap] w λe w'=>a2U is e/\Bw w w':=by
 have h3z:8<w.heap.size:=by
  rcases Z7 8 w.heap.size with h|h
  ·exact h
  simp[World.cell?,Qo h]at t
 obtain⟨b,off,hc⟩:=Sj L;have U:=U0 hc
 go_in
 go_wp2;go_loopw[7] (λi wr=>∃(k:Nat),k<=is.length/\k<=30/\i=Sc Se k/\Below w.heap.size w wr/\Hid (∀j,j<k->stepM is j=true)) (λi _=>is.length-(RowKit.intOf i).toNat);exact⟨0,Y4 _,Y4 _,rfl,O4 _ _,λj h=>absurd h (U8 _)⟩;obtain⟨k,hk,a9m,rfl,f,r⟩:=hrel;by_cases l:k<is.length;rotate_left
 ·have p:Hid (∀_:is.length<=30,Ad is=true):=λh=>(Yj is).2 ⟨h,λj B=>r.o j O0⟩;have N:Hid (is.length<=30):=by show is.length<=30;omega
  go_wp2;go_ret;exact⟨.inl ⟨p N,rfl⟩,f⟩
 obtain⟨ha,n,o⟩:=Ud U.o l;subst ha;have g:=U0 f;have g0:=(f.cell (by exact n)).trans (o k l).1;have g1:=(f.cell (by exact n)).trans (o k l).2.1;have g2:=(f.cell (by exact n)).trans (o k l).2.2;have A:Hid ((is.getD k J_).le 1048700):=⟨X7 (hs k).1 O0,X7 (hs k).2.1 O0,X7 (hs k).2.2 O0⟩;have K:=P9 n f.size;by_cases O:k=30
 ·have R:Hid (Ad is=false):=by
   cases p:Ad is
   ·rfl
   have:=((Yj is).1 p).1;omega
  subst O;have z:=(yj wr (Sg #[vS (is.getD 30 J_).nm,vS (is.getD 30 J_).tl,vS (is.getD 30 J_).ar] 142) ⟨6,0,none⟩ (P9 (by show 6<w.heap.size;omega) f.size)).trans ((f.cell (by show 6<w.heap.size;omega)).trans v);generalize is.getD 30 J_=x at*;go_wp2;go_ret;exact⟨.inr ⟨R,_,_,_,rfl⟩,g.o.alloc g.o.size _⟩
 rcases wu k with h0|h0
 ·subst h0;have c:Hid (stepM is 0=ig (is.getD 0 J_)):=by simp[stepM,Hid]
  simp only[Gw,Zo]at g0 g1 g2;generalize is.getD 0 J_=x at*
  go_wp2_with fail
  refine(zZ x _ A).mono ?_;rintro e w1⟨rfl,m⟩;have d:=U0 ((g.o.alloc g.o.size _).trans (m.mono (by simp;exact kJ g.o.size)));have m0:=(m.cell J4).trans (show(wr.alloc (Sg #[vS x.nm,vS x.tl,vS x.ar] 142)).cell? ⟨wr.heap.size,0,none⟩=some (vS x.nm) by simp);have z:=(d.o.cell (by show 6<w.heap.size;omega)).trans v;have I:=(d.o.cell (by show 7<w.heap.size;omega)).trans C;have H:=(d.o.cell (by show 8<w.heap.size;omega)).trans t;cases hx:ig x
  ·rw[hx]at c;go_wp2;go_ret;exact⟨.inr ⟨jw l c,_,_,_,rfl⟩,d⟩
  go_wp2_with fail
  refine wp_region_held_drew (S:=(λu=>u.cell? ⟨wr.heap.size,0,none⟩=some (vS x.nm))) Y0 ?_ λhH=>?_
  · ((try dsimp only);go_keep)
  iterate 14 refine sq ?_
  refine wpAnyH_done Y0 ?_ _;rw[hx]at c;have s:Hid (∀j,j<0+1->stepM is j=true):=λj B=>by
   rcases Z7 j 0 with h|h
   ·exact r j h
   obtain rfl:j=0:=O0;exact c
  go_wp2;go_roundw;exact⟨0+1,O0,O0,by go_num,d.o.drew,s⟩;exact V9
 obtain⟨q,hq⟩:∃q,q+1=k:=⟨k-1,O0⟩;have P:=(f.cell (by exact n)).trans (o q O0).1;have c:Hid (stepM is k=(ig (is.getD k J_)&&Op.bytesLess (is.getD q J_).nm.toList (is.getD k J_).nm.toList)):=by
  have e1:decide (k=0)=false:=j_ O0;have Q:k-1=q:=O0;unfold stepM;rw[e1,Q];rfl
 have J:(0:Int)<(k:Int):=O0;have hm1:=X_ J;generalize is.getD k J_=x at*;generalize is.getD q J_=y at*;have hwr:IntKind.i64.wrap ((k:Int)-1)=(q:Int):=by rw[show(k:Int)-1=(q:Int) by omega];exact Yb q O0
 have hql:(q:Int)<(is.length:Int):=O0
 go_wp2_with fail
 refine(zZ x _ A).mono ?_;rintro e w1⟨rfl,m⟩;have d:=U0 ((g.o.alloc g.o.size _).trans (m.mono (by simp;exact kJ g.o.size)));have m0:=(m.cell J4).trans (show(wr.alloc (Sg #[vS x.nm,vS x.tl,vS x.ar] 142)).cell? ⟨wr.heap.size,0,none⟩=some (vS x.nm) by simp);have g3:=(m.cell L8).trans ((yj _ _ ⟨b,off+q*3,none⟩ K).trans P);have z:=(d.o.cell (by show 6<w.heap.size;omega)).trans v;have I:=(d.o.cell (by show 7<w.heap.size;omega)).trans C;have H:=(d.o.cell (by show 8<w.heap.size;omega)).trans t;cases hx:ig x
 ·have c:Hid (stepM is k=false):=by rw[c.o,hx];rfl
  go_wp2;go_ret;exact⟨.inr ⟨jw l c,_,_,_,rfl⟩,d⟩
 cases hy:Op.bytesLess y.nm.toList x.nm.toList
 ·go_wp2_with fail
  refine wp_region_held_drew (S:=(λu=>u.cell? ⟨wr.heap.size,0,none⟩=some (vS x.nm)/\u.cell? ⟨b,off+q*3,none⟩=some (vS y.nm))) Y0 ?_ λhH=>?_
  · ((try dsimp only);go_keep)
  iterate 14 refine sq ?_
  refine wpAnyH_done Y0 ?_ _;rw[hx,hy]at c;go_wp2;go_ret;exact⟨.inr ⟨jw l c,_,_,_,rfl⟩,d.o.drew⟩
 go_wp2_with fail
 refine wp_region_held_drew (S:=(λu=>u.cell? ⟨wr.heap.size,0,none⟩=some (vS x.nm)/\u.cell? ⟨b,off+q*3,none⟩=some (vS y.nm))) Y0 ?_ λhH=>?_
 · ((try dsimp only);go_keep)
 iterate 14 refine sq ?_
 refine wpAnyH_done Y0 ?_ _;rw[hx,hy]at c;have s:Hid (∀j,j<k+1->stepM is j=true):=λj B=>by
  rcases Z7 j k with h|h
  ·exact r j h
  obtain rfl:j=k:=O0;exact c
 go_wp2;go_roundw;exact⟨k+1,O0,O0,by go_num,d.o.drew,s⟩;exact V9
end
end Go.Proofs.YtdgneicbmalnpaaGreatDoor.G
namespace Go.Proofs.YtdgneicbmalnpaaGreatDoor.G
open Proofs.Tryz Go.RowKit
open T (F2 o9 G_ Asc P6 J5 Og Yb)
section
variable{w w':World}
structure Nw(w:World):Prop where
 g0:∃t v,w.cell? ⟨6,0,none⟩=some (.iface t v)
 g1:∃t v,w.cell? ⟨7,0,none⟩=some (.iface t v)
 g2:∃t v,w.cell? ⟨8,0,none⟩=some (.iface t v)
 g6:w.cell? ⟨4,0,none⟩=some (.iface 422 (.agg #[Sd (some ⟨14,253,none⟩)]))
theorem Nw.pos(h:Nw w):8<w.heap.size:=by
 obtain⟨t,v,a⟩:=h.g2;rcases Z7 8 w.heap.size with h|h
 ·exact h
 simp[World.cell?,Qo h]at a
theorem Nw.below(h:Nw w)(a:Bw w w'):Nw w':=by
 have hp:=h.pos;obtain⟨d,b,h0⟩:=h.g0;obtain⟨c,v1,h1⟩:=h.g1;obtain⟨t2,v2,h2⟩:=h.g2;exact⟨⟨d,b,(a.cell (by show 6<w.heap.size;omega)).trans h0⟩,⟨c,v1,(a.cell (by show 7<w.heap.size;omega)).trans h1⟩,⟨t2,v2,(a.cell (by show 8<w.heap.size;omega)).trans h2⟩,(a.cell (by show 4<w.heap.size;omega)).trans h.g6⟩
theorem uS(l:List UInt8)(w:World)(hs:l.length<=1048700)(hm:Vd w):
 Calls prog 256 #[Sb (U3 l),Sb ⟨#[32]⟩] w λe w'=>(∃y,e=Sf (.tuple #[Sb (U3 (Y1 l)),Sb (U3 (Y2 l)),.bool y]))/\Bw w w':=by
 obtain⟨_,m,hm⟩:=hm;refine(Tryz.strings_Cut (U3 l) ⟨#[32]⟩ m w (by rw[I5];omega) hm).mono ?_;rintro e w'⟨rfl,n,rfl⟩;refine⟨⟨(Lib.cut l [32]).2.2,?_⟩,below_drewN n⟩;rw[<- IK,<- LG];rfl
theorem a3c(l:List UInt8)(w:World)(hs:l.length<=1048700)(hm:Vd w):
 Calls prog 256 #[Sb (U3 l),Sb ⟨#[10]⟩] w λe w'=>e=Sf (.tuple #[Sb (U3 (Lib.cut l [10]).1),Sb (U3 (Lib.cut l [10]).2.1),.bool (Lib.cut l [10]).2.2])/\Bw w w':=by
 obtain⟨_,m,hm⟩:=hm;refine(Tryz.strings_Cut (U3 l) ⟨#[10]⟩ m w (by rw[I5];omega) hm).mono ?_;rintro e w'⟨rfl,n,rfl⟩;exact⟨rfl,below_drewN n⟩
theorem a6K(s:BY)(w:World):
 Calls prog 279 #[Sb s,Sb ⟨#[10]⟩] w λe w'=>(∃n,e=Sf (Sc Se n))/\w'=w:=by
 go_in
 go_wp2;rw[run_callFunc_extern func318 Y0 Y0 Y0 (e:=Extern.BytealgCount.count) Y0,Lib.run_countString];simp only[Result.andThen];rw[Oper.upon_value];go_wp2;go_ret;exact⟨⟨_,rfl⟩,rfl⟩
structure Po(w:World):Prop where
 va:Nw w
 g3:∃t v,w.cell? ⟨1,0,none⟩=some (.iface t v)
 g4:∃t v,w.cell? ⟨2,0,none⟩=some (.iface t v)
 g5:∃t v,w.cell? ⟨3,0,none⟩=some (.iface t v)
 mx:Vd w
theorem Po.below(h:Po w)(a:Bw w w'):Po w':=by
 have hp:=h.va.pos;obtain⟨f,c,j⟩:=h.g3;obtain⟨e,b,i⟩:=h.g4;obtain⟨d,v5,g⟩:=h.g5;exact⟨h.va.below a,⟨f,c,(a.cell (by show 1<w.heap.size;omega)).trans j⟩,⟨e,b,(a.cell (by show 2<w.heap.size;omega)).trans i⟩,⟨d,v5,(a.cell (by show 3<w.heap.size;omega)).trans g⟩,S9 h.mx a⟩
def NW(w:World)(l:List UInt8)(e:Ending)(w':World):Prop:=∃(ms:List M3)(v er:Value),e=Sf (.tuple #[v,er])/\w'.ownsRow w.heap.size 142 3 v ms.length (La ms)/\((er=.nilIface/\t_ l ms true)\/((∃n ty va,er=.iface 334 (.agg #[Sc Se n,.iface ty va]))/\t_ l [] false))
theorem Xz{l:List UInt8}(n:Int)(ty:TypeId)(va:Value)(h:t_ l [] false):NW w l (Sf (.tuple #[Sa none 0 0,.iface 334 (.agg #[Sc Se n,.iface ty va])])) w':=⟨[],_,_,rfl,M_ _ _ _ _,.inr ⟨⟨n,ty,va,rfl⟩,h⟩⟩
theorem fP(s:BY)(w:World)(hs:s.size<=1048576)(a:300<s.size)(hv:Po w):
 Calls prog 237 #[Sb s] w λe w'=>NW w s.data.toList e w'/\Bw w w':=by
 have b:Hid (t_ s.data.toList [] false):=qE (by simpa using a);obtain⟨t3,v3,g3⟩:=hv.g3
 go_in
 go_wp2_with fail
 go_region_with(go_at_call 279;refine(a6K _ _).mono ?_;rintro e w'⟨⟨n,rfl⟩,rfl⟩)
 all_goals go_wp2
 all_goals go_ret2
 all_goals exact⟨Xz _ _ _ b.o,by first|exact O4 _ _|exact(O4 _ _).drew⟩
theorem a3N(s:BY)(b:UInt8)(w:World)(hs:s.size<=1048700):
 Calls prog 146 #[Sb s,.int .u8 b.toNat] w λe w'=>(∃g cp,e=Sf (.slice (some ⟨g,0,none⟩) (Z8 b s.data.toList).length cp)/\w'.ownsRow w.heap.size 9 1 (.slice (some ⟨g,0,none⟩) (Z8 b s.data.toList).length cp) (Z8 b s.data.toList).length (Ou (Z8 b s.data.toList)))/\Bw w w':=by
 obtain⟨y,E,B,A,z⟩:=info_parts info9;have hlen:s.data.toList.length=s.size:=J4
 go_in
 go_wp2;go_loopw[5,6,7] (λv fr i wr=>∃(k f:Nat),k<=s.size/\f<=k/\i=Sc Se k/\fr=Sc Se f/\wr.ownsRow w.heap.size 9 1 v (P8 b (s.data.toList.take k)).1.length (Ou (P8 b (s.data.toList.take k)).1)/\Hid ((s.data.toList.take k).drop f=(P8 b (s.data.toList.take k)).2)/\Below w.heap.size w wr/\w.heap.size+1<=wr.heap.size) (λ_ _ i _=>s.size-(RowKit.intOf i).toNat);exact⟨0,0,Y4 _,Y7 _,rfl,rfl,ax _ #[] 0 A8 (Y4 _) rfl,rfl,U6,J4⟩;obtain⟨k,f,hk,hf,rfl,rfl,c,p,d,hz⟩:=hrel;have hL:(P8 b (s.data.toList.take k)).1.length<=k:=by
  have:=Xw b (s.data.toList.take k);rw[L_]at this;omega
 by_cases C:k<s.size;rotate_left
 ·have J:Hid (s.data.toList.take k=s.data.toList):=p_ O0;have r:Hid (s.extract f s.size=U3 (P8 b (s.data.toList.take k)).2):=Uc (by rw[Ac,<- show k=s.size by omega];exact p.o);have F:Hid (Z8 b s.data.toList=(P8 b (s.data.toList.take k)).1++[(P8 b (s.data.toList.take k)).2]):=by rw[J.o];rfl
  generalize P8 b (s.data.toList.take k)=st at*
  go_wp2_with(at_builtin;refine wpList_append_own _ rfl _ _ 22 rfl w.heap.size 9 y (Sb ⟨#[]⟩) 1 16 underlying22 E B A z rfl U5 _ _ _ rfl (c.alloc _) ⟨wr.heap.size,0,none⟩ 1 1 [_] rfl rfl (cell_one_new _ _ _) (by intro u a;simp at a;subst a;rfl) (by unfold maxLen;omega) O0 L8 ?_;intro v' x l m _;obtain⟨g,cp,H⟩:=um l O0;subst H)
  go_ret;have q:=(d.alloc d.size _).grown m L8 (λj o=>(c.lt j o).1);have I:x.ownsRow w.heap.size 9 1 (vL (some (aA g 0)) (st.1.length+1) cp) (st.1.length+1) (Ou (Z8 b s.data.toList)):=by
   rw[F.o,Pg,<- r.o];exact l
  have D:(Z8 b s.data.toList).length=st.1.length+1:=by rw[F.o];simp
  refine⟨⟨g,cp,by rw[D];rfl,by rw[D];exact I⟩,q⟩
 have n:Hid (P8 b (s.data.toList.take (k+1))=cst b (P8 b (s.data.toList.take k)) s[k]):=by rw[take_snoc s k C,Dq];rfl
 have r:Hid (s.extract f k=U3 (P8 b (s.data.toList.take k)).2):=Uc (by rw[Ac];exact p.o);by_cases hc:s[k]=b
 ·have e1:((s[k].toNat:Int)==(b.toNat:Int))=true:=by rw[hc];simp
  have h:Hid (cst b (P8 b (s.data.toList.take k)) s[k]=((P8 b (s.data.toList.take k)).1++[(P8 b (s.data.toList.take k)).2],[])):=by unfold cst;rw[if_pos hc];rfl
  have t:Hid ((s.data.toList.take (k+1)).drop (k+1)=[]):=Ht L8;generalize P8 b (s.data.toList.take k)=st at*
  go_wp2_with(at_builtin;refine wpList_append_own _ rfl _ _ 22 rfl w.heap.size 9 y (Sb ⟨#[]⟩) 1 16 underlying22 E B A z rfl U5 _ _ _ rfl (c.alloc _) ⟨wr.heap.size,0,none⟩ 1 1 [_] rfl rfl (cell_one_new _ _ _) (by intro u a;simp at a;subst a;rfl) (by unfold maxLen;omega) O0 L8 ?_;intro v' x l m _)
  go_roundw
  ·have q:=(d.alloc d.size _).grown m L8 (λj o=>(c.lt j o).1);refine⟨k+1,k+1,O0,Y7 _,by go_num,by go_num,?_,?_,q,by have:=m.size;simp at this;omega⟩
   ·rw[n.o,h.o,Q9,Pg,<- r.o];exact l
   rw[n.o,h.o];exact t.o
  exact V9
 have e1:((s[k].toNat:Int)==(b.toNat:Int))=false:=by
  simp only[S_];intro e;exact hc (uj.1 O0)
 have h:Hid (cst b (P8 b (s.data.toList.take k)) s[k]=((P8 b (s.data.toList.take k)).1,(P8 b (s.data.toList.take k)).2++[s[k]])):=by unfold cst;rw[if_neg hc];rfl
 have t:Hid ((s.data.toList.take (k+1)).drop f=(s.data.toList.take k).drop f++[s[k]]):=by rw[take_snoc s k C,YJ L8];rfl
 generalize P8 b (s.data.toList.take k)=st at*;go_wp2;go_roundw
 ·refine⟨k+1,f,O0,O0,by go_num,rfl,?_,?_,d,hz⟩
  ·rw[n.o,h.o];exact c
  rw[n.o,h.o,t.o,p.o];rfl
 exact V9
theorem own_ne{B B' e b size c n d:Nat}{v v':Value}{xs xs':List Value}(h:w.ownsRow B e size v n xs)(j:w.ownsRow B' b c v' d xs')(f:e≠b):v.ownBlock=none\/v.ownBlock≠v'.ownBlock:=by
 rcases h.2 with⟨rfl,_⟩|⟨g,cap,cur,rfl,_,i,_⟩
 ·exact .inl rfl
 rcases j.2 with⟨rfl,_⟩|⟨g',cap',cur',rfl,_,a,_⟩
 ·exact .inr (by simp[Value.ownBlock])
 refine .inr λhe=>?_;simp only[Value.ownBlock,Iw]at he;subst he;rw[i]at a;simp only[Iw,Obj.cells.injEq]at a;exact f a.2.1
theorem a2Y(l:List UInt8)(w:World)(hs:l.length<=1048700):
 Calls prog 149 #[Sb (U3 l)] w λe w'=>(∃t,e=Sf (Sb (U3 t))/\t.length<=l.length+1/\∀q,l=Z5 q->t=q)/\Bw w w':=by
 have:=a1R (U3 l) w (by rw[I5];exact hs);rw[I5]at this;exact this
theorem a2o(l:List UInt8)(w:World)(hs:l.length<=1048700):
 Calls prog 147 #[Sb (U3 l),Sc Se 3] w λe w'=>(∃g cp,e=Sf (.tuple #[Sa (some ⟨g,0,none⟩) 3 cp,Sb (U3 (g_ l 3))])/\w.heap.size<=g/\Tc w' g (Q_ l 3))/\Bw w w':=a2s (U3 l) w (by rw[I5];exact hs)
theorem GK{ms:List M3}{x:M3}{B:Nat}(h:∀j,(ms.getD j J_).le B)(hx:x.le B)(j:Nat):((ms++[x]).getD j J_).le B:=by
 rcases Jt j ms.length with a|a|a
 ·have:(ms++[x]).getD j J_=ms.getD j J_:=by simp[List.getD,D_ a]
  rw[this];exact h j
 ·subst a;have:(ms++[x]).getD ms.length J_=x:=by simp[List.getD]
  rw[this];exact hx
 have:(ms++[x]).getD j J_=J_:=by simp[List.getD,Eb (show(ms++[x]).length<=j by simp;omega)]
 rw[this];exact⟨Y4 _,Y4 _,Y4 _⟩
theorem cell_grown{row:Option Nat}(c:w.grownBy w' row){p:Addr}(a:p.block<w.heap.size)(b:some p.block≠row):w'.cell? p=w.cell? p:=by
 unfold World.cell?;rw[c.block p.block a b]
def a4r(l:List UInt8)(e:Ending)(w':World):Prop:=∃(ms:List M3)(ok:Bool)(a:OA)(cap:Nat),e=Sf (.tuple #[Sa a ms.length cap,.bool ok])/\Em w' a ms/\t_ l ms ok
theorem c212(s:BY)(w:World)(hs:s.size<=1048576):
 Calls prog 212 #[Sb s] w λe w'=>a4r s.data.toList e w'/\Bw w w':=by
 have hlen:s.data.toList.length=s.size:=J4;obtain⟨Y,hi,hz0,hz1,hz2⟩:=info_parts oN;by_cases a7c:300<s.size
 ·have n:Hid (t_ s.data.toList [] false):=qE O0
  go_in
  go_wp2;go_ret2;exact⟨⟨[],false,_,_,rfl,.inl rfl,n⟩,U6⟩
 go_in
 go_wp2_with fail
 refine(a3N s 10 _ O0).mono ?_;rintro e w1⟨⟨g,cp,rfl,hln⟩,y⟩;have hx1:=U6.trans (y.mono J4);have hz1':w.heap.size+1<=w1.heap.size:=by have:=y.size;simpa using this
 have hrow0:w1.ownsRow w.heap.size 142 3 (vL (some (aW w 0)) 0 0) 0 (La []):=ownsRow_below (ax _ #[] 0 A8 (Y4 _) rfl) y;have a8H:w1.ownsRow w.heap.size 9 1 (vL (some (aA g 0)) (Z8 10 s.data.toList).length cp) (Z8 10 s.data.toList).length (Ou (Z8 10 s.data.toList)):=Og hln J4;obtain⟨hn1,hn2⟩:=Zn 10 s.data.toList;have HCS:=U0 (cut_small 10 s.data.toList)
 go_wp2_with fail
 generalize hLs:Z8 10 s.data.toList=a at*;have C:=U0 hLs;go_loopw[4,6] (λv i wr=>∃(k:Nat)(ms:List M3),k+1<=a.length/\i=Sc Se k/\ms.length=k/\Hid (MI s.data.toList ms k)/\Hid (∀j,(ms.getD j J_).le 1048576)/\wr.ownsRow w.heap.size 142 3 v ms.length (La ms)/\wr.ownsRow w.heap.size 9 1 (Sa (some ⟨g,0,none⟩) a.length cp) a.length (Ou a)/\Below w.heap.size w wr/\w.heap.size+1<=wr.heap.size) (λ_ i _=>a.length-(RowKit.intOf i).toNat);exact⟨0,[],O0,rfl,rfl,MH _,(λj=>⟨Y4 _,Y4 _,Y4 _⟩),hrow0,a8H,hx1,hz1'⟩;obtain⟨k,ms,hk,rfl,a8I,F,E,d,I,O,Z⟩:=hrel;subst a8I;obtain⟨ao,co,hv⟩:=Js d;subst hv;by_cases hlt:ms.length+1<a.length;rotate_left
 ·obtain⟨E1,E2⟩:=uP F.o rfl (by rw[C.o];omega) O0;have U:=U0 E1;have R:=U0 E2;obtain⟨ao',cap',hv',P⟩:=yt d;injection hv' with h1 h2 h3;subst h1 h3;have HAT:=U0 P;have hmm:ms.length<=1048576:=O0;have HC:=a6i ao co ms wr E hmm P
  go_wp2_with fail
  refine HC.mono ?_;rintro e w5⟨rfl,N⟩;have z:=E5 O N;have a8J:=U0 (Qm HAT N);by_cases hf:aj ms=s.data.toList
  ·have n:=U0 (U.o hf);have m:(U3 (aj ms)).toList=s.toList:=by rw[hf,ByteArray.toList_eq,ByteArray.toList_eq];rfl
   have e1:((U3 (aj ms)).toList==s.toList)=true:=by simpa using m
   clear U R hf;go_wp2;go_ret2;exact⟨⟨ms,true,_,_,rfl,a8J.o,n.o⟩,z⟩
  have n:=U0 (R.o hf);have m:¬(U3 (aj ms)).toList=s.toList:=by rw[ByteArray.toList_eq,ByteArray.toList_eq];simpa[U3]using hf
  have e1:((U3 (aj ms)).toList==s.toList)=false:=by simpa using m
  go_wp2;go_ret2;exact⟨⟨[],false,_,_,rfl,.inl rfl,n⟩,z.alloc z.size _⟩
 have a8K:=Ei I rfl;have l0:=a8K.2 ms.length O0;have hLl:=HCS.o ms.length;have a8L:=λ(t:List UInt8) ht=>parsed (l:=a.getD ms.length []) (t:=t) ht;generalize hL:a.getD ms.length []=L at*;have HL:=U0 hL;have hiB:(ms.length:Int)<(a.length:Int):=O0
 go_wp2_with fail
 refine(a2o L _ O0).mono ?_;rintro e q⟨⟨g2,cp2,rfl,hg2,x⟩,o⟩;have hB2:=E5 O o;have hown2:=ownsRow_below d o;have hrow2:=ownsRow_below I o;have hz2':=X7 Z o.size;have X:q.cell? (aA g2 1)=some (vS (U3 (Y1 (g_ L 1)))):=x.2 1 (by simp[Q_]);have W:q.cell? (aA g2 2)=some (vS (U3 (Y1 (g_ L 2)))):=x.2 2 (by simp[Q_]);have J:=x.1;have r1:=Gj L 1;have r2:=Gj L 2;have r3:=Gj L 3;have r1':=(X8 (g_ L 1)).1;have r2':=(X8 (g_ L 2)).1;generalize hA:Y1 (g_ L 1)=A at*;generalize hBB:Y1 (g_ L 2)=B at*;generalize hQ:g_ L 3=Q at*
 go_wp2_with fail
 refine wp_region_held_drew (S:=(λu=>u.cell? (aA g2 1)=some (vS (U3 A))/\u.cell? (aA g2 2)=some (vS (U3 B)))) Y0 ?_ λhH=>?_
 · ((try dsimp only);go_keep)
 iterate 8 refine sq ?_
 refine rq 8 λK h=>?_;go_simp;refine(a2Y Q _ O0).mono ?_;rintro e c⟨⟨t,rfl,htl,htq⟩,hb3⟩;have b:Hid (Bw q c):=(O4 _ _).drew.trans hb3;have e1:=(b.o.cell (by exact J)).trans X;have m:=(b.o.cell (by exact J)).trans W;have r:=ownsRow_below hown2 b;have H:=ownsRow_below hrow2 b;have a9n:=b.o.size;have e1a:=past (by show g2<c.heap.size;omega) e1;have e2a:=past (by show g2<c.heap.size;omega) m
 go_wp2_with fail
 refine h _ _ ?_ λhH=>?_
 · ((try dsimp only);go_keep)
 refine sq ?_;refine rq 10 λK h=>?_;go_simp;refine h _ _ ?_ λhH=>?_
 · ((try dsimp only);go_keep)
 try simp only[qq]
 refine rq 11 λK h=>?_;refine Jv rfl (.tmp 31) (.tmp 41) 130 rfl w.heap.size 142 Y (.agg #[vE,vE,vE]) 3 48 underlying130 hi hz0 hz1 hz2 rfl U5 _ _ _ rfl (r.alloc _) (aW c 0) 1 1 [_,_,_] rfl rfl (a0e rfl _ _ _ _) (by intro u D;simp at D;rcases D with rfl|rfl|rfl<;>rfl) (by unfold maxLen;omega) O0 L8 ?_;intro v' V hown4 f;have hB4:=U0 ((((E5 hB2 b.o).alloc O0 _).grown f L8 (λj hj=>(r.lt j hj).1)));have hrow4:=U0 ((H.alloc _).kept f (own_ne H r U5));have f1:=(cell_grown f (p:=(aA g2 1)) L8 (λe=>by have:=(d.lt _ e.symm).2;simp at this;omega)).trans (e1a _);have f2:=(cell_grown f (p:=(aA g2 2)) L8 (λe=>by have:=(d.lt _ e.symm).2;simp at this;omega)).trans (e2a _);have hz4:c.heap.size+1<=V.heap.size:=by have:=f.size;simp at this;omega
 refine h _ _ ?_ λhH=>?_
 · ((try dsimp only);go_keep)
 refine sq ?_;refine wpAnyH_done Y0 ?_ _;have HSO:=U0 (pJ F (by rw[C.o];exact hlt) (by rw[C.o,HL.o];exact a8L t htq));have HTX:Hid (∀j,((ms++[(⟨U3 A,U3 B,U3 t⟩:M3)]).getD j J_).le 1048576):=GK E ⟨by rw[I5];omega,by rw[I5];omega,by rw[I5];omega⟩;go_wp2;go_roundw
 ·refine⟨ms.length+1,ms++[(⟨U3 A,U3 B,U3 t⟩:M3)],O0,by go_num,J4,HSO,HTX,?_,hrow4.o,hB4.o,O0⟩;rw[jv,Q9];exact hown4
 exact V9
end
section
variable{fs:List F2}{ms:List M3}
def Uu:BY:=⟨#[112,108,97,110]⟩
def Free(fs:List F2)(nm:BY):Prop:=∀j,j<fs.length->(fs.getD j o9).nm≠nm
def En(fs:List F2)(ms:List M3):Prop:=∀i,i<ms.length->Free fs (ms.getD i J_).nm
def Ih(fs:List F2)(ms:List M3):Prop:=
 (¬G_ fs/\ms=[])\/(G_ fs/\Free fs Uu/\ms=[])\/
 (G_ fs/\∃i,i<fs.length/\(fs.getD i o9).nm=Uu/\∃ks ok,t_ (fs.getD i o9).tx.data.toList ks ok/\((ok=true/\En fs ks/\ms=ks)\/(¬(ok=true/\En fs ks)/\ms=[])))
theorem dO(h:G_ fs){i j:Nat}(b:i<fs.length)(a:j<fs.length)(e:(fs.getD i o9).nm=(fs.getD j o9).nm):i=j:=by
 have hm:=T.Yh h;rcases Jt i j with h1|h1|h1
 ·have:=hm i j h1 a;rw[e,T.Xd]at this;cases this
 ·exact h1
 have:=hm j i h1 b;rw[e,T.Xd]at this;cases this
theorem fA{ns:List M3}(h:Ih fs ms)(k:Ih fs ns):ms=ns:=by
 rcases h with⟨h1,rfl⟩|⟨h1,h2,rfl⟩|⟨h1,i,f,e,ks,ok,m,hr⟩
 ·rcases k with⟨_,rfl⟩|⟨a,_⟩|⟨a,_⟩
  ·rfl
  ·exact absurd a h1
  exact absurd a h1
 ·rcases k with⟨a,_⟩|⟨_,_,rfl⟩|⟨_,j,b,hk,_⟩
  ·exact absurd h1 a
  ·rfl
  exact absurd hk (h2 j b)
 rcases k with⟨a,_⟩|⟨_,g,_⟩|⟨_,j,b,hk,ks',ok',l,d⟩
 ·exact absurd h1 a
 ·exact absurd e (g i f)
 obtain rfl:=dO h1 f b (e.trans hk.symm);obtain⟨rfl,rfl⟩:=wK m l;rcases hr with⟨a1,a2,rfl⟩|⟨a1,rfl⟩
 ·rcases d with⟨_,_,rfl⟩|⟨c,_⟩
  ·rfl
  exact absurd ⟨a1,a2⟩ c
 rcases d with⟨c,n,_⟩|⟨_,rfl⟩
 ·exact absurd ⟨c,n⟩ a1
 rfl
theorem Iu{l:List UInt8}{ok:Bool}(h:t_ l ms ok):ms.length<=300/\∀i,(ms.getD i J_).le 300:=by
 cases ok
 ·rw[(h.2 rfl).1];exact⟨Y4 _,λi=>⟨Y4 _,Y4 _,Y4 _⟩⟩
 obtain⟨h1,h2,h3⟩:=h.1 rfl;have:=wI ms;rw[h2]at this;exact⟨O0,Yy λi a=>dV (kL (Jk h1) a)⟩
theorem jA(h:Ih fs ms):ms.length<=300:=by
 rcases h with⟨_,rfl⟩|⟨_,_,rfl⟩|⟨_,i,hi,hn,ks,ok,a,hr⟩
 ·exact Y4 _
 ·exact Y4 _
 rcases hr with⟨_,_,rfl⟩|⟨_,rfl⟩
 ·exact(Iu a).1
 exact Y4 _

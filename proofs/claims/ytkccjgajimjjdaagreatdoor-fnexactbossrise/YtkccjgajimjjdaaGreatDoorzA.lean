import Derived.Test.YtkccjgajimjjdaaGreatDoorpC
import Derived.Stop.Asserts
import Derived.RowKitTokens
import Derived.Test.YtkccjgajimjjdaaGreatDooreEQ
import Derived.Lib.AppendZeros
set_option linter.unusedVariables false
set_option maxHeartbeats 8000000
set_option maxRecDepth 100000
namespace Go.Proofs.YtkccjgajimjjdaaGreatDoor.G
open Proofs.Tryz Go.RowKit Go.Extern.Stop Go.Stop Go.Extern
theorem as_nil(t:Value)(w:World):
 Calls prog 208 #[.nilIface,t] w λe w'=>e=.returned (.bool false)/\w'=w:=by
 go_in
 go_wp2;go_ret;exact⟨rfl,rfl⟩
theorem pO(t:Addr)(w:World):(ReflectliteValue.unpack (.iface 276 (.pointer (some t)))).run prog w
 =.ok (.agg #[.pointer (some ⟨14,276,none⟩),.pointer (some ⟨w.heap.size,0,none⟩),.int .u64 150]) (w.alloc (.cells #[.pointer (some t)] 276)):=Y1
theorem type64 (a:Addr) (w:World):(ReflectliteValue.methodAny (ReflectliteValue.valueError "reflectlite.Value.Type" 0) (λt _ _ _=>ReflectliteType.toType t) #[.agg #[.pointer (some ⟨14,276,none⟩),.pointer (some a),.int .u64 150]]).run prog w
 =.ok (.iface 366 (.agg #[.pointer (some ⟨14,276,none⟩)])) w:=Y1
theorem methodKind (h:Value) (w:World):(Go.method 567 366 (.agg #[h]) "Kind").run prog w=.ok (373,h) w:=Y1
theorem a0y(w:World):((ReflectliteType.abiMethod λt=>(λa:Nat=>Value.int IntKind.u8 (a:Int)) <$> Rtype.kind t) #[.pointer (some ⟨14,276,none⟩)]).run prog w=.ok (.int .u8 22) w:=Y1
theorem WZ(w:World):((ReflectliteType.abiMethod λt=>(λa:Nat=>Value.int IntKind.u8 (a:Int)) <$> Rtype.kind t) #[.pointer (some ⟨14,274,none⟩)]).run prog w=.ok (.int .u8 25) w:=Y1
theorem iV (a:Addr) (W:World):(ReflectliteValue.method (ReflectliteValue.valueError "reflectlite.Value.IsNil" 0) ReflectliteValue.isNil #[.agg #[.pointer (some ⟨14,276,none⟩),.pointer (some a),.int .u64 150]]).run prog W=(ReflectliteValue.isNil 276 a 150 22).run prog W:=Y1
theorem wV (a:Addr) (W:World):(ReflectliteValue.method (ReflectliteValue.valueError "reflectlite.Value.Elem" 0) ReflectliteValue.elem #[.agg #[.pointer (some ⟨14,276,none⟩),.pointer (some a),.int .u64 150]]).run prog W=(ReflectliteValue.elem 276 a 150 22).run prog W:=Y1
theorem lV(a p:Addr)(W:World)(ha:W.cell? a=some (.pointer (some p))):
 (ReflectliteValue.method (ReflectliteValue.valueError "reflectlite.Value.IsNil" 0) ReflectliteValue.isNil #[.agg #[.pointer (some ⟨14,276,none⟩),.pointer (some a),.int .u64 150]]).run prog W=.ok (.bool false) W:=by
 rw[iV];simp[ReflectliteValue.isNil,loadVar,isAgg,underlying,underlying276,ha,Result.andThen]
theorem methodElem (h:Value) (w:World):(Go.method 567 366 (.agg #[h]) "Elem").run prog w=.ok (393,.agg #[h]) w:=Y1
theorem methodImplements (h:Value) (w:World):(Go.method 567 366 (.agg #[h]) "Implements").run prog w=.ok (394,.agg #[h]) w:=Y1
theorem methodAssignableTo (h:Value) (w:World):(Go.method 567 366 (.agg #[h]) "AssignableTo").run prog w=.ok (391,.agg #[h]) w:=Y1
theorem a0U(w:World):(ReflectliteType.method ReflectliteType.elem #[.agg #[.pointer (some ⟨14,276,none⟩)]]).run prog w=.ok (.iface 366 (.agg #[.pointer (some ⟨14,274,none⟩)])) w:=Y1
theorem TD (w:World):(ReflectliteType.relation "Implements" ReflectliteType.implements_ #[.agg #[.pointer (some ⟨14,274,none⟩)],.iface 366 (.agg #[.pointer (some ⟨14,202,none⟩)])]).run prog w=.ok (.bool true) w:=Y1
theorem jS(v:Value)(w:World):(ReflectliteType.typeOf #[.iface 274 v]).run prog w=.ok (.iface 366 (.agg #[.pointer (some ⟨14,274,none⟩)])) w:=Y1
theorem mG (w:World):(ReflectliteType.relation "AssignableTo" ReflectliteType.assignableTo #[.agg #[.pointer (some ⟨14,274,none⟩)],.iface 366 (.agg #[.pointer (some ⟨14,274,none⟩)])]).run prog w=.ok (.bool true) w:=Y1
theorem ZM(x y:Value)(w:World):(ReflectliteValue.unpack (.iface 274 (.agg #[x,y]))).run prog w
 =.ok (.agg #[.pointer (some ⟨14,274,none⟩),.pointer (some ⟨w.heap.size,0,none⟩),.int .u64 153]) (w.alloc (.cells #[x,y] 274)):=Y1
theorem aT(w:World):(Rtype.elem? 276).run prog w=.ok (some 274) w:=Y1
theorem a5w(p:Addr)(w:World):(ReflectliteValue.mk 274 p ReflectliteValue.flagAddr).run prog w=.ok (.agg #[.pointer (some ⟨14,274,none⟩),.pointer (some p),.int .u64 409]) w:=Y1
theorem jX(a p:Addr)(W:World)(ha:W.cell? a=some (.pointer (some p))):
 (ReflectliteValue.method (ReflectliteValue.valueError "reflectlite.Value.Elem" 0) ReflectliteValue.elem #[.agg #[.pointer (some ⟨14,276,none⟩),.pointer (some a),.int .u64 150]]).run prog W
  =.ok (.agg #[.pointer (some ⟨14,274,none⟩),.pointer (some p),.int .u64 409]) W:=by
 rw[wV];simp[ReflectliteValue.elem,loadVar,isAgg,underlying,underlying276,ha,Result.andThen,aT,a5w]
theorem IZ(a b:Addr)(W:World):(ReflectliteValue.set #[.agg #[.pointer (some ⟨14,274,none⟩),.pointer (some a),.int .u64 409],.agg #[.pointer (some ⟨14,274,none⟩),.pointer (some b),.int .u64 153]]).run prog W=(do let v<-loadVar 274 b;storeVar 274 a v;pure (Value.tuple #[])).run prog W:=Y1
theorem a2Z(B c:Nat)(n:Int)(ty:TypeId)(va x0 a:Value)(W:World)(k:W.cell? ⟨c,0,none⟩=some (.int .i64 n))(j:W.cell? ⟨c,1,none⟩=some (.iface ty va))(d:W.cell? ⟨B,0,none⟩=some x0)(b:W.cell? ⟨B,1,none⟩=some a)(h:W.frozen? ⟨B,0,none⟩=false)(g:W.frozen? ⟨B,1,none⟩=false):
 (ReflectliteValue.set #[.agg #[.pointer (some ⟨14,274,none⟩),.pointer (some ⟨B,0,none⟩),.int .u64 409],.agg #[.pointer (some ⟨14,274,none⟩),.pointer (some ⟨c,0,none⟩),.int .u64 153]]).run prog W
  =.ok (.tuple #[]) ((W.setCell ⟨B,0,none⟩ (.int .i64 n)).setCell ⟨B,1,none⟩ (.iface ty va)):=by
 have f:(W.setCell (aA B 0) (vI n)).cell? (aA B 1)=some a:=by rw[Xb _ _ _ _ (by intro e;injection e with _ e;cases e)];exact b
 have i:(W.setCell (aA B 0) (vI n)).frozen? (aA B 1)=false:=by simpa using g
 rw[IZ];simp[loadVar,isAgg,underlying,underlying274,loadCells,loadCellsFrom,k,j,Result.andThen,storeVar,Value.cells,storeCells,Addr.add];rw[run_store prog W (aA B 0) _ _ (by rfl)];simp[d,h];rw[run_store prog _ (aA B 1) _ _ (by rfl)];simp[f,i]
theorem as_hit(B:Nat)(n:Int)(ty:TypeId)(va x0 b:Value)(w:World)(d:w.cell? ⟨4,0,none⟩=some (.iface 366 (.agg #[.pointer (some ⟨14,202,none⟩)])))(c:w.cell? ⟨B,0,none⟩=some x0)(e:w.cell? ⟨B,1,none⟩=some b)(i:w.frozen? ⟨B,0,none⟩=false)(g:w.frozen? ⟨B,1,none⟩=false):
 Calls prog 208 #[.iface 274 (.agg #[.int .i64 n,.iface ty va]),.iface 276 (.pointer (some ⟨B,0,none⟩))] w λj w'=>j=.returned (.bool true)/\w'=(((((w.alloc (.cells #[.pointer (some ⟨B,0,none⟩)] 276)).alloc (.cells #[.pointer (some ⟨14,276,none⟩),.pointer (some ⟨w.heap.size,0,none⟩),.int .u64 150] 324)).alloc (.cells #[.pointer (some ⟨14,276,none⟩),.pointer (some ⟨w.heap.size,0,none⟩),.int .u64 150] 324)).alloc (.cells #[.int .i64 n,.iface ty va] 274)).setCell ⟨B,0,none⟩ (.int .i64 n)).setCell ⟨B,1,none⟩ (.iface ty va):=by
 have h40:=@run_callFunc_extern prog 251 _ (λargs=>ReflectliteValue.unpack (args.getD 0 (.tuple #[]))) func251 Y1 Y1 Y1 Y1;have h41:=@run_callFunc_extern prog 252 _ (ReflectliteValue.methodAny (ReflectliteValue.valueError "reflectlite.Value.Type" 0) (λt _ _ _=>ReflectliteType.toType t)) func252 Y1 Y1 Y1 Y1;have h42:=@run_callFunc_extern prog 253 _ (ReflectliteValue.method (ReflectliteValue.valueError "reflectlite.Value.IsNil" 0) ReflectliteValue.isNil) func253 Y1 Y1 Y1 Y1;have h84:=@run_callFunc_extern prog 373 _ (ReflectliteType.abiMethod λt=>do pure (.int .u8 (<- Rtype.kind t))) func373 Y1 Y1 Y1 Y1;have h96:=@run_callFunc_extern prog 393 _ (ReflectliteType.method ReflectliteType.elem) func393 Y1 Y1 Y1 Y1;have h97:=@run_callFunc_extern prog 394 _ (ReflectliteType.relation "Implements" ReflectliteType.implements_) func394 Y1 Y1 Y1 Y1;have h54:=@run_callFunc_extern prog 290 _ ReflectliteType.typeOf func290 Y1 Y1 Y1 Y1;have h94:=@run_callFunc_extern prog 391 _ (ReflectliteType.relation "AssignableTo" ReflectliteType.assignableTo) func391 Y1 Y1 Y1 Y1;have h55:=@run_callFunc_extern prog 291 _ (ReflectliteValue.method (ReflectliteValue.valueError "reflectlite.Value.Elem" 0) ReflectliteValue.elem) func291 Y1 Y1 Y1 Y1;have h56:=@run_callFunc_extern prog 292 _ ReflectliteValue.set func292 Y1 Y1 Y1 Y1;have tO:=jS;have mA:=methodAssignableTo;have a25:=mG;have v25:=ZM;have f6:=pO;have f7:=type64;have mK:=methodKind;have mE:=methodElem;have mI:=methodImplements;have k27:=a0y;have k25:=WZ;have e27:=a0U;have i25:=TD;have n8:=lV (aW w 0) (aA B 0) ((w.alloc (.cells #[.pointer (some (aA B 0))] 276)).alloc (.cells #[.pointer (some (aA 14 276)),.pointer (some (aW w 0)),.int .u64 150] 324)) E5;have f:4<w.heap.size:=by
  rcases D8 4 w.heap.size with h0|h
  ·exact h0
  simp[World.cell?,Qp h]at d
 have hg2:((w.alloc (.cells #[.pointer (some (aA B 0))] 276)).alloc (.cells #[.pointer (some (aA 14 276)),.pointer (some (aW w 0)),.int .u64 150] 324)).cell? (aA 4 0)=some (.iface 366 (.agg #[.pointer (some (aA 14 202))])):=by
  rw[Aj _ _ (aA 4 0) Q8,Aj _ _ (aA 4 0) f];exact d
 have a:B<w.heap.size:=by
  rcases D8 B w.heap.size with h|h
  ·exact h
  simp[World.cell?,Qp h]at c
 have el:=jX (aW w 0) (aA B 0) (((w.alloc (.cells #[.pointer (some (aA B 0))] 276)).alloc (.cells #[.pointer (some (aA 14 276)),.pointer (some (aW w 0)),.int .u64 150] 324)).alloc (.cells #[.pointer (some (aA 14 276)),.pointer (some (aW w 0)),.int .u64 150] 324)) (by rw[Aj _ _ (aW w 0) Q8];simp);have st:=a2Z B (w.heap.size+1+1+1) n ty va x0 b ((((w.alloc (.cells #[.pointer (some (aA B 0))] 276)).alloc (.cells #[.pointer (some (aA 14 276)),.pointer (some (aW w 0)),.int .u64 150] 324)).alloc (.cells #[.pointer (some (aA 14 276)),.pointer (some (aW w 0)),.int .u64 150] 324)).alloc (.cells #[vI n,.iface ty va] 274))
  (by rw[World.cell?_alloc_at _ _ _ _ E5];rfl)
  (by rw[World.cell?_alloc_at _ _ _ _ E5];rfl)
  (by rw[Aj _ _ (aA B 0) Q8,Aj _ _ (aA B 0) Q8,Aj _ _ (aA B 0) Q8,Aj _ _ (aA B 0) a];exact c)
  (by rw[Aj _ _ (aA B 1) Q8,Aj _ _ (aA B 1) Q8,Aj _ _ (aA B 1) Q8,Aj _ _ (aA B 1) a];exact e)
  (by rw[qx _ _ (aA B 0) Q8,qx _ _ (aA B 0) Q8,qx _ _ (aA B 0) Q8,qx _ _ (aA B 0) (Nat.ne_of_lt a)];exact i)
  (by rw[qx _ _ (aA B 1) Q8,qx _ _ (aA B 1) Q8,qx _ _ (aA B 1) Q8,qx _ _ (aA B 1) (Nat.ne_of_lt a)];exact g)
 go_in
 go_wp2;refine wp_loop_rounds 1 ?_;rw[rounds_succ];go_wp2;go_ret;exact⟨rfl,rfl⟩
theorem tY(B:Nat)(n:Int)(ty:TypeId)(va x0 a:Value)(w:World)(f:w.cell? ⟨4,0,none⟩=some (.iface 366 (.agg #[.pointer (some ⟨14,202,none⟩)])))(b:w.cell? ⟨B,0,none⟩=some x0)(d:w.cell? ⟨B,1,none⟩=some a)(i:w.frozen? ⟨B,0,none⟩=false)(g:w.frozen? ⟨B,1,none⟩=false):
 Calls prog 208 #[.iface 274 (.agg #[.int .i64 n,.iface ty va]),.iface 276 (.pointer (some ⟨B,0,none⟩))] w λj w'=>j=.returned (.bool true)/\Below B w w':=by
 have c:B<w.heap.size:=by
  rcases D8 B w.heap.size with h|h
  ·exact h
  simp[World.cell?,Qp h]at b
 refine(as_hit B n ty va x0 a w f b d i g).mono ?_;rintro e w'⟨he,hw⟩;refine⟨he,?_⟩;rw[hw];exact((((((G5 B w).alloc (Vt c) _).alloc Q8 _).alloc Q8 _).alloc Q8 _).setCell (p:=(aA B 0)) X7 _).setCell (p:=(aA B 1)) X7 _
theorem wS(w:World):
 Calls prog 154 #[.nilIface] w λe w'=>e=.returned (.bool false)/\Bw w w':=by
 go_in
 go_wp2_with fail
 refine(as_nil _ _).mono ?_;rintro e w1⟨rfl,rfl⟩;go_wp2;go_ret;exact⟨rfl,Y6⟩
theorem fQ(n:Int)(ty:TypeId)(va:Value)(w:World)(a:w.cell? ⟨4,0,none⟩=some (.iface 366 (.agg #[.pointer (some ⟨14,202,none⟩)]))):
 Calls prog 154 #[.iface 274 (.agg #[.int .i64 n,.iface ty va])] w λe w'=>e=.returned (.bool true)/\Bw w w':=by
 have b:4<w.heap.size:=by
  rcases D8 4 w.heap.size with h0|h
  ·exact h0
  simp[World.cell?,Qp h]at a
 have d:Hid (∀o,(w.alloc o).cell? (aA 4 0)=some (.iface 366 (.agg #[.pointer (some (aA 14 202))]))):=λo=>(Aj _ _ (aA 4 0) b).trans a
 go_in
 go_wp2_with fail
 refine(tY w.heap.size n ty va vO .nilIface _ (d.out _) E5 E5 E5 E5).mono ?_;rintro e w1⟨rfl,c⟩;have hB:=Y6.trans c;go_wp2;go_ret;exact⟨rfl,hB⟩
end Go.Proofs.YtkccjgajimjjdaaGreatDoor.G
namespace Go.Proofs.YtkccjgajimjjdaaGreatDoor
open Proofs.Tryz Go.RowKit
variable{u w:World}{a:OA}{c:Nat}{ss:LB}
theorem EN(h:Z7 w a ss)(ha:ss=[]->a=none\/∃p,a=some p)(f:Bw w u):Src u (.slice a ss.length c) 1 ss.length (ss.map .string):=by
 rcases h with rfl|⟨b,off,rfl,hl,h⟩
 ·rcases ha rfl with rfl|⟨p,rfl⟩
  ·exact .inl ⟨⟨c,rfl⟩,rfl,rfl⟩
  exact .inr ⟨p,c,rfl,rfl,λj u e=>by simp at e⟩
 refine .inr ⟨_,c,rfl,E5,λj v e=>?_⟩;obtain⟨d,rfl⟩:=Zi.1 e;simp at d;rw[Bo,f.cell (by exact hl),h j d];simp[List.getD,d]
theorem Vu(h:Z7 w a ss)(b:Bw w u):Src u (.slice a ss.length c) 1 ss.length (ss.map .string):=EN h (λ_=>by cases a;exact .inl rfl;exact .inr ⟨_,rfl⟩) b
theorem aG{base:Nat}{v:Value}(h:w.ownsRow base 9 1 v ss.length (ss.map .string)):∃a c,v=.slice a ss.length c/\Z7 w a ss:=by
 obtain⟨a,c,rfl⟩:=D9 h;refine⟨a,c,rfl,?_⟩;by_cases h0:ss=[]
 ·exact .inl h0
 have d:=Rl.2 h0;obtain⟨g,c',e,f,_⟩:=Oh h (j:=0) (x:=vS (ss[0])) (by simp[d]);injection e with e;subst e;refine .inr ⟨g,0,rfl,f,λi b=>?_⟩;obtain⟨g',c'',e,_,h2⟩:=Oh h (j:=i) (x:=vS (ss[i])) (by simp[b]);injection e with e;injection e with e;injection e with e;subst e;rw[o9,h2];simp[List.getD,b]
theorem c21(sf lo:LB)(sa la:OA)(sc lc:Nat)(w:World)(hl:sf.length+lo.length<=1048576)(p:Z7 w sa sf)(q:Z7 w la lo):
 Calls prog 21 #[.agg #[.slice sa sf.length sc,.slice la lo.length lc]] w λe w'=>(∃a c,e=.returned (.slice a (sf++lo).length c)/\Z7 w' a (sf++lo))/\Bw w w':=by
 have A:=U0 p;have z:=U0 q;clear p q
 go_in
 go_upto_region 1 with fail
 have t:=U0 (X4 w [vL sa sf.length sc,vL la lo.length lc] 37);have n:=U0 (Y6 (w:=w) (o:=.cells #[vL sa sf.length sc,vL la lo.length lc] 37));generalize w.alloc (.cells #[vL sa sf.length sc,vL la lo.length lc] 37)=V at*;have hd:Bw V V.drew:=(G5 _ _).drew;have g:Hid (∀u,Bw V u->u.cell? (aW w 0)=some (vL sa sf.length sc)/\u.cell? (aW w 1)=some (vL la lo.length lc)):=λu v=>have h:=t.out.below v t.out.lt;⟨h.cell 0,h.cell 1⟩
 refine FI g hd Y1 λhH=>?_;refine p_ 1 ?_;refine tq 2 hH ?_;refine p_ 4 ?_;refine p_ 5 ?_;refine rq 0 λK b=>?_;go_simp;have j:=U0 (row0 (base:=V.heap.size) V.drew 9 1 rfl X7);have d:Bw V (V.drew.alloc (.cells #[] 9)):=hd.alloc X7 _;refine A8 b (g.out _ d) λhH=>?_;clear b K;refine rq 3 λK b=>?_;refine Ea rfl _ _ 22 rfl V.heap.size 9 1 underlying22 Yv Z5 _ 0 [] rfl j.out _ sf.length (sf.map .string) rfl (Vu A.out (J5 n.out d)) (Nc _) O0 d.size ?_;intro v1 y1 m g1 e1;rw[o9,j_]at m;have f:=W_ d g1 d.size (λk e=>Z4 j.out e);have i:=U0 m;clear m g1 e1 j d;refine A8 b (g.out _ f) λhH=>?_;clear b K;refine rq 6 λK b=>?_;refine Ea rfl _ _ 22 rfl V.heap.size 9 1 underlying22 Yv Z5 _ sf.length (sf.map .string) rfl i.out _ lo.length (lo.map .string) rfl (Vu z.out (J5 n.out f)) (Nc _) O0 f.size ?_;intro v2 y2 l g2 x;have s:=W_ f g2 f.size (λk e=>Z4 i.out e);rw[<- Rk,<- P9]at l;obtain⟨a,c,rfl,r⟩:=aG l;have y:=U0 r;have B:=U0 (J5 n.out s);clear l g2 x i r;refine A8 b (g.out _ s) λhH=>?_;clear b K;refine sq ?_;refine wdn ?_;go_wp2;go_ret;exact⟨⟨_,_,by rw[P9];rfl,y.out⟩,B.out⟩
theorem c193(n:Nat)(w:World)(hn:n<=1048576):
 Calls prog 193 #[.slice none 0 0,.int .i64 n] w λe w'=>(∃v,e=.returned v/\w'.ownsRow w.heap.size 9 1 v 0 [])/\Bw w w':=by
 by_cases h0:n=0
 ·subst h0
  go_in
  go_wp2;go_ret;exact⟨⟨_,rfl,Y_ _ _ _ _⟩,G5 _ _⟩
 obtain⟨a,f,d,c,b⟩:=info_parts info9;have hr:∀u:World,_:=λu:World=>Lib.run_append_nil_zeros (P:=prog) u 22 3 22 9 a vE .i64 .i64 underlying22 underlying3 f d n O0 (by rw[c];decide) O0 (by rw[b];omega);have h1:(0:Int)<n:=O0
 go_in
 go_wp2_with(refine Lib.wpList_append_run _ rfl _ _ 22 3 rfl _ _ rfl rfl _ _ (hr _) ?_)
 go_ret;refine⟨⟨_,rfl,rfl,.inr ⟨w.heap.size,grownCap w n 0 9,_,rfl,Nat.le_refl _,heap_alloc_new w _,Nat.zero_le _,grownCap_le_maxLen w n 0 9 (by unfold maxLen;omega),?_,E5⟩⟩,Y6.drew⟩;have:=grownCap_ge w n 0 9;rw[Array.size_append,size_zeroCells,size_zeroCells];show n*1+(grownCap w n 0 9-n)*1=_;omega
theorem c143(sf lo:LB)(sa la:OA)(sc lc B:Nat)(w:World)(hl:sf.length+lo.length<=1048576)(hB:Cl w B 22 [.slice sa sf.length sc,.slice la lo.length lc])(q:Z7 w sa sf)(r:Z7 w la lo):
 Calls prog 143 #[.slice (some ⟨B,0,none⟩) 2 2] w λe w'=>(∃v,e=.returned v/\w'.ownsRow w.heap.size 9 1 v (sf++lo).length ((sf++lo).map .string))/\Bw w w':=by
 have A:=U0 q;have z:=U0 r;have p:=U0 hB;have l:=hB.cell 0;have j:=hB.cell 1;simp only[gz]at l j
 go_in
 go_wp2;go_loop[3,11] (λs i=>(i=.int .i64 0/\s=.int .i64 0)\/(i=.int .i64 1/\s=.int .i64 sf.length)\/(i=.int .i64 2/\s=.int .i64 ((sf.length:Int)+lo.length))) (λ_ i=>2-(RowKit.intOf i).toNat);exact .inl ⟨rfl,rfl⟩;rcases hrel with⟨rfl,rfl⟩|⟨rfl,rfl⟩|⟨rfl,rfl⟩
 ·go_wp2
  go_round
  exact .inr (.inl ⟨rfl,rfl⟩);simp[RowKit.intOf]
 ·go_wp2
  go_round
  exact .inr (.inr ⟨rfl,by go_num⟩);simp[RowKit.intOf]
 go_wp2_with fail
 have o:=c193 (sf.length+lo.length) w hl;rw[aK]at o;refine o.mono ?_;rintro e w1⟨⟨v,rfl,hv⟩,t⟩;go_wp2;go_loopw[6,27] (λs i wr=>((i=.int .i64 0/\wr.ownsRow w.heap.size 9 1 s ([]:List ByteArray).length (([]:List ByteArray).map .string))\/(i=.int .i64 1/\wr.ownsRow w.heap.size 9 1 s sf.length (sf.map .string))\/(i=.int .i64 2/\wr.ownsRow w.heap.size 9 1 s (sf++lo).length ((sf++lo).map .string)))/\Below w.heap.size w wr) (λ_ i _=>2-(RowKit.intOf i).toNat);exact⟨.inl ⟨rfl,hv⟩,t⟩;obtain⟨hrel,a⟩:=hrel;rcases hrel with⟨rfl,hr⟩|⟨rfl,hr⟩|⟨rfl,hr⟩
 ·replace l:=(a.cell (by exact p.out.lt)).trans l
  have b:=U0 hr;have m:=U0 (Vu (c:=sc) A a)
  go_wp2_with(refine Vd rfl _ _ 22 rfl w.heap.size 9 1 underlying22 Yv Z5 _ ([]:LB).length (([]:LB).map .string) rfl b.out _ sf.length (sf.map .string) rfl m.out (Nc _) (by first|omega|(simp;omega)) a.size ?_;intro v' y d f u)
  have g:=U0 (W_ a f a.size (λk e=>Z4 b e));have n:=U0 d;go_wp2;go_roundw;exact⟨.inr (.inl ⟨rfl,by have h:=n.out;simpa using h⟩),g.out⟩;simp[RowKit.intOf]
 ·replace j:=(a.cell (by exact p.out.lt)).trans j
  have b:=U0 hr;have m:=U0 (Vu (c:=lc) z a)
  go_wp2_with(refine Vd rfl _ _ 22 rfl w.heap.size 9 1 underlying22 Yv Z5 _ (sf).length ((sf).map .string) rfl b.out _ lo.length (lo.map .string) rfl m.out (Nc _) (by first|omega|(simp;omega)) a.size ?_;intro v' y d f u)
  have g:=U0 (W_ a f a.size (λk e=>Z4 b e));have n:=U0 d;go_wp2;go_roundw;exact⟨.inr (.inr ⟨rfl,by have h:=n.out;rw[<- Rk,<- P9]at h;exact h⟩),g.out⟩;simp[RowKit.intOf]
 have x:=U0 hr;go_wp2;go_ret;exact⟨⟨_,rfl,x⟩,a⟩
theorem c85(sf lo:LB)(sa la:OA)(sc lc:Nat)(w:World)(hl:sf.length+lo.length<=1048576)(d:Z7 w sa sf)(f:Z7 w la lo):
 Calls prog 85 #[.agg #[.slice sa sf.length sc,.slice la lo.length lc]] w λe w'=>(∃a c,e=.returned (.slice a (sf++lo).length c)/\Z7 w' a (sf++lo))/\Bw w w':=by
 have b:Bw w ((w.alloc (.cells #[vL sa sf.length sc,vL la lo.length lc] 37)).alloc (.cells #[vL sa sf.length sc,vL la lo.length lc] 22)):=Y6.alloc E5 _;have hc:=c143 sf lo sa la sc lc (w.heap.size+1) _ hl (by have h:=X4 (w.alloc (.cells #[vL sa sf.length sc,vL la lo.length lc] 37)) [vL sa sf.length sc,vL la lo.length lc] 22;simpa using h) (P6 d b) (P6 f b);have l:=U0 b
 go_in
 go_wp2_with fail
 refine hc.mono ?_;rintro e w1⟨⟨v,rfl,j⟩,g⟩;obtain⟨a,c,rfl,i⟩:=aG j;have k:=U0 i;have m:=U0 (J5 l g);go_wp2;go_ret;exact⟨⟨_,_,by rw[P9];rfl,k.out⟩,m.out⟩
theorem LX(v:Value)(n:Nat)(xs:List Value)(w:World)(hn:n<=1048576)(h1:∀u∈xs,u.oneCell'=true)(a:∀u,Bw w u->Src u v 1 n xs):
 Calls prog 92 #[v] w λe w'=>(∃v',e=.returned v'/\w'.ownsRow w.heap.size 9 1 v' n xs)/\Bw w w':=by
 rcases a w (G5 _ _) with⟨⟨c,rfl⟩,rfl,rfl⟩|⟨g,c,rfl,_,_⟩
 ·have f:∀u,(binOp .eql 22 (.slice none 0 c) (.slice none 0 0)).run prog u=.ok (.bool true) u:=λu=>Y1
  go_in
  go_wp2;go_ret;exact⟨⟨_,rfl,Y_ _ _ _ _⟩,G5 _ _⟩
 have f:∀u,(binOp .eql 22 (.slice (some g) n c) (.slice none 0 0)).run prog u=.ok (.bool false) u:=λu=>Y1;have h:=U0 a;have b:=U0 (row0 (base:=w.heap.size) w 9 1 rfl X7);clear a
 go_in
 go_wp2_with(at_builtin;refine Vd rfl _ _ 22 rfl w.heap.size 9 1 underlying22 Yv Z5 _ 0 [] rfl b.out _ n xs rfl (h.out _ Y6) h1 O0 E5 ?_;intro v1 y1 d g1 _;rw[o9,j_]at d;have i:=W_ Y6 g1 E5 (λk e=>Z4 b.out e))
 go_ret;exact⟨⟨_,rfl,d⟩,i⟩
theorem dZ:Inf prog 3 1:=Zc Y1
theorem a4f(v:Value)(n:Nat)(xs:List Value)(w:World)(hn:n<=1048576)(h1:∀u∈xs,u.oneCell'=true)(a:∀u,Bw w u->Src u v 1 n xs):
 Calls prog 95 #[v] w λe w'=>(∃v',e=.returned v'/\w'.ownsRow w.heap.size 3 1 v' n xs)/\Bw w w':=by
 rcases a w (G5 _ _) with⟨⟨c,rfl⟩,rfl,rfl⟩|⟨g,c,rfl,_,_⟩
 ·have f:∀u,(binOp .eql 31 (.slice none 0 c) (.slice none 0 0)).run prog u=.ok (.bool true) u:=λu=>Y1
  go_in
  go_wp2;go_ret;exact⟨⟨_,rfl,Y_ _ _ _ _⟩,G5 _ _⟩
 have f:∀u,(binOp .eql 31 (.slice (some g) n c) (.slice none 0 0)).run prog u=.ok (.bool false) u:=λu=>Y1;have h:=U0 a;have b:=U0 (row0 (base:=w.heap.size) w 3 1 rfl X7);clear a
 go_in
 go_wp2_with(at_builtin;refine Vd rfl _ _ 31 rfl w.heap.size 3 1 underlying31 dZ Z5 _ 0 [] rfl b.out _ n xs rfl (h.out _ Y6) h1 O0 E5 ?_;intro v1 y1 d g1 _;rw[o9,j_]at d;have i:=W_ Y6 g1 E5 (λk e=>Z4 b.out e))
 go_ret;exact⟨⟨_,rfl,d⟩,i⟩
theorem a3Z(v:Value)(n:Nat)(xs:List Value)(w:World)(hn:n<=1048576)(h1:∀u∈xs,u.oneCell'=true)(a:∀u,Bw w u->Src u v 3 n xs):
 Calls prog 98 #[v] w λe w'=>(∃v',e=.returned v'/\w'.ownsRow w.heap.size 127 3 v' n xs)/\Bw w w':=by
 rcases a w (G5 _ _) with⟨⟨c,rfl⟩,rfl,rfl⟩|⟨g,c,rfl,_,_⟩
 ·have f:∀u,(binOp .eql 45 (.slice none 0 c) (.slice none 0 0)).run prog u=.ok (.bool true) u:=λu=>Y1
  go_in
  go_wp2;go_ret;exact⟨⟨_,rfl,Y_ _ _ _ _⟩,G5 _ _⟩
 have f:∀u,(binOp .eql 45 (.slice (some g) n c) (.slice none 0 0)).run prog u=.ok (.bool false) u:=λu=>Y1;have h:=U0 a;have b:=U0 (row0 (base:=w.heap.size) w 127 3 rfl X7);clear a
 go_in
 go_wp2_with(at_builtin;refine Vd rfl _ _ 45 rfl w.heap.size 127 3 underlying45 (Zc Y1) Z5 _ 0 [] rfl b.out _ n xs rfl (h.out _ Y6) h1 O0 E5 ?_;intro v1 y1 d g1 _;rw[o9,j_]at d;have i:=W_ Y6 g1 E5 (λk e=>Z4 b.out e))
 go_ret;exact⟨⟨_,rfl,d⟩,i⟩
theorem a4b(v:Value)(n:Nat)(xs:List Value)(w:World)(hn:n<=1048576)(h1:∀u∈xs,u.oneCell'=true)(a:∀u,Bw w u->Src u v 4 n xs):
 Calls prog 97 #[v] w λe w'=>(∃v',e=.returned v'/\w'.ownsRow w.heap.size 138 4 v' n xs)/\Bw w w':=by
 rcases a w (G5 _ _) with⟨⟨c,rfl⟩,rfl,rfl⟩|⟨g,c,rfl,_,_⟩
 ·have f:∀u,(binOp .eql 70 (.slice none 0 c) (.slice none 0 0)).run prog u=.ok (.bool true) u:=λu=>Y1
  go_in
  go_wp2;go_ret;exact⟨⟨_,rfl,Y_ _ _ _ _⟩,G5 _ _⟩
 have f:∀u,(binOp .eql 70 (.slice (some g) n c) (.slice none 0 0)).run prog u=.ok (.bool false) u:=λu=>Y1;have h:=U0 a;have b:=U0 (row0 (base:=w.heap.size) w 138 4 rfl X7);clear a
 go_in
 go_wp2_with(at_builtin;refine Vd rfl _ _ 70 rfl w.heap.size 138 4 underlying70 (Zc Y1) Z5 _ 0 [] rfl b.out _ n xs rfl (h.out _ Y6) h1 O0 E5 ?_;intro v1 y1 d g1 _;rw[o9,j_]at d;have i:=W_ Y6 g1 E5 (λk e=>Z4 b.out e))
 go_ret;exact⟨⟨_,rfl,d⟩,i⟩
theorem a5n(v:Value)(n:Nat)(xs:List Value)(w:World)(hn:n<=1048576)(h1:∀u∈xs,u.oneCell'=true)(a:∀u,Bw w u->Src u v 6 n xs):
 Calls prog 96 #[v] w λe w'=>(∃v',e=.returned v'/\w'.ownsRow w.heap.size 111 6 v' n xs)/\Bw w w':=by
 rcases a w (G5 _ _) with⟨⟨c,rfl⟩,rfl,rfl⟩|⟨g,c,rfl,_,_⟩
 ·have f:∀u,(binOp .eql 44 (.slice none 0 c) (.slice none 0 0)).run prog u=.ok (.bool true) u:=λu=>Y1
  go_in
  go_wp2;go_ret;exact⟨⟨_,rfl,Y_ _ _ _ _⟩,G5 _ _⟩
 have f:∀u,(binOp .eql 44 (.slice (some g) n c) (.slice none 0 0)).run prog u=.ok (.bool false) u:=λu=>Y1;have h:=U0 a;have b:=U0 (row0 (base:=w.heap.size) w 111 6 rfl X7);clear a
 go_in
 go_wp2_with(at_builtin;refine Vd rfl _ _ 44 rfl w.heap.size 111 6 underlying44 (Zc Y1) Z5 _ 0 [] rfl b.out _ n xs rfl (h.out _ Y6) h1 O0 E5 ?_;intro v1 y1 d g1 _;rw[o9,j_]at d;have i:=W_ Y6 g1 E5 (λk e=>Z4 b.out e))
 go_ret;exact⟨⟨_,rfl,d⟩,i⟩
theorem a1E(v:Value)(n:Nat)(xs:List Value)(w:World)(hn:n<=1048576)(h1:∀u∈xs,u.oneCell'=true)(a:∀u,Bw w u->Src u v 2 n xs):
 Calls prog 158 #[v] w λe w'=>(∃v',e=.returned v'/\w'.ownsRow w.heap.size 67 2 v' n xs)/\Bw w w':=by
 rcases a w (G5 _ _) with⟨⟨c,rfl⟩,rfl,rfl⟩|⟨g,c,rfl,_,_⟩
 ·have f:∀u,(binOp .eql 38 (.slice none 0 c) (.slice none 0 0)).run prog u=.ok (.bool true) u:=λu=>Y1
  go_in
  go_wp2;go_ret;exact⟨⟨_,rfl,Y_ _ _ _ _⟩,G5 _ _⟩
 have f:∀u,(binOp .eql 38 (.slice (some g) n c) (.slice none 0 0)).run prog u=.ok (.bool false) u:=λu=>Y1;have h:=U0 a;have b:=U0 (row0 (base:=w.heap.size) w 67 2 rfl X7);clear a
 go_in
 go_wp2_with(at_builtin;refine Vd rfl _ _ 38 rfl w.heap.size 67 2 underlying38 (Zc Y1) Z5 _ 0 [] rfl b.out _ n xs rfl (h.out _ Y6) h1 O0 E5 ?_;intro v1 y1 d g1 _;rw[o9,j_]at d;have i:=W_ Y6 g1 E5 (λk e=>Z4 b.out e))
 go_ret;exact⟨⟨_,rfl,d⟩,i⟩
theorem a2U(v:Value)(n:Nat)(xs:List Value)(w:World)(hn:n<=1048576)(h1:∀u∈xs,u.oneCell'=true)(a:∀u,Bw w u->Src u v 3 n xs):
 Calls prog 159 #[v] w λe w'=>(∃v',e=.returned v'/\w'.ownsRow w.heap.size 162 3 v' n xs)/\Bw w w':=by
 rcases a w (G5 _ _) with⟨⟨c,rfl⟩,rfl,rfl⟩|⟨g,c,rfl,_,_⟩
 ·have f:∀u,(binOp .eql 41 (.slice none 0 c) (.slice none 0 0)).run prog u=.ok (.bool true) u:=λu=>Y1
  go_in
  go_wp2;go_ret;exact⟨⟨_,rfl,Y_ _ _ _ _⟩,G5 _ _⟩
 have f:∀u,(binOp .eql 41 (.slice (some g) n c) (.slice none 0 0)).run prog u=.ok (.bool false) u:=λu=>Y1;have h:=U0 a;have b:=U0 (row0 (base:=w.heap.size) w 162 3 rfl X7);clear a
 go_in
 go_wp2_with(at_builtin;refine Vd rfl _ _ 41 rfl w.heap.size 162 3 underlying41 fU Z5 _ 0 [] rfl b.out _ n xs rfl (h.out _ Y6) h1 O0 E5 ?_;intro v1 y1 d g1 _;rw[o9,j_]at d;have i:=W_ Y6 g1 E5 (λk e=>Z4 b.out e))
 go_ret;exact⟨⟨_,rfl,d⟩,i⟩

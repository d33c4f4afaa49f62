import Derived.Test.YtdgneicbmalnpaaGreatDoorpC
import Derived.Stop.Asserts
import Derived.RowKitTokens
import Derived.Test.YtdgneicbmalnpaaGreatDoortWF
set_option linter.all false
set_option maxHeartbeats 0
set_option maxRecDepth 99999
open Go.Value renaming slice->Sa,string->Sb,int->Sc,pointer->Sd
open Go.IntKind renaming i64->Se
open Go.Ending renaming returned->Sf
open Go.Obj renaming cells->Sg
namespace Go.Proofs.YtdgneicbmalnpaaGreatDoor.G
open Proofs.Tryz Go.RowKit Go.Extern.Stop Go.Stop Go.Extern
theorem as_nil(t:Value)(w:World):
 Calls prog 239 #[.nilIface,t] w λe w'=>e=Sf (.bool false)/\w'=w:=by
 go_in
 go_wp2;go_ret;exact⟨rfl,rfl⟩
theorem FO(t:Addr)(w:World):(ReflectliteValue.unpack (.iface 336 (Sd (some t)))).run prog w
 =.ok (.agg #[Sd (some ⟨14,336,none⟩),Sd (some ⟨w.heap.size,0,none⟩),.int .u64 150]) (w.alloc (Sg #[Sd (some t)] 336)):=Y0
theorem type64 (a:Addr) (w:World):(ReflectliteValue.methodAny (ReflectliteValue.valueError "reflectlite.Value.Type" 0) (λt _ _ _=>ReflectliteType.toType t) #[.agg #[Sd (some ⟨14,336,none⟩),Sd (some a),.int .u64 150]]).run prog w
 =.ok (.iface 422 (.agg #[Sd (some ⟨14,336,none⟩)])) w:=Y0
theorem methodKind (h:Value) (w:World):(Go.method 621 422 (.agg #[h]) "Kind").run prog w=.ok (404,h) w:=Y0
theorem a0R(w:World):((ReflectliteType.abiMethod λt=>(λa:Nat=>Value.int IntKind.u8 (a:Int)) <$> Rtype.kind t) #[Sd (some ⟨14,336,none⟩)]).run prog w=.ok (.int .u8 22) w:=Y0
theorem a1w(w:World):((ReflectliteType.abiMethod λt=>(λa:Nat=>Value.int IntKind.u8 (a:Int)) <$> Rtype.kind t) #[Sd (some ⟨14,334,none⟩)]).run prog w=.ok (.int .u8 25) w:=Y0
theorem eU (a:Addr) (W:World):(ReflectliteValue.method (ReflectliteValue.valueError "reflectlite.Value.IsNil" 0) ReflectliteValue.isNil #[.agg #[Sd (some ⟨14,336,none⟩),Sd (some a),.int .u64 150]]).run prog W=(ReflectliteValue.isNil 336 a 150 22).run prog W:=Y0
theorem FY (a:Addr) (W:World):(ReflectliteValue.method (ReflectliteValue.valueError "reflectlite.Value.Elem" 0) ReflectliteValue.elem #[.agg #[Sd (some ⟨14,336,none⟩),Sd (some a),.int .u64 150]]).run prog W=(ReflectliteValue.elem 336 a 150 22).run prog W:=Y0
theorem kZ(a p:Addr)(W:World)(ha:W.cell? a=some (Sd (some p))):
 (ReflectliteValue.method (ReflectliteValue.valueError "reflectlite.Value.IsNil" 0) ReflectliteValue.isNil #[.agg #[Sd (some ⟨14,336,none⟩),Sd (some a),.int .u64 150]]).run prog W=.ok (.bool false) W:=by
 rw[eU];simp[ReflectliteValue.isNil,loadVar,isAgg,underlying,underlying336,ha,Result.andThen]
theorem methodElem (h:Value) (w:World):(Go.method 621 422 (.agg #[h]) "Elem").run prog w=.ok (428,.agg #[h]) w:=Y0
theorem methodImplements (h:Value) (w:World):(Go.method 621 422 (.agg #[h]) "Implements").run prog w=.ok (429,.agg #[h]) w:=Y0
theorem methodAssignableTo (h:Value) (w:World):(Go.method 621 422 (.agg #[h]) "AssignableTo").run prog w=.ok (426,.agg #[h]) w:=Y0
theorem a1A(w:World):(ReflectliteType.method ReflectliteType.elem #[.agg #[Sd (some ⟨14,336,none⟩)]]).run prog w=.ok (.iface 422 (.agg #[Sd (some ⟨14,334,none⟩)])) w:=Y0
theorem jF (w:World):(ReflectliteType.relation "Implements" ReflectliteType.implements_ #[.agg #[Sd (some ⟨14,334,none⟩)],.iface 422 (.agg #[Sd (some ⟨14,253,none⟩)])]).run prog w=.ok (.bool true) w:=Y0
theorem aU(v:Value)(w:World):(ReflectliteType.typeOf #[.iface 334 v]).run prog w=.ok (.iface 422 (.agg #[Sd (some ⟨14,334,none⟩)])) w:=Y0
theorem fG (w:World):(ReflectliteType.relation "AssignableTo" ReflectliteType.assignableTo #[.agg #[Sd (some ⟨14,334,none⟩)],.iface 422 (.agg #[Sd (some ⟨14,334,none⟩)])]).run prog w=.ok (.bool true) w:=Y0
theorem TP(x y:Value)(w:World):(ReflectliteValue.unpack (.iface 334 (.agg #[x,y]))).run prog w
 =.ok (.agg #[Sd (some ⟨14,334,none⟩),Sd (some ⟨w.heap.size,0,none⟩),.int .u64 153]) (w.alloc (Sg #[x,y] 334)):=Y0
theorem yR(w:World):(Rtype.elem? 336).run prog w=.ok (some 334) w:=Y0
theorem a4C(p:Addr)(w:World):(ReflectliteValue.mk 334 p ReflectliteValue.flagAddr).run prog w=.ok (.agg #[Sd (some ⟨14,334,none⟩),Sd (some p),.int .u64 409]) w:=Y0
theorem QW(a p:Addr)(W:World)(ha:W.cell? a=some (Sd (some p))):
 (ReflectliteValue.method (ReflectliteValue.valueError "reflectlite.Value.Elem" 0) ReflectliteValue.elem #[.agg #[Sd (some ⟨14,336,none⟩),Sd (some a),.int .u64 150]]).run prog W
  =.ok (.agg #[Sd (some ⟨14,334,none⟩),Sd (some p),.int .u64 409]) W:=by
 rw[FY];simp[ReflectliteValue.elem,loadVar,isAgg,underlying,underlying336,ha,Result.andThen,yR,a4C]
theorem a0V(a b:Addr)(W:World):(ReflectliteValue.set #[.agg #[Sd (some ⟨14,334,none⟩),Sd (some a),.int .u64 409],.agg #[Sd (some ⟨14,334,none⟩),Sd (some b),.int .u64 153]]).run prog W=(do let v<-loadVar 334 b;storeVar 334 a v;pure (Value.tuple #[])).run prog W:=Y0
theorem a2C(B c:Nat)(n:Int)(ty:TypeId)(va x0 a:Value)(W:World)(k:W.cell? ⟨c,0,none⟩=some (Sc Se n))(j:W.cell? ⟨c,1,none⟩=some (.iface ty va))(d:W.cell? ⟨B,0,none⟩=some x0)(b:W.cell? ⟨B,1,none⟩=some a)(h:W.frozen? ⟨B,0,none⟩=false)(g:W.frozen? ⟨B,1,none⟩=false):
 (ReflectliteValue.set #[.agg #[Sd (some ⟨14,334,none⟩),Sd (some ⟨B,0,none⟩),.int .u64 409],.agg #[Sd (some ⟨14,334,none⟩),Sd (some ⟨c,0,none⟩),.int .u64 153]]).run prog W
  =.ok (.tuple #[]) ((W.setCell ⟨B,0,none⟩ (Sc Se n)).setCell ⟨B,1,none⟩ (.iface ty va)):=by
 have f:(W.setCell (aA B 0) (vI n)).cell? (aA B 1)=some a:=by rw[Nb _ _ _ _ (by intro e;injection e with _ e;cases e)];exact b
 have i:(W.setCell (aA B 0) (vI n)).frozen? (aA B 1)=false:=by simpa using g
 rw[a0V];simp[loadVar,isAgg,underlying,underlying334,loadCells,loadCellsFrom,k,j,Result.andThen,storeVar,Value.cells,storeCells,Addr.add];rw[run_store prog W (aA B 0) _ _ (by rfl)];simp[d,h];rw[run_store prog _ (aA B 1) _ _ (by rfl)];simp[f,i]
theorem as_hit(B:Nat)(n:Int)(ty:TypeId)(va x0 b:Value)(w:World)(d:w.cell? ⟨4,0,none⟩=some (.iface 422 (.agg #[Sd (some ⟨14,253,none⟩)])))(c:w.cell? ⟨B,0,none⟩=some x0)(e:w.cell? ⟨B,1,none⟩=some b)(i:w.frozen? ⟨B,0,none⟩=false)(g:w.frozen? ⟨B,1,none⟩=false):
 Calls prog 239 #[.iface 334 (.agg #[Sc Se n,.iface ty va]),.iface 336 (Sd (some ⟨B,0,none⟩))] w λj w'=>j=Sf (.bool true)/\w'=(((((w.alloc (Sg #[Sd (some ⟨B,0,none⟩)] 336)).alloc (Sg #[Sd (some ⟨14,336,none⟩),Sd (some ⟨w.heap.size,0,none⟩),.int .u64 150] 380)).alloc (Sg #[Sd (some ⟨14,336,none⟩),Sd (some ⟨w.heap.size,0,none⟩),.int .u64 150] 380)).alloc (Sg #[Sc Se n,.iface ty va] 334)).setCell ⟨B,0,none⟩ (Sc Se n)).setCell ⟨B,1,none⟩ (.iface ty va):=by
 have h40:=@run_callFunc_extern prog 284 _ (λargs=>ReflectliteValue.unpack (args.getD 0 (.tuple #[]))) func284 Y0 Y0 Y0 Y0;have h41:=@run_callFunc_extern prog 285 _ (ReflectliteValue.methodAny (ReflectliteValue.valueError "reflectlite.Value.Type" 0) (λt _ _ _=>ReflectliteType.toType t)) func285 Y0 Y0 Y0 Y0;have h42:=@run_callFunc_extern prog 286 _ (ReflectliteValue.method (ReflectliteValue.valueError "reflectlite.Value.IsNil" 0) ReflectliteValue.isNil) func286 Y0 Y0 Y0 Y0;have h84:=@run_callFunc_extern prog 404 _ (ReflectliteType.abiMethod λt=>do pure (.int .u8 (<- Rtype.kind t))) func404 Y0 Y0 Y0 Y0;have h96:=@run_callFunc_extern prog 428 _ (ReflectliteType.method ReflectliteType.elem) func428 Y0 Y0 Y0 Y0;have h97:=@run_callFunc_extern prog 429 _ (ReflectliteType.relation "Implements" ReflectliteType.implements_) func429 Y0 Y0 Y0 Y0;have h54:=@run_callFunc_extern prog 321 _ ReflectliteType.typeOf func321 Y0 Y0 Y0 Y0;have h94:=@run_callFunc_extern prog 426 _ (ReflectliteType.relation "AssignableTo" ReflectliteType.assignableTo) func426 Y0 Y0 Y0 Y0;have h55:=@run_callFunc_extern prog 322 _ (ReflectliteValue.method (ReflectliteValue.valueError "reflectlite.Value.Elem" 0) ReflectliteValue.elem) func322 Y0 Y0 Y0 Y0;have h56:=@run_callFunc_extern prog 323 _ ReflectliteValue.set func323 Y0 Y0 Y0 Y0;have tO:=aU;have mA:=methodAssignableTo;have a25:=fG;have v25:=TP;have f6:=FO;have f7:=type64;have mK:=methodKind;have mE:=methodElem;have mI:=methodImplements;have k27:=a0R;have k25:=a1w;have e27:=a1A;have i25:=jF;have n8:=kZ (aW w 0) (aA B 0) ((w.alloc (Sg #[Sd (some (aA B 0))] 336)).alloc (Sg #[Sd (some (aA 14 336)),Sd (some (aW w 0)),.int .u64 150] 380)) J4;have f:4<w.heap.size:=by
  rcases Z7 4 w.heap.size with h0|h
  ·exact h0
  simp[World.cell?,Qo h]at d
 have hg2:((w.alloc (Sg #[Sd (some (aA B 0))] 336)).alloc (Sg #[Sd (some (aA 14 336)),Sd (some (aW w 0)),.int .u64 150] 380)).cell? (aA 4 0)=some (.iface 422 (.agg #[Sd (some (aA 14 253))])):=by
  rw[yj _ _ (aA 4 0) L8,yj _ _ (aA 4 0) f];exact d
 have a:B<w.heap.size:=by
  rcases Z7 B w.heap.size with h|h
  ·exact h
  simp[World.cell?,Qo h]at c
 have el:=QW (aW w 0) (aA B 0) (((w.alloc (Sg #[Sd (some (aA B 0))] 336)).alloc (Sg #[Sd (some (aA 14 336)),Sd (some (aW w 0)),.int .u64 150] 380)).alloc (Sg #[Sd (some (aA 14 336)),Sd (some (aW w 0)),.int .u64 150] 380)) (by rw[yj _ _ (aW w 0) L8];simp);have st:=a2C B (w.heap.size+1+1+1) n ty va x0 b ((((w.alloc (Sg #[Sd (some (aA B 0))] 336)).alloc (Sg #[Sd (some (aA 14 336)),Sd (some (aW w 0)),.int .u64 150] 380)).alloc (Sg #[Sd (some (aA 14 336)),Sd (some (aW w 0)),.int .u64 150] 380)).alloc (Sg #[vI n,.iface ty va] 334))
  (by rw[World.cell?_alloc_at _ _ _ _ J4];rfl)
  (by rw[World.cell?_alloc_at _ _ _ _ J4];rfl)
  (by rw[yj _ _ (aA B 0) L8,yj _ _ (aA B 0) L8,yj _ _ (aA B 0) L8,yj _ _ (aA B 0) a];exact c)
  (by rw[yj _ _ (aA B 1) L8,yj _ _ (aA B 1) L8,yj _ _ (aA B 1) L8,yj _ _ (aA B 1) a];exact e)
  (by rw[Ry _ _ (aA B 0) L8,Ry _ _ (aA B 0) L8,Ry _ _ (aA B 0) L8,Ry _ _ (aA B 0) (Nat.ne_of_lt a)];exact i)
  (by rw[Ry _ _ (aA B 1) L8,Ry _ _ (aA B 1) L8,Ry _ _ (aA B 1) L8,Ry _ _ (aA B 1) (Nat.ne_of_lt a)];exact g)
 go_in
 go_wp2;refine wp_loop_rounds 1 ?_;rw[rounds_succ];go_wp2;go_ret;exact⟨rfl,rfl⟩
theorem JW(B:Nat)(n:Int)(ty:TypeId)(va x0 a:Value)(w:World)(f:w.cell? ⟨4,0,none⟩=some (.iface 422 (.agg #[Sd (some ⟨14,253,none⟩)])))(b:w.cell? ⟨B,0,none⟩=some x0)(d:w.cell? ⟨B,1,none⟩=some a)(i:w.frozen? ⟨B,0,none⟩=false)(g:w.frozen? ⟨B,1,none⟩=false):
 Calls prog 239 #[.iface 334 (.agg #[Sc Se n,.iface ty va]),.iface 336 (Sd (some ⟨B,0,none⟩))] w λj w'=>j=Sf (.bool true)/\Below B w w':=by
 have c:B<w.heap.size:=by
  rcases Z7 B w.heap.size with h|h
  ·exact h
  simp[World.cell?,Qo h]at b
 refine(as_hit B n ty va x0 a w f b d i g).mono ?_;rintro e w'⟨he,hw⟩;refine⟨he,?_⟩;rw[hw];exact((((((O4 B w).alloc (yw c) _).alloc L8 _).alloc L8 _).alloc L8 _).setCell (p:=(aA B 0)) A8 _).setCell (p:=(aA B 1)) A8 _
theorem KR(w:World):
 Calls prog 175 #[.nilIface] w λe w'=>e=Sf (.bool false)/\Bw w w':=by
 go_in
 go_wp2_with fail
 refine(as_nil _ _).mono ?_;rintro e w1⟨rfl,rfl⟩;go_wp2;go_ret;exact⟨rfl,U6⟩
theorem dS(n:Int)(ty:TypeId)(va:Value)(w:World)(a:w.cell? ⟨4,0,none⟩=some (.iface 422 (.agg #[Sd (some ⟨14,253,none⟩)]))):
 Calls prog 175 #[.iface 334 (.agg #[Sc Se n,.iface ty va])] w λe w'=>e=Sf (.bool true)/\Bw w w':=by
 have b:4<w.heap.size:=by
  rcases Z7 4 w.heap.size with h0|h
  ·exact h0
  simp[World.cell?,Qo h]at a
 have d:Hid (∀o,(w.alloc o).cell? (aA 4 0)=some (.iface 422 (.agg #[Sd (some (aA 14 253))]))):=λo=>(yj _ _ (aA 4 0) b).trans a
 go_in
 go_wp2_with fail
 refine(JW w.heap.size n ty va vO .nilIface _ (d.o _) J4 J4 J4 J4).mono ?_;rintro e w1⟨rfl,c⟩;have hB:=U6.trans c;go_wp2;go_ret;exact⟨rfl,hB⟩
end Go.Proofs.YtdgneicbmalnpaaGreatDoor.G
namespace Go.Proofs.YtdgneicbmalnpaaGreatDoor
open Proofs.Tryz Go.RowKit Go.Maps
def kn(K:Int)(rs:List R3)(i:Nat):Int:=K+2*(i:Int)+3*(WB (rs.take i):Int)
open Go.RowKit
theorem c41(a I:OA)(cap P:Nat)(is:List Rn)(w:World)(hl:is.length<=1048576)(hs:∀i,(is.getD i L9).ls.length<=1048576)(D:Wi w a is)(C:Wi w I is):
 Calls prog 41 #[Sa a is.length cap,Sa I is.length P] w λe w'=>e=Sf (.bool true)/\Bw w w':=by
 obtain⟨b,off,hc⟩:=Z_ D;have W:=U0 hc;obtain⟨b',q,t⟩:=Z_ C;have V:=U0 t;have R:=U0 hs;clear hc D t C hs
 go_in
 go_wp2;go_loopw[5] (λi wr=>∃(k:Nat),k<=is.length/\i=Sc Se k/\Below w.heap.size w wr) (λi _=>is.length-(RowKit.intOf i).toNat);exact⟨0,Y4 _,rfl,O4 _ _⟩;obtain⟨k,hk,rfl,c⟩:=hrel;by_cases d:k<is.length;rotate_left
 ·go_wp2;go_ret;exact⟨rfl,c⟩
 obtain⟨ha,A,s⟩:=Ud W.o d;obtain⟨O,z,r⟩:=Ud V.o d;subst ha;subst O;have hd:Bw wr wr.drew:=(O4 _ _).drew;have y:=P9 A c.size;have v:=P9 z c.size;obtain⟨n,l,H,F⟩:=((s k d).below A c).below y hd;obtain⟨m,h,p,o⟩:=((r k d).below z c).below v hd;have N:=R.o k;generalize is.getD k L9=x at*;have X:=U0 F;have Q:=U0 o;have L:=U0 H;have J:=U0 p;have U:=U0 (E5 c hd);clear s r F o H p hd
 go_wp2_with fail
 refine wp_region_held_drew (S:=λu=>Bc u b (off+k*6) (Td (x,vL n x.ls.length l))/\Bc u b' (q+k*6) (Td (x,vL m x.ls.length h))) Y0 ⟨L.o,J.o⟩ λhH=>?_
 iterate 3 refine sq ?_
 refine tq 3 hH ?_ (hv:=λu f=>N9 119 _ rfl (B:=b) (j:=off+k*6) (cs:=Td (x,vL n x.ls.length l)) rfl f.1 underlying119 rfl Y0)
 iterate 3 refine sq ?_
 refine tq 7 hH ?_ (hv:=λu f=>N9 119 _ rfl (B:=b') (j:=q+k*6) (cs:=Td (x,vL m x.ls.length h)) rfl f.2 underlying119 rfl Y0)
 try simp only[qq]
 refine rq 8 λK E=>?_;go_simp;refine(c87 x n m l h wr.drew N X.o Q.o).mono ?_;rintro e w1⟨rfl,g⟩
 go_wp2_with fail
 refine G9 E ⟨L.o.below y g,J.o.below v g⟩ λhH=>?_;clear E K;refine sq ?_;refine wdn ?_;go_wp2;go_roundw;exact⟨k+1,O0,by go_num,E5 U.o g⟩;exact V9
theorem a4q(a n:OA)(cap v:Nat)(is:List R3)(w:World)(hl:is.length<=1048576)(hs:∀i,(is.getD i d_).gs.length<=1048576)(l:ug w a is)(j:ug w n is):
 Calls prog 86 #[Sa a is.length cap,Sa n is.length v] w λe w'=>e=Sf (.bool true)/\Bw w w':=by
 obtain⟨b,off,hc⟩:=Hf l;have E:=U0 hc;obtain⟨b',off',h⟩:=Hf j;have D:=U0 h;have A:=U0 hs;clear hc l h j hs
 go_in
 go_wp2;go_loopw[5] (λi wr=>∃(k:Nat),k<=is.length/\i=Sc Se k/\Below w.heap.size w wr) (λi _=>is.length-(RowKit.intOf i).toNat);exact⟨0,Y4 _,rfl,O4 _ _⟩;obtain⟨k,hk,rfl,c⟩:=hrel;by_cases d:k<is.length
 ·obtain⟨ha,q,g⟩:=Ud E.o d;obtain⟨s,p,f⟩:=Ud D.o d;subst ha;subst s;obtain⟨z,u,e0,e1,e2,m⟩:=(g k d).below q c;obtain⟨y,t,f0,f1,f2,f3⟩:=(f k d).below p c;have o:=A.o k;generalize is.getD k d_=x at*;have C:=U0 m;have B:=U0 f3;clear g f m f3
  go_wp2_with fail
  go_region_with(go_at_call 141;refine(c141 x z y u t _ o (y9 C.o (O4 _ _).drew) (y9 B.o (O4 _ _).drew)).mono ?_;rintro e w1⟨rfl,r⟩)
  all_goals go_wp2
  all_goals go_roundw
  all_goals first
   | exact⟨k+1,O0,by go_num,(c.drew).trans (r.mono c.size)⟩
   | (exact V9)
 go_wp2;go_ret;exact⟨rfl,c⟩
theorem a4N(ta ra b a:OA)(tc rc d c:Nat)(s:St)(w:World)(hs:s.ts.length<=1048576/\s.rs.length<=1048576/\∀i,(s.rs.getD i d_).gs.length<=1048576)(h:xh w ta ra s)(g:xh w b a s):
 Calls prog 38 #[.agg #[Sc Se s.wd,Sa ta s.ts.length tc,Sa ra s.rs.length rc],.agg #[Sc Se s.wd,Sa b s.ts.length d,Sa a s.rs.length c]] w λe w'=>e=Sf (.bool true)/\Bw w w':=by
 have n:=U0 hs;have r:=U0 h;have q:=U0 g;have k:Bw w ((w.alloc (Sg #[vI s.wd,vL ta s.ts.length tc,vL ra s.rs.length rc] 43)).alloc (Sg #[vI s.wd,vL b s.ts.length d,vL a s.rs.length c] 43)):=U6.alloc J4 _;have m:=c40 ta b tc d s.ts _ hs.1 (G6 h.1 k) (G6 g.1 k);clear hs h g
 go_in
 go_wp2_with fail
 refine m.mono ?_;rintro e w1⟨rfl,f⟩;have j:=k.trans (f.mono L8);have g2:w1.cell? ⟨w.heap.size,2,none⟩=some (vL ra s.rs.length rc):=by rw[f.cell L8];simp[go_sem]
 have g3:w1.cell? ⟨w.heap.size+1,2,none⟩=some (vL a s.rs.length c):=by rw[f.cell J4];simp[go_sem]
 have l:=a4q ra a rc c s.rs w1 n.o.2.1 n.o.2.2 (Ai r.o.2 j) (Ai q.o.2 j);clear m
 go_wp2_with fail
 refine l.mono ?_;rintro e w2⟨rfl,o⟩;have p:=E5 j o;clear l;go_wp2;go_ret;exact⟨rfl,p⟩
theorem c227(a c:List R3)(l g:OA)(o n:Nat)(w:World)(hl:a.length<=1048576)(hl':c.length<=1048576)(hx:∀i,(a.getD i d_).gs.length<=1048576)(v:∀i,(c.getD i d_).gs.length<=1048576)(D:ug w l a)(C:ug w g c):
 Calls prog 227 #[Sa l a.length o,Sa g c.length n,.func (.func 228) #[] #[]] w λe w'=>Rb (a=c) e/\Bw w w':=by
 have S:=U0 hx;have R:=U0 v;clear hx v;by_cases d:a.length=c.length;rotate_left
 ·have s:Hid (¬a=c):=λh=>d (by rw[h]);have hn1:¬(a.length:Int)=c.length:=O0
  go_in
  go_wp2;go_ret;exact⟨P5 s.o,O4 _ _⟩
 rw[<- d];have t:=U0 d;obtain⟨b,off,hc⟩:=Hf D;obtain⟨b',off',z⟩:=Hf C;have HC:=U0 hc;have HC':=U0 z;clear hc z D C d
 go_in
 go_wp2;go_loopw[17] (λi wr=>∃(k:Nat),k<=a.length/\i=Sc Se k/\Hid (∀j,j<k->a.getD j d_=c.getD j d_)/\Below w.heap.size w wr) (λi _=>a.length-(RowKit.intOf i).toNat);exact⟨0,Y4 _,rfl,λj h=>absurd h (U8 _),O4 _ _⟩;obtain⟨k,hk2,rfl,hd,f⟩:=hrel;by_cases m:k<a.length;rotate_left
 ·obtain rfl:k=a.length:=O0;have V:=U0 (Ir t.o hd.o);go_wp2;go_ret;exact⟨H_ V.o,f⟩
 obtain⟨ha,O,y⟩:=Ud HC.o m;rcases HC'.o with N|⟨P,A,x⟩
 ·have d:=t.o;rw[N]at d;rw[d]at m;exact absurd m (U8 _)
 subst ha;subst P;have a7r:=P9 A f.size;obtain⟨l,o,g0,g1,g2,g3⟩:=(y k m).below O f;obtain⟨g,n,J,I,H,u⟩:=(x k (by have:=t.o;omega)).below A f;have G3:=U0 g3;have U:=U0 u;have L:=S.o k;have K:=R.o k;have HD:Hid (a.getD k d_=c.getD k d_->∀j,j<k+1->a.getD j d_=c.getD j d_):=λq j hj=>by
  rcases Z7 j k with h|h
  ·exact hd.o j h
  obtain rfl:j=k:=O0;exact q
 have s:Hid (¬a.getD k d_=c.getD k d_->¬a=c):=λq h=>q (by rw[h]);have E:=U0 f;clear y x g3 u hd f;generalize a.getD k d_=X at*;generalize c.getD k d_=Y at*;have p:Hid (Bw wr ((wr.alloc (Sg #[vS X.key,vL l X.gs.length o,vS X.o] 179)).alloc (Sg #[vS Y.key,vL g Y.gs.length n,vS Y.o] 179))):=U6.alloc J4 _
 go_wp2_with fail
 refine(c228 X Y l g o n _ L K (y9 G3.o p.o) (y9 U.o p.o)).mono ?_;rintro e w1⟨⟨Q,rfl,r⟩,B⟩;have F:=U0 (E5 (E5 E.o p.o) B);clear B p E g0 g1 g2 J I H
 cases Q with
 | true=>
  have Z:=U0 (HD.o (r.1 rfl));clear r;go_wp2;go_roundw;exact⟨k+1,O0,by go_num,Z,F.o⟩;exact V9
 | false=>
  have W:=U0 (s.o (λh=>by have:=r.2 h;cases this));go_wp2;go_ret;exact⟨P5 W,F⟩
theorem c167(x y:St)(ta ra a rb:OA)(tc rc b rd:Nat)(w:World)(hx:x.ts.length<=1048576/\x.rs.length<=1048576/\∀i,(x.rs.getD i d_).gs.length<=1048576)(p:y.ts.length<=1048576/\y.rs.length<=1048576/\∀i,(y.rs.getD i d_).gs.length<=1048576)(s:xh w ta ra x)(r:xh w a rb y):
 Calls prog 167 #[.agg #[Sc Se x.wd,Sa ta x.ts.length tc,Sa ra x.rs.length rc],.agg #[Sc Se y.wd,Sa a y.ts.length b,Sa rb y.rs.length rd]] w λe w'=>Rb (x=y) e/\Bw w w':=by
 have X:=U0 hx;have Y:=U0 p;have z:=U0 s;have v:=U0 r;clear hx p s r
 go_in
 go_upto_region 1 with fail
 have f:=U0 (E8 (I4 w [vI x.wd,vL ta x.ts.length tc,vL ra x.rs.length rc] 43) (Sg #[vI y.wd,vL a y.ts.length b,vL rb y.rs.length rd] 43));have d:Hid (Cl ((w.alloc (Sg #[vI x.wd,vL ta x.ts.length tc,vL ra x.rs.length rc] 43)).alloc (Sg #[vI y.wd,vL a y.ts.length b,vL rb y.rs.length rd] 43)) (w.heap.size+1) 43 [vI y.wd,vL a y.ts.length b,vL rb y.rs.length rd]):=by show Cl _ _ _ _;have h:=I4 (w.alloc (Sg #[vI x.wd,vL ta x.ts.length tc,vL ra x.rs.length rc] 43)) [vI y.wd,vL a y.ts.length b,vL rb y.rs.length rd] 43;simpa using h
 have l:Hid (Bw w ((w.alloc (Sg #[vI x.wd,vL ta x.ts.length tc,vL ra x.rs.length rc] 43)).alloc (Sg #[vI y.wd,vL a y.ts.length b,vL rb y.rs.length rd] 43))):=U6.alloc J4 _;generalize (w.alloc (Sg #[vI x.wd,vL ta x.ts.length tc,vL ra x.rs.length rc] 43)).alloc (Sg #[vI y.wd,vL a y.ts.length b,vL rb y.rs.length rd] 43)=V at*;have u:=f.o.cell 0;have m:=d.o.cell 0;have a1:=f.o.cell 1;have t:=d.o.cell 1;have a2:=f.o.cell 2;have j:=d.o.cell 2;simp only[gz]at u m a1 t a2 j;by_cases hw:x.wd=y.wd;rotate_left
 ·have o:Hid (¬x=y):=λh=>hw (by rw[h]);go_wp2;go_ret;exact⟨P5 o.o,l.o⟩
 have A:=U0 hw;rw[<- hw]at m;clear hw
 go_wp2_with fail
 refine(c226 x.ts y.ts ta a tc b V X.o.1 Y.o.1 (G6 z.o.1 l.o) (G6 v.o.1 l.o)).mono ?_;rintro e w1⟨⟨n,rfl,c⟩,g⟩
 replace a2:=(g.cell (by exact f.o.lt)).trans a2
 replace j:=(g.cell (by exact d.o.lt)).trans j
 have k:=U0 (E5 l.o g);clear g u a1 m t f d
 cases n with
 | false=>
  have o:Hid (¬x=y):=λh=>by have:=c.2 (by rw[h]);cases this
  clear c;go_wp2;go_ret;exact⟨P5 o.o,k.o⟩
 | true=>
 have B:=U0 (c.1 rfl);clear c
 go_wp2_with fail
 refine(c227 x.rs y.rs ra rb rc rd w1 X.o.2.1 Y.o.2.1 X.o.2.2 Y.o.2.2 (Ai z.o.2 k.o) (Ai v.o.2 k.o)).mono ?_;rintro e w2⟨⟨n,rfl,c⟩,q⟩;have D:=U0 (E5 k.o q);have C:Hid (n=true↔x=y):=by
  have h1:=A.o;have h2:=B.o;obtain⟨_,_,_⟩:=x;obtain⟨_,_,_⟩:=y;dsimp only at h1 h2 c;subst h1 h2;exact c.trans ⟨λh=>by rw[h],λh=>by injection h⟩
 clear c q a2 j;go_wp2;go_ret;exact⟨⟨_,rfl,C.o⟩,D.o⟩

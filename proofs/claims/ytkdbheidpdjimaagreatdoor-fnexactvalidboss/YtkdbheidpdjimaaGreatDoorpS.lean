import Derived.Test.YtkdbheidpdjimaaGreatDoorpA
import Derived.Stop.Asserts
import Derived.RowKitTokens
set_option linter.unusedVariables false
set_option maxHeartbeats 8000000
set_option maxRecDepth 100000
namespace Go.Proofs.YtkdbheidpdjimaaGreatDoor.G
open Proofs.Tryz Go.RowKit Go.Extern.Stop Go.Stop Go.Extern
theorem as_nil (t:Value) (w:World):
 Calls prog 137 #[.nilIface,t] w fun e w'=>e=.returned (.bool false)/\w'=w:=by
 go_enter func137,ntmps137;go_wp2;go_ret;exact ⟨rfl,rfl⟩
theorem lN (t:Addr) (w:World):(ReflectliteValue.unpack (.iface 232 (.pointer (some t)))).run prog w
 =.ok (.agg #[.pointer (some ⟨14,232,none⟩),.pointer (some ⟨w.heap.size,0,none⟩),.int .u64 150]) (w.alloc (.cells #[.pointer (some t)] 232)):=J3
theorem type64 (a:Addr) (w:World):(ReflectliteValue.methodAny (ReflectliteValue.valueError "reflectlite.Value.Type" 0) (fun t _ _ _=>ReflectliteType.toType t) #[.agg #[.pointer (some ⟨14,232,none⟩),.pointer (some a),.int .u64 150]]).run prog w
 =.ok (.iface 345 (.agg #[.pointer (some ⟨14,232,none⟩)])) w:=J3
theorem methodKind (h:Value) (w:World):(Go.method 549 345 (.agg #[h]) "Kind").run prog w=.ok (329,h) w:=J3
theorem zY (w:World):((ReflectliteType.abiMethod fun t=>(fun a:Nat=>Value.int IntKind.u8 (a:Int)) <$> Rtype.kind t) #[.pointer (some ⟨14,232,none⟩)]).run prog w=.ok (.int .u8 22) w:=J3
theorem kY (w:World):((ReflectliteType.abiMethod fun t=>(fun a:Nat=>Value.int IntKind.u8 (a:Int)) <$> Rtype.kind t) #[.pointer (some ⟨14,230,none⟩)]).run prog w=.ok (.int .u8 25) w:=J3
theorem aS (a:Addr) (W:World):(ReflectliteValue.method (ReflectliteValue.valueError "reflectlite.Value.IsNil" 0) ReflectliteValue.isNil #[.agg #[.pointer (some ⟨14,232,none⟩),.pointer (some a),.int .u64 150]]).run prog W=(ReflectliteValue.isNil 232 a 150 22).run prog W:=J3
theorem bV (a:Addr) (W:World):(ReflectliteValue.method (ReflectliteValue.valueError "reflectlite.Value.Elem" 0) ReflectliteValue.elem #[.agg #[.pointer (some ⟨14,232,none⟩),.pointer (some a),.int .u64 150]]).run prog W=(ReflectliteValue.elem 232 a 150 22).run prog W:=J3
theorem bU (a p:Addr) (W:World) (ha:W.cell? a=some (.pointer (some p))):
 (ReflectliteValue.method (ReflectliteValue.valueError "reflectlite.Value.IsNil" 0) ReflectliteValue.isNil #[.agg #[.pointer (some ⟨14,232,none⟩),.pointer (some a),.int .u64 150]]).run prog W=.ok (.bool false) W:=by
 rw [aS];simp [ReflectliteValue.isNil,loadVar,isAgg,underlying,underlying232,ha,Result.andThen]
theorem methodElem (h:Value) (w:World):(Go.method 549 345 (.agg #[h]) "Elem").run prog w=.ok (352,.agg #[h]) w:=J3
theorem methodImplements (h:Value) (w:World):(Go.method 549 345 (.agg #[h]) "Implements").run prog w=.ok (353,.agg #[h]) w:=J3
theorem methodAssignableTo (h:Value) (w:World):(Go.method 549 345 (.agg #[h]) "AssignableTo").run prog w=.ok (350,.agg #[h]) w:=J3
theorem VW (w:World):(ReflectliteType.method ReflectliteType.elem #[.agg #[.pointer (some ⟨14,232,none⟩)]]).run prog w=.ok (.iface 345 (.agg #[.pointer (some ⟨14,230,none⟩)])) w:=J3
theorem jF (w:World):(ReflectliteType.relation "Implements" ReflectliteType.implements_ #[.agg #[.pointer (some ⟨14,230,none⟩)],.iface 345 (.agg #[.pointer (some ⟨14,143,none⟩)])]).run prog w=.ok (.bool true) w:=J3
theorem qR (v:Value) (w:World):(ReflectliteType.typeOf #[.iface 230 v]).run prog w=.ok (.iface 345 (.agg #[.pointer (some ⟨14,230,none⟩)])) w:=J3
theorem uF (w:World):(ReflectliteType.relation "AssignableTo" ReflectliteType.assignableTo #[.agg #[.pointer (some ⟨14,230,none⟩)],.iface 345 (.agg #[.pointer (some ⟨14,230,none⟩)])]).run prog w=.ok (.bool true) w:=J3
theorem ML (x y:Value) (w:World):(ReflectliteValue.unpack (.iface 230 (.agg #[x,y]))).run prog w
 =.ok (.agg #[.pointer (some ⟨14,230,none⟩),.pointer (some ⟨w.heap.size,0,none⟩),.int .u64 153]) (w.alloc (.cells #[x,y] 230)):=J3
theorem bQ (w:World):(Rtype.elem? 232).run prog w=.ok (some 230) w:=J3
theorem a1g (p:Addr) (w:World):(ReflectliteValue.mk 230 p ReflectliteValue.flagAddr).run prog w=.ok (.agg #[.pointer (some ⟨14,230,none⟩),.pointer (some p),.int .u64 409]) w:=J3
theorem WS (a p:Addr) (W:World) (ha:W.cell? a=some (.pointer (some p))):
 (ReflectliteValue.method (ReflectliteValue.valueError "reflectlite.Value.Elem" 0) ReflectliteValue.elem #[.agg #[.pointer (some ⟨14,232,none⟩),.pointer (some a),.int .u64 150]]).run prog W
  =.ok (.agg #[.pointer (some ⟨14,230,none⟩),.pointer (some p),.int .u64 409]) W:=by
 rw [bV];simp [ReflectliteValue.elem,loadVar,isAgg,underlying,underlying232,ha,Result.andThen,bQ,a1g]
theorem TW (a b:Addr) (W:World):(ReflectliteValue.set #[.agg #[.pointer (some ⟨14,230,none⟩),.pointer (some a),.int .u64 409],.agg #[.pointer (some ⟨14,230,none⟩),.pointer (some b),.int .u64 153]]).run prog W=(do let v <- loadVar 230 b;storeVar 230 a v;pure (Value.tuple #[])).run prog W:=J3
theorem dZ (B c:Nat) (n:Int) (ty:TypeId) (va x0 a:Value) (W:World) (k:W.cell? ⟨c,0,none⟩=some (.int .i64 n)) (j:W.cell? ⟨c,1,none⟩=some (.iface ty va)) (d:W.cell? ⟨B,0,none⟩=some x0) (b:W.cell? ⟨B,1,none⟩=some a) (h:W.frozen? ⟨B,0,none⟩=false) (g:W.frozen? ⟨B,1,none⟩=false):
 (ReflectliteValue.set #[.agg #[.pointer (some ⟨14,230,none⟩),.pointer (some ⟨B,0,none⟩),.int .u64 409],.agg #[.pointer (some ⟨14,230,none⟩),.pointer (some ⟨c,0,none⟩),.int .u64 153]]).run prog W
  =.ok (.tuple #[]) ((W.setCell ⟨B,0,none⟩ (.int .i64 n)).setCell ⟨B,1,none⟩ (.iface ty va)):=by
 have f:(W.setCell (aA B 0) (vI n)).cell? (aA B 1)=some a:=by rw [La _ _ _ _ (by intro e;injection e with _ e;cases e)];exact b
 have i:(W.setCell (aA B 0) (vI n)).frozen? (aA B 1)=false:=by simpa using g
 rw [TW];simp [loadVar,isAgg,underlying,underlying230,loadCells,loadCellsFrom,k,j,Result.andThen,storeVar,Value.cells,storeCells,Addr.add];rw [run_store prog W (aA B 0) _ _ (by rfl)];simp [d,h];rw [run_store prog _ (aA B 1) _ _ (by rfl)];simp [f,i]
theorem as_hit (B:Nat) (n:Int) (ty:TypeId) (va x0 b:Value) (w:World) (d:w.cell? ⟨4,0,none⟩=some (.iface 345 (.agg #[.pointer (some ⟨14,143,none⟩)]))) (c:w.cell? ⟨B,0,none⟩=some x0) (e:w.cell? ⟨B,1,none⟩=some b) (i:w.frozen? ⟨B,0,none⟩=false) (g:w.frozen? ⟨B,1,none⟩=false):
 Calls prog 137 #[.iface 230 (.agg #[.int .i64 n,.iface ty va]),.iface 232 (.pointer (some ⟨B,0,none⟩))] w fun j w'=>j=.returned (.bool true)/\w'=(((((w.alloc (.cells #[.pointer (some ⟨B,0,none⟩)] 232)).alloc (.cells #[.pointer (some ⟨14,232,none⟩),.pointer (some ⟨w.heap.size,0,none⟩),.int .u64 150] 300)).alloc (.cells #[.pointer (some ⟨14,232,none⟩),.pointer (some ⟨w.heap.size,0,none⟩),.int .u64 150] 300)).alloc (.cells #[.int .i64 n,.iface ty va] 230)).setCell ⟨B,0,none⟩ (.int .i64 n)).setCell ⟨B,1,none⟩ (.iface ty va):=by
 have h40:=@run_callFunc_extern prog 197 _ (fun args=>ReflectliteValue.unpack (args.getD 0 (.tuple #[]))) func197 J3 J3 J3 J3;have h41:=@run_callFunc_extern prog 198 _ (ReflectliteValue.methodAny (ReflectliteValue.valueError "reflectlite.Value.Type" 0) (fun t _ _ _=>ReflectliteType.toType t)) func198 J3 J3 J3 J3;have h42:=@run_callFunc_extern prog 199 _ (ReflectliteValue.method (ReflectliteValue.valueError "reflectlite.Value.IsNil" 0) ReflectliteValue.isNil) func199 J3 J3 J3 J3;have h84:=@run_callFunc_extern prog 329 _ (ReflectliteType.abiMethod fun t=>do pure (.int .u8 (<- Rtype.kind t))) func329 J3 J3 J3 J3;have h96:=@run_callFunc_extern prog 352 _ (ReflectliteType.method ReflectliteType.elem) func352 J3 J3 J3 J3;have h97:=@run_callFunc_extern prog 353 _ (ReflectliteType.relation "Implements" ReflectliteType.implements_) func353 J3 J3 J3 J3;have h54:=@run_callFunc_extern prog 240 _ ReflectliteType.typeOf func240 J3 J3 J3 J3;have h94:=@run_callFunc_extern prog 350 _ (ReflectliteType.relation "AssignableTo" ReflectliteType.assignableTo) func350 J3 J3 J3 J3;have h55:=@run_callFunc_extern prog 241 _ (ReflectliteValue.method (ReflectliteValue.valueError "reflectlite.Value.Elem" 0) ReflectliteValue.elem) func241 J3 J3 J3 J3;have h56:=@run_callFunc_extern prog 242 _ ReflectliteValue.set func242 J3 J3 J3 J3;have tO:=qR;have mA:=methodAssignableTo;have a25:=uF;have v25:=ML;have f6:=lN;have f7:=type64;have mK:=methodKind;have mE:=methodElem;have mI:=methodImplements;have k27:=zY;have k25:=kY;have e27:=VW;have i25:=jF;have n8:=bU (aW w 0) (aA B 0) ((w.alloc (.cells #[.pointer (some (aA B 0))] 232)).alloc (.cells #[.pointer (some (aA 14 232)),.pointer (some (aW w 0)),.int .u64 150] 300)) I4;have f:4<w.heap.size:=by
  rcases o8 4 w.heap.size with h0 | h
  · exact h0
  simp [World.cell?,Bq h] at d
 have hg2:((w.alloc (.cells #[.pointer (some (aA B 0))] 232)).alloc (.cells #[.pointer (some (aA 14 232)),.pointer (some (aW w 0)),.int .u64 150] 300)).cell? (aA 4 0)=some (.iface 345 (.agg #[.pointer (some (aA 14 143))])):=by
  rw [Wh _ _ (aA 4 0) U7,Wh _ _ (aA 4 0) f];exact d
 have a:B<w.heap.size:=by
  rcases o8 B w.heap.size with h | h
  · exact h
  simp [World.cell?,Bq h] at c
 have el:=WS (aW w 0) (aA B 0) (((w.alloc (.cells #[.pointer (some (aA B 0))] 232)).alloc (.cells #[.pointer (some (aA 14 232)),.pointer (some (aW w 0)),.int .u64 150] 300)).alloc (.cells #[.pointer (some (aA 14 232)),.pointer (some (aW w 0)),.int .u64 150] 300)) (by rw [Wh _ _ (aW w 0) U7];simp);have st:=dZ B (w.heap.size+1+1+1) n ty va x0 b ((((w.alloc (.cells #[.pointer (some (aA B 0))] 232)).alloc (.cells #[.pointer (some (aA 14 232)),.pointer (some (aW w 0)),.int .u64 150] 300)).alloc (.cells #[.pointer (some (aA 14 232)),.pointer (some (aW w 0)),.int .u64 150] 300)).alloc (.cells #[vI n,.iface ty va] 230))
  (by rw [World.cell?_alloc_at _ _ _ _ I4];rfl)
  (by rw [World.cell?_alloc_at _ _ _ _ I4];rfl)
  (by rw [Wh _ _ (aA B 0) U7,Wh _ _ (aA B 0) U7,Wh _ _ (aA B 0) U7,Wh _ _ (aA B 0) a];exact c)
  (by rw [Wh _ _ (aA B 1) U7,Wh _ _ (aA B 1) U7,Wh _ _ (aA B 1) U7,Wh _ _ (aA B 1) a];exact e)
  (by rw [xw _ _ (aA B 0) U7,xw _ _ (aA B 0) U7,xw _ _ (aA B 0) U7,xw _ _ (aA B 0) (Nat.ne_of_lt a)];exact i)
  (by rw [xw _ _ (aA B 1) U7,xw _ _ (aA B 1) U7,xw _ _ (aA B 1) U7,xw _ _ (aA B 1) (Nat.ne_of_lt a)];exact g)
 go_enter func137,ntmps137;go_wp2;refine wp_loop_rounds 1 ?_;rw [rounds_succ];go_wp2;go_ret;exact ⟨rfl,rfl⟩
theorem yU (B:Nat) (n:Int) (ty:TypeId) (va x0 a:Value) (w:World) (f:w.cell? ⟨4,0,none⟩=some (.iface 345 (.agg #[.pointer (some ⟨14,143,none⟩)]))) (b:w.cell? ⟨B,0,none⟩=some x0) (d:w.cell? ⟨B,1,none⟩=some a) (i:w.frozen? ⟨B,0,none⟩=false) (g:w.frozen? ⟨B,1,none⟩=false):
 Calls prog 137 #[.iface 230 (.agg #[.int .i64 n,.iface ty va]),.iface 232 (.pointer (some ⟨B,0,none⟩))] w fun j w'=>j=.returned (.bool true)/\Below B w w':=by
 have c:B<w.heap.size:=by
  rcases o8 B w.heap.size with h | h
  · exact h
  simp [World.cell?,Bq h] at b
 refine (as_hit B n ty va x0 a w f b d i g).mono ?_;rintro e w' ⟨he,hw⟩;refine ⟨he,?_⟩;rw [hw];exact ((((((Z4 B w).alloc (kF c) _).alloc U7 _).alloc U7 _).alloc U7 _).setCell (p:=(aA B 0)) x9 _).setCell (p:=(aA B 1)) x9 _
theorem NS (w:World):
 Calls prog 83 #[.nilIface] w fun e w'=>e=.returned (.bool false)/\Bw w w':=by
 go_enter func83,ntmps83
 go_wp2_with fail
 refine (as_nil _ _).mono ?_;rintro e w1 ⟨rfl,rfl⟩;go_wp2;go_ret;exact ⟨rfl,o7⟩
theorem lU (n:Int) (ty:TypeId) (va:Value) (w:World) (a:w.cell? ⟨4,0,none⟩=some (.iface 345 (.agg #[.pointer (some ⟨14,143,none⟩)]))):
 Calls prog 83 #[.iface 230 (.agg #[.int .i64 n,.iface ty va])] w fun e w'=>e=.returned (.bool true)/\Bw w w':=by
 have c:4<w.heap.size:=by
  rcases o8 4 w.heap.size with h0 | h
  · exact h0
  simp [World.cell?,Bq h] at a
 have f:Hid (∀ o,(w.alloc o).cell? (aA 4 0)=some (.iface 345 (.agg #[.pointer (some (aA 14 143))]))):=fun o=>(Wh _ _ (aA 4 0) c).trans a;go_enter func83,ntmps83
 go_wp2_with fail
 refine (yU w.heap.size n ty va vO .nilIface _ (f.out _) I4 I4 I4 I4).mono ?_;rintro e b ⟨rfl,d⟩;have hB:Bw w b:=o7.trans d;go_wp2;go_ret;exact ⟨rfl,hB⟩

import Derived.Test.YtmalddmgdjkgaaaGreatDoorProg
import Derived.WalkKit
import Derived.LaidEql
import Derived.Stop.Asserts
import Derived.RowKitTokens
namespace Go.Proofs.YtmalddmgdjkgaaaGreatDoor.G
open Go.RowKit Go.Extern.Stop Go.Stop Go.Extern
theorem as_nil (t:Value) (w:World):
 Calls Tryz.prog 71 #[.nilIface,t] w fun e w'=>e=.returned (.bool false)∧w'=w:=by
 go_enter Tryz.func71,Tryz.ntmps71
 go_wp2
 go_ret
 exact ⟨rfl,rfl⟩
/-! The entries of reflectlite at this dump's types: 62 the error's own type, 64 a pointer to it, 42 error, 96 rtype, 79 Type; 10 package-level variables -/
theorem valueOf64 (t:Addr) (w:World):(ReflectliteValue.unpack (.iface 139 (.pointer (some t)))).run Tryz.prog w
 =.ok (.agg #[.pointer (some ⟨15,139,none⟩),.pointer (some ⟨w.heap.size,0,none⟩),.int .u64 150]) (w.alloc (.cells #[.pointer (some t)] 139)):=by kernel_rfl
theorem type64 (a:Addr) (w:World):(ReflectliteValue.methodAny (ReflectliteValue.valueError "reflectlite.Value.Type" 0) (fun t _ _ _=>ReflectliteType.toType t) #[.agg #[.pointer (some ⟨15,139,none⟩),.pointer (some a),.int .u64 150]]).run Tryz.prog w
 =.ok (.iface 189 (.agg #[.pointer (some ⟨15,139,none⟩)])) w:=by kernel_rfl
theorem methodKind (h:Value) (w:World):(Go.method 383 189 (.agg #[h]) "Kind").run Tryz.prog w=.ok (185,h) w:=by kernel_rfl
theorem kind64 (w:World):((ReflectliteType.abiMethod fun t=>(fun a:Nat=>Value.int IntKind.u8 (a:Int)) <$> Rtype.kind t) #[.pointer (some ⟨15,139,none⟩)]).run Tryz.prog w=.ok (.int .u8 22) w:=by kernel_rfl
theorem kind62 (w:World):((ReflectliteType.abiMethod fun t=>(fun a:Nat=>Value.int IntKind.u8 (a:Int)) <$> Rtype.kind t) #[.pointer (some ⟨15,137,none⟩)]).run Tryz.prog w=.ok (.int .u8 25) w:=by kernel_rfl
theorem isNil_eq (a:Addr) (W:World):(ReflectliteValue.method (ReflectliteValue.valueError "reflectlite.Value.IsNil" 0) ReflectliteValue.isNil #[.agg #[.pointer (some ⟨15,139,none⟩),.pointer (some a),.int .u64 150]]).run Tryz.prog W=(ReflectliteValue.isNil 139 a 150 22).run Tryz.prog W:=by kernel_rfl
theorem elem_eq (a:Addr) (W:World):(ReflectliteValue.method (ReflectliteValue.valueError "reflectlite.Value.Elem" 0) ReflectliteValue.elem #[.agg #[.pointer (some ⟨15,139,none⟩),.pointer (some a),.int .u64 150]]).run Tryz.prog W=(ReflectliteValue.elem 139 a 150 22).run Tryz.prog W:=by kernel_rfl
theorem isNil64 (a p:Addr) (W:World) (ha:W.cell? a=some (.pointer (some p))):
 (ReflectliteValue.method (ReflectliteValue.valueError "reflectlite.Value.IsNil" 0) ReflectliteValue.isNil #[.agg #[.pointer (some ⟨15,139,none⟩),.pointer (some a),.int .u64 150]]).run Tryz.prog W=.ok (.bool false) W:=by
 rw [isNil_eq]
 simp [ReflectliteValue.isNil,loadVar,isAgg,underlying,Tryz.underlying139,ha,Result.andThen]
theorem methodElem (h:Value) (w:World):(Go.method 383 189 (.agg #[h]) "Elem").run Tryz.prog w=.ok (197,.agg #[h]) w:=by kernel_rfl
theorem methodImplements (h:Value) (w:World):(Go.method 383 189 (.agg #[h]) "Implements").run Tryz.prog w=.ok (198,.agg #[h]) w:=by kernel_rfl
theorem methodAssignableTo (h:Value) (w:World):(Go.method 383 189 (.agg #[h]) "AssignableTo").run Tryz.prog w=.ok (195,.agg #[h]) w:=by kernel_rfl
theorem elem64 (w:World):(ReflectliteType.method ReflectliteType.elem #[.agg #[.pointer (some ⟨15,139,none⟩)]]).run Tryz.prog w=.ok (.iface 189 (.agg #[.pointer (some ⟨15,137,none⟩)])) w:=by kernel_rfl
theorem implements62 (w:World):(ReflectliteType.relation "Implements" ReflectliteType.implements_ #[.agg #[.pointer (some ⟨15,137,none⟩)],.iface 189 (.agg #[.pointer (some ⟨15,99,none⟩)])]).run Tryz.prog w=.ok (.bool true) w:=by kernel_rfl
theorem typeOf62 (v:Value) (w:World):(ReflectliteType.typeOf #[.iface 137 v]).run Tryz.prog w=.ok (.iface 189 (.agg #[.pointer (some ⟨15,137,none⟩)])) w:=by kernel_rfl
theorem assignable62 (w:World):(ReflectliteType.relation "AssignableTo" ReflectliteType.assignableTo #[.agg #[.pointer (some ⟨15,137,none⟩)],.iface 189 (.agg #[.pointer (some ⟨15,137,none⟩)])]).run Tryz.prog w=.ok (.bool true) w:=by kernel_rfl
theorem valueOf62 (x y:Value) (w:World):(ReflectliteValue.unpack (.iface 137 (.agg #[x,y]))).run Tryz.prog w
 =.ok (.agg #[.pointer (some ⟨15,137,none⟩),.pointer (some ⟨w.heap.size,0,none⟩),.int .u64 153]) (w.alloc (.cells #[x,y] 137)):=by kernel_rfl
theorem elemOf64 (w:World):(Rtype.elem? 139).run Tryz.prog w=.ok (some 137) w:=by kernel_rfl
theorem mk62 (p:Addr) (w:World):(ReflectliteValue.mk 137 p ReflectliteValue.flagAddr).run Tryz.prog w=.ok (.agg #[.pointer (some ⟨15,137,none⟩),.pointer (some p),.int .u64 409]) w:=by kernel_rfl
theorem elemV64 (a p:Addr) (W:World) (ha:W.cell? a=some (.pointer (some p))):
 (ReflectliteValue.method (ReflectliteValue.valueError "reflectlite.Value.Elem" 0) ReflectliteValue.elem #[.agg #[.pointer (some ⟨15,139,none⟩),.pointer (some a),.int .u64 150]]).run Tryz.prog W
  =.ok (.agg #[.pointer (some ⟨15,137,none⟩),.pointer (some p),.int .u64 409]) W:=by
 rw [elem_eq]
 simp [ReflectliteValue.elem,loadVar,isAgg,underlying,Tryz.underlying139,ha,Result.andThen,elemOf64,mk62]
theorem set_eq (a b:Addr) (W:World):(ReflectliteValue.set #[.agg #[.pointer (some ⟨15,137,none⟩),.pointer (some a),.int .u64 409],.agg #[.pointer (some ⟨15,137,none⟩),.pointer (some b),.int .u64 153]]).run Tryz.prog W=(do let v ← loadVar 137 b;storeVar 137 a v;pure (Value.tuple #[])).run Tryz.prog W:=by kernel_rfl
theorem set62 (B c:Nat) (n:Int) (ty:TypeId) (va x0 y0:Value) (W:World) (hb0:W.cell? ⟨c,0,none⟩=some (.int .i64 n)) (hb1:W.cell? ⟨c,1,none⟩=some (.iface ty va)) (ht0:W.cell? ⟨B,0,none⟩=some x0) (ht1:W.cell? ⟨B,1,none⟩=some y0) (hf0:W.frozen? ⟨B,0,none⟩=false) (hf1:W.frozen? ⟨B,1,none⟩=false):
 (ReflectliteValue.set #[.agg #[.pointer (some ⟨15,137,none⟩),.pointer (some ⟨B,0,none⟩),.int .u64 409],.agg #[.pointer (some ⟨15,137,none⟩),.pointer (some ⟨c,0,none⟩),.int .u64 153]]).run Tryz.prog W
  =.ok (.tuple #[]) ((W.setCell ⟨B,0,none⟩ (.int .i64 n)).setCell ⟨B,1,none⟩ (.iface ty va)):=by
 have hs1:(W.setCell ⟨B,0,none⟩ (.int .i64 n)).cell? ⟨B,1,none⟩=some y0:=by rw [World.cell?_setCell_other _ _ _ _ (by intro e;injection e with _ e;cases e)];exact ht1
 have hf':(W.setCell ⟨B,0,none⟩ (.int .i64 n)).frozen? ⟨B,1,none⟩=false:=by simpa using hf1
 rw [set_eq]
 simp [loadVar,isAgg,underlying,Tryz.underlying137,loadCells,loadCellsFrom,hb0,hb1,Result.andThen,storeVar,Value.cells,storeCells,Addr.add]
 rw [run_store Tryz.prog W ⟨B,0,none⟩ _ _ (by rfl)]
 simp [ht0,hf0]
 rw [run_store Tryz.prog _ ⟨B,1,none⟩ _ _ (by rfl)]
 simp [hs1,hf']
set_option maxHeartbeats 4000000 in
set_option maxRecDepth 100000 in
theorem as_hit (B:Nat) (n:Int) (ty:TypeId) (va x0 y0:Value) (w:World) (hg:w.cell? ⟨4,0,none⟩=some (.iface 189 (.agg #[.pointer (some ⟨15,99,none⟩)]))) (ht0:w.cell? ⟨B,0,none⟩=some x0) (ht1:w.cell? ⟨B,1,none⟩=some y0) (hf0:w.frozen? ⟨B,0,none⟩=false) (hf1:w.frozen? ⟨B,1,none⟩=false):
 Calls Tryz.prog 71 #[.iface 137 (.agg #[.int .i64 n,.iface ty va]),.iface 139 (.pointer (some ⟨B,0,none⟩))] w fun ev w'=>ev=.returned (.bool true)∧w'=(((((w.alloc (.cells #[.pointer (some ⟨B,0,none⟩)] 139)).alloc (.cells #[.pointer (some ⟨15,139,none⟩),.pointer (some ⟨w.heap.size,0,none⟩),.int .u64 150] 165)).alloc (.cells #[.pointer (some ⟨15,139,none⟩),.pointer (some ⟨w.heap.size,0,none⟩),.int .u64 150] 165)).alloc (.cells #[.int .i64 n,.iface ty va] 137)).setCell ⟨B,0,none⟩ (.int .i64 n)).setCell ⟨B,1,none⟩ (.iface ty va):=by
 have h40:=@run_callFunc_extern Tryz.prog 97 _ (fun args=>ReflectliteValue.unpack (args.getD 0 (.tuple #[]))) Tryz.func97 (by kernel_rfl) (by kernel_rfl) (by kernel_rfl) (by kernel_rfl)
 have h41:=@run_callFunc_extern Tryz.prog 98 _ (ReflectliteValue.methodAny (ReflectliteValue.valueError "reflectlite.Value.Type" 0) (fun t _ _ _=>ReflectliteType.toType t)) Tryz.func98 (by kernel_rfl) (by kernel_rfl) (by kernel_rfl) (by kernel_rfl)
 have h42:=@run_callFunc_extern Tryz.prog 99 _ (ReflectliteValue.method (ReflectliteValue.valueError "reflectlite.Value.IsNil" 0) ReflectliteValue.isNil) Tryz.func99 (by kernel_rfl) (by kernel_rfl) (by kernel_rfl) (by kernel_rfl)
 have h84:=@run_callFunc_extern Tryz.prog 185 _ (ReflectliteType.abiMethod fun t=>do pure (.int .u8 (← Rtype.kind t))) Tryz.func185 (by kernel_rfl) (by kernel_rfl) (by kernel_rfl) (by kernel_rfl)
 have h96:=@run_callFunc_extern Tryz.prog 197 _ (ReflectliteType.method ReflectliteType.elem) Tryz.func197 (by kernel_rfl) (by kernel_rfl) (by kernel_rfl) (by kernel_rfl)
 have h97:=@run_callFunc_extern Tryz.prog 198 _ (ReflectliteType.relation "Implements" ReflectliteType.implements_) Tryz.func198 (by kernel_rfl) (by kernel_rfl) (by kernel_rfl) (by kernel_rfl)
 have h54:=@run_callFunc_extern Tryz.prog 114 _ ReflectliteType.typeOf Tryz.func114 (by kernel_rfl) (by kernel_rfl) (by kernel_rfl) (by kernel_rfl)
 have h94:=@run_callFunc_extern Tryz.prog 195 _ (ReflectliteType.relation "AssignableTo" ReflectliteType.assignableTo) Tryz.func195 (by kernel_rfl) (by kernel_rfl) (by kernel_rfl) (by kernel_rfl)
 have h55:=@run_callFunc_extern Tryz.prog 115 _ (ReflectliteValue.method (ReflectliteValue.valueError "reflectlite.Value.Elem" 0) ReflectliteValue.elem) Tryz.func115 (by kernel_rfl) (by kernel_rfl) (by kernel_rfl) (by kernel_rfl)
 have h56:=@run_callFunc_extern Tryz.prog 116 _ ReflectliteValue.set Tryz.func116 (by kernel_rfl) (by kernel_rfl) (by kernel_rfl) (by kernel_rfl)
 have tO:=typeOf62
 have mA:=methodAssignableTo
 have a25:=assignable62
 have v25:=valueOf62
 have f6:=valueOf64
 have f7:=type64
 have mK:=methodKind
 have mE:=methodElem
 have mI:=methodImplements
 have k27:=kind64
 have k25:=kind62
 have e27:=elem64
 have i25:=implements62
 have n8:=isNil64 ⟨w.heap.size,0,none⟩ ⟨B,0,none⟩ ((w.alloc (.cells #[.pointer (some ⟨B,0,none⟩)] 139)).alloc (.cells #[.pointer (some ⟨15,139,none⟩),.pointer (some ⟨w.heap.size,0,none⟩),.int .u64 150] 165)) (by simp)
 have hlt:4<w.heap.size:=by
  rcases Nat.lt_or_ge 4 w.heap.size with h0 | h
  · exact h0
  simp [World.cell?,Array.getElem?_eq_none h] at hg
 have hg2:((w.alloc (.cells #[.pointer (some ⟨B,0,none⟩)] 139)).alloc (.cells #[.pointer (some ⟨15,139,none⟩),.pointer (some ⟨w.heap.size,0,none⟩),.int .u64 150] 165)).cell? ⟨4,0,none⟩=some (.iface 189 (.agg #[.pointer (some ⟨15,99,none⟩)])):=by
  rw [World.cell?_alloc_lt _ _ ⟨4,0,none⟩ (by simp;omega),World.cell?_alloc_lt _ _ ⟨4,0,none⟩ hlt];exact hg
 have htl:B<w.heap.size:=by
  rcases Nat.lt_or_ge B w.heap.size with h | h
  · exact h
  simp [World.cell?,Array.getElem?_eq_none h] at ht0
 have el:=elemV64 ⟨w.heap.size,0,none⟩ ⟨B,0,none⟩ (((w.alloc (.cells #[.pointer (some ⟨B,0,none⟩)] 139)).alloc (.cells #[.pointer (some ⟨15,139,none⟩),.pointer (some ⟨w.heap.size,0,none⟩),.int .u64 150] 165)).alloc (.cells #[.pointer (some ⟨15,139,none⟩),.pointer (some ⟨w.heap.size,0,none⟩),.int .u64 150] 165)) (by rw [World.cell?_alloc_lt _ _ ⟨w.heap.size,0,none⟩ (by simp;omega)];simp)
 have st:=set62 B (w.heap.size+1+1+1) n ty va x0 y0 ((((w.alloc (.cells #[.pointer (some ⟨B,0,none⟩)] 139)).alloc (.cells #[.pointer (some ⟨15,139,none⟩),.pointer (some ⟨w.heap.size,0,none⟩),.int .u64 150] 165)).alloc (.cells #[.pointer (some ⟨15,139,none⟩),.pointer (some ⟨w.heap.size,0,none⟩),.int .u64 150] 165)).alloc (.cells #[.int .i64 n,.iface ty va] 137))
  (by rw [World.cell?_alloc_at _ _ _ _ (by simp)];rfl)
  (by rw [World.cell?_alloc_at _ _ _ _ (by simp)];rfl)
  (by rw [World.cell?_alloc_lt _ _ ⟨B,0,none⟩ (by simp;omega),World.cell?_alloc_lt _ _ ⟨B,0,none⟩ (by simp;omega),World.cell?_alloc_lt _ _ ⟨B,0,none⟩ (by simp;omega),World.cell?_alloc_lt _ _ ⟨B,0,none⟩ htl];exact ht0)
  (by rw [World.cell?_alloc_lt _ _ ⟨B,1,none⟩ (by simp;omega),World.cell?_alloc_lt _ _ ⟨B,1,none⟩ (by simp;omega),World.cell?_alloc_lt _ _ ⟨B,1,none⟩ (by simp;omega),World.cell?_alloc_lt _ _ ⟨B,1,none⟩ htl];exact ht1)
  (by rw [World.frozen?_alloc_old _ _ ⟨B,0,none⟩ (by simp;omega),World.frozen?_alloc_old _ _ ⟨B,0,none⟩ (by simp;omega),World.frozen?_alloc_old _ _ ⟨B,0,none⟩ (by simp;omega),World.frozen?_alloc_old _ _ ⟨B,0,none⟩ (Nat.ne_of_lt htl)];exact hf0)
  (by rw [World.frozen?_alloc_old _ _ ⟨B,1,none⟩ (by simp;omega),World.frozen?_alloc_old _ _ ⟨B,1,none⟩ (by simp;omega),World.frozen?_alloc_old _ _ ⟨B,1,none⟩ (by simp;omega),World.frozen?_alloc_old _ _ ⟨B,1,none⟩ (Nat.ne_of_lt htl)];exact hf1)
 go_enter Tryz.func71,Tryz.ntmps71
 go_wp2
 refine wp_loop_rounds 1 ?_
 rw [rounds_succ]
 go_wp2
 go_ret
 exact ⟨rfl,rfl⟩
theorem as_hitB (B:Nat) (n:Int) (ty:TypeId) (va x0 y0:Value) (w:World) (hg:w.cell? ⟨4,0,none⟩=some (.iface 189 (.agg #[.pointer (some ⟨15,99,none⟩)]))) (ht0:w.cell? ⟨B,0,none⟩=some x0) (ht1:w.cell? ⟨B,1,none⟩=some y0) (hf0:w.frozen? ⟨B,0,none⟩=false) (hf1:w.frozen? ⟨B,1,none⟩=false):
 Calls Tryz.prog 71 #[.iface 137 (.agg #[.int .i64 n,.iface ty va]),.iface 139 (.pointer (some ⟨B,0,none⟩))] w fun ev w'=>ev=.returned (.bool true)∧Below B w w':=by
 have htl:B<w.heap.size:=by
  rcases Nat.lt_or_ge B w.heap.size with h | h
  · exact h
  simp [World.cell?,Array.getElem?_eq_none h] at ht0
 refine (as_hit B n ty va x0 y0 w hg ht0 ht1 hf0 hf1).mono ?_
 rintro e w' ⟨he,hw⟩
 refine ⟨he,?_⟩
 rw [hw]
 exact ((((((Below.refl B w).alloc (Nat.le_of_lt htl) _).alloc (by simp;omega) _).alloc (by simp;omega) _).alloc (by simp;omega) _).setCell (p:=⟨B,0,none⟩) (Nat.le_refl _) _).setCell (p:=⟨B,1,none⟩) (Nat.le_refl _) _
set_option maxHeartbeats 1000000 in
theorem c47_nil (w:World):
 Calls Tryz.prog 47 #[.nilIface] w fun e w'=>e=.returned (.bool false)∧Below w.heap.size w w':=by
 go_enter Tryz.func47,Tryz.ntmps47
 go_wp2_with fail
 refine (as_nil _ _).mono ?_
 rintro e w1 ⟨rfl,rfl⟩
 go_wp2
 go_ret
 exact ⟨rfl,(Below.refl _ _).alloc (Nat.le_refl _) _⟩
set_option maxHeartbeats 1000000 in
theorem c47_hit (n:Int) (ty:TypeId) (va:Value) (w:World) (hg:w.cell? ⟨4,0,none⟩=some (.iface 189 (.agg #[.pointer (some ⟨15,99,none⟩)]))):
 Calls Tryz.prog 47 #[.iface 137 (.agg #[.int .i64 n,.iface ty va])] w fun e w'=>e=.returned (.bool true)∧Below w.heap.size w w':=by
 have hlt:4<w.heap.size:=by
  rcases Nat.lt_or_ge 4 w.heap.size with h0 | h
  · exact h0
  simp [World.cell?,Array.getElem?_eq_none h] at hg
 have HG:Hid (∀ o,(w.alloc o).cell? ⟨4,0,none⟩=some (.iface 189 (.agg #[.pointer (some ⟨15,99,none⟩)]))):=fun o=>(World.cell?_alloc_lt _ _ ⟨4,0,none⟩ hlt).trans hg
 go_enter Tryz.func47,Tryz.ntmps47
 go_wp2_with fail
 refine (as_hitB w.heap.size n ty va (.int .i64 0) .nilIface _ (HG.out _) (by simp) (by simp) (by simp) (by simp)).mono ?_
 rintro e w1 ⟨rfl,hb1⟩
 have hB:Below w.heap.size w w1:=((Below.refl _ _).alloc (Nat.le_refl _) _).trans hb1
 go_wp2
 go_ret
 exact ⟨rfl,hB⟩
end Go.Proofs.YtmalddmgdjkgaaaGreatDoor.G

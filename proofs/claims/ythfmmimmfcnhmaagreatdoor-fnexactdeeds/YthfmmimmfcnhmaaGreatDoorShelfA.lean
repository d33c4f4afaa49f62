import Derived.Test.YthfmmimmfcnhmaaGreatDoorProg
import Derived.WalkKit
import Derived.LaidEql
import Derived.Stop.Asserts
import Derived.RowKitTokens
import Derived.Shelf.Strings.Builder1
import Derived.Shelf.Strconv.Itoa3
set_option maxHeartbeats 8000000
set_option maxRecDepth 100000
namespace Go.Proofs.YthfmmimmfcnhmaaGreatDoor.G
open Proofs.Tryz
open Go.RowKit Go.Extern.Stop Go.Stop Go.Extern
theorem as_nil (t:Value) (w:World):
 Calls prog 103 #[.nilIface,t] w fun e w'=>e=.returned (.bool false)/\w'=w:=by
 go_enter func103,ntmps103
 go_wp2
 go_ret
 exact ⟨rfl,rfl⟩
/-! The entries of reflectlite at this dump's types: 62 the error's own type, 64 a pointer to it, 42 error, 96 rtype, 79 Type; 10 package-level variables -/
theorem valueOf64 (t:Addr) (w:World):(ReflectliteValue.unpack (.iface 173 (.pointer (some t)))).run prog w
 =.ok (.agg #[.pointer (some ⟨15,173,none⟩),.pointer (some ⟨w.heap.size,0,none⟩),.int .u64 150]) (w.alloc (.cells #[.pointer (some t)] 173)):=by kernel_rfl
theorem type64 (a:Addr) (w:World):(ReflectliteValue.methodAny (ReflectliteValue.valueError "reflectlite.Value.Type" 0) (fun t _ _ _=>ReflectliteType.toType t) #[.agg #[.pointer (some ⟨15,173,none⟩),.pointer (some a),.int .u64 150]]).run prog w
 =.ok (.iface 231 (.agg #[.pointer (some ⟨15,173,none⟩)])) w:=by kernel_rfl
theorem methodKind (h:Value) (w:World):(Go.method 420 231 (.agg #[h]) "Kind").run prog w=.ok (220,h) w:=by kernel_rfl
theorem kind64 (w:World):((ReflectliteType.abiMethod fun t=>(fun a:Nat=>Value.int IntKind.u8 (a:Int)) <$> Rtype.kind t) #[.pointer (some ⟨15,173,none⟩)]).run prog w=.ok (.int .u8 22) w:=by kernel_rfl
theorem kind62 (w:World):((ReflectliteType.abiMethod fun t=>(fun a:Nat=>Value.int IntKind.u8 (a:Int)) <$> Rtype.kind t) #[.pointer (some ⟨15,171,none⟩)]).run prog w=.ok (.int .u8 25) w:=by kernel_rfl
theorem isNil_eq (a:Addr) (W:World):(ReflectliteValue.method (ReflectliteValue.valueError "reflectlite.Value.IsNil" 0) ReflectliteValue.isNil #[.agg #[.pointer (some ⟨15,173,none⟩),.pointer (some a),.int .u64 150]]).run prog W=(ReflectliteValue.isNil 173 a 150 22).run prog W:=by kernel_rfl
theorem elem_eq (a:Addr) (W:World):(ReflectliteValue.method (ReflectliteValue.valueError "reflectlite.Value.Elem" 0) ReflectliteValue.elem #[.agg #[.pointer (some ⟨15,173,none⟩),.pointer (some a),.int .u64 150]]).run prog W=(ReflectliteValue.elem 173 a 150 22).run prog W:=by kernel_rfl
theorem isNil64 (a p:Addr) (W:World) (ha:W.cell? a=some (.pointer (some p))):
 (ReflectliteValue.method (ReflectliteValue.valueError "reflectlite.Value.IsNil" 0) ReflectliteValue.isNil #[.agg #[.pointer (some ⟨15,173,none⟩),.pointer (some a),.int .u64 150]]).run prog W=.ok (.bool false) W:=by
 rw [isNil_eq]
 simp [ReflectliteValue.isNil,loadVar,isAgg,underlying,underlying173,ha,Result.andThen]
theorem methodElem (h:Value) (w:World):(Go.method 420 231 (.agg #[h]) "Elem").run prog w=.ok (232,.agg #[h]) w:=by kernel_rfl
theorem methodImplements (h:Value) (w:World):(Go.method 420 231 (.agg #[h]) "Implements").run prog w=.ok (233,.agg #[h]) w:=by kernel_rfl
theorem methodAssignableTo (h:Value) (w:World):(Go.method 420 231 (.agg #[h]) "AssignableTo").run prog w=.ok (230,.agg #[h]) w:=by kernel_rfl
theorem elem64 (w:World):(ReflectliteType.method ReflectliteType.elem #[.agg #[.pointer (some ⟨15,173,none⟩)]]).run prog w=.ok (.iface 231 (.agg #[.pointer (some ⟨15,171,none⟩)])) w:=by kernel_rfl
theorem implements62 (w:World):(ReflectliteType.relation "Implements" ReflectliteType.implements_ #[.agg #[.pointer (some ⟨15,171,none⟩)],.iface 231 (.agg #[.pointer (some ⟨15,122,none⟩)])]).run prog w=.ok (.bool true) w:=by kernel_rfl
theorem typeOf62 (v:Value) (w:World):(ReflectliteType.typeOf #[.iface 171 v]).run prog w=.ok (.iface 231 (.agg #[.pointer (some ⟨15,171,none⟩)])) w:=by kernel_rfl
theorem assignable62 (w:World):(ReflectliteType.relation "AssignableTo" ReflectliteType.assignableTo #[.agg #[.pointer (some ⟨15,171,none⟩)],.iface 231 (.agg #[.pointer (some ⟨15,171,none⟩)])]).run prog w=.ok (.bool true) w:=by kernel_rfl
theorem valueOf62 (x y:Value) (w:World):(ReflectliteValue.unpack (.iface 171 (.agg #[x,y]))).run prog w
 =.ok (.agg #[.pointer (some ⟨15,171,none⟩),.pointer (some ⟨w.heap.size,0,none⟩),.int .u64 153]) (w.alloc (.cells #[x,y] 171)):=by kernel_rfl
theorem elemOf64 (w:World):(Rtype.elem? 173).run prog w=.ok (some 171) w:=by kernel_rfl
theorem mk62 (p:Addr) (w:World):(ReflectliteValue.mk 171 p ReflectliteValue.flagAddr).run prog w=.ok (.agg #[.pointer (some ⟨15,171,none⟩),.pointer (some p),.int .u64 409]) w:=by kernel_rfl
theorem elemV64 (a p:Addr) (W:World) (ha:W.cell? a=some (.pointer (some p))):
 (ReflectliteValue.method (ReflectliteValue.valueError "reflectlite.Value.Elem" 0) ReflectliteValue.elem #[.agg #[.pointer (some ⟨15,173,none⟩),.pointer (some a),.int .u64 150]]).run prog W
  =.ok (.agg #[.pointer (some ⟨15,171,none⟩),.pointer (some p),.int .u64 409]) W:=by
 rw [elem_eq]
 simp [ReflectliteValue.elem,loadVar,isAgg,underlying,underlying173,ha,Result.andThen,elemOf64,mk62]
theorem set_eq (a b:Addr) (W:World):(ReflectliteValue.set #[.agg #[.pointer (some ⟨15,171,none⟩),.pointer (some a),.int .u64 409],.agg #[.pointer (some ⟨15,171,none⟩),.pointer (some b),.int .u64 153]]).run prog W=(do let v <- loadVar 171 b;storeVar 171 a v;pure (Value.tuple #[])).run prog W:=by kernel_rfl
theorem set62 (B c:Nat) (n:Int) (ty:TypeId) (va x0 y0:Value) (W:World) (hb0:W.cell? ⟨c,0,none⟩=some (.int .i64 n)) (hb1:W.cell? ⟨c,1,none⟩=some (.iface ty va)) (ht0:W.cell? ⟨B,0,none⟩=some x0) (ht1:W.cell? ⟨B,1,none⟩=some y0) (hf0:W.frozen? ⟨B,0,none⟩=false) (hf1:W.frozen? ⟨B,1,none⟩=false):
 (ReflectliteValue.set #[.agg #[.pointer (some ⟨15,171,none⟩),.pointer (some ⟨B,0,none⟩),.int .u64 409],.agg #[.pointer (some ⟨15,171,none⟩),.pointer (some ⟨c,0,none⟩),.int .u64 153]]).run prog W
  =.ok (.tuple #[]) ((W.setCell ⟨B,0,none⟩ (.int .i64 n)).setCell ⟨B,1,none⟩ (.iface ty va)):=by
 have hs1:(W.setCell ⟨B,0,none⟩ (.int .i64 n)).cell? ⟨B,1,none⟩=some y0:=by rw [World.cell?_setCell_other _ _ _ _ (by intro e;injection e with _ e;cases e)];exact ht1
 have hf':(W.setCell ⟨B,0,none⟩ (.int .i64 n)).frozen? ⟨B,1,none⟩=false:=by simpa using hf1
 rw [set_eq]
 simp [loadVar,isAgg,underlying,underlying171,loadCells,loadCellsFrom,hb0,hb1,Result.andThen,storeVar,Value.cells,storeCells,Addr.add]
 rw [run_store prog W ⟨B,0,none⟩ _ _ (by rfl)]
 simp [ht0,hf0]
 rw [run_store prog _ ⟨B,1,none⟩ _ _ (by rfl)]
 simp [hs1,hf']
theorem as_hit (B:Nat) (n:Int) (ty:TypeId) (va x0 y0:Value) (w:World) (hg:w.cell? ⟨5,0,none⟩=some (.iface 231 (.agg #[.pointer (some ⟨15,122,none⟩)]))) (ht0:w.cell? ⟨B,0,none⟩=some x0) (ht1:w.cell? ⟨B,1,none⟩=some y0) (hf0:w.frozen? ⟨B,0,none⟩=false) (hf1:w.frozen? ⟨B,1,none⟩=false):
 Calls prog 103 #[.iface 171 (.agg #[.int .i64 n,.iface ty va]),.iface 173 (.pointer (some ⟨B,0,none⟩))] w fun ev w'=>ev=.returned (.bool true)/\w'=(((((w.alloc (.cells #[.pointer (some ⟨B,0,none⟩)] 173)).alloc (.cells #[.pointer (some ⟨15,173,none⟩),.pointer (some ⟨w.heap.size,0,none⟩),.int .u64 150] 204)).alloc (.cells #[.pointer (some ⟨15,173,none⟩),.pointer (some ⟨w.heap.size,0,none⟩),.int .u64 150] 204)).alloc (.cells #[.int .i64 n,.iface ty va] 171)).setCell ⟨B,0,none⟩ (.int .i64 n)).setCell ⟨B,1,none⟩ (.iface ty va):=by
 have h40:=@run_callFunc_extern prog 133 _ (fun args=>ReflectliteValue.unpack (args.getD 0 (.tuple #[]))) func133 (by kernel_rfl) (by kernel_rfl) (by kernel_rfl) (by kernel_rfl)
 have h41:=@run_callFunc_extern prog 134 _ (ReflectliteValue.methodAny (ReflectliteValue.valueError "reflectlite.Value.Type" 0) (fun t _ _ _=>ReflectliteType.toType t)) func134 (by kernel_rfl) (by kernel_rfl) (by kernel_rfl) (by kernel_rfl)
 have h42:=@run_callFunc_extern prog 135 _ (ReflectliteValue.method (ReflectliteValue.valueError "reflectlite.Value.IsNil" 0) ReflectliteValue.isNil) func135 (by kernel_rfl) (by kernel_rfl) (by kernel_rfl) (by kernel_rfl)
 have h84:=@run_callFunc_extern prog 220 _ (ReflectliteType.abiMethod fun t=>do pure (.int .u8 (<- Rtype.kind t))) func220 (by kernel_rfl) (by kernel_rfl) (by kernel_rfl) (by kernel_rfl)
 have h96:=@run_callFunc_extern prog 232 _ (ReflectliteType.method ReflectliteType.elem) func232 (by kernel_rfl) (by kernel_rfl) (by kernel_rfl) (by kernel_rfl)
 have h97:=@run_callFunc_extern prog 233 _ (ReflectliteType.relation "Implements" ReflectliteType.implements_) func233 (by kernel_rfl) (by kernel_rfl) (by kernel_rfl) (by kernel_rfl)
 have h54:=@run_callFunc_extern prog 150 _ ReflectliteType.typeOf func150 (by kernel_rfl) (by kernel_rfl) (by kernel_rfl) (by kernel_rfl)
 have h94:=@run_callFunc_extern prog 230 _ (ReflectliteType.relation "AssignableTo" ReflectliteType.assignableTo) func230 (by kernel_rfl) (by kernel_rfl) (by kernel_rfl) (by kernel_rfl)
 have h55:=@run_callFunc_extern prog 151 _ (ReflectliteValue.method (ReflectliteValue.valueError "reflectlite.Value.Elem" 0) ReflectliteValue.elem) func151 (by kernel_rfl) (by kernel_rfl) (by kernel_rfl) (by kernel_rfl)
 have h56:=@run_callFunc_extern prog 152 _ ReflectliteValue.set func152 (by kernel_rfl) (by kernel_rfl) (by kernel_rfl) (by kernel_rfl)
 have tO:=typeOf62
 have mA:=methodAssignableTo
 have a25:=assignable62
 have v25:=valueOf62
 have f6:=valueOf64
 have f7:=type64
 have mK:=methodKind
 have mE:=methodElem
 have mI:=methodImplements
 have k27:=kind64
 have k25:=kind62
 have e27:=elem64
 have i25:=implements62
 have n8:=isNil64 ⟨w.heap.size,0,none⟩ ⟨B,0,none⟩ ((w.alloc (.cells #[.pointer (some ⟨B,0,none⟩)] 173)).alloc (.cells #[.pointer (some ⟨15,173,none⟩),.pointer (some ⟨w.heap.size,0,none⟩),.int .u64 150] 204)) (by simp)
 have hlt:5<w.heap.size:=by
  rcases Nat.lt_or_ge 5 w.heap.size with h0 | h
  · exact h0
  simp [World.cell?,Array.getElem?_eq_none h] at hg
 have hg2:((w.alloc (.cells #[.pointer (some ⟨B,0,none⟩)] 173)).alloc (.cells #[.pointer (some ⟨15,173,none⟩),.pointer (some ⟨w.heap.size,0,none⟩),.int .u64 150] 204)).cell? ⟨5,0,none⟩=some (.iface 231 (.agg #[.pointer (some ⟨15,122,none⟩)])):=by
  rw [World.cell?_alloc_lt _ _ ⟨5,0,none⟩ (by simp;omega),World.cell?_alloc_lt _ _ ⟨5,0,none⟩ hlt];exact hg
 have htl:B<w.heap.size:=by
  rcases Nat.lt_or_ge B w.heap.size with h | h
  · exact h
  simp [World.cell?,Array.getElem?_eq_none h] at ht0
 have el:=elemV64 ⟨w.heap.size,0,none⟩ ⟨B,0,none⟩ (((w.alloc (.cells #[.pointer (some ⟨B,0,none⟩)] 173)).alloc (.cells #[.pointer (some ⟨15,173,none⟩),.pointer (some ⟨w.heap.size,0,none⟩),.int .u64 150] 204)).alloc (.cells #[.pointer (some ⟨15,173,none⟩),.pointer (some ⟨w.heap.size,0,none⟩),.int .u64 150] 204)) (by rw [World.cell?_alloc_lt _ _ ⟨w.heap.size,0,none⟩ (by simp;omega)];simp)
 have st:=set62 B (w.heap.size+1+1+1) n ty va x0 y0 ((((w.alloc (.cells #[.pointer (some ⟨B,0,none⟩)] 173)).alloc (.cells #[.pointer (some ⟨15,173,none⟩),.pointer (some ⟨w.heap.size,0,none⟩),.int .u64 150] 204)).alloc (.cells #[.pointer (some ⟨15,173,none⟩),.pointer (some ⟨w.heap.size,0,none⟩),.int .u64 150] 204)).alloc (.cells #[.int .i64 n,.iface ty va] 171))
  (by rw [World.cell?_alloc_at _ _ _ _ (by simp)];rfl)
  (by rw [World.cell?_alloc_at _ _ _ _ (by simp)];rfl)
  (by rw [World.cell?_alloc_lt _ _ ⟨B,0,none⟩ (by simp;omega),World.cell?_alloc_lt _ _ ⟨B,0,none⟩ (by simp;omega),World.cell?_alloc_lt _ _ ⟨B,0,none⟩ (by simp;omega),World.cell?_alloc_lt _ _ ⟨B,0,none⟩ htl];exact ht0)
  (by rw [World.cell?_alloc_lt _ _ ⟨B,1,none⟩ (by simp;omega),World.cell?_alloc_lt _ _ ⟨B,1,none⟩ (by simp;omega),World.cell?_alloc_lt _ _ ⟨B,1,none⟩ (by simp;omega),World.cell?_alloc_lt _ _ ⟨B,1,none⟩ htl];exact ht1)
  (by rw [World.frozen?_alloc_old _ _ ⟨B,0,none⟩ (by simp;omega),World.frozen?_alloc_old _ _ ⟨B,0,none⟩ (by simp;omega),World.frozen?_alloc_old _ _ ⟨B,0,none⟩ (by simp;omega),World.frozen?_alloc_old _ _ ⟨B,0,none⟩ (Nat.ne_of_lt htl)];exact hf0)
  (by rw [World.frozen?_alloc_old _ _ ⟨B,1,none⟩ (by simp;omega),World.frozen?_alloc_old _ _ ⟨B,1,none⟩ (by simp;omega),World.frozen?_alloc_old _ _ ⟨B,1,none⟩ (by simp;omega),World.frozen?_alloc_old _ _ ⟨B,1,none⟩ (Nat.ne_of_lt htl)];exact hf1)
 go_enter func103,ntmps103
 go_wp2
 refine wp_loop_rounds 1 ?_
 rw [rounds_succ]
 go_wp2
 go_ret
 exact ⟨rfl,rfl⟩
theorem as_hitB (B:Nat) (n:Int) (ty:TypeId) (va x0 y0:Value) (w:World) (hg:w.cell? ⟨5,0,none⟩=some (.iface 231 (.agg #[.pointer (some ⟨15,122,none⟩)]))) (ht0:w.cell? ⟨B,0,none⟩=some x0) (ht1:w.cell? ⟨B,1,none⟩=some y0) (hf0:w.frozen? ⟨B,0,none⟩=false) (hf1:w.frozen? ⟨B,1,none⟩=false):
 Calls prog 103 #[.iface 171 (.agg #[.int .i64 n,.iface ty va]),.iface 173 (.pointer (some ⟨B,0,none⟩))] w fun ev w'=>ev=.returned (.bool true)/\Below B w w':=by
 have htl:B<w.heap.size:=by
  rcases Nat.lt_or_ge B w.heap.size with h | h
  · exact h
  simp [World.cell?,Array.getElem?_eq_none h] at ht0
 refine (as_hit B n ty va x0 y0 w hg ht0 ht1 hf0 hf1).mono ?_
 rintro e w' ⟨he,hw⟩
 refine ⟨he,?_⟩
 rw [hw]
 exact ((((((Below.refl B w).alloc (Nat.le_of_lt htl) _).alloc (by simp;omega) _).alloc (by simp;omega) _).alloc (by simp;omega) _).setCell (p:=⟨B,0,none⟩) (Nat.le_refl _) _).setCell (p:=⟨B,1,none⟩) (Nat.le_refl _) _
theorem c67_nil (w:World):
 Calls prog 67 #[.nilIface] w fun e w'=>e=.returned (.bool false)/\Below w.heap.size w w':=by
 go_enter func67,ntmps67
 go_wp2_with fail
 refine (as_nil _ _).mono ?_
 rintro e w1 ⟨rfl,rfl⟩
 go_wp2
 go_ret
 exact ⟨rfl,(Below.refl _ _).alloc (Nat.le_refl _) _⟩
theorem c67_hit (n:Int) (ty:TypeId) (va:Value) (w:World) (hg:w.cell? ⟨5,0,none⟩=some (.iface 231 (.agg #[.pointer (some ⟨15,122,none⟩)]))):
 Calls prog 67 #[.iface 171 (.agg #[.int .i64 n,.iface ty va])] w fun e w'=>e=.returned (.bool true)/\Below w.heap.size w w':=by
 have hlt:5<w.heap.size:=by
  rcases Nat.lt_or_ge 5 w.heap.size with h0 | h
  · exact h0
  simp [World.cell?,Array.getElem?_eq_none h] at hg
 have HG:Hid (∀ o,(w.alloc o).cell? ⟨5,0,none⟩=some (.iface 231 (.agg #[.pointer (some ⟨15,122,none⟩)]))):=fun o=>(World.cell?_alloc_lt _ _ ⟨5,0,none⟩ hlt).trans hg
 go_enter func67,ntmps67
 go_wp2_with fail
 refine (as_hitB w.heap.size n ty va (.int .i64 0) .nilIface _ (HG.out _) (by simp) (by simp) (by simp) (by simp)).mono ?_
 rintro e w1 ⟨rfl,hb1⟩
 have hB:Below w.heap.size w w1:=((Below.refl _ _).alloc (Nat.le_refl _) _).trans hb1
 go_wp2
 go_ret
 exact ⟨rfl,hB⟩
end Go.Proofs.YthfmmimmfcnhmaaGreatDoor.G
namespace Go.Proofs
open Go.Shelf
open Go.RowKit in
def Tryz.lays169_ren:Go.Shelf.Ren:=⟨fun | 169=>164 | n=>n,fun | 70=>214 | 9=>9 | 0=>0 | 72=>216 | 37=>103 | 127=>263 | 3=>3 | 5=>5 | n=>n,fun | n=>n⟩
theorem Tryz.lays169:Go.Proofs.Lays.n169 Tryz.prog Tryz.lays169_ren:={
 mixed:=by kernel_rfl
 f169:=Tryz.func164.trans (congrArg some (by kernel_rfl))
 t0:=Tryz.underlying0
 a0:=Tryz.isAgg0
 z0:=Tryz.sizeOf0
 v0:=Tryz.zeroValue0
 t3:=Tryz.underlying3
 a3:=Tryz.isAgg3
 z3:=Tryz.sizeOf3
 v3:=Tryz.zeroValue3
 t9:=Tryz.underlying9
 a9:=Tryz.isAgg9
 z9:=Tryz.sizeOf9
 v9:=Tryz.zeroValue9
 t37:=Tryz.underlying103
 a37:=Tryz.isAgg103
 z37:=Tryz.sizeOf103
 v37:=Tryz.zeroValue103
 t70:=Tryz.underlying214
 a70:=Tryz.isAgg214
 z70:=Tryz.sizeOf214
 v70:=Tryz.zeroValue214
 t72:=Tryz.underlying216
 a72:=Tryz.isAgg216
 z72:=Tryz.sizeOf216
 v72:=Tryz.zeroValue216
 t127:=Tryz.underlying263
 a127:=Tryz.isAgg263
 z127:=Tryz.sizeOf263
 v127:=Tryz.zeroValue263 }
theorem Tryz.Builder_Extra_169:Builder.Extra Tryz.prog Tryz.lays169_ren:={
 sizeBuilder:=by kernel_rfl
 liesBuilder:=by kernel_rfl
 t5:=Tryz.underlying5
 a5:=Tryz.isAgg5
 z5:=Tryz.sizeOf5
 v5:=Tryz.zeroValue5
 infoByte:=by kernel_rfl
 cellsByte:=by kernel_rfl
 sizeByte:=by kernel_rfl
 neB5:=by decide }
open Go.RowKit in
theorem Tryz.Builder_String_any (B b:Nat) (l:List UInt8) (w:World) (h:Lib.IsBuilder 216 5 B b (Lib.byteCells l) w) (hBw:B<=w.heap.size):
 Calls Tryz.prog 164 #[.pointer (some ⟨b,0,none⟩)] w fun e w'=>e=.returned (.string ⟨l.toArray⟩)/\Below B w w':=Any.Builder_String_any Tryz.lays169 Tryz.Builder_Extra_169 B b l w h hBw
def Tryz.lays171_ren:Go.Shelf.Ren:=⟨fun | 171=>176 | 243=>188 | 246=>194 | 283=>196 | 284=>197 | 285=>198 | 286=>199 | 129=>99 | 317=>200 | 318=>201 | 319=>202 | 320=>203 | 337=>204 | 338=>205 | n=>n,fun | 3=>3 | 9=>9 | 2=>2 | 4=>4 | 171=>276 | 0=>0 | 53=>167 | 37=>103 | 5=>5 | 173=>278 | 212=>285 | 51=>165 | 20=>20 | 213=>286 | 46=>120 | 232=>288 | 233=>289 | n=>n,fun | 17=>12 | 18=>13 | 19=>14 | n=>n⟩
theorem Tryz.lays171:Go.Proofs.Lays.n171 Tryz.prog Tryz.lays171_ren:={
 mixed:=by kernel_rfl
 f129:=Tryz.func99.trans (congrArg some (by kernel_rfl))
 f171:=Tryz.func176.trans (congrArg some (by kernel_rfl))
 f243:=Tryz.func188.trans (congrArg some (by kernel_rfl))
 f246:=Tryz.func194.trans (congrArg some (by kernel_rfl))
 f283:=Tryz.func196.trans (congrArg some (by kernel_rfl))
 f284:=Tryz.func197.trans (congrArg some (by kernel_rfl))
 f285:=Tryz.func198.trans (congrArg some (by kernel_rfl))
 f286:=Tryz.func199.trans (congrArg some (by kernel_rfl))
 f317:=Tryz.func200.trans (congrArg some (by kernel_rfl))
 f318:=Tryz.func201.trans (congrArg some (by kernel_rfl))
 f319:=Tryz.func202.trans (congrArg some (by kernel_rfl))
 f320:=Tryz.func203.trans (congrArg some (by kernel_rfl))
 f337:=Tryz.func204.trans (congrArg some (by kernel_rfl))
 f338:=Tryz.func205.trans (congrArg some (by kernel_rfl))
 t0:=Tryz.underlying0
 a0:=Tryz.isAgg0
 z0:=Tryz.sizeOf0
 v0:=Tryz.zeroValue0
 t2:=Tryz.underlying2
 a2:=Tryz.isAgg2
 z2:=Tryz.sizeOf2
 v2:=Tryz.zeroValue2
 t3:=Tryz.underlying3
 a3:=Tryz.isAgg3
 z3:=Tryz.sizeOf3
 v3:=Tryz.zeroValue3
 t4:=Tryz.underlying4
 a4:=Tryz.isAgg4
 z4:=Tryz.sizeOf4
 v4:=Tryz.zeroValue4
 t5:=Tryz.underlying5
 a5:=Tryz.isAgg5
 z5:=Tryz.sizeOf5
 v5:=Tryz.zeroValue5
 t9:=Tryz.underlying9
 a9:=Tryz.isAgg9
 z9:=Tryz.sizeOf9
 v9:=Tryz.zeroValue9
 t20:=Tryz.underlying20
 a20:=Tryz.isAgg20
 z20:=Tryz.sizeOf20
 v20:=Tryz.zeroValue20
 t37:=Tryz.underlying103
 a37:=Tryz.isAgg103
 z37:=Tryz.sizeOf103
 v37:=Tryz.zeroValue103
 t46:=Tryz.underlying120
 a46:=Tryz.isAgg120
 z46:=Tryz.sizeOf120
 v46:=Tryz.zeroValue120
 t51:=Tryz.underlying165
 a51:=Tryz.isAgg165
 z51:=Tryz.sizeOf165
 v51:=Tryz.zeroValue165
 t53:=Tryz.underlying167
 a53:=Tryz.isAgg167
 z53:=Tryz.sizeOf167
 v53:=Tryz.zeroValue167
 t171:=Tryz.underlying276
 a171:=Tryz.isAgg276
 z171:=Tryz.sizeOf276
 v171:=Tryz.zeroValue276
 t173:=Tryz.underlying278
 a173:=Tryz.isAgg278
 z173:=Tryz.sizeOf278
 v173:=Tryz.zeroValue278
 t212:=Tryz.underlying285
 a212:=Tryz.isAgg285
 z212:=Tryz.sizeOf285
 v212:=Tryz.zeroValue285
 t213:=Tryz.underlying286
 a213:=Tryz.isAgg286
 z213:=Tryz.sizeOf286
 t232:=Tryz.underlying288
 a232:=Tryz.isAgg288
 z232:=Tryz.sizeOf288
 v232:=Tryz.zeroValue288
 t233:=Tryz.underlying289
 a233:=Tryz.isAgg289
 z233:=Tryz.sizeOf289
 v233:=Tryz.zeroValue289
 g17:=by kernel_rfl
 g18:=by kernel_rfl
 g19:=by kernel_rfl }
open Go.RowKit Go.Sort Go.Lib in
theorem Tryz.strconv_Itoa_small (i:Nat) (hi:i<100) (w:World):
 Calls Tryz.prog 176 #[.int .i64 i] w fun e w'=>e=.returned (.string ⟨(Lib.decDigits i).toArray⟩)/\w'=w:=Any.strconv_Itoa_small Tryz.lays171 i hi w
end Go.Proofs

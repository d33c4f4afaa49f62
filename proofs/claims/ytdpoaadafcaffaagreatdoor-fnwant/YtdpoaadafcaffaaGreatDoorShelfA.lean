import Derived.Test.YtdpoaadafcaffaaGreatDoorProg
import Derived.WalkKit
import Derived.LaidEql
import Derived.Stop.Asserts
import Derived.RowKitTokens
import Derived.Shelf.Strings.Builder1
import Derived.Shelf.Strconv.Itoa3
set_option maxHeartbeats 8000000
set_option maxRecDepth 100000
namespace Go.Proofs.YtdpoaadafcaffaaGreatDoor.G
open Proofs.Tryz
open Go.RowKit Go.Extern.Stop Go.Stop Go.Extern
theorem mG (t:Value) (w:World):
 Calls prog 116 #[.nilIface,t] w fun e w'=>e=.returned (.bool false)/\w'=w:=by
 go_enter func116,ntmps116;go_wp2;go_ret;exact ⟨rfl,rfl⟩
theorem ax (t:Addr) (w:World):(ReflectliteValue.unpack (.iface 189 (.pointer (some t)))).run prog w
 =.ok (.agg #[.pointer (some ⟨15,189,none⟩),.pointer (some ⟨w.heap.size,0,none⟩),.int .u64 150]) (w.alloc (.cells #[.pointer (some t)] 189)):=by kernel_rfl
theorem type64 (a:Addr) (w:World):(ReflectliteValue.methodAny (ReflectliteValue.valueError "reflectlite.Value.Type" 0) (fun t _ _ _=>ReflectliteType.toType t) #[.agg #[.pointer (some ⟨15,189,none⟩),.pointer (some a),.int .u64 150]]).run prog w
 =.ok (.iface 250 (.agg #[.pointer (some ⟨15,189,none⟩)])) w:=by kernel_rfl
theorem Xt (h:Value) (w:World):(Go.method 421 250 (.agg #[h]) "Kind").run prog w=.ok (225,h) w:=by kernel_rfl
theorem sF (w:World):((ReflectliteType.abiMethod fun t=>(fun a:Nat=>Value.int IntKind.u8 (a:Int)) <$> Rtype.kind t) #[.pointer (some ⟨15,189,none⟩)]).run prog w=.ok (.int .u8 22) w:=by kernel_rfl
theorem KG (w:World):((ReflectliteType.abiMethod fun t=>(fun a:Nat=>Value.int IntKind.u8 (a:Int)) <$> Rtype.kind t) #[.pointer (some ⟨15,187,none⟩)]).run prog w=.ok (.int .u8 25) w:=by kernel_rfl
theorem Jz (a:Addr) (W:World):(ReflectliteValue.method (ReflectliteValue.valueError "reflectlite.Value.IsNil" 0) ReflectliteValue.isNil #[.agg #[.pointer (some ⟨15,189,none⟩),.pointer (some a),.int .u64 150]]).run prog W=(ReflectliteValue.isNil 189 a 150 22).run prog W:=by kernel_rfl
theorem DD (a:Addr) (W:World):(ReflectliteValue.method (ReflectliteValue.valueError "reflectlite.Value.Elem" 0) ReflectliteValue.elem #[.agg #[.pointer (some ⟨15,189,none⟩),.pointer (some a),.int .u64 150]]).run prog W=(ReflectliteValue.elem 189 a 150 22).run prog W:=by kernel_rfl
theorem uC (a p:Addr) (W:World) (ha:W.cell? a=some (.pointer (some p))):
 (ReflectliteValue.method (ReflectliteValue.valueError "reflectlite.Value.IsNil" 0) ReflectliteValue.isNil #[.agg #[.pointer (some ⟨15,189,none⟩),.pointer (some a),.int .u64 150]]).run prog W=.ok (.bool false) W:=by
 rw [Jz];simp [ReflectliteValue.isNil,loadVar,isAgg,underlying,underlying189,ha,Result.andThen]
theorem su (h:Value) (w:World):(Go.method 421 250 (.agg #[h]) "Elem").run prog w=.ok (237,.agg #[h]) w:=by kernel_rfl
theorem qj (h:Value) (w:World):(Go.method 421 250 (.agg #[h]) "Implements").run prog w=.ok (238,.agg #[h]) w:=by kernel_rfl
theorem jh (h:Value) (w:World):(Go.method 421 250 (.agg #[h]) "AssignableTo").run prog w=.ok (235,.agg #[h]) w:=by kernel_rfl
theorem EF (w:World):(ReflectliteType.method ReflectliteType.elem #[.agg #[.pointer (some ⟨15,189,none⟩)]]).run prog w=.ok (.iface 250 (.agg #[.pointer (some ⟨15,187,none⟩)])) w:=by kernel_rfl
theorem Vp (w:World):(ReflectliteType.relation "Implements" ReflectliteType.implements_ #[.agg #[.pointer (some ⟨15,187,none⟩)],.iface 250 (.agg #[.pointer (some ⟨15,135,none⟩)])]).run prog w=.ok (.bool true) w:=by kernel_rfl
theorem rA (v:Value) (w:World):(ReflectliteType.typeOf #[.iface 187 v]).run prog w=.ok (.iface 250 (.agg #[.pointer (some ⟨15,187,none⟩)])) w:=by kernel_rfl
theorem Po (w:World):(ReflectliteType.relation "AssignableTo" ReflectliteType.assignableTo #[.agg #[.pointer (some ⟨15,187,none⟩)],.iface 250 (.agg #[.pointer (some ⟨15,187,none⟩)])]).run prog w=.ok (.bool true) w:=by kernel_rfl
theorem jy (x y:Value) (w:World):(ReflectliteValue.unpack (.iface 187 (.agg #[x,y]))).run prog w
 =.ok (.agg #[.pointer (some ⟨15,187,none⟩),.pointer (some ⟨w.heap.size,0,none⟩),.int .u64 153]) (w.alloc (.cells #[x,y] 187)):=by kernel_rfl
theorem Zz (w:World):(Rtype.elem? 189).run prog w=.ok (some 187) w:=by kernel_rfl
theorem jJ (p:Addr) (w:World):(ReflectliteValue.mk 187 p ReflectliteValue.flagAddr).run prog w=.ok (.agg #[.pointer (some ⟨15,187,none⟩),.pointer (some p),.int .u64 409]) w:=by kernel_rfl
theorem jD (a p:Addr) (W:World) (ha:W.cell? a=some (.pointer (some p))):
 (ReflectliteValue.method (ReflectliteValue.valueError "reflectlite.Value.Elem" 0) ReflectliteValue.elem #[.agg #[.pointer (some ⟨15,189,none⟩),.pointer (some a),.int .u64 150]]).run prog W
  =.ok (.agg #[.pointer (some ⟨15,187,none⟩),.pointer (some p),.int .u64 409]) W:=by
 rw [DD];simp [ReflectliteValue.elem,loadVar,isAgg,underlying,underlying189,ha,Result.andThen,Zz,jJ]
theorem LG (a b:Addr) (W:World):(ReflectliteValue.set #[.agg #[.pointer (some ⟨15,187,none⟩),.pointer (some a),.int .u64 409],.agg #[.pointer (some ⟨15,187,none⟩),.pointer (some b),.int .u64 153]]).run prog W=(do let v <- loadVar 187 b;storeVar 187 a v;pure (Value.tuple #[])).run prog W:=by kernel_rfl
theorem rH (B c:Nat) (n:Int) (ty:TypeId) (va x0 y0:Value) (W:World) (hb0:W.cell? ⟨c,0,none⟩=some (.int .i64 n)) (hb1:W.cell? ⟨c,1,none⟩=some (.iface ty va)) (ht0:W.cell? ⟨B,0,none⟩=some x0) (ht1:W.cell? ⟨B,1,none⟩=some y0) (hf0:W.frozen? ⟨B,0,none⟩=false) (hf1:W.frozen? ⟨B,1,none⟩=false):
 (ReflectliteValue.set #[.agg #[.pointer (some ⟨15,187,none⟩),.pointer (some ⟨B,0,none⟩),.int .u64 409],.agg #[.pointer (some ⟨15,187,none⟩),.pointer (some ⟨c,0,none⟩),.int .u64 153]]).run prog W
  =.ok (.tuple #[]) ((W.setCell ⟨B,0,none⟩ (.int .i64 n)).setCell ⟨B,1,none⟩ (.iface ty va)):=by
 have hs1:(W.setCell ⟨B,0,none⟩ (.int .i64 n)).cell? ⟨B,1,none⟩=some y0:=by rw [World.cell?_setCell_other _ _ _ _ (by intro e;injection e with _ e;cases e)];exact ht1
 have hf':(W.setCell ⟨B,0,none⟩ (.int .i64 n)).frozen? ⟨B,1,none⟩=false:=by simpa using hf1
 rw [LG];simp [loadVar,isAgg,underlying,underlying187,loadCells,loadCellsFrom,hb0,hb1,Result.andThen,storeVar,Value.cells,storeCells,Addr.add];rw [run_store prog W ⟨B,0,none⟩ _ _ (by rfl)];simp [ht0,hf0];rw [run_store prog _ ⟨B,1,none⟩ _ _ (by rfl)];simp [hs1,hf']
theorem JG (B:Nat) (n:Int) (ty:TypeId) (va x0 y0:Value) (w:World) (hg:w.cell? ⟨6,0,none⟩=some (.iface 250 (.agg #[.pointer (some ⟨15,135,none⟩)]))) (ht0:w.cell? ⟨B,0,none⟩=some x0) (ht1:w.cell? ⟨B,1,none⟩=some y0) (hf0:w.frozen? ⟨B,0,none⟩=false) (hf1:w.frozen? ⟨B,1,none⟩=false):
 Calls prog 116 #[.iface 187 (.agg #[.int .i64 n,.iface ty va]),.iface 189 (.pointer (some ⟨B,0,none⟩))] w fun ev w'=>ev=.returned (.bool true)/\w'=(((((w.alloc (.cells #[.pointer (some ⟨B,0,none⟩)] 189)).alloc (.cells #[.pointer (some ⟨15,189,none⟩),.pointer (some ⟨w.heap.size,0,none⟩),.int .u64 150] 226)).alloc (.cells #[.pointer (some ⟨15,189,none⟩),.pointer (some ⟨w.heap.size,0,none⟩),.int .u64 150] 226)).alloc (.cells #[.int .i64 n,.iface ty va] 187)).setCell ⟨B,0,none⟩ (.int .i64 n)).setCell ⟨B,1,none⟩ (.iface ty va):=by
 have aW:=@run_callFunc_extern prog 147 _ (fun args=>ReflectliteValue.unpack (args.getD 0 (.tuple #[]))) func147 (by kernel_rfl) (by kernel_rfl) (by kernel_rfl) (by kernel_rfl);have h41:=@run_callFunc_extern prog 148 _ (ReflectliteValue.methodAny (ReflectliteValue.valueError "reflectlite.Value.Type" 0) (fun t _ _ _=>ReflectliteType.toType t)) func148 (by kernel_rfl) (by kernel_rfl) (by kernel_rfl) (by kernel_rfl);have h42:=@run_callFunc_extern prog 149 _ (ReflectliteValue.method (ReflectliteValue.valueError "reflectlite.Value.IsNil" 0) ReflectliteValue.isNil) func149 (by kernel_rfl) (by kernel_rfl) (by kernel_rfl) (by kernel_rfl);have h84:=@run_callFunc_extern prog 225 _ (ReflectliteType.abiMethod fun t=>do pure (.int .u8 (<- Rtype.kind t))) func225 (by kernel_rfl) (by kernel_rfl) (by kernel_rfl) (by kernel_rfl);have h96:=@run_callFunc_extern prog 237 _ (ReflectliteType.method ReflectliteType.elem) func237 (by kernel_rfl) (by kernel_rfl) (by kernel_rfl) (by kernel_rfl);have h97:=@run_callFunc_extern prog 238 _ (ReflectliteType.relation "Implements" ReflectliteType.implements_) func238 (by kernel_rfl) (by kernel_rfl) (by kernel_rfl) (by kernel_rfl);have PY:=@run_callFunc_extern prog 179 _ ReflectliteType.typeOf func179 (by kernel_rfl) (by kernel_rfl) (by kernel_rfl) (by kernel_rfl);have h94:=@run_callFunc_extern prog 235 _ (ReflectliteType.relation "AssignableTo" ReflectliteType.assignableTo) func235 (by kernel_rfl) (by kernel_rfl) (by kernel_rfl) (by kernel_rfl);have h55:=@run_callFunc_extern prog 180 _ (ReflectliteValue.method (ReflectliteValue.valueError "reflectlite.Value.Elem" 0) ReflectliteValue.elem) func180 (by kernel_rfl) (by kernel_rfl) (by kernel_rfl) (by kernel_rfl);have h56:=@run_callFunc_extern prog 181 _ ReflectliteValue.set func181 (by kernel_rfl) (by kernel_rfl) (by kernel_rfl) (by kernel_rfl);have tO:=rA;have mA:=jh;have a25:=Po;have v25:=jy;have f6:=ax;have f7:=type64;have mK:=Xt;have mE:=su;have mI:=qj;have k27:=sF;have k25:=KG;have e27:=EF;have i25:=Vp;have n8:=uC ⟨w.heap.size,0,none⟩ ⟨B,0,none⟩ ((w.alloc (.cells #[.pointer (some ⟨B,0,none⟩)] 189)).alloc (.cells #[.pointer (some ⟨15,189,none⟩),.pointer (some ⟨w.heap.size,0,none⟩),.int .u64 150] 226)) (by simp);have hlt:6<w.heap.size:=by
  rcases Nat.lt_or_ge 6 w.heap.size with h0 | h
  · exact h0
  simp [World.cell?,Array.getElem?_eq_none h] at hg
 have hg2:((w.alloc (.cells #[.pointer (some ⟨B,0,none⟩)] 189)).alloc (.cells #[.pointer (some ⟨15,189,none⟩),.pointer (some ⟨w.heap.size,0,none⟩),.int .u64 150] 226)).cell? ⟨6,0,none⟩=some (.iface 250 (.agg #[.pointer (some ⟨15,135,none⟩)])):=by
  rw [World.cell?_alloc_lt _ _ ⟨6,0,none⟩ (by simp;omega),World.cell?_alloc_lt _ _ ⟨6,0,none⟩ hlt];exact hg
 have htl:B<w.heap.size:=by
  rcases Nat.lt_or_ge B w.heap.size with h | h
  · exact h
  simp [World.cell?,Array.getElem?_eq_none h] at ht0
 have el:=jD ⟨w.heap.size,0,none⟩ ⟨B,0,none⟩ (((w.alloc (.cells #[.pointer (some ⟨B,0,none⟩)] 189)).alloc (.cells #[.pointer (some ⟨15,189,none⟩),.pointer (some ⟨w.heap.size,0,none⟩),.int .u64 150] 226)).alloc (.cells #[.pointer (some ⟨15,189,none⟩),.pointer (some ⟨w.heap.size,0,none⟩),.int .u64 150] 226)) (by rw [World.cell?_alloc_lt _ _ ⟨w.heap.size,0,none⟩ (by simp;omega)];simp);have st:=rH B (w.heap.size+1+1+1) n ty va x0 y0 ((((w.alloc (.cells #[.pointer (some ⟨B,0,none⟩)] 189)).alloc (.cells #[.pointer (some ⟨15,189,none⟩),.pointer (some ⟨w.heap.size,0,none⟩),.int .u64 150] 226)).alloc (.cells #[.pointer (some ⟨15,189,none⟩),.pointer (some ⟨w.heap.size,0,none⟩),.int .u64 150] 226)).alloc (.cells #[.int .i64 n,.iface ty va] 187))
  (by rw [World.cell?_alloc_at _ _ _ _ (by simp)];rfl)
  (by rw [World.cell?_alloc_at _ _ _ _ (by simp)];rfl)
  (by rw [World.cell?_alloc_lt _ _ ⟨B,0,none⟩ (by simp;omega),World.cell?_alloc_lt _ _ ⟨B,0,none⟩ (by simp;omega),World.cell?_alloc_lt _ _ ⟨B,0,none⟩ (by simp;omega),World.cell?_alloc_lt _ _ ⟨B,0,none⟩ htl];exact ht0)
  (by rw [World.cell?_alloc_lt _ _ ⟨B,1,none⟩ (by simp;omega),World.cell?_alloc_lt _ _ ⟨B,1,none⟩ (by simp;omega),World.cell?_alloc_lt _ _ ⟨B,1,none⟩ (by simp;omega),World.cell?_alloc_lt _ _ ⟨B,1,none⟩ htl];exact ht1)
  (by rw [World.frozen?_alloc_old _ _ ⟨B,0,none⟩ (by simp;omega),World.frozen?_alloc_old _ _ ⟨B,0,none⟩ (by simp;omega),World.frozen?_alloc_old _ _ ⟨B,0,none⟩ (by simp;omega),World.frozen?_alloc_old _ _ ⟨B,0,none⟩ (Nat.ne_of_lt htl)];exact hf0)
  (by rw [World.frozen?_alloc_old _ _ ⟨B,1,none⟩ (by simp;omega),World.frozen?_alloc_old _ _ ⟨B,1,none⟩ (by simp;omega),World.frozen?_alloc_old _ _ ⟨B,1,none⟩ (by simp;omega),World.frozen?_alloc_old _ _ ⟨B,1,none⟩ (Nat.ne_of_lt htl)];exact hf1)
 go_enter func116,ntmps116;go_wp2;refine wp_loop_rounds 1 ?_;rw [rounds_succ];go_wp2;go_ret;exact ⟨rfl,rfl⟩
theorem kC (B:Nat) (n:Int) (ty:TypeId) (va x0 y0:Value) (w:World) (hg:w.cell? ⟨6,0,none⟩=some (.iface 250 (.agg #[.pointer (some ⟨15,135,none⟩)]))) (ht0:w.cell? ⟨B,0,none⟩=some x0) (ht1:w.cell? ⟨B,1,none⟩=some y0) (hf0:w.frozen? ⟨B,0,none⟩=false) (hf1:w.frozen? ⟨B,1,none⟩=false):
 Calls prog 116 #[.iface 187 (.agg #[.int .i64 n,.iface ty va]),.iface 189 (.pointer (some ⟨B,0,none⟩))] w fun ev w'=>ev=.returned (.bool true)/\Below B w w':=by
 have htl:B<w.heap.size:=by
  rcases Nat.lt_or_ge B w.heap.size with h | h
  · exact h
  simp [World.cell?,Array.getElem?_eq_none h] at ht0
 refine (JG B n ty va x0 y0 w hg ht0 ht1 hf0 hf1).mono ?_;rintro e w' ⟨he,hw⟩;refine ⟨he,?_⟩;rw [hw];exact ((((((Below.refl B w).alloc (Nat.le_of_lt htl) _).alloc (by simp;omega) _).alloc (by simp;omega) _).alloc (by simp;omega) _).setCell (p:=⟨B,0,none⟩) (Nat.le_refl _) _).setCell (p:=⟨B,1,none⟩) (Nat.le_refl _) _
theorem wC (w:World):
 Calls prog 74 #[.nilIface] w fun e w'=>e=.returned (.bool false)/\Below w.heap.size w w':=by
 go_enter func74,ntmps74
 go_wp2_with fail
 refine (mG _ _).mono ?_;rintro e w1 ⟨rfl,rfl⟩;go_wp2;go_ret;exact ⟨rfl,(Below.refl _ _).alloc (Nat.le_refl _) _⟩
theorem zD (n:Int) (ty:TypeId) (va:Value) (w:World) (hg:w.cell? ⟨6,0,none⟩=some (.iface 250 (.agg #[.pointer (some ⟨15,135,none⟩)]))):
 Calls prog 74 #[.iface 187 (.agg #[.int .i64 n,.iface ty va])] w fun e w'=>e=.returned (.bool true)/\Below w.heap.size w w':=by
 have hlt:6<w.heap.size:=by
  rcases Nat.lt_or_ge 6 w.heap.size with h0 | h
  · exact h0
  simp [World.cell?,Array.getElem?_eq_none h] at hg
 have HG:Hid (∀ o,(w.alloc o).cell? ⟨6,0,none⟩=some (.iface 250 (.agg #[.pointer (some ⟨15,135,none⟩)]))):=fun o=>(World.cell?_alloc_lt _ _ ⟨6,0,none⟩ hlt).trans hg;go_enter func74,ntmps74
 go_wp2_with fail
 refine (kC w.heap.size n ty va (.int .i64 0) .nilIface _ (HG.out _) (by simp) (by simp) (by simp) (by simp)).mono ?_;rintro e w1 ⟨rfl,hb1⟩;have hB:=((Below.refl _ _).alloc (Nat.le_refl _) _).trans hb1;go_wp2;go_ret;exact ⟨rfl,hB⟩
end Go.Proofs.YtdpoaadafcaffaaGreatDoor.G
namespace Go.Proofs
open Go.Shelf
open Go.RowKit in
def Tryz.ek:Go.Shelf.Ren:=⟨fun | 169=>174 | n => n, fun | 70=>155 | 9=>9 | 0=>0 | 72=>157 | 37=>22 | 127=>269 | 3=>3 | 5=>5 | n => n, fun | n=>n⟩
theorem Tryz.iD:Go.Proofs.Lays.n169 Tryz.prog Tryz.ek:={
 mixed:=by kernel_rfl
 f169:=Tryz.func174.trans (congrArg some (by kernel_rfl))
 t0:=Tryz.underlying0
 a0:=Tryz.isAgg0
 z0:=Tryz.sizeOf0
 v0:=Tryz.zeroValue0
 t3:=Tryz.underlying3
 a3:=Tryz.isAgg3
 z3:=Tryz.sizeOf3
 v3:=Tryz.zeroValue3
 t9:=Tryz.underlying9
 a9:=Tryz.isAgg9
 z9:=Tryz.sizeOf9
 v9:=Tryz.zeroValue9
 t37:=Tryz.underlying22
 a37:=Tryz.isAgg22
 z37:=Tryz.sizeOf22
 v37:=Tryz.zeroValue22
 t70:=Tryz.underlying155
 a70:=Tryz.isAgg155
 z70:=Tryz.sizeOf155
 v70:=Tryz.zeroValue155
 t72:=Tryz.underlying157
 a72:=Tryz.isAgg157
 z72:=Tryz.sizeOf157
 v72:=Tryz.zeroValue157
 t127:=Tryz.underlying269
 a127:=Tryz.isAgg269
 z127:=Tryz.sizeOf269
 v127:=Tryz.zeroValue269 }
theorem Tryz.Qi:Builder.Extra Tryz.prog Tryz.ek:={
 sizeBuilder:=by kernel_rfl
 liesBuilder:=by kernel_rfl
 t5:=Tryz.underlying5
 a5:=Tryz.isAgg5
 z5:=Tryz.sizeOf5
 v5:=Tryz.zeroValue5
 infoByte:=by kernel_rfl
 cellsByte:=by kernel_rfl
 sizeByte:=by kernel_rfl
 neB5:=by decide }
open Go.RowKit in
theorem Tryz.Builder_String_any (B b:Nat) (l:List UInt8) (w:World) (h:Lib.IsBuilder 157 5 B b (Lib.byteCells l) w) (hBw:B<=w.heap.size):
 Calls Tryz.prog 174 #[.pointer (some ⟨b,0,none⟩)] w fun e w'=>e=.returned (.string ⟨l.toArray⟩)/\Below B w w':=Any.Builder_String_any Tryz.iD Tryz.Qi B b l w h hBw
def Tryz.Yq:Go.Shelf.Ren:=⟨fun | 171=>168 | 243=>186 | 246=>195 | 283=>200 | 284=>201 | 285=>202 | 286=>203 | 129=>112 | 317=>205 | 318=>206 | 319=>207 | 320=>208 | 337=>209 | 338=>210 | n => n, fun | 3=>3 | 9=>9 | 2=>2 | 4=>4 | 171=>277 | 0=>0 | 53=>183 | 37=>22 | 5=>5 | 173=>279 | 212=>282 | 51=>181 | 20=>20 | 213=>283 | 46=>133 | 232=>289 | 233=>290 | n => n, fun | 17=>10 | 18=>13 | 19=>14 | n=>n⟩
theorem Tryz.oD:Go.Proofs.Lays.n171 Tryz.prog Tryz.Yq:={
 mixed:=by kernel_rfl
 f129:=Tryz.func112.trans (congrArg some (by kernel_rfl))
 f171:=Tryz.func168.trans (congrArg some (by kernel_rfl))
 f243:=Tryz.func186.trans (congrArg some (by kernel_rfl))
 f246:=Tryz.func195.trans (congrArg some (by kernel_rfl))
 f283:=Tryz.func200.trans (congrArg some (by kernel_rfl))
 f284:=Tryz.func201.trans (congrArg some (by kernel_rfl))
 f285:=Tryz.func202.trans (congrArg some (by kernel_rfl))
 f286:=Tryz.func203.trans (congrArg some (by kernel_rfl))
 f317:=Tryz.func205.trans (congrArg some (by kernel_rfl))
 f318:=Tryz.func206.trans (congrArg some (by kernel_rfl))
 f319:=Tryz.func207.trans (congrArg some (by kernel_rfl))
 f320:=Tryz.func208.trans (congrArg some (by kernel_rfl))
 f337:=Tryz.func209.trans (congrArg some (by kernel_rfl))
 f338:=Tryz.func210.trans (congrArg some (by kernel_rfl))
 t0:=Tryz.underlying0
 a0:=Tryz.isAgg0
 z0:=Tryz.sizeOf0
 v0:=Tryz.zeroValue0
 t2:=Tryz.underlying2
 a2:=Tryz.isAgg2
 z2:=Tryz.sizeOf2
 v2:=Tryz.zeroValue2
 t3:=Tryz.underlying3
 a3:=Tryz.isAgg3
 z3:=Tryz.sizeOf3
 v3:=Tryz.zeroValue3
 t4:=Tryz.underlying4
 a4:=Tryz.isAgg4
 z4:=Tryz.sizeOf4
 v4:=Tryz.zeroValue4
 t5:=Tryz.underlying5
 a5:=Tryz.isAgg5
 z5:=Tryz.sizeOf5
 v5:=Tryz.zeroValue5
 t9:=Tryz.underlying9
 a9:=Tryz.isAgg9
 z9:=Tryz.sizeOf9
 v9:=Tryz.zeroValue9
 t20:=Tryz.underlying20
 a20:=Tryz.isAgg20
 z20:=Tryz.sizeOf20
 v20:=Tryz.zeroValue20
 t37:=Tryz.underlying22
 a37:=Tryz.isAgg22
 z37:=Tryz.sizeOf22
 v37:=Tryz.zeroValue22
 t46:=Tryz.underlying133
 a46:=Tryz.isAgg133
 z46:=Tryz.sizeOf133
 v46:=Tryz.zeroValue133
 t51:=Tryz.underlying181
 a51:=Tryz.isAgg181
 z51:=Tryz.sizeOf181
 v51:=Tryz.zeroValue181
 t53:=Tryz.underlying183
 a53:=Tryz.isAgg183
 z53:=Tryz.sizeOf183
 v53:=Tryz.zeroValue183
 t171:=Tryz.underlying277
 a171:=Tryz.isAgg277
 z171:=Tryz.sizeOf277
 v171:=Tryz.zeroValue277
 t173:=Tryz.underlying279
 a173:=Tryz.isAgg279
 z173:=Tryz.sizeOf279
 v173:=Tryz.zeroValue279
 t212:=Tryz.underlying282
 a212:=Tryz.isAgg282
 z212:=Tryz.sizeOf282
 v212:=Tryz.zeroValue282
 t213:=Tryz.underlying283
 a213:=Tryz.isAgg283
 z213:=Tryz.sizeOf283
 t232:=Tryz.underlying289
 a232:=Tryz.isAgg289
 z232:=Tryz.sizeOf289
 v232:=Tryz.zeroValue289
 t233:=Tryz.underlying290
 a233:=Tryz.isAgg290
 z233:=Tryz.sizeOf290
 v233:=Tryz.zeroValue290
 g17:=by kernel_rfl
 g18:=by kernel_rfl
 g19:=by kernel_rfl }
open Go.RowKit Go.Sort Go.Lib in
theorem Tryz.strconv_Itoa_small (i:Nat) (hi:i<100) (w:World):
 Calls Tryz.prog 168 #[.int .i64 i] w fun e w'=>e=.returned (.string ⟨(Lib.decDigits i).toArray⟩)/\w'=w:=Any.strconv_Itoa_small Tryz.oD i hi w
end Go.Proofs

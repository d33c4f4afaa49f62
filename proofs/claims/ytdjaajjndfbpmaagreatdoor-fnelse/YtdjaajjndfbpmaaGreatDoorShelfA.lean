import Derived.Test.YtdjaajjndfbpmaaGreatDoorProg
import Derived.WalkKit
import Derived.LaidEql
import Derived.Stop.Asserts
import Derived.RowKitTokens
import Derived.Shelf.Strings.Builder1
import Derived.Shelf.Strconv.Itoa3
set_option maxHeartbeats 8000000
set_option maxRecDepth 100000
namespace Go.Proofs.YtdjaajjndfbpmaaGreatDoor.G
open Proofs.Tryz
open Go.RowKit Go.Extern.Stop Go.Stop Go.Extern
theorem NK (t:Value) (w:World):
 Calls prog 94 #[.nilIface,t] w fun e w'=>e=.returned (.bool false)/\w'=w:=by
 go_enter func94,ntmps94;go_wp2;go_ret;exact ⟨rfl,rfl⟩
theorem fD (t:Addr) (w:World):(ReflectliteValue.unpack (.iface 162 (.pointer (some t)))).run prog w
 =.ok (.agg #[.pointer (some ⟨15,162,none⟩),.pointer (some ⟨w.heap.size,0,none⟩),.int .u64 150]) (w.alloc (.cells #[.pointer (some t)] 162)):=by kernel_rfl
theorem type64 (a:Addr) (w:World):(ReflectliteValue.methodAny (ReflectliteValue.valueError "reflectlite.Value.Type" 0) (fun t _ _ _=>ReflectliteType.toType t) #[.agg #[.pointer (some ⟨15,162,none⟩),.pointer (some a),.int .u64 150]]).run prog w
 =.ok (.iface 236 (.agg #[.pointer (some ⟨15,162,none⟩)])) w:=by kernel_rfl
theorem Jz (h:Value) (w:World):(Go.method 427 236 (.agg #[h]) "Kind").run prog w=.ok (229,h) w:=by kernel_rfl
theorem GL (w:World):((ReflectliteType.abiMethod fun t=>(fun a:Nat=>Value.int IntKind.u8 (a:Int)) <$> Rtype.kind t) #[.pointer (some ⟨15,162,none⟩)]).run prog w=.ok (.int .u8 22) w:=by kernel_rfl
theorem JK (w:World):((ReflectliteType.abiMethod fun t=>(fun a:Nat=>Value.int IntKind.u8 (a:Int)) <$> Rtype.kind t) #[.pointer (some ⟨15,160,none⟩)]).run prog w=.ok (.int .u8 25) w:=by kernel_rfl
theorem jE (a:Addr) (W:World):(ReflectliteValue.method (ReflectliteValue.valueError "reflectlite.Value.IsNil" 0) ReflectliteValue.isNil #[.agg #[.pointer (some ⟨15,162,none⟩),.pointer (some a),.int .u64 150]]).run prog W=(ReflectliteValue.isNil 162 a 150 22).run prog W:=by kernel_rfl
theorem zI (a:Addr) (W:World):(ReflectliteValue.method (ReflectliteValue.valueError "reflectlite.Value.Elem" 0) ReflectliteValue.elem #[.agg #[.pointer (some ⟨15,162,none⟩),.pointer (some a),.int .u64 150]]).run prog W=(ReflectliteValue.elem 162 a 150 22).run prog W:=by kernel_rfl
theorem xI (a p:Addr) (W:World) (ha:W.cell? a=some (.pointer (some p))):
 (ReflectliteValue.method (ReflectliteValue.valueError "reflectlite.Value.IsNil" 0) ReflectliteValue.isNil #[.agg #[.pointer (some ⟨15,162,none⟩),.pointer (some a),.int .u64 150]]).run prog W=.ok (.bool false) W:=by
 rw [jE];simp [ReflectliteValue.isNil,loadVar,isAgg,underlying,underlying162,ha,Result.andThen]
theorem Wz (h:Value) (w:World):(Go.method 427 236 (.agg #[h]) "Elem").run prog w=.ok (241,.agg #[h]) w:=by kernel_rfl
theorem Dn (h:Value) (w:World):(Go.method 427 236 (.agg #[h]) "Implements").run prog w=.ok (242,.agg #[h]) w:=by kernel_rfl
theorem Sk (h:Value) (w:World):(Go.method 427 236 (.agg #[h]) "AssignableTo").run prog w=.ok (239,.agg #[h]) w:=by kernel_rfl
theorem PK (w:World):(ReflectliteType.method ReflectliteType.elem #[.agg #[.pointer (some ⟨15,162,none⟩)]]).run prog w=.ok (.iface 236 (.agg #[.pointer (some ⟨15,160,none⟩)])) w:=by kernel_rfl
theorem fu (w:World):(ReflectliteType.relation "Implements" ReflectliteType.implements_ #[.agg #[.pointer (some ⟨15,160,none⟩)],.iface 236 (.agg #[.pointer (some ⟨15,113,none⟩)])]).run prog w=.ok (.bool true) w:=by kernel_rfl
theorem TG (v:Value) (w:World):(ReflectliteType.typeOf #[.iface 160 v]).run prog w=.ok (.iface 236 (.agg #[.pointer (some ⟨15,160,none⟩)])) w:=by kernel_rfl
theorem Yu (w:World):(ReflectliteType.relation "AssignableTo" ReflectliteType.assignableTo #[.agg #[.pointer (some ⟨15,160,none⟩)],.iface 236 (.agg #[.pointer (some ⟨15,160,none⟩)])]).run prog w=.ok (.bool true) w:=by kernel_rfl
theorem TC (x y:Value) (w:World):(ReflectliteValue.unpack (.iface 160 (.agg #[x,y]))).run prog w
 =.ok (.agg #[.pointer (some ⟨15,160,none⟩),.pointer (some ⟨w.heap.size,0,none⟩),.int .u64 153]) (w.alloc (.cells #[x,y] 160)):=by kernel_rfl
theorem yE (w:World):(Rtype.elem? 162).run prog w=.ok (some 160) w:=by kernel_rfl
theorem dP (p:Addr) (w:World):(ReflectliteValue.mk 160 p ReflectliteValue.flagAddr).run prog w=.ok (.agg #[.pointer (some ⟨15,160,none⟩),.pointer (some p),.int .u64 409]) w:=by kernel_rfl
theorem wI (a p:Addr) (W:World) (ha:W.cell? a=some (.pointer (some p))):
 (ReflectliteValue.method (ReflectliteValue.valueError "reflectlite.Value.Elem" 0) ReflectliteValue.elem #[.agg #[.pointer (some ⟨15,162,none⟩),.pointer (some a),.int .u64 150]]).run prog W
  =.ok (.agg #[.pointer (some ⟨15,160,none⟩),.pointer (some p),.int .u64 409]) W:=by
 rw [zI];simp [ReflectliteValue.elem,loadVar,isAgg,underlying,underlying162,ha,Result.andThen,yE,dP]
theorem aL (a b:Addr) (W:World):(ReflectliteValue.set #[.agg #[.pointer (some ⟨15,160,none⟩),.pointer (some a),.int .u64 409],.agg #[.pointer (some ⟨15,160,none⟩),.pointer (some b),.int .u64 153]]).run prog W=(do let v <- loadVar 160 b;storeVar 160 a v;pure (Value.tuple #[])).run prog W:=by kernel_rfl
theorem WM (B c:Nat) (n:Int) (ty:TypeId) (va x0 y0:Value) (W:World) (hb0:W.cell? ⟨c,0,none⟩=some (.int .i64 n)) (hb1:W.cell? ⟨c,1,none⟩=some (.iface ty va)) (ht0:W.cell? ⟨B,0,none⟩=some x0) (ht1:W.cell? ⟨B,1,none⟩=some y0) (hf0:W.frozen? ⟨B,0,none⟩=false) (hf1:W.frozen? ⟨B,1,none⟩=false):
 (ReflectliteValue.set #[.agg #[.pointer (some ⟨15,160,none⟩),.pointer (some ⟨B,0,none⟩),.int .u64 409],.agg #[.pointer (some ⟨15,160,none⟩),.pointer (some ⟨c,0,none⟩),.int .u64 153]]).run prog W
  =.ok (.tuple #[]) ((W.setCell ⟨B,0,none⟩ (.int .i64 n)).setCell ⟨B,1,none⟩ (.iface ty va)):=by
 have hs1:(W.setCell ⟨B,0,none⟩ (.int .i64 n)).cell? ⟨B,1,none⟩=some y0:=by rw [World.cell?_setCell_other _ _ _ _ (by intro e;injection e with _ e;cases e)];exact ht1
 have hf':(W.setCell ⟨B,0,none⟩ (.int .i64 n)).frozen? ⟨B,1,none⟩=false:=by simpa using hf1
 rw [aL];simp [loadVar,isAgg,underlying,underlying160,loadCells,loadCellsFrom,hb0,hb1,Result.andThen,storeVar,Value.cells,storeCells,Addr.add];rw [run_store prog W ⟨B,0,none⟩ _ _ (by rfl)];simp [ht0,hf0];rw [run_store prog _ ⟨B,1,none⟩ _ _ (by rfl)];simp [hs1,hf']
theorem UL (B:Nat) (n:Int) (ty:TypeId) (va x0 y0:Value) (w:World) (hg:w.cell? ⟨5,0,none⟩=some (.iface 236 (.agg #[.pointer (some ⟨15,113,none⟩)]))) (ht0:w.cell? ⟨B,0,none⟩=some x0) (ht1:w.cell? ⟨B,1,none⟩=some y0) (hf0:w.frozen? ⟨B,0,none⟩=false) (hf1:w.frozen? ⟨B,1,none⟩=false):
 Calls prog 94 #[.iface 160 (.agg #[.int .i64 n,.iface ty va]),.iface 162 (.pointer (some ⟨B,0,none⟩))] w fun ev w'=>ev=.returned (.bool true)/\w'=(((((w.alloc (.cells #[.pointer (some ⟨B,0,none⟩)] 162)).alloc (.cells #[.pointer (some ⟨15,162,none⟩),.pointer (some ⟨w.heap.size,0,none⟩),.int .u64 150] 203)).alloc (.cells #[.pointer (some ⟨15,162,none⟩),.pointer (some ⟨w.heap.size,0,none⟩),.int .u64 150] 203)).alloc (.cells #[.int .i64 n,.iface ty va] 160)).setCell ⟨B,0,none⟩ (.int .i64 n)).setCell ⟨B,1,none⟩ (.iface ty va):=by
 have h40:=@run_callFunc_extern prog 133 _ (fun args=>ReflectliteValue.unpack (args.getD 0 (.tuple #[]))) func133 (by kernel_rfl) (by kernel_rfl) (by kernel_rfl) (by kernel_rfl);have h41:=@run_callFunc_extern prog 134 _ (ReflectliteValue.methodAny (ReflectliteValue.valueError "reflectlite.Value.Type" 0) (fun t _ _ _=>ReflectliteType.toType t)) func134 (by kernel_rfl) (by kernel_rfl) (by kernel_rfl) (by kernel_rfl);have h42:=@run_callFunc_extern prog 135 _ (ReflectliteValue.method (ReflectliteValue.valueError "reflectlite.Value.IsNil" 0) ReflectliteValue.isNil) func135 (by kernel_rfl) (by kernel_rfl) (by kernel_rfl) (by kernel_rfl);have h84:=@run_callFunc_extern prog 229 _ (ReflectliteType.abiMethod fun t=>do pure (.int .u8 (<- Rtype.kind t))) func229 (by kernel_rfl) (by kernel_rfl) (by kernel_rfl) (by kernel_rfl);have h96:=@run_callFunc_extern prog 241 _ (ReflectliteType.method ReflectliteType.elem) func241 (by kernel_rfl) (by kernel_rfl) (by kernel_rfl) (by kernel_rfl);have h97:=@run_callFunc_extern prog 242 _ (ReflectliteType.relation "Implements" ReflectliteType.implements_) func242 (by kernel_rfl) (by kernel_rfl) (by kernel_rfl) (by kernel_rfl);have h54:=@run_callFunc_extern prog 158 _ ReflectliteType.typeOf func158 (by kernel_rfl) (by kernel_rfl) (by kernel_rfl) (by kernel_rfl);have h94:=@run_callFunc_extern prog 239 _ (ReflectliteType.relation "AssignableTo" ReflectliteType.assignableTo) func239 (by kernel_rfl) (by kernel_rfl) (by kernel_rfl) (by kernel_rfl);have h55:=@run_callFunc_extern prog 159 _ (ReflectliteValue.method (ReflectliteValue.valueError "reflectlite.Value.Elem" 0) ReflectliteValue.elem) func159 (by kernel_rfl) (by kernel_rfl) (by kernel_rfl) (by kernel_rfl);have h56:=@run_callFunc_extern prog 160 _ ReflectliteValue.set func160 (by kernel_rfl) (by kernel_rfl) (by kernel_rfl) (by kernel_rfl);have tO:=TG;have mA:=Sk;have a25:=Yu;have v25:=TC;have f6:=fD;have f7:=type64;have mK:=Jz;have mE:=Wz;have mI:=Dn;have k27:=GL;have k25:=JK;have e27:=PK;have i25:=fu;have n8:=xI ⟨w.heap.size,0,none⟩ ⟨B,0,none⟩ ((w.alloc (.cells #[.pointer (some ⟨B,0,none⟩)] 162)).alloc (.cells #[.pointer (some ⟨15,162,none⟩),.pointer (some ⟨w.heap.size,0,none⟩),.int .u64 150] 203)) (by simp);have hlt:5<w.heap.size:=by
  rcases Nat.lt_or_ge 5 w.heap.size with h0 | h
  · exact h0
  simp [World.cell?,Array.getElem?_eq_none h] at hg
 have hg2:((w.alloc (.cells #[.pointer (some ⟨B,0,none⟩)] 162)).alloc (.cells #[.pointer (some ⟨15,162,none⟩),.pointer (some ⟨w.heap.size,0,none⟩),.int .u64 150] 203)).cell? ⟨5,0,none⟩=some (.iface 236 (.agg #[.pointer (some ⟨15,113,none⟩)])):=by
  rw [World.cell?_alloc_lt _ _ ⟨5,0,none⟩ (by simp;omega),World.cell?_alloc_lt _ _ ⟨5,0,none⟩ hlt];exact hg
 have htl:B<w.heap.size:=by
  rcases Nat.lt_or_ge B w.heap.size with h | h
  · exact h
  simp [World.cell?,Array.getElem?_eq_none h] at ht0
 have el:=wI ⟨w.heap.size,0,none⟩ ⟨B,0,none⟩ (((w.alloc (.cells #[.pointer (some ⟨B,0,none⟩)] 162)).alloc (.cells #[.pointer (some ⟨15,162,none⟩),.pointer (some ⟨w.heap.size,0,none⟩),.int .u64 150] 203)).alloc (.cells #[.pointer (some ⟨15,162,none⟩),.pointer (some ⟨w.heap.size,0,none⟩),.int .u64 150] 203)) (by rw [World.cell?_alloc_lt _ _ ⟨w.heap.size,0,none⟩ (by simp;omega)];simp);have st:=WM B (w.heap.size+1+1+1) n ty va x0 y0 ((((w.alloc (.cells #[.pointer (some ⟨B,0,none⟩)] 162)).alloc (.cells #[.pointer (some ⟨15,162,none⟩),.pointer (some ⟨w.heap.size,0,none⟩),.int .u64 150] 203)).alloc (.cells #[.pointer (some ⟨15,162,none⟩),.pointer (some ⟨w.heap.size,0,none⟩),.int .u64 150] 203)).alloc (.cells #[.int .i64 n,.iface ty va] 160))
  (by rw [World.cell?_alloc_at _ _ _ _ (by simp)];rfl)
  (by rw [World.cell?_alloc_at _ _ _ _ (by simp)];rfl)
  (by rw [World.cell?_alloc_lt _ _ ⟨B,0,none⟩ (by simp;omega),World.cell?_alloc_lt _ _ ⟨B,0,none⟩ (by simp;omega),World.cell?_alloc_lt _ _ ⟨B,0,none⟩ (by simp;omega),World.cell?_alloc_lt _ _ ⟨B,0,none⟩ htl];exact ht0)
  (by rw [World.cell?_alloc_lt _ _ ⟨B,1,none⟩ (by simp;omega),World.cell?_alloc_lt _ _ ⟨B,1,none⟩ (by simp;omega),World.cell?_alloc_lt _ _ ⟨B,1,none⟩ (by simp;omega),World.cell?_alloc_lt _ _ ⟨B,1,none⟩ htl];exact ht1)
  (by rw [World.frozen?_alloc_old _ _ ⟨B,0,none⟩ (by simp;omega),World.frozen?_alloc_old _ _ ⟨B,0,none⟩ (by simp;omega),World.frozen?_alloc_old _ _ ⟨B,0,none⟩ (by simp;omega),World.frozen?_alloc_old _ _ ⟨B,0,none⟩ (Nat.ne_of_lt htl)];exact hf0)
  (by rw [World.frozen?_alloc_old _ _ ⟨B,1,none⟩ (by simp;omega),World.frozen?_alloc_old _ _ ⟨B,1,none⟩ (by simp;omega),World.frozen?_alloc_old _ _ ⟨B,1,none⟩ (by simp;omega),World.frozen?_alloc_old _ _ ⟨B,1,none⟩ (Nat.ne_of_lt htl)];exact hf1)
 go_enter func94,ntmps94;go_wp2;refine wp_loop_rounds 1 ?_;rw [rounds_succ];go_wp2;go_ret;exact ⟨rfl,rfl⟩
theorem VI (B:Nat) (n:Int) (ty:TypeId) (va x0 y0:Value) (w:World) (hg:w.cell? ⟨5,0,none⟩=some (.iface 236 (.agg #[.pointer (some ⟨15,113,none⟩)]))) (ht0:w.cell? ⟨B,0,none⟩=some x0) (ht1:w.cell? ⟨B,1,none⟩=some y0) (hf0:w.frozen? ⟨B,0,none⟩=false) (hf1:w.frozen? ⟨B,1,none⟩=false):
 Calls prog 94 #[.iface 160 (.agg #[.int .i64 n,.iface ty va]),.iface 162 (.pointer (some ⟨B,0,none⟩))] w fun ev w'=>ev=.returned (.bool true)/\Below B w w':=by
 have htl:B<w.heap.size:=by
  rcases Nat.lt_or_ge B w.heap.size with h | h
  · exact h
  simp [World.cell?,Array.getElem?_eq_none h] at ht0
 refine (UL B n ty va x0 y0 w hg ht0 ht1 hf0 hf1).mono ?_;rintro e w' ⟨he,hw⟩;refine ⟨he,?_⟩;rw [hw];exact ((((((Below.refl B w).alloc (Nat.le_of_lt htl) _).alloc (by simp;omega) _).alloc (by simp;omega) _).alloc (by simp;omega) _).setCell (p:=⟨B,0,none⟩) (Nat.le_refl _) _).setCell (p:=⟨B,1,none⟩) (Nat.le_refl _) _
theorem bI (w:World):
 Calls prog 60 #[.nilIface] w fun e w'=>e=.returned (.bool false)/\Below w.heap.size w w':=by
 go_enter func60,ntmps60
 go_wp2_with fail
 refine (NK _ _).mono ?_;rintro e w1 ⟨rfl,rfl⟩;go_wp2;go_ret;exact ⟨rfl,(Below.refl _ _).alloc (Nat.le_refl _) _⟩
theorem pI (n:Int) (ty:TypeId) (va:Value) (w:World) (hg:w.cell? ⟨5,0,none⟩=some (.iface 236 (.agg #[.pointer (some ⟨15,113,none⟩)]))):
 Calls prog 60 #[.iface 160 (.agg #[.int .i64 n,.iface ty va])] w fun e w'=>e=.returned (.bool true)/\Below w.heap.size w w':=by
 have hlt:5<w.heap.size:=by
  rcases Nat.lt_or_ge 5 w.heap.size with h0 | h
  · exact h0
  simp [World.cell?,Array.getElem?_eq_none h] at hg
 have HG:Hid (∀ o,(w.alloc o).cell? ⟨5,0,none⟩=some (.iface 236 (.agg #[.pointer (some ⟨15,113,none⟩)]))):=fun o=>(World.cell?_alloc_lt _ _ ⟨5,0,none⟩ hlt).trans hg;go_enter func60,ntmps60
 go_wp2_with fail
 refine (VI w.heap.size n ty va (.int .i64 0) .nilIface _ (HG.out _) (by simp) (by simp) (by simp) (by simp)).mono ?_;rintro e w1 ⟨rfl,hb1⟩;have hB:=((Below.refl _ _).alloc (Nat.le_refl _) _).trans hb1;go_wp2;go_ret;exact ⟨rfl,hB⟩
end Go.Proofs.YtdjaajjndfbpmaaGreatDoor.G
namespace Go.Proofs
open Go.Shelf
open Go.RowKit in
def Tryz.Po:Go.Shelf.Ren:=⟨fun | 169=>173 | n=>n,fun | 70=>221 | 9=>9 | 0=>0 | 72=>223 | 37=>22 | 127=>270 | 3=>3 | 5=>5 | n=>n,fun | n=>n⟩
theorem Tryz.fI:Go.Proofs.Lays.n169 Tryz.prog Tryz.Po:={
 mixed:=by kernel_rfl
 f169:=Tryz.func173.trans (congrArg some (by kernel_rfl))
 t0:=Tryz.underlying0
 a0:=Tryz.isAgg0
 z0:=Tryz.sizeOf0
 v0:=Tryz.zeroValue0
 t3:=Tryz.underlying3
 a3:=Tryz.isAgg3
 z3:=Tryz.sizeOf3
 v3:=Tryz.zeroValue3
 t9:=Tryz.underlying9
 a9:=Tryz.isAgg9
 z9:=Tryz.sizeOf9
 v9:=Tryz.zeroValue9
 t37:=Tryz.underlying22
 a37:=Tryz.isAgg22
 z37:=Tryz.sizeOf22
 v37:=Tryz.zeroValue22
 t70:=Tryz.underlying221
 a70:=Tryz.isAgg221
 z70:=Tryz.sizeOf221
 v70:=Tryz.zeroValue221
 t72:=Tryz.underlying223
 a72:=Tryz.isAgg223
 z72:=Tryz.sizeOf223
 v72:=Tryz.zeroValue223
 t127:=Tryz.underlying270
 a127:=Tryz.isAgg270
 z127:=Tryz.sizeOf270
 v127:=Tryz.zeroValue270 }
theorem Tryz.Sl:Builder.Extra Tryz.prog Tryz.Po:={
 sizeBuilder:=by kernel_rfl
 liesBuilder:=by kernel_rfl
 t5:=Tryz.underlying5
 a5:=Tryz.isAgg5
 z5:=Tryz.sizeOf5
 v5:=Tryz.zeroValue5
 infoByte:=by kernel_rfl
 cellsByte:=by kernel_rfl
 sizeByte:=by kernel_rfl
 neB5:=by decide }
open Go.RowKit in
theorem Tryz.Builder_String_any (B b:Nat) (l:List UInt8) (w:World) (h:Lib.IsBuilder 223 5 B b (Lib.byteCells l) w) (hBw:B<=w.heap.size):
 Calls Tryz.prog 173 #[.pointer (some ⟨b,0,none⟩)] w fun e w'=>e=.returned (.string ⟨l.toArray⟩)/\Below B w w':=Any.Builder_String_any Tryz.fI Tryz.Sl B b l w h hBw
def Tryz.yx:Go.Shelf.Ren:=⟨fun | 171=>185 | 243=>197 | 246=>203 | 283=>205 | 284=>206 | 285=>207 | 286=>208 | 129=>115 | 317=>209 | 318=>210 | 319=>211 | 320=>212 | 337=>213 | 338=>214 | n=>n,fun | 3=>3 | 9=>9 | 2=>2 | 4=>4 | 171=>283 | 0=>0 | 53=>184 | 37=>22 | 5=>5 | 173=>285 | 212=>292 | 51=>182 | 20=>20 | 213=>293 | 46=>139 | 232=>295 | 233=>296 | n=>n,fun | 17=>12 | 18=>13 | 19=>14 | n=>n⟩
theorem Tryz.LH:Go.Proofs.Lays.n171 Tryz.prog Tryz.yx:={
 mixed:=by kernel_rfl
 f129:=Tryz.func115.trans (congrArg some (by kernel_rfl))
 f171:=Tryz.func185.trans (congrArg some (by kernel_rfl))
 f243:=Tryz.func197.trans (congrArg some (by kernel_rfl))
 f246:=Tryz.func203.trans (congrArg some (by kernel_rfl))
 f283:=Tryz.func205.trans (congrArg some (by kernel_rfl))
 f284:=Tryz.func206.trans (congrArg some (by kernel_rfl))
 f285:=Tryz.func207.trans (congrArg some (by kernel_rfl))
 f286:=Tryz.func208.trans (congrArg some (by kernel_rfl))
 f317:=Tryz.func209.trans (congrArg some (by kernel_rfl))
 f318:=Tryz.func210.trans (congrArg some (by kernel_rfl))
 f319:=Tryz.func211.trans (congrArg some (by kernel_rfl))
 f320:=Tryz.func212.trans (congrArg some (by kernel_rfl))
 f337:=Tryz.func213.trans (congrArg some (by kernel_rfl))
 f338:=Tryz.func214.trans (congrArg some (by kernel_rfl))
 t0:=Tryz.underlying0
 a0:=Tryz.isAgg0
 z0:=Tryz.sizeOf0
 v0:=Tryz.zeroValue0
 t2:=Tryz.underlying2
 a2:=Tryz.isAgg2
 z2:=Tryz.sizeOf2
 v2:=Tryz.zeroValue2
 t3:=Tryz.underlying3
 a3:=Tryz.isAgg3
 z3:=Tryz.sizeOf3
 v3:=Tryz.zeroValue3
 t4:=Tryz.underlying4
 a4:=Tryz.isAgg4
 z4:=Tryz.sizeOf4
 v4:=Tryz.zeroValue4
 t5:=Tryz.underlying5
 a5:=Tryz.isAgg5
 z5:=Tryz.sizeOf5
 v5:=Tryz.zeroValue5
 t9:=Tryz.underlying9
 a9:=Tryz.isAgg9
 z9:=Tryz.sizeOf9
 v9:=Tryz.zeroValue9
 t20:=Tryz.underlying20
 a20:=Tryz.isAgg20
 z20:=Tryz.sizeOf20
 v20:=Tryz.zeroValue20
 t37:=Tryz.underlying22
 a37:=Tryz.isAgg22
 z37:=Tryz.sizeOf22
 v37:=Tryz.zeroValue22
 t46:=Tryz.underlying139
 a46:=Tryz.isAgg139
 z46:=Tryz.sizeOf139
 v46:=Tryz.zeroValue139
 t51:=Tryz.underlying182
 a51:=Tryz.isAgg182
 z51:=Tryz.sizeOf182
 v51:=Tryz.zeroValue182
 t53:=Tryz.underlying184
 a53:=Tryz.isAgg184
 z53:=Tryz.sizeOf184
 v53:=Tryz.zeroValue184
 t171:=Tryz.underlying283
 a171:=Tryz.isAgg283
 z171:=Tryz.sizeOf283
 v171:=Tryz.zeroValue283
 t173:=Tryz.underlying285
 a173:=Tryz.isAgg285
 z173:=Tryz.sizeOf285
 v173:=Tryz.zeroValue285
 t212:=Tryz.underlying292
 a212:=Tryz.isAgg292
 z212:=Tryz.sizeOf292
 v212:=Tryz.zeroValue292
 t213:=Tryz.underlying293
 a213:=Tryz.isAgg293
 z213:=Tryz.sizeOf293
 t232:=Tryz.underlying295
 a232:=Tryz.isAgg295
 z232:=Tryz.sizeOf295
 v232:=Tryz.zeroValue295
 t233:=Tryz.underlying296
 a233:=Tryz.isAgg296
 z233:=Tryz.sizeOf296
 v233:=Tryz.zeroValue296
 g17:=by kernel_rfl
 g18:=by kernel_rfl
 g19:=by kernel_rfl }
open Go.RowKit Go.Sort Go.Lib in
theorem Tryz.strconv_Itoa_small (i:Nat) (hi:i<100) (w:World):
 Calls Tryz.prog 185 #[.int .i64 i] w fun e w'=>e=.returned (.string ⟨(Lib.decDigits i).toArray⟩)/\w'=w:=Any.strconv_Itoa_small Tryz.LH i hi w
end Go.Proofs

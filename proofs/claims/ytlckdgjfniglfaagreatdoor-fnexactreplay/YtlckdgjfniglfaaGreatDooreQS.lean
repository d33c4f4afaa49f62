import Derived.Test.YtlckdgjfniglfaaGreatDoorQP3
import Derived.Shelf.Strings.Split
import Derived.Shelf.Small.Strs
set_option maxRecDepth 100000
set_option linter.unusedVariables false
namespace Go.Proofs.YtlckdgjfniglfaaGreatDoor
open Proofs.Tryz
open Go.RowKit
end Go.Proofs.YtlckdgjfniglfaaGreatDoor
namespace Go.Proofs
open Go.Shelf
def Tryz.lays137_ren:Go.Shelf.Ren:=⟨fun | 137=>152 | 217=>164 | 266=>196 | n=>n,fun | 9=>9 | 5=>5 | 3=>3 | n=>n,fun | n=>n⟩
theorem Tryz.lays137:Go.Proofs.Lays.n137 prog Tryz.lays137_ren:={
 mixed:=kr_
 f137:=func152.trans (congrArg some kr_)
 f217:=func164.trans (congrArg some kr_)
 f266:=func196.trans (congrArg some kr_)
 t3:=underlying3
 a3:=Tryz.isAgg3
 z3:=Tryz.sizeOf3
 v3:=Tryz.zeroValue3
 t5:=underlying5
 a5:=Tryz.isAgg5
 z5:=Tryz.sizeOf5
 v5:=Tryz.zeroValue5
 t9:=underlying9
 a9:=Tryz.isAgg9
 z9:=Tryz.sizeOf9
 v9:=Tryz.zeroValue9 }
theorem Tryz.strings_IndexByte (s:ByteArray) (c:Int) (w:World):
 Calls prog 152 #[.string s,.int .u8 c] w fun e w'=>e=.returned (.int .i64 (Lib.indexByte s.data.toList c.toNat.toUInt8))/\w'=w:=Any.strings_IndexByte Tryz.lays137 s c w
def Tryz.lays147_ren:Go.Shelf.Ren:=⟨fun | 147=>149 | 221=>115 | 268=>146 | 138=>147 | 143=>148 | 195=>168 | 197=>169 | 218=>170 | 219=>144 | 260=>198 | 217=>164 | 225=>165 | 224=>166 | 267=>167 | 266=>196 | 314=>197 | n=>n,fun | 9=>9 | 3=>3 | 31=>22 | 4=>4 | 0=>0 | 105=>223 | 21=>21 | 5=>5 | 46=>180 | 119=>257 | 139=>260 | 138=>259 | 146=>246 | 51=>238 | n=>n,fun | 1=>0 | 3=>1 | 4=>2 | n=>n⟩
theorem Tryz.lays147:Go.Proofs.Lays.n147 prog Tryz.lays147_ren:={
 mixed:=kr_
 f138:=func147.trans (congrArg some kr_)
 f143:=func148.trans (congrArg some kr_)
 f147:=func149.trans (congrArg some kr_)
 f195:=func168.trans (congrArg some kr_)
 f197:=func169.trans (congrArg some kr_)
 f217:=func164.trans (congrArg some kr_)
 f218:=func170.trans (congrArg some kr_)
 f219:=func144.trans (congrArg some kr_)
 f221:=func115.trans (congrArg some kr_)
 f224:=func166.trans (congrArg some kr_)
 f225:=func165.trans (congrArg some kr_)
 f260:=func198.trans (congrArg some kr_)
 f266:=func196.trans (congrArg some kr_)
 f267:=func167.trans (congrArg some kr_)
 f268:=func146.trans (congrArg some kr_)
 f314:=func197.trans (congrArg some kr_)
 t0:=underlying0
 a0:=Tryz.isAgg0
 z0:=Tryz.sizeOf0
 v0:=Tryz.zeroValue0
 t3:=underlying3
 a3:=Tryz.isAgg3
 z3:=Tryz.sizeOf3
 v3:=Tryz.zeroValue3
 t4:=underlying4
 a4:=Tryz.isAgg4
 z4:=Tryz.sizeOf4
 v4:=Tryz.zeroValue4
 t5:=underlying5
 a5:=Tryz.isAgg5
 z5:=Tryz.sizeOf5
 v5:=Tryz.zeroValue5
 t9:=underlying9
 a9:=Tryz.isAgg9
 z9:=Tryz.sizeOf9
 v9:=Tryz.zeroValue9
 t21:=underlying21
 a21:=Tryz.isAgg21
 z21:=Tryz.sizeOf21
 v21:=Tryz.zeroValue21
 t31:=underlying22
 a31:=Tryz.isAgg22
 z31:=Tryz.sizeOf22
 v31:=Tryz.zeroValue22
 t46:=underlying180
 a46:=Tryz.isAgg180
 z46:=Tryz.sizeOf180
 v46:=Tryz.zeroValue180
 t51:=underlying238
 a51:=Tryz.isAgg238
 z51:=Tryz.sizeOf238
 v51:=Tryz.zeroValue238
 t105:=underlying223
 a105:=Tryz.isAgg223
 z105:=Tryz.sizeOf223
 v105:=Tryz.zeroValue223
 t119:=underlying257
 a119:=Tryz.isAgg257
 z119:=Tryz.sizeOf257
 t138:=underlying259
 a138:=Tryz.isAgg259
 z138:=Tryz.sizeOf259
 v138:=Tryz.zeroValue259
 t139:=underlying260
 a139:=Tryz.isAgg260
 z139:=Tryz.sizeOf260
 v139:=Tryz.zeroValue260
 t146:=underlying246
 a146:=Tryz.isAgg246
 z146:=Tryz.sizeOf246
 v146:=Tryz.zeroValue246
 g1:=kr_
 g3:=kr_
 g4:=by kernel_rfl }
theorem Tryz.strings_SplitN (s sep:ByteArray) (n:Nat) (m:Int) (w:World) (hs:s.size<4294967281) (hm:w.cell? ⟨0,0,none⟩=some (.int .i64 m)) (h1:1<=sep.size) (hn:1<=n) (hn63:n<=9223372036854775807):
 Calls prog 149 #[.string s,.string sep,.int .i64 n] w fun e w'=>
  e=.returned (.slice (some ⟨w.heap.size,0,none⟩) (Lib.splitB sep 0 (min n (s.size+1) - 1) s).length (min n (s.size+1)))/\w'=w.alloc (.cells (Lib.cellsOf (Lib.splitB sep 0 (min n (s.size+1) - 1) s) (min n (s.size+1))) 9):=Any.strings_SplitN Tryz.lays147 kr_ s sep n m w hs hm h1 hn hn63
end Go.Proofs

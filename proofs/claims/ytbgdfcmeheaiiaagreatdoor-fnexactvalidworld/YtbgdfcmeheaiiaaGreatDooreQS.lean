import Derived.Test.YtbgdfcmeheaiiaaGreatDooreP2
import Derived.Shelf.Strings.Split
import Derived.Shelf.Small.Strs
set_option maxRecDepth 100000
set_option linter.unusedVariables false
set_option linter.unusedSimpArgs false
set_option maxHeartbeats 8000000
namespace Go.Proofs.YtbgdfcmeheaiiaaGreatDoor
open Proofs.Tryz Go.RowKit
theorem a1A(c:UInt8)(w:World):
 Calls prog 288 #[.int .u8 c.toNat] w λe w'=>e=.returned (.bool (M_ c))/\w'=w:=by
 go_in
 go_wp2
 all_goals go_ret
 all_goals refine⟨O9 ?_,rfl⟩
 all_goals unfold M_
 all_goals simp[*]
 all_goals first|omega|skip
 all_goals(try(simp only[bne]))
end Go.Proofs.YtbgdfcmeheaiiaaGreatDoor
namespace Go.Proofs
open Go.Shelf
def Tryz.KH:Go.Shelf.Ren:=⟨λ| 137=>327|217=>337|266=>366|n=>n, λ| 9=>9|5=>5|3=>3|n=>n, λ| n=>n⟩
theorem Tryz.lays137:Go.Proofs.Lays.n137 prog Tryz.KH:={
 mixed:=Y0
 f137:=func327.trans (U6 some Y0)
 f217:=func337.trans (U6 some Y0)
 f266:=func366.trans (U6 some Y0)
 t3:=underlying3
 a3:=Tryz.isAgg3
 z3:=Tryz.sizeOf3
 v3:=Tryz.zeroValue3
 t5:=underlying5
 a5:=Tryz.isAgg5
 z5:=Tryz.sizeOf5
 v5:=Tryz.zeroValue5
 t9:=underlying9
 a9:=Tryz.isAgg9
 z9:=Tryz.sizeOf9
 v9:=Tryz.zeroValue9 }
theorem Tryz.strings_IndexByte(s:BY)(c:Int)(w:World):
 Calls prog 327 #[.string s,.int .u8 c] w λe w'=>e=.returned (.int .i64 (Lib.indexByte s.data.toList c.toNat.toUInt8))/\w'=w:=Any.strings_IndexByte Tryz.lays137 s c w
def Tryz.lays147_ren:Go.Shelf.Ren:=⟨λ| 147=>276|221=>286|268=>325|138=>254|143=>309|195=>307|197=>341|218=>308|219=>323|260=>368|217=>337|225=>338|224=>339|267=>340|266=>366|314=>367|n=>n, λ| 9=>9|3=>3|31=>22|4=>4|0=>0|105=>466|21=>21|5=>5|46=>374|119=>499|139=>502|138=>501|146=>429|51=>428|n=>n, λ| 1=>5|3=>9|4=>10|n=>n⟩
theorem Tryz.lays147:Go.Proofs.Lays.n147 prog Tryz.lays147_ren:={
 mixed:=Y0
 f138:=func254.trans (U6 some Y0)
 f143:=func309.trans (U6 some Y0)
 f147:=func276.trans (U6 some Y0)
 f195:=func307.trans (U6 some Y0)
 f197:=func341.trans (U6 some Y0)
 f217:=func337.trans (U6 some Y0)
 f218:=func308.trans (U6 some Y0)
 f219:=func323.trans (U6 some Y0)
 f221:=func286.trans (U6 some Y0)
 f224:=func339.trans (U6 some Y0)
 f225:=func338.trans (U6 some Y0)
 f260:=func368.trans (U6 some Y0)
 f266:=func366.trans (U6 some Y0)
 f267:=func340.trans (U6 some Y0)
 f268:=func325.trans (U6 some Y0)
 f314:=func367.trans (U6 some Y0)
 t0:=underlying0
 a0:=Tryz.isAgg0
 z0:=Tryz.sizeOf0
 v0:=Tryz.zeroValue0
 t3:=underlying3
 a3:=Tryz.isAgg3
 z3:=Tryz.sizeOf3
 v3:=Tryz.zeroValue3
 t4:=underlying4
 a4:=Tryz.isAgg4
 z4:=Tryz.sizeOf4
 v4:=Tryz.zeroValue4
 t5:=underlying5
 a5:=Tryz.isAgg5
 z5:=Tryz.sizeOf5
 v5:=Tryz.zeroValue5
 t9:=underlying9
 a9:=Tryz.isAgg9
 z9:=Tryz.sizeOf9
 v9:=Tryz.zeroValue9
 t21:=underlying21
 a21:=Tryz.isAgg21
 z21:=Tryz.sizeOf21
 v21:=Tryz.zeroValue21
 t31:=underlying22
 a31:=Tryz.isAgg22
 z31:=Tryz.sizeOf22
 v31:=Tryz.zeroValue22
 t46:=underlying374
 a46:=Tryz.isAgg374
 z46:=Tryz.sizeOf374
 v46:=Tryz.zeroValue374
 t51:=underlying428
 a51:=Tryz.isAgg428
 z51:=Tryz.sizeOf428
 v51:=Tryz.zeroValue428
 t105:=underlying466
 a105:=Tryz.isAgg466
 z105:=Tryz.sizeOf466
 v105:=Tryz.zeroValue466
 t119:=underlying499
 a119:=Tryz.isAgg499
 z119:=Tryz.sizeOf499
 t138:=underlying501
 a138:=Tryz.isAgg501
 z138:=Tryz.sizeOf501
 v138:=Tryz.zeroValue501
 t139:=underlying502
 a139:=Tryz.isAgg502
 z139:=Tryz.sizeOf502
 v139:=Tryz.zeroValue502
 t146:=underlying429
 a146:=Tryz.isAgg429
 z146:=Tryz.sizeOf429
 v146:=Tryz.zeroValue429
 g1:=Y0
 g3:=Y0
 g4:=by kernel_rfl }
theorem Tryz.strings_SplitN(s a:BY)(n:Nat)(m:Int)(w:World)(b:s.size<4294967281)(hm:w.cell? ⟨5,0,none⟩=some (.int .i64 m))(h1:1<=a.size)(d:1<=n)(c:n<=9223372036854775807):
 Calls prog 276 #[.string s,.string a,.int .i64 n] w λe w'=>
  e=.returned (.slice (some ⟨w.heap.size,0,none⟩) (Lib.splitB a 0 (min n (s.size+1)-1) s).length (min n (s.size+1)))/\w'=w.alloc (.cells (Lib.cellsOf (Lib.splitB a 0 (min n (s.size+1)-1) s) (min n (s.size+1))) 9):=Any.strings_SplitN Tryz.lays147 Y0 s a n m w b hm h1 d c

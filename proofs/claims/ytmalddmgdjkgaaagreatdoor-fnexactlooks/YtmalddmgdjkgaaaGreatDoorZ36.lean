import Derived.Test.YtmalddmgdjkgaaaGreatDoorZ35
import Derived.Deep.RegionHeld3
import Derived.Laws.OwnMore
namespace Go.Proofs.YtmalddmgdjkgaaaGreatDoor.M
open Go.RowKit
end Go.Proofs.YtmalddmgdjkgaaaGreatDoor.M
namespace Go.Proofs.YtmalddmgdjkgaaaGreatDoor.M
open Go.RowKit
end Go.Proofs.YtmalddmgdjkgaaaGreatDoor.M
namespace Go.Proofs.YtmalddmgdjkgaaaGreatDoor.M
open Go.RowKit
structure D8 where
 nm:ByteArray
 made:Bool
 km:M3
 ls:List L4
 cd:Int
 tx:ByteArray
def D8.le (x:D8) (B:Nat):Prop:=x.nm.size≤B∧x.km.le B∧(x.ls.length≤B∧∀ i,(x.ls.getD i l4z).le B)∧x.tx.size≤B
def DeedAt (w:World) (b o:Nat) (x:D8):Prop:=∃ ai ci,(w.cell? ⟨b,o,none⟩=some (.string x.nm)∧w.cell? ⟨b,o+1,none⟩=some (.bool x.made)∧w.cell? ⟨b,o+2,none⟩=some (.string x.km.nm)∧w.cell? ⟨b,o+3,none⟩=some (.string x.km.tl)∧w.cell? ⟨b,o+4,none⟩=some (.string x.km.ar)∧w.cell? ⟨b,o+5,none⟩=some (.slice ai x.ls.length ci)∧w.cell? ⟨b,o+6,none⟩=some (.int .i64 x.cd)∧w.cell? ⟨b,o+7,none⟩=some (.string x.tx))∧LksAt w ai x.ls
end Go.Proofs.YtmalddmgdjkgaaaGreatDoor.M
namespace Go.Proofs.YtmalddmgdjkgaaaGreatDoor.M
open Go.RowKit
structure T6 where
 over:Bool
 cd:Int
 tx:ByteArray
 has:Bool
 nm:ByteArray
 st:Int
def T6.le (x:T6) (B:Nat):Prop:=x.tx.size≤B∧x.nm.size≤B
structure G16 where
 kd:Int
 to:Int
 fr:Int
 ep:Int
 ed:Int
 km:M3
 ls:List L4
 ct:Int
 tn:T6
def G16.le (x:G16) (B:Nat):Prop:=x.km.le B∧(x.ls.length≤B∧∀ i,(x.ls.getD i l4z).le B)∧x.tn.le B
end Go.Proofs.YtmalddmgdjkgaaaGreatDoor.M

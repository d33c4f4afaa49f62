import Derived.Test.YtmalddmgdjkgaaaGreatDoorZ02
import Derived.Test.YtmalddmgdjkgaaaGreatDoorShelfA
import Derived.Laws.Externs
import Derived.Laws.BitsAllLaws
import Derived.Deep.RegionLaw
namespace Go.Proofs.YtmalddmgdjkgaaaGreatDoor.M
open Go.RowKit
end Go.Proofs.YtmalddmgdjkgaaaGreatDoor.M
namespace Go.Proofs.YtmalddmgdjkgaaaGreatDoor.M
open Go.RowKit
theorem ret_bool {a b:Bool} (h:a=b):Ending.returned (.bool a)=.returned (.bool b):=by rw [h]
theorem take_snoc (s:ByteArray) (k:Nat) (h:k<s.size):s.data.toList.take (k+1)=s.data.toList.take k++[s[k]]:=by
 rw [List.take_succ_eq_append_getElem (by simpa using h)];rfl
end Go.Proofs.YtmalddmgdjkgaaaGreatDoor.M
namespace Go.Proofs.YtmalddmgdjkgaaaGreatDoor.M
open Go.RowKit
end Go.Proofs.YtmalddmgdjkgaaaGreatDoor.M

import Derived.Test.YtehddlceipbpeaaGreatDoorZ02
import Derived.Test.YtehddlceipbpeaaGreatDoorShelfA
import Derived.Laws.Externs
import Derived.Laws.BitsAllLaws
import Derived.Deep.RegionLaw
namespace Go.Proofs.YtehddlceipbpeaaGreatDoor.M
open Go.RowKit
end Go.Proofs.YtehddlceipbpeaaGreatDoor.M
namespace Go.Proofs.YtehddlceipbpeaaGreatDoor.M
open Go.RowKit
theorem ret_bool {a b : Bool} (h : a = b) : Ending.returned (.bool a) = .returned (.bool b) := by rw [h]
theorem take_snoc (s : ByteArray) (k : Nat) (h : k < s.size) : s.data.toList.take (k + 1) = s.data.toList.take k ++ [s[k]] := by
 rw [List.take_succ_eq_append_getElem (by simpa using h)]; rfl
end Go.Proofs.YtehddlceipbpeaaGreatDoor.M
namespace Go.Proofs.YtehddlceipbpeaaGreatDoor.M
open Go.RowKit
end Go.Proofs.YtehddlceipbpeaaGreatDoor.M

import Derived.Test.YtdgneicbmalnpaaGreatDooreP4
set_option maxRecDepth 99999
set_option linter.all false
namespace Go.Proofs.YtdgneicbmalnpaaGreatDoor
open Proofs.Tryz Go.RowKit
theorem NM(s:BY)(w:World)(hs:s.size<=1048700):
 Calls prog 201 #[.string s] w λe w'=>e=.returned (.string (U3 (Z5 s.data.toList)))/\Bw w w':=c201 s w hs

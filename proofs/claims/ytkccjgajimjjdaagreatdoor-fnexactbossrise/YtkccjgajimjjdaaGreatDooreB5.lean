import Derived.Test.YtkccjgajimjjdaaGreatDooreP4
set_option maxRecDepth 100000
set_option linter.unusedVariables false
namespace Go.Proofs.YtkccjgajimjjdaaGreatDoor
open Proofs.Tryz Go.RowKit
theorem IV(s:BY)(w:World)(a:s.size<=1048700):
 Calls prog 75 #[.string s] w λe w'=>e=.returned (.string (I4 (J6 s.data.toList)))/\Bw w w':=c75 s w a

import Derived.Test.YtejlfpolnddfdaaDoorP1
namespace Go.Proofs.YtejlfpolnddfdaaDoor
open Go.RowKit
def lookW (h : Bool) : ByteArray := if h then ⟨#[104, 97, 115]⟩ else ⟨#[97, 115, 107]⟩
end Go.Proofs.YtejlfpolnddfdaaDoor

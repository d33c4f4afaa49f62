import Derived.Test.YtejlfpolnddfdaaDoorJ5
import Derived.Laws.OwnMore
namespace Go.Proofs.YtejlfpolnddfdaaDoor
open Go.RowKit

theorem info43 : (Tryd.prog.info? 43).map (fun i => (i.zero, i.size, i.bytes)) = some (some (.agg #[Value.bool false, .string ⟨#[]⟩, .int .i64 0, .string ⟨#[]⟩]), 4, 48) := by kernel_rfl
theorem madeL (n j : Nat) (h : j < n * 4) : (madeCells #[Value.bool false, .string ⟨#[]⟩, .int .i64 0, .string ⟨#[]⟩] (n * 4))[j]? = (#[Value.bool false, .string ⟨#[]⟩, .int .i64 0, .string ⟨#[]⟩] : Array Value)[j % 4]? := by
  have h3 : j % 4 < 4 := Nat.mod_lt _ (by omega)
  rw [Array.getElem?_eq_getElem (by simpa [size_madeCells] using h), Array.getElem?_eq_getElem (by simpa using h3)]
  simp [madeCells, h3]
end Go.Proofs.YtejlfpolnddfdaaDoor

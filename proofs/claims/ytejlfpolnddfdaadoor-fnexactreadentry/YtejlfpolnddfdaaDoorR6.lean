import Derived.Test.YtejlfpolnddfdaaDoorR4
import Derived.Test.YtejlfpolnddfdaaDoorQF
namespace Go.Proofs.YtejlfpolnddfdaaDoor
open Go.RowKit
theorem own_under {w w' : World} {B e size n : Nat} {v : Value} {xs : List Value} (h : w.ownsRow B e size v n xs) (hb : Below w.heap.size w w') : w'.ownsRow B e size v n xs := by
  refine ⟨h.1, ?_⟩
  rcases h.2 with h0 | ⟨g, cap, cur, hv, hg, hh, r⟩
  · exact .inl h0
  · refine .inr ⟨g, cap, cur, hv, hg, ?_, r⟩
    rw [hb.block g (h.lt g (by rw [hv]; rfl)).2]; exact hh
theorem own_cap {w : World} {B e size n m g cp : Nat} {xs : List Value} (h : w.ownsRow B e size (.slice (some ⟨g, 0, none⟩) m cp) n xs) : n ≤ cp := by
  rcases h.2 with ⟨h0, _⟩ | ⟨g', cap, cur, hv, _, _, hc, _⟩
  · cases h0
  · cases hv; exact hc
theorem info3 : (Tryd.prog.info? 3).map (fun i => (i.zero, i.size, i.bytes)) = some (some (.int .i64 0), 1, 8) := by kernel_rfl
/-- Strings lie from a place on. -/
def LinesIn (w : World) (g o : Nat) (ss : List (List UInt8)) : Prop := g < w.heap.size ∧ ∀ i, i < ss.length → w.cell? ⟨g, o + i, none⟩ = some (.string (ofL (ss.getD i [])))
theorem linesIn_below {w w' : World} {g o : Nat} {ss : List (List UInt8)} (h : LinesIn w g o ss) (hb : Below w.heap.size w w') : LinesIn w' g o ss :=
  ⟨Nat.lt_of_lt_of_le h.1 hb.size, fun i hi => by rw [hb.cell (by exact h.1)]; exact h.2 i hi⟩
def intL (ns : List Int) : List Value := ns.map fun n => .int .i64 n
theorem intL_snoc (ns : List Int) (n : Int) : intL (ns ++ [n]) = intL ns ++ [.int .i64 n] := by simp [intL]
/-- Numbers read. -/
def numsL (ss : List (List UInt8)) : List Int := ss.map (rnM 1000)
theorem nums_take (ss : List (List UInt8)) (k : Nat) (h : k < ss.length) : numsL (ss.take (k + 1)) = numsL (ss.take k) ++ [rnM 1000 (ss.getD k [])] := by
  unfold numsL
  rw [List.take_succ_eq_append_getElem h, List.map_append]
  have e : ss.getD k [] = ss[k] := by simp [h]
  rw [e]; rfl
def Is103 (w w' : World) (ss : List (List UInt8)) (e : Ending) : Prop := (e = .returned (.tuple #[.slice none 0 0, .bool false]) ∧ ss.all (numM 1000) = false) ∨ (ss.all (numM 1000) = true ∧ ∃ g cp, e = .returned (.tuple #[.slice (some ⟨g, 0, none⟩) ss.length cp, .bool true]) ∧ w.heap.size ≤ g ∧ g < w'.heap.size ∧ ∀ i, i < ss.length → w'.cell? ⟨g, i, none⟩ = some (.int .i64 (rnM 1000 (ss.getD i []))))
theorem nums_no {ss : List (List UInt8)} {k : Nat} (h : k < ss.length) (hn : numM 1000 (ss.getD k []) = false) : ss.all (numM 1000) = false := by
  rw [List.all_eq_false]
  refine ⟨ss[k], List.getElem_mem h, ?_⟩
  have e : ss.getD k [] = ss[k] := by simp [h]
  rw [← e, hn]; decide
theorem nums_all {ss : List (List UInt8)} {k : Nat} (h : k < ss.length) (ha : (ss.take k).all (numM 1000) = true) (hn : numM 1000 (ss.getD k []) = true) : (ss.take (k + 1)).all (numM 1000) = true := by
  rw [List.take_succ_eq_append_getElem h, List.all_append, ha]
  have e : ss.getD k [] = ss[k] := by simp [h]
  rw [← e]
  simp only [List.all_cons, List.all_nil, hn, Bool.and_self]
end Go.Proofs.YtejlfpolnddfdaaDoor

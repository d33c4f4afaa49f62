import Derived.Test.YtejlfpolnddfdaaDoorR1
namespace Go.Proofs.YtejlfpolnddfdaaDoor
open Go.RowKit
theorem rz2 {w u : World} (hb : Below (w.heap.size + 1) (w.alloc (.cells #[.int .i64 0, .string ⟨#[]⟩] 28)) u) :
    (u.cell? ⟨w.heap.size, 0, none⟩ = some (.int .i64 0) ∧ u.cell? ⟨w.heap.size, 1, none⟩ = some (.string ⟨#[]⟩)) ∧ u.frozen? ⟨w.heap.size, 0, none⟩ = false ∧ u.frozen? ⟨w.heap.size, 1, none⟩ = false := by
  have c : ∀ j, u.cell? ⟨w.heap.size, j, none⟩ = (w.alloc (.cells #[.int .i64 0, .string ⟨#[]⟩] 28)).cell? ⟨w.heap.size, j, none⟩ := fun j => hb.cell (by simp)
  have f : ∀ j, u.frozen? ⟨w.heap.size, j, none⟩ = (w.alloc (.cells #[.int .i64 0, .string ⟨#[]⟩] 28)).frozen? ⟨w.heap.size, j, none⟩ := fun j => hb.frozen (by simp)
  rw [c, c, f, f]
  simp
theorem set2_at (u : World) (B j : Nat) (v0 v1 x0 x1 : Value) (h0 : u.cell? ⟨B, j, none⟩ = some x0) (h1 : u.cell? ⟨B, j + 1, none⟩ = some x1) :
    ((u.setCell ⟨B, j, none⟩ v0).setCell ⟨B, j + 1, none⟩ v1).cell? ⟨B, j, none⟩ = some v0 ∧ ((u.setCell ⟨B, j, none⟩ v0).setCell ⟨B, j + 1, none⟩ v1).cell? ⟨B, j + 1, none⟩ = some v1 := by
  have a1 : (u.setCell ⟨B, j, none⟩ v0).cell? ⟨B, j + 1, none⟩ = some x1 := by rw [World.cell?_setCell_other _ _ _ _ (adr_ne (by omega))]; exact h1
  refine ⟨?_, World.cell?_setCell_same _ _ _ a1⟩
  rw [World.cell?_setCell_other _ _ _ _ (adr_ne (by omega))]; exact World.cell?_setCell_same _ _ _ h0
/-- A result read: what it is. -/
def Is128 (l : List UInt8) (e : Ending) : Prop := ∃ (c : Int) (t : ByteArray) (ok : Bool), e = .returned (.tuple #[.agg #[.int .i64 c, .string t], .bool ok]) ∧ RdRes l c t ok ∧ t.size ≤ 1048576
set_option maxHeartbeats 2000000 in
set_option maxRecDepth 100000 in
theorem c53 (l : List UInt8) (w : World) (hs : l.length ≤ 16000) (hmx : MaxAt w) :
    Calls Tryd.prog 53 #[.string (ofL l)] w fun e w' => Is128 l e ∧ Below w.heap.size w w' := by
  have hB0 : Below w.heap.size w (w.alloc (.cells #[.int .i64 0, .string ⟨#[]⟩] 28)) := (Below.refl _ _).alloc (Nat.le_refl _) _
  have hr := rest_small l
  go_enter Tryd.func53, Tryd.ntmps53
  go_wp2_with fail
  refine (c43w l _ (by omega) (max_below hmx hB0)).mono ?_
  rintro e w1 ⟨⟨y, rfl⟩, hb1⟩
  have hx1 : Below (w.heap.size + 1) (w.alloc (.cells #[.int .i64 0, .string ⟨#[]⟩] 28)) w1 := by simpa using hb1
  clear hb1
  go_wp2_with fail
  refine (c45m 7 (ofL (wordOf l)) _ (by rw [ofL_size]; omega) (by omega) (by omega)).mono ?_
  rintro e w2 ⟨rfl, rfl⟩
  go_wp2_with fail
  refine (c46' (restOf l) _ (by omega)).mono ?_
  rintro e w3 ⟨⟨t, ok, rfl, hu⟩, hb3⟩
  have hx3 := hx1.trans (hb3.mono (by have h := hx1.size; simp at h; omega))
  have hB3 : Below w.heap.size w w3 := hB0.trans (hx3.mono (by omega))
  rw [ofL_list]
  have hno : (numM 7 (wordOf l) = false ∨ ok = false) → Hid (Is128 l (.returned (.tuple #[.agg #[.int .i64 0, .string ⟨#[]⟩], .bool false]))) := fun h => ⟨0, ⟨#[]⟩, false, rfl, rdRes_no hu h _ _, by decide⟩
  have hyes : numM 7 (wordOf l) = true → ok = true → Hid (Is128 l (.returned (.tuple #[.agg #[.int .i64 (rnM 7 (wordOf l)), .string (ofL t)], .bool true]))) := by
    intro h1 h2
    subst h2
    refine ⟨_, _, true, rfl, rdRes_yes hu h1, ?_⟩
    have := quote_ge t
    rw [← hu.1 rfl] at this
    rw [ofL_size]; omega
  clear hu
  obtain ⟨⟨z0, z1⟩, y0, y1⟩ := rz2 hx3
  cases hn : numM 7 (wordOf l)
  · have HI := hno (.inl hn)
    clear hno hyes
    go_wp2
    have F := set2_at w3 w.heap.size 0 (.int .i64 0) (.string ⟨#[]⟩) _ _ z0 z1
    simp only [Nat.zero_add] at F
    refine bodyPost_ret (v := .tuple #[.agg #[.int .i64 0, .string ⟨#[]⟩], .bool false]) (by simp [results, Tryd.results53, go_sem, F.1, F.2]) rfl ⟨HI.out, (hB3.setCell (by simp) _).setCell (by simp) _⟩
  · cases ok
    · have HI := hno (.inr rfl)
      clear hno hyes
      go_wp2
      have F := set2_at w3 w.heap.size 0 (.int .i64 0) (.string ⟨#[]⟩) _ _ z0 z1
      simp only [Nat.zero_add] at F
      refine bodyPost_ret (v := .tuple #[.agg #[.int .i64 0, .string ⟨#[]⟩], .bool false]) (by simp [results, Tryd.results53, go_sem, F.1, F.2]) rfl ⟨HI.out, (hB3.setCell (by simp) _).setCell (by simp) _⟩
    · have HI := hyes hn rfl
      clear hno hyes
      go_wp2
      have F := set2_at w3 w.heap.size 0 (.int .i64 (rnM 7 (wordOf l))) (.string (ofL t)) _ _ z0 z1
      simp only [Nat.zero_add] at F
      refine bodyPost_ret (v := .tuple #[.agg #[.int .i64 (rnM 7 (wordOf l)), .string (ofL t)], .bool true]) (by simp [results, Tryd.results53, go_sem, F.1, F.2]) rfl ⟨HI.out, (hB3.setCell (by simp) _).setCell (by simp) _⟩
theorem has_eq (l : List UInt8) : ((ofL (wordOf l)).toList == [104, 97, 115]) = hasW l := by
  rw [ByteArray.toList_eq, ofL_list]
  unfold hasW
  by_cases h : wordOf l = [104, 97, 115]
  · rw [h]; rfl
  · rw [decide_eq_false h]; exact beq_eq_false_iff_ne.2 h
theorem ask_eq (l : List UInt8) : ((ofL (wordOf l)).toList == [97, 115, 107]) = decide (wordOf l = [97, 115, 107]) := by
  rw [ByteArray.toList_eq, ofL_list]
  by_cases h : wordOf l = [97, 115, 107]
  · rw [h]; rfl
  · rw [decide_eq_false h]; exact beq_eq_false_iff_ne.2 h
set_option maxHeartbeats 2000000 in
theorem c76 (l : List UInt8) (w : World) :
    Calls Tryd.prog 76 #[.string (ofL (wordOf l))] w fun e w' => e = .returned (.tuple #[.bool (hasW l), .bool (isW l)]) ∧ Below w.heap.size w w' := by
  have h1 := has_eq l
  have h2 := ask_eq l
  have hI : isW l = (hasW l || decide (wordOf l = [97, 115, 107])) := rfl
  generalize decide (wordOf l = [97, 115, 107]) = a at *
  generalize hasW l = h at *
  generalize isW l = i at *
  generalize ofL (wordOf l) = s at *
  subst hI
  go_enter Tryd.func76, Tryd.ntmps76
  cases h <;> cases a
  all_goals
    go_wp2
    try go_region
  all_goals try go_wp2
  all_goals go_ret2
  all_goals
    refine ⟨by first | rfl | simp [h1, h2], ?_⟩
    first | exact Below.refl _ _ | exact (Below.refl _ _).drew | exact (Below.refl _ _).drew.drew
end Go.Proofs.YtejlfpolnddfdaaDoor

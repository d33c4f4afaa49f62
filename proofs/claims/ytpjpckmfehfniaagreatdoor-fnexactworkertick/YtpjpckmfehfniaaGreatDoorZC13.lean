import Derived.Test.YtpjpckmfehfniaaGreatDoorZC11
namespace Go.Proofs.YtpjpckmfehfniaaGreatDoor
open Go.RowKit
theorem all_snocR {rs : List R2} {k : Nat} (h : k < rs.length) (ha : okR (rs.take k) = true) (hx : vr (rs.getD k r2z).code (rs.getD k r2z).tx.data.toList = true) : okR (rs.take (k + 1)) = true := by
 have e : rs.getD k r2z = rs[k] := by simp [h]
 rw [e] at hx
 unfold okR at ha ⊢
 rw [List.take_succ_eq_append_getElem h, List.all_append, ha]
 simp [hx]
theorem all_notR {rs : List R2} {k : Nat} (h : k < rs.length) (hx : vr (rs.getD k r2z).code (rs.getD k r2z).tx.data.toList = false) : okR rs = false := by
 have e : rs.getD k r2z = rs[k] := by simp [h]
 rw [e] at hx
 unfold okR
 rw [List.all_eq_false]
 exact ⟨rs[k], List.getElem_mem h, by simp [hx]⟩
theorem next_no {T : List I3} {arg : ByteArray} {reps : List R2} (h : okT T = false ∨ 300 < arg.size ∨ 14 < reps.length ∨ okR reps = false) : nextT T arg reps = zeroT := by
 unfold nextT
 rw [if_neg]
 rintro ⟨h1, h2, h3, h4⟩
 rcases h with h | h | h | h
 · rw [h] at h1; cases h1
 · omega
 · omega
 · rw [h] at h4; cases h4
theorem next_yes {T : List I3} {arg : ByteArray} {reps : List R2} (h1 : okT T = true) (h2 : arg.size ≤ 300) (h3 : reps.length ≤ 14) (h4 : okR reps = true) : nextT T arg reps = fin T arg reps := by
 unfold nextT
 rw [if_pos ⟨h1, h2, h3, h4⟩]
set_option maxHeartbeats 400000 in
theorem c36 (c : Int) (t : ByteArray) (k : Int) (w : World) :
 Calls Tryz.prog 36 #[.int .i64 c, .string t, .int .i64 k] w fun e w' => e = .returned (overT c t k).v ∧ Below w.heap.size w w' := by
 go_enter Tryz.func36, Tryz.ntmps36
 go_wp2
 refine bodyPost_ret (v := (overT c t k).v) (by simp [results, Tryz.results36, go_sem, overT, TN.v]) rfl ⟨rfl, (Below.refl _ _).alloc (Nat.le_refl _) _⟩
theorem c79' (s : ByteArray) (w : World) (hs : s.size ≤ 1048700) :
 Calls Tryz.prog 79 #[.string s, .int .u8 10] w fun e w' => (∃ g cp, e = .returned (.slice (some ⟨g, 0, none⟩) (cutS 10 s.data.toList).length cp) ∧ w.heap.size ≤ g ∧ LinesAt w' g (cutS 10 s.data.toList)) ∧ Below w.heap.size w w' := c79 s 10 w hs
set_option maxHeartbeats 400000 in
theorem c78 (s : ByteArray) (n : Int) (w : World) (hs : s.size ≤ 1048700) (h0 : 0 ≤ n) :
 Calls Tryz.prog 78 #[.string s, .int .i64 n] w fun e w' => e = .returned (.string (lineAt s n)) ∧ Below w.heap.size w w' := by
 obtain ⟨m, rfl⟩ := Int.eq_ofNat_of_zero_le h0
 obtain ⟨hc1, hc2⟩ := cut_len 10 s.data.toList
 have hlen : s.data.toList.length = s.size := by simp
 have hlen2 : (cutS 10 s.data.toList).length ≤ 1048701 := by omega
 go_enter Tryz.func78, Tryz.ntmps78
 go_wp2_with fail
 refine (c79' s _ hs).mono ?_
 rintro e w1 ⟨⟨g, cp, rfl, hg, hln⟩, hb1⟩
 have HL : Hid (LinesAt w1 g (cutS 10 s.data.toList)) := hln
 have HT : Hid (lineAt s (m : Int) = if (m : Int) < ((cutS 10 s.data.toList).length : Int) then ofL ((cutS 10 s.data.toList).getD m []) else ⟨#[]⟩) := rfl
 clear hln hlen hc2
 generalize cutS 10 s.data.toList = L at *
 by_cases hlt : (m : Int) < (L.length : Int)
 · have l0 := HL.out.2 m (by omega)
   have HT' : Hid (lineAt s (m : Int) = ofL (L.getD m [])) := by rw [HT.out, if_pos hlt]; rfl
   clear HT
   go_wp2
   go_ret
   exact ⟨by rw [HT'.out]; rfl, hb1⟩
 · have HT' : Hid (lineAt s (m : Int) = ⟨#[]⟩) := by rw [HT.out, if_neg hlt]; rfl
   clear HT
   go_wp2
   go_ret
   exact ⟨by rw [HT'.out]; rfl, hb1⟩
end Go.Proofs.YtpjpckmfehfniaaGreatDoor
namespace Go.Proofs.YtpjpckmfehfniaaGreatDoor
open Go.RowKit
def z6 : Array Value := #[.bool false, .int .i64 0, .string ⟨#[]⟩, .bool false, .string ⟨#[]⟩, .int .i64 0]
def W0 (a : Option Addr) (n cap : Nat) (w : World) : World := (w.alloc (.cells #[.slice a n cap] 74)).alloc (.cells z6 30)
theorem W0_below (a : Option Addr) (n cap : Nat) (w : World) : Below w.heap.size w (W0 a n cap w) := ((Below.refl _ _).alloc (Nat.le_refl _) _).alloc (by simp) _
theorem W0_size (a : Option Addr) (n cap : Nat) (w : World) : (W0 a n cap w).heap.size = w.heap.size + 2 := by simp [W0]
theorem W0_cells {a : Option Addr} {n cap : Nat} {w u : World} (h : Below (w.heap.size + 2) (W0 a n cap w) u) :
 (u.cell? ⟨w.heap.size, 0, none⟩ = some (.slice a n cap) ∧ u.cell? ⟨w.heap.size + 1, 0, none⟩ = some (.bool false) ∧ u.cell? ⟨w.heap.size + 1, 1, none⟩ = some (.int .i64 0) ∧ u.cell? ⟨w.heap.size + 1, 2, none⟩ = some (.string ⟨#[]⟩) ∧ u.cell? ⟨w.heap.size + 1, 3, none⟩ = some (.bool false) ∧ u.cell? ⟨w.heap.size + 1, 4, none⟩ = some (.string ⟨#[]⟩) ∧ u.cell? ⟨w.heap.size + 1, 5, none⟩ = some (.int .i64 0)) ∧ ∀ j, u.frozen? ⟨w.heap.size + 1, j, none⟩ = false := by
 have e : ∀ b j, b < w.heap.size + 2 → u.cell? ⟨b, j, none⟩ = (W0 a n cap w).cell? ⟨b, j, none⟩ := fun b j hb => h.cell (by simpa using hb)
 have f : ∀ j, u.frozen? ⟨w.heap.size + 1, j, none⟩ = (W0 a n cap w).frozen? ⟨w.heap.size + 1, j, none⟩ := fun j => h.frozen (by simp)
 refine ⟨?_, fun j => ?_⟩
 · rw [e _ _ (by omega), e _ _ (by omega), e _ _ (by omega), e _ _ (by omega), e _ _ (by omega), e _ _ (by omega), e _ _ (by omega)]
   simp [W0, z6]
 · rw [f]; simp [W0, z6]
theorem z6_heap {a : Option Addr} {n cap : Nat} {w u : World} (h : Below (w.heap.size + 2) (W0 a n cap w) u) : u.heap[w.heap.size + 1]? = some (.cells z6 30 (0, 0)) := by
 rw [h.block _ (by omega)]
 exact alloc_new (by simp) _
theorem set6 {u : World} {B : Nat} (h : u.heap[B]? = some (.cells z6 30 (0, 0))) (v0 v1 v2 v3 v4 v5 : Value) :
 (u.setCell ⟨B, 0, none⟩ v0).cell? ⟨B, 0, none⟩ = some v0 ∧ ((u.setCell ⟨B, 0, none⟩ v0).setCell ⟨B, 1, none⟩ v1).cell? ⟨B, 1, none⟩ = some v1 ∧ (((u.setCell ⟨B, 0, none⟩ v0).setCell ⟨B, 1, none⟩ v1).setCell ⟨B, 2, none⟩ v2).cell? ⟨B, 2, none⟩ = some v2 ∧ ((((u.setCell ⟨B, 0, none⟩ v0).setCell ⟨B, 1, none⟩ v1).setCell ⟨B, 2, none⟩ v2).setCell ⟨B, 3, none⟩ v3).cell? ⟨B, 3, none⟩ = some v3 ∧ (((((u.setCell ⟨B, 0, none⟩ v0).setCell ⟨B, 1, none⟩ v1).setCell ⟨B, 2, none⟩ v2).setCell ⟨B, 3, none⟩ v3).setCell ⟨B, 4, none⟩ v4).cell? ⟨B, 4, none⟩ = some v4 ∧ ((((((u.setCell ⟨B, 0, none⟩ v0).setCell ⟨B, 1, none⟩ v1).setCell ⟨B, 2, none⟩ v2).setCell ⟨B, 3, none⟩ v3).setCell ⟨B, 4, none⟩ v4).setCell ⟨B, 5, none⟩ v5).cell? ⟨B, 5, none⟩ = some v5 := by
 have h0 := heap_setCell_same u B 0 _ 30 v0 h
 have h1 := heap_setCell_same _ B 1 _ 30 v1 h0
 have h2 := heap_setCell_same _ B 2 _ 30 v2 h1
 have h3 := heap_setCell_same _ B 3 _ 30 v3 h2
 have h4 := heap_setCell_same _ B 4 _ 30 v4 h3
 have h5 := heap_setCell_same _ B 5 _ 30 v5 h4
 exact ⟨Lib.cell_of_heap h0 0, Lib.cell_of_heap h1 1, Lib.cell_of_heap h2 2, Lib.cell_of_heap h3 3, Lib.cell_of_heap h4 4, Lib.cell_of_heap h5 5⟩
theorem set6_below {u : World} {B m : Nat} (hm : m ≤ B) (v0 v1 v2 v3 v4 v5 : Value) : Below m u ((((((u.setCell ⟨B, 0, none⟩ v0).setCell ⟨B, 1, none⟩ v1).setCell ⟨B, 2, none⟩ v2).setCell ⟨B, 3, none⟩ v3).setCell ⟨B, 4, none⟩ v4).setCell ⟨B, 5, none⟩ v5) :=
 ((((((Below.refl m u).setCell (by exact hm) _).setCell (by exact hm) _).setCell (by exact hm) _).setCell (by exact hm) _).setCell (by exact hm) _).setCell (by exact hm) _
end Go.Proofs.YtpjpckmfehfniaaGreatDoor

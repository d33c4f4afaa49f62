import Derived.Test.YtignmnbgedmfbaaDoorNQ
namespace Go.Proofs.YtignmnbgedmfbaaDoor
open Go.RowKit

theorem all_snocR {rs : List R2} {k : Nat} (h : k < rs.length) (ha : okR (rs.take k) = true) (hx : vr (rs.getD k r2z).code (rs.getD k r2z).tx.data.toList = true) : okR (rs.take (k + 1)) = true := by
  have e : rs.getD k r2z = rs[k] := by simp [h]
  rw [e] at hx
  unfold okR at ha ⊢
  rw [List.take_succ_eq_append_getElem h, List.all_append, ha]
  simp [hx]
theorem all_notR {rs : List R2} {k : Nat} (h : k < rs.length) (hx : vr (rs.getD k r2z).code (rs.getD k r2z).tx.data.toList = false) : okR rs = false := by
  have e : rs.getD k r2z = rs[k] := by simp [h]
  rw [e] at hx
  unfold okR
  rw [List.all_eq_false]
  exact ⟨rs[k], List.getElem_mem h, by simp [hx]⟩
theorem next_no {T : List I3} {arg : ByteArray} {reps : List R2} (h : okT T = false ∨ 300 < arg.size ∨ 14 < reps.length ∨ okR reps = false) : nextT T arg reps = zeroT := by
  unfold nextT
  rw [if_neg]
  rintro ⟨h1, h2, h3, h4⟩
  rcases h with h | h | h | h
  · rw [h] at h1; cases h1
  · omega
  · omega
  · rw [h] at h4; cases h4
theorem next_yes {T : List I3} {arg : ByteArray} {reps : List R2} (h1 : okT T = true) (h2 : arg.size ≤ 300) (h3 : reps.length ≤ 14) (h4 : okR reps = true) : nextT T arg reps = fin T arg reps := by
  unfold nextT
  rw [if_pos ⟨h1, h2, h3, h4⟩]

set_option maxHeartbeats 400000 in
theorem c55 (c : Int) (t : ByteArray) (k : Int) (w : World) :
    Calls Tryd.prog 55 #[.int .i64 c, .string t, .int .i64 k] w fun e w' => e = .returned (overT c t k).v ∧ Below w.heap.size w w' := by
  go_enter Tryd.func55, Tryd.ntmps55
  go_wp2
  refine bodyPost_ret (v := (overT c t k).v) (by simp [results, Tryd.results55, go_sem, overT, TN.v]) rfl ⟨rfl, (Below.refl _ _).alloc (Nat.le_refl _) _⟩
theorem c36' (s : ByteArray) (w : World) (hs : s.size ≤ 1048700) :
    Calls Tryd.prog 36 #[.string s, .int .u8 10] w fun e w' => (∃ g cp, e = .returned (.slice (some ⟨g, 0, none⟩) (cutS 10 s.data.toList).length cp) ∧ w.heap.size ≤ g ∧ LinesAt w' g (cutS 10 s.data.toList)) ∧ Below w.heap.size w w' := c36 s 10 w hs
set_option maxHeartbeats 400000 in
theorem c56 (s : ByteArray) (n : Int) (w : World) (hs : s.size ≤ 1048700) (h0 : 0 ≤ n) :
    Calls Tryd.prog 56 #[.string s, .int .i64 n] w fun e w' => e = .returned (.string (lineAt s n)) ∧ Below w.heap.size w w' := by
  obtain ⟨m, rfl⟩ := Int.eq_ofNat_of_zero_le h0
  obtain ⟨hc1, hc2⟩ := cut_len 10 s.data.toList
  have hlen : s.data.toList.length = s.size := by simp
  have hlen2 : (cutS 10 s.data.toList).length ≤ 1048701 := by omega
  go_enter Tryd.func56, Tryd.ntmps56
  go_wp2_with fail
  refine (c36' s _ hs).mono ?_
  rintro e w1 ⟨⟨g, cp, rfl, hg, hln⟩, hb1⟩
  have HL : Hid (LinesAt w1 g (cutS 10 s.data.toList)) := hln
  have HT : Hid (lineAt s (m : Int) = if (m : Int) < ((cutS 10 s.data.toList).length : Int) then ofL ((cutS 10 s.data.toList).getD m []) else ⟨#[]⟩) := rfl
  clear hln hlen hc2
  generalize cutS 10 s.data.toList = L at *
  by_cases hlt : (m : Int) < (L.length : Int)
  · have l0 := HL.out.2 m (by omega)
    have HT' : Hid (lineAt s (m : Int) = ofL (L.getD m [])) := by rw [HT.out, if_pos hlt]; rfl
    clear HT
    go_wp2
    go_ret
    exact ⟨by rw [HT'.out]; rfl, hb1⟩
  · have HT' : Hid (lineAt s (m : Int) = ⟨#[]⟩) := by rw [HT.out, if_neg hlt]; rfl
    clear HT
    go_wp2
    go_ret
    exact ⟨by rw [HT'.out]; rfl, hb1⟩
end Go.Proofs.YtignmnbgedmfbaaDoor

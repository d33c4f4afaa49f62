import Derived.Test.YtafneponofcdeaaC3
namespace Go.Proofs.Ytafneponofcdeaa
open Go.RowKit
theorem drop2 (s : ByteArray) : s.extract 2 s.size = ofL (s.data.toList.drop 2) := by
  apply ByteArray.ext
  apply Array.toList_inj.1
  simp [ofL, ByteArray.data_extract]
  exact List.take_of_length_le (by simp)

set_option maxHeartbeats 2000000 in
theorem c5 (s : ByteArray) (w : World) (hs : s.size ≤ 1048700) :
    Calls Try.prog 5 #[.string s] w fun e w' => Is56 s.data.toList e ∧ Below w.heap.size w w' := by
  have hlen : s.data.toList.length = s.size := by simp
  have hB0 : Below w.heap.size w (w.alloc (.cells #[.int .i64 0, .string ⟨#[]⟩] 23)) := (Below.refl w.heap.size w).alloc (Nat.le_refl _) _
  have hno : IsR s.data.toList 0 [] false → Hid (Is56 s.data.toList (.returned (.tuple #[.agg #[.int .i64 0, .string ⟨#[]⟩], .bool false]))) := fun h => ⟨0, [], false, rfl, h, Nat.zero_le _⟩
  by_cases h2 : s.size < 2
  · have HI := hno (isR_short (by omega))
    clear hno hlen
    go_enter Try.func5, Try.ntmps5
    go_wp2
    refine bodyPost_ret (v := .tuple #[.agg #[.int .i64 0, .string ⟨#[]⟩], .bool false]) (by simp [results, Try.results5, go_sem]) rfl ⟨HI.out, hB0⟩
  have h0 : 0 < s.size := by omega
  have hh := head_zero s h0
  by_cases hd : (s[0].toNat : Int) < 48 ∨ 57 < (s[0].toNat : Int)
  · have HI := hno (isR_nodig (by rw [hh]; exact hd))
    clear hno hlen hh
    rcases hd with hd | hd
    all_goals
      go_enter Try.func5, Try.ntmps5
      go_wp2
      refine bodyPost_ret (v := .tuple #[.agg #[.int .i64 0, .string ⟨#[]⟩], .bool false]) (by simp [results, Try.results5, go_sem]) rfl ⟨HI.out, hB0⟩
  · have hd' : 48 ≤ (s[0].toNat : Int) ∧ (s[0].toNat : Int) ≤ 57 := by omega
    have hw := byte_sub _ hd'
    have hS := isR_spec (l := s.data.toList) (x := s[0]) (c := (s[0].toNat : Int) - 48) (by omega) hh (by omega) (by omega)
    have hx := drop2 s
    clear hh hd
    have hdl : (s.data.toList.drop 2).length ≤ s.data.toList.length := by simp
    generalize hT : s.data.toList.drop 2 = T at hS hx hdl
    clear hT
    have h13 := c13 ((s[0].toNat : Int) - 48) (ofL T)
    rw [ofL_data, ofL_size] at h13
    generalize hL : s.data.toList = L at *
    generalize hC : (s[0].toNat : Int) - 48 = C at *
    obtain ⟨d1, d2⟩ := hd'
    go_enter Try.func5, Try.ntmps5
    go_wp2_with fail
    go_region
    all_goals
      go_wp2_with fail
      refine (h13 _ (by omega)).mono ?_
      rintro e w3 ⟨rfl, hb3⟩
      have hz3 : w.heap.size + 2 ≤ w3.heap.size := by have := hb3.size; simp at this; omega
      have hx3 : Below (w.heap.size + 1) (w.alloc (.cells #[.int .i64 0, .string ⟨#[]⟩] 23)) w3 := by
        refine Below.trans ?_ (hb3.mono (by simp))
        first | exact ((Below.refl _ _).alloc (by simp) _).drew | exact (Below.refl _ _).alloc (by simp) _
      have hB3 : Below w.heap.size w w3 := hB0.trans (hx3.mono (by omega))
      have r0 : w3.cell? ⟨w.heap.size + 1, 0, none⟩ = some (.int .i64 C) := by rw [hb3.cell (by simp)]; simp [go_sem]
      have r1 : w3.cell? ⟨w.heap.size + 1, 1, none⟩ = some (.string (ofL T)) := by rw [hb3.cell (by simp)]; simp [go_sem]
      obtain ⟨⟨z0, z1⟩, y0, y1⟩ := rz2 hx3
      clear hb3 h13
      by_cases hf : formR C T = L
      · have HI : Hid (Is56 L (.returned (.tuple #[.agg #[.int .i64 C, .string (ofL T)], .bool true]))) := ⟨C, T, true, rfl, hS.1 hf, hdl⟩
        have e1 : ((ofL (formR C T)).toList == s.toList) = true := by rw [hf, ByteArray.toList_eq, ByteArray.toList_eq, ofL_data, hL]; simp
        have e2 : (ofL (formR C T)).toList = s.toList := by simpa using e1
        clear hno hS hf
        go_wp2
        have F := set2_at w3 w.heap.size (.int .i64 C) (.string (ofL T)) _ _ z0 z1
        refine bodyPost_ret (v := .tuple #[.agg #[.int .i64 C, .string (ofL T)], .bool true]) (by simp [results, Try.results5, go_sem, F.1, F.2]) rfl ⟨HI.out, ?_⟩
        exact ((hB3.setCell (by simp) _).setCell (by simp) _)
      · have HI := hno (hS.2 hf)
        have e2 : ¬ (ofL (formR C T)).toList = s.toList := by rw [ByteArray.toList_eq, ByteArray.toList_eq, ofL_data, hL]; exact hf
        have e1 : ((ofL (formR C T)).toList == s.toList) = false := by simpa using e2
        clear hno hS hf
        go_wp2
        have F := set2_at w3 w.heap.size (.int .i64 0) (.string ⟨#[]⟩) _ _ z0 z1
        refine bodyPost_ret (v := .tuple #[.agg #[.int .i64 0, .string ⟨#[]⟩], .bool false]) (by simp [results, Try.results5, go_sem, F.1, F.2]) rfl ⟨HI.out, ?_⟩
        exact ((hB3.setCell (by simp) _).setCell (by simp) _)

set_option maxHeartbeats 1000000 in
theorem c7 (c : Int) (s : ByteArray) (w : World) :
    Calls Try.prog 7 #[.agg #[.int .i64 c, .string s], .agg #[.int .i64 c, .string s]] w fun e w' => e = .returned (.bool true) ∧ Below w.heap.size w w' := by
  go_enter Try.func7, Try.ntmps7
  go_wp2
  go_ret
  exact ⟨rfl, ((Below.refl _ _).alloc (Nat.le_refl _) _).alloc (by simp) _⟩
end Go.Proofs.Ytafneponofcdeaa

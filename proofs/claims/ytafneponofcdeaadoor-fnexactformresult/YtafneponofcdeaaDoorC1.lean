import Derived.Test.YtafneponofcdeaaDoorB6
namespace Go.Proofs.YtafneponofcdeaaDoor
open Go.RowKit

/-- The form of a result. -/
def formR (c : Int) (l : List UInt8) : List UInt8 := if vr c l = true then UInt8.ofNat (48 + c).toNat :: 58 :: l else []
theorem vr_code {c : Int} {l : List UInt8} (h : vr c l = true) : c = 0 ∨ c = 1 ∨ c = 2 ∨ c = 3 ∨ c = 4 ∨ c = 5 ∨ c = 7 := by
  unfold vr at h
  by_cases h1 : c = 0 ∨ c = 1
  · omega
  · rw [if_neg h1] at h
    by_cases h2 : c = 2
    · omega
    · rw [if_neg h2] at h
      by_cases h3 : c = 3
      · omega
      · rw [if_neg h3] at h
        by_cases h4 : c = 4 ∨ c = 5 ∨ c = 7
        · omega
        · rw [if_neg h4] at h; cases h

set_option maxHeartbeats 1000000 in
theorem c19 (c : Int) (w : World) (hc : c = 0 ∨ c = 1 ∨ c = 2 ∨ c = 3 ∨ c = 4 ∨ c = 5 ∨ c = 7) :
    Calls Tryd.prog 19 #[.int .i64 c] w fun e w' => e = .returned (.string (ofL [UInt8.ofNat (48 + c).toNat])) ∧ w' = w := by
  rcases hc with rfl | rfl | rfl | rfl | rfl | rfl | rfl
  all_goals
    go_enter Tryd.func19, Tryd.ntmps19
    go_wp2
    go_ret
    exact ⟨rfl, rfl⟩

set_option maxHeartbeats 1000000 in
theorem c18 (c : Int) (w : World) (hc : c = 0 ∨ c = 1 ∨ c = 2 ∨ c = 3 ∨ c = 4 ∨ c = 5 ∨ c = 7) :
    Calls Tryd.prog 18 #[.int .i64 c, .int .i64 10] w fun e w' => e = .returned (.string (ofL [UInt8.ofNat (48 + c).toNat])) ∧ w' = w := by
  have h1 : 0 ≤ c := by omega
  have h2 : c < 100 := by omega
  have H := c19 c w hc
  clear hc
  go_enter Tryd.func18, Tryd.ntmps18
  go_wp2_with (go_at_call 19; refine H.mono ?_; rintro e w' ⟨rfl, rfl⟩)
  go_ret
  exact ⟨rfl, rfl⟩

set_option maxHeartbeats 1000000 in
theorem c16 (c : Int) (w : World) (hc : c = 0 ∨ c = 1 ∨ c = 2 ∨ c = 3 ∨ c = 4 ∨ c = 5 ∨ c = 7) :
    Calls Tryd.prog 16 #[.int .i64 c] w fun e w' => e = .returned (.string (ofL [UInt8.ofNat (48 + c).toNat])) ∧ w' = w := by
  have H := c18 c w hc
  go_enter Tryd.func16, Tryd.ntmps16
  go_wp2_with (go_at_call 18; refine H.mono ?_; rintro e w' ⟨rfl, rfl⟩)
  go_ret
  exact ⟨rfl, rfl⟩

set_option maxHeartbeats 1000000 in
theorem c10 (c : Int) (w : World) (hc : c = 0 ∨ c = 1 ∨ c = 2 ∨ c = 3 ∨ c = 4 ∨ c = 5 ∨ c = 7) :
    Calls Tryd.prog 10 #[.int .i64 c] w fun e w' => e = .returned (.string (ofL [UInt8.ofNat (48 + c).toNat])) ∧ w' = w := by
  have H := c16 c w hc
  go_enter Tryd.func10, Tryd.ntmps10
  go_wp2_with (go_at_call 16; refine H.mono ?_; rintro e w' ⟨rfl, rfl⟩)
  go_ret
  exact ⟨rfl, rfl⟩

theorem form_no {c : Int} {s : ByteArray} (h : vr c s.data.toList = false) : Ending.returned (.string (⟨#[]⟩ : ByteArray)) = .returned (.string (ofL (formR c s.data.toList))) := by
  unfold formR; rw [h]; rfl
theorem form_yes {c : Int} {s : ByteArray} (h : vr c s.data.toList = true) : ofL (formR c s.data.toList) = ofL [UInt8.ofNat (48 + c).toNat] ++ ⟨#[58]⟩ ++ s := by
  unfold formR; rw [if_pos h]; apply ByteArray.ext; simp [ofL]

set_option maxHeartbeats 1000000 in
theorem c7 (c : Int) (s : ByteArray) (w : World) (hs : s.size ≤ 1048700) :
    Calls Tryd.prog 7 #[.agg #[.int .i64 c, .string s]] w fun e w' => e = .returned (.string (ofL (formR c s.data.toList))) ∧ Below w.heap.size w w' := by
  go_enter Tryd.func7, Tryd.ntmps7
  go_wp2_with fail
  refine (c9 _ _ _ hs).mono ?_
  rintro e w1 ⟨rfl, hb1⟩
  have hB1 := ((Below.refl w.heap.size w).alloc (Nat.le_refl _) (.cells #[.int .i64 c, .string s] 26)).trans (hb1.mono (by simp))
  have g10 : w1.cell? ⟨w.heap.size, 0, none⟩ = some (.int .i64 c) := by rw [hb1.cell (by simp)]; simp
  have g11 : w1.cell? ⟨w.heap.size, 1, none⟩ = some (.string s) := by rw [hb1.cell (by simp)]; simp
  cases hv : vr c s.data.toList
  · have hF := form_no hv
    go_wp2
    go_ret
    exact ⟨hF, hB1⟩
  · have hc := vr_code hv
    have hF : Hid (ofL (formR c s.data.toList) = ofL [UInt8.ofNat (48 + c).toNat] ++ ⟨#[58]⟩ ++ s) := form_yes hv
    have hz : (ofL [UInt8.ofNat (48 + c).toNat]).size = 1 := rfl
    clear hv
    go_wp2_with fail
    go_region_with (go_at_call 10; refine (c10 _ _ hc).mono ?_; rintro e w' ⟨rfl, rfl⟩)
    all_goals go_wp2
    all_goals go_ret
    all_goals exact ⟨by rw [hF.out]; rfl, by first | exact hB1 | exact hB1.drew⟩

theorem past {w : World} {p : Addr} {v : Value} (hp : p.block < w.heap.size) (h : w.cell? p = some v) (o : Obj) : (w.alloc o).cell? p = some v := by
  rw [((Below.refl w.heap.size w).alloc (Nat.le_refl _) o).cell hp]; exact h
theorem strOne (c : Int) (hc : c = 0 ∨ c = 1 ∨ c = 2 ∨ c = 3 ∨ c = 4 ∨ c = 5 ∨ c = 7) : strOfNums [IntKind.u8.wrap (IntKind.i64.wrap (48 + c))] = ofL [UInt8.ofNat (48 + c).toNat] := by
  rcases hc with rfl | rfl | rfl | rfl | rfl | rfl | rfl <;> rfl

set_option maxHeartbeats 1000000 in
theorem c5 (c : Int) (s : ByteArray) (w : World) (hs : s.size ≤ 1048700) :
    Calls Tryd.prog 5 #[.agg #[.int .i64 c, .string s]] w fun e w' => e = .returned (.string (ofL (formR c s.data.toList))) ∧ Below w.heap.size w w' := by
  go_enter Tryd.func5, Tryd.ntmps5
  go_wp2_with fail
  refine (c8 _ _ _ hs).mono ?_
  rintro e w1 ⟨rfl, hb1⟩
  have hB1 := ((Below.refl w.heap.size w).alloc (Nat.le_refl _) (.cells #[.int .i64 c, .string s] 26)).trans (hb1.mono (by simp))
  have hz1 : w.heap.size + 1 ≤ w1.heap.size := by have := hb1.size; simp at this; omega
  have g10 : w1.cell? ⟨w.heap.size, 0, none⟩ = some (.int .i64 c) := by rw [hb1.cell (by simp)]; simp
  have g11 : w1.cell? ⟨w.heap.size, 1, none⟩ = some (.string s) := by rw [hb1.cell (by simp)]; simp
  cases hv : vr c s.data.toList
  · have hF := form_no hv
    go_wp2
    go_ret
    exact ⟨hF, hB1⟩
  · have hc := vr_code hv
    have hF : Hid (ofL (formR c s.data.toList) = ofL [UInt8.ofNat (48 + c).toNat] ++ ⟨#[58]⟩ ++ s) := form_yes hv
    have hcv := conv1
    have hcd := convD
    have hz : ∀ y, (strOfNums [y]).size = 1 := fun y => strOfNums_size [y]
    clear hv
    have h0 : 0 ≤ c := by omega
    have h7 : c ≤ 7 := by omega
    have hO : Hid (strOfNums [48 + c] = ofL [UInt8.ofNat (48 + c).toNat]) := by
      rcases hc with rfl | rfl | rfl | rfl | rfl | rfl | rfl <;> rfl
    clear hc
    have g12 : ∀ o, (w1.alloc o).cell? ⟨w.heap.size, 1, none⟩ = some (.string s) := past (by simp; omega) g11
    go_wp2
    go_ret
    exact ⟨by rw [hF.out, ← hO.out]; rfl, by first | exact hB1.alloc (by omega) _ | exact (hB1.alloc (by omega) _).drew⟩
end Go.Proofs.YtafneponofcdeaaDoor

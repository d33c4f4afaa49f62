import Derived.Test.YtdcgjdgpiogdaaaGreatDoorA3
namespace Go.Proofs.YtdcgjdgpiogdaaaGreatDoor
open Go.RowKit

/-- What a sum is. -/
def sumS (s : ByteArray) (n : Int) : ByteArray := if 1 ≤ n ∧ n ≤ 8 then strOfNums (outs (hsum s.data.toList) n.toNat) else ByteArray.empty

set_option maxHeartbeats 400000 in
theorem c112 (n : Int) (w : World) :
    Calls Tryz.prog 112 #[.int .i64 n] w fun e w' => e = .returned (.bool (decide (1 ≤ n ∧ n ≤ 8))) ∧ w' = w := by
  by_cases h1 : 1 ≤ n <;> by_cases h2 : n ≤ 8
  all_goals
    go_enter Tryz.func112, Tryz.ntmps112
    go_wp2
    all_goals go_ret
    all_goals exact ⟨by simp [*], rfl⟩

theorem sl50 (u : World) (b k : Nat) (h1 : 1 ≤ k) (h2 : k ≤ 8) :
    (Instr.sliceAt 146 (.pointer (some ⟨b, 0, none⟩)) (some (.int .i64 (8 - (k : Int)))) none none).run Tryz.prog u = .ok (.slice (some ⟨b, 8 - k, none⟩) k k) u := by
  obtain rfl | rfl | rfl | rfl | rfl | rfl | rfl | rfl : k = 1 ∨ k = 2 ∨ k = 3 ∨ k = 4 ∨ k = 5 ∨ k = 6 ∨ k = 7 ∨ k = 8 := by omega
  all_goals kernel_rfl

/-- The key's cells, as a block holds them. -/
theorem cvKey (u : World) (X : Int) (k : Nat) (h2 : k ≤ 8) :
    (convert 119 9 (.slice (some ⟨u.heap.size, 8 - k, none⟩) k k)).run Tryz.prog (u.alloc (.cells #[.int .u8 (kc X k 0), .int .u8 (kc X k 1), .int .u8 (kc X k 2), .int .u8 (kc X k 3), .int .u8 (kc X k 4), .int .u8 (kc X k 5), .int .u8 (kc X k 6), .int .u8 (kc X k 7)] 146))
      = .ok (.string (strOfNums (outs X k))) (u.alloc (.cells #[.int .u8 (kc X k 0), .int .u8 (kc X k 1), .int .u8 (kc X k 2), .int .u8 (kc X k 3), .int .u8 (kc X k 4), .int .u8 (kc X k 5), .int .u8 (kc X k 6), .int .u8 (kc X k 7)] 146)) :=
  run_convert_bytes_arg _ 119 5 Tryz.underlying119 Tryz.underlying5 _ (8 - k) k k (outs X k) (outs_length X k) (fun i hi => by
    rw [← kc_outs X k i h2 hi]
    have hj : 8 - k + i < 8 := by omega
    generalize 8 - k + i = j at hj ⊢
    obtain rfl | rfl | rfl | rfl | rfl | rfl | rfl | rfl : j = 0 ∨ j = 1 ∨ j = 2 ∨ j = 3 ∨ j = 4 ∨ j = 5 ∨ j = 6 ∨ j = 7 := by omega
    all_goals simp) 9 Tryz.underlying9

set_option maxHeartbeats 400000 in
theorem c85 (s : ByteArray) (n : Int) (w : World) (hs : s.size ≤ 1048700) :
    Calls Tryz.prog 85 #[.string s, .int .i64 n] w fun e w' => e = .returned (.string (sumS s n)) ∧ Below w.heap.size w w' := by
  by_cases h : 1 ≤ n ∧ n ≤ 8
  · have hd : decide (1 ≤ n ∧ n ≤ 8) = true := by simpa using h
    have hx := hsum_range s.data.toList
    obtain ⟨k, rfl⟩ := Int.eq_ofNat_of_zero_le (show 0 ≤ n by omega)
    have hS : Hid (sumS s k = strOfNums (outs (hsum s.data.toList) k)) := by unfold sumS; rw [if_pos h]; rfl
    go_enter Tryz.func85, Tryz.ntmps85
    go_wp2_with fail
    refine (c112 _ _).mono ?_
    rintro e w' ⟨rfl, rfl⟩
    rw [hd]
    go_wp2_with fail
    refine (c113 _ _ _ (by omega) hs).mono ?_
    rintro e w' ⟨⟨X, hX, rfl⟩, hb⟩
    have HX : Hid (X = hsum s.data.toList) := hX
    clear hX
    have g1 := fun (u : World) (b : Nat) => sl50 u b k (by omega) (by omega)
    have g2 := fun (u : World) => cvKey u X k (by omega)
    go_wp2
    go_ret
    exact ⟨by rw [hS.out, ← HX.out]; rfl, hb.alloc hb.size _⟩
  · have hd : decide (1 ≤ n ∧ n ≤ 8) = false := by simpa using h
    have hS : Hid (sumS s n = ByteArray.empty) := by unfold sumS; rw [if_neg h]; rfl
    go_enter Tryz.func85, Tryz.ntmps85
    go_wp2_with fail
    refine (c112 _ _).mono ?_
    rintro e w' ⟨rfl, rfl⟩
    rw [hd]
    go_wp2
    go_ret
    exact ⟨by rw [hS.out]; rfl, Below.refl _ _⟩

end Go.Proofs.YtdcgjdgpiogdaaaGreatDoor

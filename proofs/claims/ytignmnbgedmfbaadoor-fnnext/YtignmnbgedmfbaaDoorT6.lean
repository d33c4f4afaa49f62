import Derived.Test.YtignmnbgedmfbaaDoorT3
namespace Go.Proofs.YtignmnbgedmfbaaDoor
open Go.RowKit

theorem dec_small (n : Nat) (h : n < 10) : Lib.decDigits n = [UInt8.ofNat (48 + n)] := by rw [Lib.decDigits, dif_pos h]
theorem dec_two (n : Nat) (h : ¬ n < 10) : Lib.decDigits n = Lib.decDigits (n / 10) ++ [UInt8.ofNat (48 + n % 10)] := by rw [Lib.decDigits, dif_neg h]

theorem conv1 (u : World) (y : Int) : (convert 37 9 (.slice (some ⟨u.heap.size, 0, none⟩) 1 1)).run Tryd.prog (u.alloc (.cells #[.int .u8 y] 5)) = .ok (.string (strOfNums [y])) (u.alloc (.cells #[.int .u8 y] 5)) :=
  run_convert_bytes_arg _ 37 5 Tryd.underlying37 Tryd.underlying5 _ 0 1 1 [y] rfl (fun i hi => by
    obtain rfl : i = 0 := by omega
    simp) 9 Tryd.underlying9
theorem convD (u : World) (y : Int) : (convert 37 9 (.slice (some ⟨u.heap.size, 0, none⟩) 1 1)).run Tryd.prog (u.alloc (.cells #[.int .u8 y] 5)).drew = .ok (.string (strOfNums [y])) (u.alloc (.cells #[.int .u8 y] 5)).drew :=
  run_convert_bytes_arg _ 37 5 Tryd.underlying37 Tryd.underlying5 _ 0 1 1 [y] rfl (fun i hi => by
    obtain rfl : i = 0 := by omega
    simp) 9 Tryd.underlying9
theorem convB {u w1 : World} {y : Int} (hb : Below (u.alloc (.cells #[.int .u8 y] 5)).drew.heap.size (u.alloc (.cells #[.int .u8 y] 5)).drew w1) :
    (convert 37 9 (.slice (some ⟨u.heap.size, 0, none⟩) 1 1)).run Tryd.prog w1 = .ok (.string (strOfNums [y])) w1 :=
  run_convert_bytes_arg _ 37 5 Tryd.underlying37 Tryd.underlying5 _ 0 1 1 [y] rfl (fun i hi => by
    obtain rfl : i = 0 := by omega
    rw [hb.cell (by simp)]
    simp) 9 Tryd.underlying9
def ofL (l : List UInt8) : ByteArray := ⟨l.toArray⟩
theorem ofL_size (l : List UInt8) : (ofL l).size = l.length := by simp [ofL, ByteArray.size]
theorem ofL_snoc (l : List UInt8) (x : Int) : ofL l ++ strOfNums [x] = ofL (l ++ [UInt8.ofNat x.toNat]) := by
  apply ByteArray.ext
  simp [ofL, strOfNums]

set_option maxHeartbeats 400000 in
theorem c27_one (n : Nat) (w : World) (h : n < 10) :
    Calls Tryd.prog 27 #[.int .i64 n] w fun e w' => e = .returned (.string (ofL (Lib.decDigits n))) ∧ Below w.heap.size w w' := by
  have hcv := conv1
  have HD : Hid (Lib.decDigits n = [UInt8.ofNat (48 + (n : Int)).toNat]) := by
    rw [show (48 + (n : Int)).toNat = 48 + n by omega]; exact dec_small n h
  go_enter Tryd.func27, Tryd.ntmps27
  go_wp2
  go_ret
  exact ⟨by rw [HD.out]; rfl, (Below.refl _ _).alloc (Nat.le_refl _) _⟩

theorem div_form (n : Nat) (h1 : n < 100) : IntKind.i64.wrap ((n : Int).tdiv 10) = ((n / 10 : Nat) : Int) := by
  rw [Int.tdiv_eq_ediv_of_nonneg (by omega)]
  simp [IntKind.wrap, IntKind.signed, IntKind.bits]; omega

theorem mod_form (n : Int) (h : 0 ≤ n) : IntKind.u8.wrap (IntKind.i64.wrap (48 + n.tmod 10)) = 48 + n % 10 := by
  rw [Int.tmod_eq_emod_of_nonneg h]
  simp [IntKind.wrap, IntKind.signed, IntKind.bits]; omega

set_option maxHeartbeats 400000 in
theorem c27_two (m : Nat) (n : Int) (w : World) (hm : Hid (n = (m : Int))) (h10 : 10 ≤ n) (h : n < 100) :
    Calls Tryd.prog 27 #[.int .i64 n] w fun e w' => e = .returned (.string (ofL (Lib.decDigits m))) ∧ Below w.heap.size w w' := by
  have hcv := conv1
  have hcd := convD
  have hz : ∀ y, (strOfNums [y]).size = 1 := fun y => strOfNums_size [y]
  have hm' := hm.out
  have hq : (ofL (Lib.decDigits (m / 10))).size = 1 := by rw [ofL_size, dec_small (m / 10) (by omega)]; rfl
  have H : Hid (∀ w, Calls Tryd.prog 27 #[.int .i64 (IntKind.i64.wrap (n.tdiv 10))] w fun e w' => e = .returned (.string (ofL (Lib.decDigits (m / 10)))) ∧ Below w.heap.size w w') := by
    rw [hm', div_form m (by omega)]
    exact fun w => c27_one (m / 10) w (by omega)
  have HD : Hid (Ending.returned (.string (ofL (Lib.decDigits (m / 10)) ++ strOfNums [48 + n % 10])) = .returned (.string (ofL (Lib.decDigits m)))) := by
    rw [dec_two m (by omega), ofL_snoc]
    rw [show (48 + n % 10).toNat = 48 + m % 10 by omega]
    rfl
  have HE : Hid (Ending.returned (.string (ofL (Lib.decDigits (m / 10)) ++ strOfNums [IntKind.u8.wrap (IntKind.i64.wrap (48 + n.tmod 10))])) = .returned (.string (ofL (Lib.decDigits m)))) := by
    rw [mod_form n (by omega)]; exact HD.out
  clear hm'
  go_enter Tryd.func27, Tryd.ntmps27
  go_wp2_with fail
  go_region_with (go_at_call 27; refine (H.out _).mono ?_; rintro e w1 ⟨rfl, hb1⟩; (try (have hcb := convB hb1)))
  all_goals go_wp2
  all_goals go_ret
  all_goals refine ⟨?_, ?_⟩
  all_goals first
    | exact HD.out
    | exact HE.out
    | exact (((Below.refl w.heap.size w).drew).trans hb1).alloc hb1.size _
    | exact (((Below.refl w.heap.size w).alloc (Nat.le_refl _) _).drew).trans (hb1.mono (by simp))
theorem c27 (n : Nat) (w : World) (h : n < 100) :
    Calls Tryd.prog 27 #[.int .i64 n] w fun e w' => e = .returned (.string (ofL (Lib.decDigits n))) ∧ Below w.heap.size w w' := by
  by_cases h10 : n < 10
  · exact c27_one n w h10
  · exact c27_two n n w rfl (by omega) (by omega)

set_option maxHeartbeats 400000 in
theorem c62 (n l h : Int) (w : World) :
    Calls Tryd.prog 62 #[.int .i64 n, .int .i64 l, .int .i64 h] w fun e w' => e = .returned (.bool (decide (l ≤ n ∧ n ≤ h))) ∧ w' = w := by
  by_cases h1 : l ≤ n <;> by_cases h2 : n ≤ h
  all_goals
    go_enter Tryd.func62, Tryd.ntmps62
    go_wp2
    all_goals go_ret
    all_goals exact ⟨by simp [*], rfl⟩
end Go.Proofs.YtignmnbgedmfbaaDoor

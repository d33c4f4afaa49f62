import Derived.Test.YtejlfpolnddfdaaDoorB2
namespace Go.Proofs.YtejlfpolnddfdaaDoor
open Go.RowKit

theorem div_form (n : Int) (h : 0 ≤ n) (h1 : n ≤ 100000000) : IntKind.i64.wrap (n.tdiv 10) = n / 10 := by
  rw [Int.tdiv_eq_ediv_of_nonneg h]
  simp [IntKind.wrap, IntKind.signed, IntKind.bits]; omega
theorem mod_form (n : Int) (h : 0 ≤ n) : IntKind.u8.wrap (IntKind.i64.wrap (48 + n.tmod 10)) = 48 + n % 10 := by
  rw [Int.tmod_eq_emod_of_nonneg h]
  simp [IntKind.wrap, IntKind.signed, IntKind.bits]; omega
theorem conv1 (u : World) (y : Int) : (convert 59 9 (.slice (some ⟨u.heap.size, 0, none⟩) 1 1)).run Tryd.prog (u.alloc (.cells #[.int .u8 y] 5)) = .ok (.string (strOfNums [y])) (u.alloc (.cells #[.int .u8 y] 5)) :=
  run_convert_bytes_arg _ 59 5 Tryd.underlying59 Tryd.underlying5 _ 0 1 1 [y] rfl (fun i hi => by
    obtain rfl : i = 0 := by omega
    simp) 9 Tryd.underlying9

theorem ofL_snoc (l : List UInt8) (x : Int) : ofL (l ++ [UInt8.ofNat x.toNat]) = ofL l ++ strOfNums [x] := by
  apply ByteArray.ext
  simp [ofL, strOfNums]
theorem convD (u : World) (y : Int) : (convert 59 9 (.slice (some ⟨u.heap.size, 0, none⟩) 1 1)).run Tryd.prog (u.alloc (.cells #[.int .u8 y] 5)).drew = .ok (.string (strOfNums [y])) (u.alloc (.cells #[.int .u8 y] 5)).drew :=
  run_convert_bytes_arg _ 59 5 Tryd.underlying59 Tryd.underlying5 _ 0 1 1 [y] rfl (fun i hi => by
    obtain rfl : i = 0 := by omega
    simp) 9 Tryd.underlying9
theorem convB {u w1 : World} {y : Int} (hb : Below (u.alloc (.cells #[.int .u8 y] 5)).drew.heap.size (u.alloc (.cells #[.int .u8 y] 5)).drew w1) :
    (convert 59 9 (.slice (some ⟨u.heap.size, 0, none⟩) 1 1)).run Tryd.prog w1 = .ok (.string (strOfNums [y])) w1 :=
  run_convert_bytes_arg _ 59 5 Tryd.underlying59 Tryd.underlying5 _ 0 1 1 [y] rfl (fun i hi => by
    obtain rfl : i = 0 := by omega
    rw [hb.cell (by simp)]
    simp) 9 Tryd.underlying9

set_option maxRecDepth 100000 in
set_option maxHeartbeats 4000000 in
theorem c24 (f : Nat) : ∀ (n : Int) (w : World), 0 ≤ n → n ≤ 100000000 → n.toNat < f →
    Calls Tryd.prog 24 #[.int .i64 n] w fun e w' => e = .returned (.string (ofL (dec n))) ∧ Below w.heap.size w w' := by
  induction f with
  | zero => intro n w _ _ h; omega
  | succ f ih =>
    intro n w h0 h1 hf
    have hcv := conv1
    have hcd := convD
    have hz : ∀ y, (strOfNums [y]).size = 1 := fun y => strOfNums_size [y]
    by_cases h : n < 10
    · go_enter Tryd.func24, Tryd.ntmps24
      go_wp2
      go_ret
      exact ⟨by rw [dec_lt n h]; rfl, (Below.refl _ _).alloc (Nat.le_refl _) _⟩
    · have hq : (ofL (dec (n / 10))).size ≤ 100000001 := by rw [ofL_size]; exact dec_len _ (by omega) (by omega)
      have H : Hid (∀ w, Calls Tryd.prog 24 #[.int .i64 (IntKind.i64.wrap (n.tdiv 10))] w fun e w' => e = .returned (.string (ofL (dec (n / 10)))) ∧ Below w.heap.size w w') := by
        rw [div_form n h0 h1]
        exact fun w => ih (n / 10) w (by omega) (by omega) (by omega)
      have HD : Hid (Ending.returned (.string (ofL (dec (n / 10)) ++ strOfNums [48 + n % 10])) = .returned (.string (ofL (dec n)))) := by
        rw [dec_ge n (by omega), ofL_snoc]; rfl
      clear ih
      go_enter Tryd.func24, Tryd.ntmps24
      go_wp2_with fail
      go_region_with (go_at_call 24; refine (H.out _).mono ?_; rintro e w1 ⟨rfl, hb1⟩; (try (have hcb := convB hb1)))
      all_goals go_wp2
      all_goals go_ret
      all_goals refine ⟨?_, ?_⟩
      all_goals first
        | exact HD.out
        | exact (((Below.refl w.heap.size w).drew).trans hb1).alloc hb1.size _
        | exact (((Below.refl w.heap.size w).alloc (Nat.le_refl _) _).drew).trans (hb1.mono (by simp))
end Go.Proofs.YtejlfpolnddfdaaDoor

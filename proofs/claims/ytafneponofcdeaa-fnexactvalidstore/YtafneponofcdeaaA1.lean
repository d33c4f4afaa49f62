import Derived.Test.YtafneponofcdeaaRows
import Derived.Test.YtafneponofcdeaaMath
import Derived.WalkKit
import Derived.WalkSpells
import Derived.WalkLawsBesides
namespace Go.Proofs.Ytafneponofcdeaa
open Go.RowKit

theorem ret_int {k : IntKind} {a b : Int} (h : a = b) : Ending.returned (.int k a) = .returned (.int k b) := by rw [h]

set_option maxHeartbeats 400000 in
theorem c35 (s : ByteArray) (w : World) (hs : s.size ≤ 1048700) :
    Calls Try.prog 35 #[.string s] w fun e w' => e = .returned (.int .u64 (hsum s.data.toList)) ∧ w' = w := by
  go_enter Try.func35, Try.ntmps35
  go_wp2
  go_loop [3, 4] (fun v i => ∃ k : Nat, k ≤ s.size ∧ i = .int .i64 k ∧ v = .int .u64 (hsum (s.data.toList.take k))) (fun _ i => s.size - (intOf i).toNat)
  case atStart => exact ⟨0, Nat.zero_le _, rfl, rfl⟩
  case round =>
    obtain ⟨k, hk, rfl, rfl⟩ := hrel
    have hx := hsum_range (s.data.toList.take k)
    by_cases hlt : k < s.size
    · have HS : Hid (hsum (s.data.toList.take (k + 1)) = hstep (hsum (s.data.toList.take k)) s[k]) := by rw [take_snoc s k hlt]; exact hsum_snoc _ _
      go_wp2
      go_round
      case rel => exact ⟨k + 1, by omega, by go_num, by rw [HS.out]; rfl⟩
      case measure => simp [intOf]; omega
    · go_wp2
      go_ret
      exact ⟨ret_int (by rw [List.take_of_length_le (by simp; omega)]), rfl⟩

set_option maxHeartbeats 400000 in
theorem c53 (s : ByteArray) (w : World) (hs : s.size ≤ 1048700) :
    Calls Try.prog 53 #[.string s] w fun e w' => e = .returned (.int .u64 (hsum s.data.toList)) ∧ w' = w := by
  go_enter Try.func53, Try.ntmps53
  go_wp2
  go_loop [3, 7] (fun v i => ∃ k : Nat, k ≤ s.size ∧ i = .int .i64 k ∧ v = .int .u64 (hsum (s.data.toList.take k))) (fun _ i => s.size - (intOf i).toNat)
  case atStart => exact ⟨0, Nat.zero_le _, rfl, rfl⟩
  case round =>
    obtain ⟨k, hk, rfl, rfl⟩ := hrel
    have hx := hsum_range (s.data.toList.take k)
    by_cases hlt : k < s.size
    · have HS : Hid (hsum (s.data.toList.take (k + 1)) = hstep (hsum (s.data.toList.take k)) s[k]) := by rw [take_snoc s k hlt]; exact hsum_snoc _ _
      go_wp2
      go_round
      case rel => exact ⟨k + 1, by omega, by go_num, by rw [HS.out]; rfl⟩
      case measure => simp [intOf]; omega
    · go_wp2
      go_ret
      exact ⟨ret_int (by rw [List.take_of_length_le (by simp; omega)]), rfl⟩

theorem conv1 (u : World) (y : Int) : (convert 61 9 (.slice (some ⟨u.heap.size, 0, none⟩) 1 1)).run Try.prog (u.alloc (.cells #[.int .u8 y] 5)) = .ok (.string (strOfNums [y])) (u.alloc (.cells #[.int .u8 y] 5)) :=
  run_convert_bytes_arg _ 61 5 Try.underlying61 Try.underlying5 _ 0 1 1 [y] rfl (fun i hi => by
    obtain rfl : i = 0 := by omega
    simp) 9 Try.underlying9

set_option maxHeartbeats 400000 in
theorem c34 (v : Int) (n : Nat) (w : World) (hv0 : 0 ≤ v) (hv1 : v ≤ 18446744073709551615) (hn : n ≤ 8) :
    Calls Try.prog 34 #[.int .u64 v, .int .i64 n] w fun e w' => e = .returned (.string (strOfNums (outs v n))) ∧ Below w.heap.size w w' := by
  have hcv := conv1
  have hz : ∀ y, (strOfNums [y]).size = 1 := fun y => strOfNums_size [y]
  go_enter Try.func34, Try.ntmps34
  go_wp2
  go_loopw [0, 5, 6] (fun a o i wr => ∃ k : Nat, k ≤ n ∧ i = .int .i64 k ∧ a = .int .u64 (vAt v k) ∧ o = .string (strOfNums (outs v k)) ∧ Below w.heap.size w wr) (fun _ _ i _ => n - (intOf i).toNat)
  case atStart => exact ⟨0, Nat.zero_le _, rfl, rfl, rfl, Below.refl _ _⟩
  case round =>
    obtain ⟨k, hk, rfl, rfl, rfl, hb⟩ := hrel
    have hx := vAt_range v hv0 hv1 k
    have hq : (strOfNums (outs v k)).size = k := by rw [strOfNums_size, outs_length]
    by_cases hlt : k < n
    · go_wp2
      go_roundw
      case rel => exact ⟨k + 1, by omega, by go_num, rfl, by rw [str_cons]; rfl, hb.alloc hb.size _⟩
      case measure => simp [intOf]; omega
    · go_wp2
      go_ret
      obtain rfl : k = n := by omega
      exact ⟨rfl, hb⟩
end Go.Proofs.Ytafneponofcdeaa

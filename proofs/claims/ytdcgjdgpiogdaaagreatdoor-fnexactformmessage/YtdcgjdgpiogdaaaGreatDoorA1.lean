import Derived.Test.YtdcgjdgpiogdaaaGreatDoorRows
import Derived.Test.YtdcgjdgpiogdaaaGreatDoorMath
import Derived.Test.YtdcgjdgpiogdaaaGreatDoorB4
import Derived.WalkKit
import Derived.WalkSpells
import Derived.WalkLawsBesides
namespace Go.Proofs.YtdcgjdgpiogdaaaGreatDoor
open Go.RowKit

set_option maxHeartbeats 400000 in
theorem c73 (s : ByteArray) (w : World) (hs : s.size ≤ 1048700) :
    Calls Tryz.prog 73 #[.string s] w fun e w' => e = .returned (.int .u64 (hsum s.data.toList)) ∧ w' = w := by
  go_enter Tryz.func73, Tryz.ntmps73
  go_wp2
  go_loop [3, 4] (fun v i => ∃ k : Nat, k ≤ s.size ∧ i = .int .i64 k ∧ v = .int .u64 (hsum (s.data.toList.take k))) (fun _ i => s.size - (intOf i).toNat)
  case atStart => exact ⟨0, Nat.zero_le _, rfl, rfl⟩
  case round =>
    obtain ⟨k, hk, rfl, rfl⟩ := hrel
    have hx := hsum_range (s.data.toList.take k)
    by_cases hlt : k < s.size
    · have HS : Hid (hsum (s.data.toList.take (k + 1)) = hstep (hsum (s.data.toList.take k)) s[k]) := by rw [take_snoc s k hlt]; exact hsum_snoc _ _
      go_wp2
      go_round
      case rel => exact ⟨k + 1, by omega, by go_num, by rw [HS.out]; rfl⟩
      case measure => simp [intOf]; omega
    · go_wp2
      go_ret
      exact ⟨ret_int (by rw [List.take_of_length_le (by simp; omega)]), rfl⟩

set_option maxHeartbeats 400000 in
theorem c130 (s : ByteArray) (w : World) (hs : s.size ≤ 1048700) :
    Calls Tryz.prog 130 #[.string s] w fun e w' => e = .returned (.int .u64 (hsum s.data.toList)) ∧ w' = w := by
  go_enter Tryz.func130, Tryz.ntmps130
  go_wp2
  go_loop [3, 7] (fun v i => ∃ k : Nat, k ≤ s.size ∧ i = .int .i64 k ∧ v = .int .u64 (hsum (s.data.toList.take k))) (fun _ i => s.size - (intOf i).toNat)
  case atStart => exact ⟨0, Nat.zero_le _, rfl, rfl⟩
  case round =>
    obtain ⟨k, hk, rfl, rfl⟩ := hrel
    have hx := hsum_range (s.data.toList.take k)
    by_cases hlt : k < s.size
    · have HS : Hid (hsum (s.data.toList.take (k + 1)) = hstep (hsum (s.data.toList.take k)) s[k]) := by rw [take_snoc s k hlt]; exact hsum_snoc _ _
      go_wp2
      go_round
      case rel => exact ⟨k + 1, by omega, by go_num, by rw [HS.out]; rfl⟩
      case measure => simp [intOf]; omega
    · go_wp2
      go_ret
      exact ⟨ret_int (by rw [List.take_of_length_le (by simp; omega)]), rfl⟩

set_option maxHeartbeats 400000 in
theorem c72 (v : Int) (n : Nat) (w : World) (hv0 : 0 ≤ v) (hv1 : v ≤ 18446744073709551615) (hn : n ≤ 8) :
    Calls Tryz.prog 72 #[.int .u64 v, .int .i64 n] w fun e w' => e = .returned (.string (strOfNums (outs v n))) ∧ Below w.heap.size w w' := by
  have hcv := conv1
  have hz : ∀ y, (strOfNums [y]).size = 1 := fun y => strOfNums_size [y]
  go_enter Tryz.func72, Tryz.ntmps72
  go_wp2
  go_loopw [0, 5, 6] (fun a o i wr => ∃ k : Nat, k ≤ n ∧ i = .int .i64 k ∧ a = .int .u64 (vAt v k) ∧ o = .string (strOfNums (outs v k)) ∧ Below w.heap.size w wr) (fun _ _ i _ => n - (intOf i).toNat)
  case atStart => exact ⟨0, Nat.zero_le _, rfl, rfl, rfl, Below.refl _ _⟩
  case round =>
    obtain ⟨k, hk, rfl, rfl, rfl, hb⟩ := hrel
    have hx := vAt_range v hv0 hv1 k
    have hq : (strOfNums (outs v k)).size = k := by rw [strOfNums_size, outs_length]
    by_cases hlt : k < n
    · go_wp2
      go_roundw
      case rel => exact ⟨k + 1, by omega, by go_num, rfl, by rw [str_cons]; rfl, hb.alloc hb.size _⟩
      case measure => simp [intOf]; omega
    · go_wp2
      go_ret
      obtain rfl : k = n := by omega
      exact ⟨rfl, hb⟩
end Go.Proofs.YtdcgjdgpiogdaaaGreatDoor

/-
  The plain mathematics of sums: no program is named here.
-/
import Derived.WalkKit
import Derived.Laws.BytesArg
namespace Go.Proofs.YtdcgjdgpiogdaaaGreatDoor
open Go.RowKit

/-- One byte more. -/
def hstep (x : Int) (c : UInt8) : Int := IntKind.u64.wrap (bits BinOp.xor IntKind.u64 x (IntKind.u64.wrap (c.toNat : Int)) * 1099511628211)
def hsum (l : List UInt8) : Int := l.foldl hstep 14695981039346656037

theorem wrap_u64_range (x : Int) : 0 ≤ IntKind.u64.wrap x ∧ IntKind.u64.wrap x ≤ 18446744073709551615 := by
  simp [IntKind.wrap, IntKind.signed, IntKind.bits]; omega
theorem hsum_range (l : List UInt8) : 0 ≤ hsum l ∧ hsum l ≤ 18446744073709551615 := by
  unfold hsum
  rcases List.eq_nil_or_concat l with h | ⟨l', c, h⟩
  · subst h; simp
  · subst h; simp only [List.concat_eq_append, List.foldl_append, List.foldl_cons, List.foldl_nil]; exact wrap_u64_range _
theorem hsum_snoc (l : List UInt8) (c : UInt8) : hsum (l ++ [c]) = hstep (hsum l) c := by simp [hsum]
/-- What is left behind k bytes; the bytes of a number, the k last ones. -/
def vAt (v : Int) : Nat → Int
  | 0 => v
  | k + 1 => vAt v k / 256
def outs (v : Int) : Nat → List Int
  | 0 => []
  | k + 1 => (vAt v k % 256) :: outs v k
theorem outs_length (v : Int) (k : Nat) : (outs v k).length = k := by induction k with
  | zero => rfl
  | succ k ih => simp [outs, ih]
theorem vAt_range (v : Int) (h0 : 0 ≤ v) (h1 : v ≤ 18446744073709551615) (k : Nat) : 0 ≤ vAt v k ∧ vAt v k ≤ 18446744073709551615 := by
  induction k with
  | zero => exact ⟨h0, h1⟩
  | succ k ih => simp only [vAt]; omega
theorem str_cons (x : Int) (l : List Int) : strOfNums [x] ++ strOfNums l = strOfNums (x :: l) := by
  apply ByteArray.ext
  simp [strOfNums]
theorem outs_range (v : Int) (k : Nat) : ∀ x ∈ outs v k, 0 ≤ x ∧ x ≤ 255 := by
  induction k with
  | zero => intro x h; simp [outs] at h
  | succ k ih =>
    intro x h
    simp only [outs, List.mem_cons] at h
    rcases h with h | h
    · subst h; omega
    · exact ih x h
end Go.Proofs.YtdcgjdgpiogdaaaGreatDoor
namespace Go.Proofs.YtdcgjdgpiogdaaaGreatDoor
/-- The key's byte j behind k rounds. -/
def kc (X : Int) (k j : Nat) : Int := if 8 ≤ j + k then vAt X (7 - j) % 256 else 0
theorem kc_zero (X : Int) (j : Nat) (_h : j < 8) : kc X 0 j = 0 := by unfold kc; rw [if_neg (by omega)]
theorem kc_same (X : Int) (k : Nat) (h : k < 8) : kc X (k + 1) (7 - k) = vAt X k % 256 := by
  unfold kc; rw [if_pos (by omega)]; congr 2; omega
theorem kc_other (X : Int) (k j : Nat) (_h : k < 8) (_hj : j < 8) (hne : j ≠ 7 - k) : kc X (k + 1) j = kc X k j := by
  unfold kc
  by_cases h1 : 8 ≤ j + k
  · rw [if_pos (by omega), if_pos h1]
  · rw [if_neg (by omega), if_neg h1]
end Go.Proofs.YtdcgjdgpiogdaaaGreatDoor
namespace Go.Proofs.YtdcgjdgpiogdaaaGreatDoor
theorem outs_getD (X : Int) (k i : Nat) (h : i < k) : (outs X k).getD i 0 = vAt X (k - 1 - i) % 256 := by
  induction k generalizing i with
  | zero => omega
  | succ k ih =>
    cases i with
    | zero => simp [outs]
    | succ i =>
      simp only [outs, List.getD_cons_succ]
      rw [ih i (by omega)]
      congr 2
      omega
theorem kc_outs (X : Int) (k i : Nat) (hk : k ≤ 8) (h : i < k) : kc X k (8 - k + i) = (outs X k).getD i 0 := by
  rw [outs_getD X k i h]
  unfold kc
  rw [if_pos (by omega)]
  congr 2
  omega
end Go.Proofs.YtdcgjdgpiogdaaaGreatDoor

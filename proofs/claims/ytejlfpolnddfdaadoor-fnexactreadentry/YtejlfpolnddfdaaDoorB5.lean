import Derived.Test.YtejlfpolnddfdaaDoorB4
namespace Go.Proofs.YtejlfpolnddfdaaDoor
open Go.RowKit

/-- a valid result -/
def vr (c : Int) (l : List UInt8) : Bool :=
  if c = 0 ∨ c = 1 then decide (l.length ≤ 300) else if c = 2 then num40 l else if c = 3 then l.isEmpty else if c = 4 ∨ c = 5 ∨ c = 7 then nameOk l else false
theorem num40_len {l : List UInt8} (h : num40 l = true) : l.length ≤ 2 := by
  simp only [num40, Bool.and_eq_true, decide_eq_true_eq] at h
  exact val_dig_len l h.1.2 h.1.1 h.2
theorem vr_long {c : Int} {l : List UInt8} (h : 300 < l.length) : vr c l = false := by
  have h1 : decide (l.length ≤ 300) = false := by simp only [decide_eq_false_iff_not]; omega
  have h2 : num40 l = false := by
    by_cases h2 : num40 l = true
    · have := num40_len h2; omega
    · simpa using h2
  have h3 : l.isEmpty = false := by cases l with | nil => simp at h | cons a r => rfl
  have h4 : nameOk l = false := by
    unfold nameOk
    have : decide (1 ≤ l.length ∧ l.length ≤ 20) = false := by simp only [decide_eq_false_iff_not]; omega
    rw [this]; rfl
  unfold vr
  rw [h1, h2, h3, h4]
  split <;> (try rfl)
  split <;> (try rfl)
  split <;> (try rfl)
  split <;> rfl

set_option maxHeartbeats 1000000 in
theorem c107 (c : Int) (s : ByteArray) (w : World) (hs : s.size ≤ 1048700) :
    Calls Tryd.prog 107 #[.agg #[.int .i64 c, .string s]] w fun e w' => e = .returned (.bool (vr c s.data.toList)) ∧ Below w.heap.size w w' := by
  have hlen : s.data.toList.length = s.size := by simp
  by_cases h01 : c = 0 ∨ c = 1
  · have hV : Hid (vr c s.data.toList = decide ((s.size : Int) ≤ 300)) := by unfold vr; rw [if_pos h01, hlen]; simp [Hid]; omega
    clear hlen
    rcases h01 with rfl | rfl
    all_goals
      go_enter Tryd.func107, Tryd.ntmps107
      go_wp2
      go_ret
      exact ⟨ret_bool (by rw [hV.out]), (Below.refl _ _).alloc (Nat.le_refl _) _⟩
  by_cases h2 : c = 2
  · subst h2
    have hV : Hid (vr 2 s.data.toList = num40 s.data.toList) := rfl
    clear hlen h01
    go_enter Tryd.func107, Tryd.ntmps107
    go_wp2_with fail
    refine (c45 _ _ hs).mono ?_
    rintro e w1 ⟨rfl, rfl⟩
    go_wp2
    go_ret
    exact ⟨ret_bool (by rw [hV.out]), (Below.refl _ _).alloc (Nat.le_refl _) _⟩
  by_cases h3 : c = 3
  · subst h3
    have hV : Hid (vr 3 s.data.toList = s.toList.isEmpty) := by rw [ByteArray.toList_eq]; rfl
    clear hlen h01 h2
    go_enter Tryd.func107, Tryd.ntmps107
    go_wp2
    go_ret
    exact ⟨ret_bool (by rw [hV.out]), (Below.refl _ _).alloc (Nat.le_refl _) _⟩
  by_cases h4 : c = 4 ∨ c = 5 ∨ c = 7
  · have hV : Hid (vr c s.data.toList = nameOk s.data.toList) := by unfold vr; rw [if_neg h01, if_neg h2, if_neg h3, if_pos h4]; rfl
    clear hlen h01 h2 h3
    rcases h4 with rfl | rfl | rfl
    all_goals
      go_enter Tryd.func107, Tryd.ntmps107
      go_wp2_with fail
      refine (c75 _ _ hs).mono ?_
      rintro e w1 ⟨rfl, rfl⟩
      go_wp2
      go_ret
      exact ⟨ret_bool (by rw [hV.out]), (Below.refl _ _).alloc (Nat.le_refl _) _⟩
  · have hV : Hid (vr c s.data.toList = false) := by unfold vr; rw [if_neg h01, if_neg h2, if_neg h3, if_neg h4]; rfl
    have e0 : (c == 0) = false := by simp; omega
    have e1 : (c == 1) = false := by simp; omega
    have e2 : (c == 2) = false := by simp; omega
    have e3 : (c == 3) = false := by simp; omega
    have e4 : (c == 4) = false := by simp; omega
    have e5 : (c == 5) = false := by simp; omega
    have e7 : (c == 7) = false := by simp; omega
    clear hlen h01 h2 h3 h4
    go_enter Tryd.func107, Tryd.ntmps107
    go_wp2
    go_ret
    exact ⟨ret_bool (by rw [hV.out]), (Below.refl _ _).alloc (Nat.le_refl _) _⟩
end Go.Proofs.YtejlfpolnddfdaaDoor

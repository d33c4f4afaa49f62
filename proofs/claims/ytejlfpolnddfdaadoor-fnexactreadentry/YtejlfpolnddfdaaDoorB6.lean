import Derived.Test.YtejlfpolnddfdaaDoorB5
namespace Go.Proofs.YtejlfpolnddfdaaDoor
open Go.RowKit

set_option maxHeartbeats 1000000 in
theorem c40 (c : Int) (s : ByteArray) (w : World) (hs : s.size ≤ 1048700) :
    Calls Tryd.prog 40 #[.agg #[.int .i64 c, .string s]] w fun e w' => e = .returned (.bool (vr c s.data.toList)) ∧ Below w.heap.size w w' := by
  have hlen : s.data.toList.length = s.size := by simp
  by_cases h300 : 300 < s.size
  · have hV : Hid (vr c s.data.toList = false) := vr_long (by omega)
    clear hlen
    go_enter Tryd.func40, Tryd.ntmps40
    go_wp2
    go_ret
    exact ⟨ret_bool (by rw [hV.out]), (Below.refl _ _).alloc (Nat.le_refl _) _⟩
  by_cases h01 : c = 0 ∨ c = 1
  · have hV : Hid (vr c s.data.toList = true) := by unfold vr; rw [if_pos h01, hlen]; simp [Hid]; omega
    clear hlen
    rcases h01 with rfl | rfl
    all_goals
      go_enter Tryd.func40, Tryd.ntmps40
      go_wp2
      go_ret
      exact ⟨ret_bool (by rw [hV.out]), (Below.refl _ _).alloc (Nat.le_refl _) _⟩
  by_cases h2 : c = 2
  · subst h2
    have hV : Hid (vr 2 s.data.toList = num40 s.data.toList) := rfl
    clear hlen h01
    go_enter Tryd.func40, Tryd.ntmps40
    go_wp2_with fail
    refine (c11 _ _ hs).mono ?_
    rintro e w1 ⟨rfl, hb1⟩
    go_wp2_with fail
    refine (c27 _ _ _ _).mono ?_
    rintro e w2 ⟨rfl, rfl⟩
    go_wp2
    go_ret
    refine ⟨ret_bool (by rw [hV.out]; rw [← n29_num40]; simp), ((Below.refl _ _).alloc (Nat.le_refl _) _).trans (hb1.mono (by simp))⟩
  by_cases h3 : c = 3
  · subst h3
    have hV : Hid (vr 3 s.data.toList = s.toList.isEmpty) := by rw [ByteArray.toList_eq]; rfl
    clear hlen h01 h2
    go_enter Tryd.func40, Tryd.ntmps40
    go_wp2
    go_ret
    exact ⟨ret_bool (by rw [hV.out]), (Below.refl _ _).alloc (Nat.le_refl _) _⟩
  by_cases h4 : c = 4 ∨ c = 5 ∨ c = 7
  · have hV : Hid (vr c s.data.toList = nameOk s.data.toList) := by unfold vr; rw [if_neg h01, if_neg h2, if_neg h3, if_pos h4]; rfl
    clear hlen h01 h2 h3
    rcases h4 with rfl | rfl | rfl
    all_goals
      go_enter Tryd.func40, Tryd.ntmps40
      go_wp2_with fail
      refine (c30 _ _ hs).mono ?_
      rintro e w1 ⟨rfl, rfl⟩
      go_wp2
      go_ret
      exact ⟨ret_bool (by rw [hV.out]), (Below.refl _ _).alloc (Nat.le_refl _) _⟩
  · have hV : Hid (vr c s.data.toList = false) := by unfold vr; rw [if_neg h01, if_neg h2, if_neg h3, if_neg h4]; rfl
    have e0 : (c == 0) = false := by simp; omega
    have e1 : (c == 1) = false := by simp; omega
    have e2 : (c == 2) = false := by simp; omega
    have e3 : (c == 3) = false := by simp; omega
    have e4 : (c == 4) = false := by simp; omega
    have e5 : (c == 5) = false := by simp; omega
    have e7 : (c == 7) = false := by simp; omega
    clear hlen h01 h2 h3 h4
    go_enter Tryd.func40, Tryd.ntmps40
    go_wp2
    go_ret
    exact ⟨ret_bool (by rw [hV.out]), (Below.refl _ _).alloc (Nat.le_refl _) _⟩

end Go.Proofs.YtejlfpolnddfdaaDoor

import Derived.Test.YtejlfpolnddfdaaDoorY1
namespace Go.Proofs.YtejlfpolnddfdaaDoor
open Go.RowKit
set_option maxHeartbeats 2000000 in
theorem c47 (x : L4) (w : World) (hs : x.le 1048600) :
    Calls Tryd.prog 47 #[.agg #[.bool x.has, .string x.nm, .int .i64 x.cd, .string x.tx]] w fun e w' => IsB (LkOk x) e ∧ Below w.heap.size w w' := by
  obtain ⟨s1, s2⟩ := hs
  have hB0 : ∀ o, Below w.heap.size w (w.alloc o) := fun o => (Below.refl _ _).alloc (Nat.le_refl _) _
  cases hn : nameOk x.nm.data.toList
  · have HN : Hid (IsB (LkOk x) (.returned (.bool false))) := isB_no (lk_name hn)
    go_enter Tryd.func47, Tryd.ntmps47
    go_wp2_with fail
    refine (c30 x.nm _ (by omega)).mono ?_
    rintro e w1 ⟨rfl, hw⟩
    obtain rfl := hw.symm
    rw [hn]
    go_wp2
    go_ret
    exact ⟨HN.out, hB0 _⟩
  · cases hh : x.has
    · have HE : Hid (LkOk x ↔ vr x.cd x.tx.data.toList = true) := lk_ask hn hh
      go_enter Tryd.func47, Tryd.ntmps47
      go_wp2_with fail
      refine (c30 x.nm _ (by omega)).mono ?_
      rintro e w1 ⟨rfl, hw⟩
      obtain rfl := hw.symm
      rw [hn]
      go_wp2_with fail
      refine (c40 x.cd x.tx _ (by omega)).mono ?_
      rintro e w2 ⟨rfl, hb2⟩
      have hB2 : Below w.heap.size w w2 := (hB0 _).trans (hb2.mono (by simp))
      go_wp2
      go_ret
      exact ⟨⟨_, rfl, HE.out.symm⟩, hB2⟩
    · have HE : Hid (LkOk x ↔ ((x.cd = 0 ∧ x.tx.toList = []) ∨ (x.cd = 4 ∧ x.tx.toList = x.nm.toList))) := lk_has hn hh
      skip
      all_goals
        go_enter Tryd.func47, Tryd.ntmps47
        go_wp2_with fail
        refine (c30 x.nm _ (by omega)).mono ?_
        rintro e w1 ⟨rfl, hw⟩
        obtain rfl := hw.symm
        rw [hn]
        go_wp2
        all_goals go_ret
        all_goals first
          | exact ⟨isB_yes (HE.out.2 (by simp [*])), hB0 _⟩
          | exact ⟨isB_no (fun h => by have := HE.out.1 h; simp [*] at this), hB0 _⟩
          | exact ⟨isB_yes (HE.out.2 (by simp [*])), (hB0 _).alloc (by simp) _⟩
          | exact ⟨isB_no (fun h => by have := HE.out.1 h; simp [*] at this), (hB0 _).alloc (by simp) _⟩
set_option maxHeartbeats 2000000 in
theorem c108 (x : L4) (w : World) (hs : x.le 1048600) :
    Calls Tryd.prog 108 #[.agg #[.bool x.has, .string x.nm, .int .i64 x.cd, .string x.tx]] w fun e w' => IsB (LkOk x) e ∧ Below w.heap.size w w' := by
  obtain ⟨s1, s2⟩ := hs
  have hB0 : ∀ o, Below w.heap.size w (w.alloc o) := fun o => (Below.refl _ _).alloc (Nat.le_refl _) _
  cases hh : x.has
  · cases hn : nameOk x.nm.data.toList
    · have HN : Hid (IsB (LkOk x) (.returned (.bool false))) := isB_no (lk_name hn)
      go_enter Tryd.func108, Tryd.ntmps108
      go_wp2_with fail
      refine (c75 x.nm _ (by omega)).mono ?_
      rintro e w1 ⟨rfl, hw⟩
      obtain rfl := hw.symm
      rw [hn]
      go_wp2
      go_ret
      exact ⟨HN.out, hB0 _⟩
    · have HE : Hid (LkOk x ↔ vr x.cd x.tx.data.toList = true) := lk_ask hn hh
      go_enter Tryd.func108, Tryd.ntmps108
      go_wp2_with fail
      refine (c75 x.nm _ (by omega)).mono ?_
      rintro e w1 ⟨rfl, hw⟩
      obtain rfl := hw.symm
      rw [hn]
      go_wp2_with fail
      refine (c107 x.cd x.tx _ (by omega)).mono ?_
      rintro e w2 ⟨rfl, hb2⟩
      have hB2 : Below w.heap.size w w2 := (hB0 _).trans (hb2.mono (by simp))
      go_wp2
      go_ret
      exact ⟨⟨_, rfl, HE.out.symm⟩, hB2⟩
  · cases hn : nameOk x.nm.data.toList
    · have HN : Hid (IsB (LkOk x) (.returned (.bool false))) := isB_no (lk_name hn)
      go_enter Tryd.func108, Tryd.ntmps108
      go_wp2_with fail
      refine (c75 x.nm _ (by omega)).mono ?_
      rintro e w1 ⟨rfl, hw⟩
      obtain rfl := hw.symm
      rw [hn]
      go_wp2
      go_ret
      exact ⟨HN.out, (hB0 _).alloc (by simp) _⟩
    · have HE : Hid (LkOk x ↔ ((x.cd = 0 ∧ x.tx.toList = []) ∨ (x.cd = 4 ∧ x.tx.toList = x.nm.toList))) := lk_has hn hh
      skip
      all_goals
        go_enter Tryd.func108, Tryd.ntmps108
        go_wp2_with fail
        refine (c75 x.nm _ (by omega)).mono ?_
        rintro e w1 ⟨rfl, hw⟩
        obtain rfl := hw.symm
        rw [hn]
        go_wp2
        all_goals go_ret
        all_goals first
          | exact ⟨isB_yes (HE.out.2 (by simp [*])), (hB0 _).alloc (by simp) _⟩
          | exact ⟨isB_no (fun h => by have := HE.out.1 h; simp [*] at this), (hB0 _).alloc (by simp) _⟩
          | exact ⟨isB_yes (HE.out.2 (by simp [*])), ((hB0 _).alloc (by simp) _).alloc (by simp; omega) _⟩
          | exact ⟨isB_no (fun h => by have := HE.out.1 h; simp [*] at this), ((hB0 _).alloc (by simp) _).alloc (by simp; omega) _⟩
end Go.Proofs.YtejlfpolnddfdaaDoor

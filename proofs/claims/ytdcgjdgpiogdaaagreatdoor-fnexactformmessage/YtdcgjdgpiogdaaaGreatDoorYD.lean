import Derived.Test.YtdcgjdgpiogdaaaGreatDoorY6
namespace Go.Proofs.YtdcgjdgpiogdaaaGreatDoor
open Go.RowKit
/-- A turn such as a message may tell. -/
def TnOk (ov : Bool) (cd : Int) (tx : ByteArray) (hs : Bool) (nm : ByteArray) (st : Int) : Prop := (0 ≤ st ∧ st ≤ 200) ∧ ((ov = true ∧ vr cd tx.data.toList = true ∧ hs = false ∧ nm = ⟨#[]⟩) ∨ (ov = false ∧ cd = 0 ∧ tx = ⟨#[]⟩ ∧ nameOk nm.data.toList = true))
theorem tn_over {cd st : Int} {tx nm : ByteArray} {hs : Bool} (h : 0 ≤ st ∧ st ≤ 200) : TnOk true cd tx hs nm st ↔ (vr cd tx.data.toList = true ∧ hs = false ∧ nm.toList = []) := by
  rw [ba_nil]
  constructor
  · rintro ⟨_, ⟨_, h⟩ | ⟨h, _⟩⟩
    · exact h
    · cases h
  · exact fun k => ⟨h, .inl ⟨rfl, k⟩⟩
theorem tn_on {cd st : Int} {tx nm : ByteArray} {hs : Bool} (h : 0 ≤ st ∧ st ≤ 200) : TnOk false cd tx hs nm st ↔ (cd = 0 ∧ tx.toList = [] ∧ nameOk nm.data.toList = true) := by
  rw [ba_nil]
  constructor
  · rintro ⟨_, ⟨h, _⟩ | ⟨_, h⟩⟩
    · cases h
    · exact h
  · exact fun k => ⟨h, .inr ⟨rfl, k⟩⟩
set_option maxHeartbeats 4000000 in
theorem c107 (ov hs : Bool) (cd st : Int) (tx nm : ByteArray) (w : World) (h1 : tx.size ≤ 1048600) (h2 : nm.size ≤ 1048600) :
    Calls Tryz.prog 107 #[.agg #[.bool ov, .int .i64 cd, .string tx, .bool hs, .string nm, .int .i64 st]] w fun e w' => IsB (TnOk ov cd tx hs nm st) e ∧ Below w.heap.size w w' := by
  have hB0 : ∀ o, Below w.heap.size w (w.alloc o) := fun o => (Below.refl _ _).alloc (Nat.le_refl _) _
  rcases (Classical.em (0 ≤ st ∧ st ≤ 200)).symm with hst | hst
  · have HN : Hid (IsB (TnOk ov cd tx hs nm st) (.returned (.bool false))) := isB_no (fun h => hst h.1)
    by_cases q1 : st < 0
    · go_enter Tryz.func107, Tryz.ntmps107
      go_wp2
      all_goals go_ret
      all_goals exact ⟨HN.out, hB0 _⟩
    · have q2 : 200 < st := by omega
      clear hst
      go_enter Tryz.func107, Tryz.ntmps107
      go_wp2
      all_goals go_ret
      all_goals exact ⟨HN.out, hB0 _⟩
  · have q1 : ¬ st < 0 := by omega
    have q2 : ¬ 200 < st := by omega
    cases ov
    · have HE : Hid (TnOk false cd tx hs nm st ↔ (cd = 0 ∧ tx.toList = [] ∧ nameOk nm.data.toList = true)) := tn_on hst
      clear hst
      rcases (Classical.em (cd = 0)).symm with e1 | e1
      · have HN : Hid (IsB (TnOk false cd tx hs nm st) (.returned (.bool false))) := isB_no (fun h => e1 (HE.out.1 h).1)
        go_enter Tryz.func107, Tryz.ntmps107
        go_wp2
        all_goals go_ret
        all_goals exact ⟨HN.out, hB0 _⟩
      · obtain rfl := e1
        rcases (Classical.em (tx.toList = [])).symm with e2 | e2
        · have HN : Hid (IsB (TnOk false 0 tx hs nm st) (.returned (.bool false))) := isB_no (fun h => e2 (HE.out.1 h).2.1)
          go_enter Tryz.func107, Tryz.ntmps107
          go_wp2
          all_goals go_ret
          all_goals exact ⟨HN.out, hB0 _⟩
        · obtain rfl := (ba_nil _).1 e2
          clear e2
          have HE2 : Hid (nameOk nm.data.toList = true ↔ TnOk false 0 ⟨#[]⟩ hs nm st) := ⟨fun h => HE.out.2 ⟨rfl, (ba_nil _).2 rfl, h⟩, fun h => (HE.out.1 h).2.2⟩
          go_enter Tryz.func107, Tryz.ntmps107
          go_wp2_with fail
          refine (c106 nm _ (by omega)).mono ?_
          rintro e w1 ⟨rfl, hw⟩
          obtain rfl := hw.symm
          go_wp2
          go_ret
          exact ⟨⟨_, rfl, HE2.out⟩, hB0 _⟩
    · have HE : Hid (TnOk true cd tx hs nm st ↔ (vr cd tx.data.toList = true ∧ hs = false ∧ nm.toList = [])) := tn_over hst
      clear hst
      cases hv : vr cd tx.data.toList
      · have HN : Hid (IsB (TnOk true cd tx hs nm st) (.returned (.bool false))) := isB_no (fun h => absurd (hv.symm.trans (HE.out.1 h).1) (by decide))
        go_enter Tryz.func107, Tryz.ntmps107
        go_wp2_with fail
        refine (c127 cd tx _ (by omega)).mono ?_
        rintro e w1 ⟨rfl, hb1⟩
        have hB1 : Below w.heap.size w w1 := (hB0 _).trans (hb1.mono (by simp))
        rw [hv]
        go_wp2
        go_ret
        exact ⟨HN.out, hB1⟩
      · have HP : Hid (IsB (TnOk true cd tx hs nm st) (.returned (.bool (!hs && nm.toList.isEmpty)))) := ⟨_, rfl, by
          rw [HE.out]
          cases hs <;> simp [hv]⟩
        go_enter Tryz.func107, Tryz.ntmps107
        go_wp2_with fail
        refine (c127 cd tx _ (by omega)).mono ?_
        rintro e w1 ⟨rfl, hb1⟩
        have hB1 : Below w.heap.size w w1 := (hB0 _).trans (hb1.mono (by simp))
        have k3 : w1.cell? ⟨w.heap.size, 3, none⟩ = some (.bool hs) := (hb1.cell (p := ⟨w.heap.size, 3, none⟩) (by simp)).trans (by simp [go_sem])
        have k4 : w1.cell? ⟨w.heap.size, 4, none⟩ = some (.string nm) := (hb1.cell (p := ⟨w.heap.size, 4, none⟩) (by simp)).trans (by simp [go_sem])
        clear hb1
        rw [hv]
        cases hs
        all_goals go_wp2
        all_goals go_ret
        all_goals exact ⟨HP.out, hB1⟩
set_option maxHeartbeats 4000000 in
theorem c67 (ov hs : Bool) (cd st : Int) (tx nm : ByteArray) (w : World) (h1 : tx.size ≤ 1048600) (h2 : nm.size ≤ 1048600) :
    Calls Tryz.prog 67 #[.agg #[.bool ov, .int .i64 cd, .string tx, .bool hs, .string nm, .int .i64 st]] w fun e w' => IsB (TnOk ov cd tx hs nm st) e ∧ Below w.heap.size w w' := by
  have hB0 : ∀ o, Below w.heap.size w (w.alloc o) := fun o => (Below.refl _ _).alloc (Nat.le_refl _) _
  cases hq : decide (0 ≤ st ∧ st ≤ 200)
  · have HN : Hid (IsB (TnOk ov cd tx hs nm st) (.returned (.bool false))) := isB_no (fun h => of_decide_eq_false hq h.1)
    go_enter Tryz.func67, Tryz.ntmps67
    go_wp2_with fail
    refine (c25 st 0 200 _).mono ?_
    rintro e w1 ⟨rfl, hw⟩
    obtain rfl := hw.symm
    rw [hq]
    go_wp2
    go_ret
    exact ⟨HN.out, hB0 _⟩
  · have hst := of_decide_eq_true hq
    cases ov
    · have HE : Hid (TnOk false cd tx hs nm st ↔ (cd = 0 ∧ tx.toList = [] ∧ nameOk nm.data.toList = true)) := tn_on hst
      clear hst
      rcases (Classical.em (cd = 0)).symm with e1 | e1
      · have HN : Hid (IsB (TnOk false cd tx hs nm st) (.returned (.bool false))) := isB_no (fun h => e1 (HE.out.1 h).1)
        go_enter Tryz.func67, Tryz.ntmps67
        go_wp2_with fail
        refine (c25 st 0 200 _).mono ?_
        rintro e w1 ⟨rfl, hw⟩
        obtain rfl := hw.symm
        rw [hq]
        go_wp2
        all_goals go_ret
        all_goals exact ⟨HN.out, hB0 _⟩
      · obtain rfl := e1
        rcases (Classical.em (tx.toList = [])).symm with e2 | e2
        · have HN : Hid (IsB (TnOk false 0 tx hs nm st) (.returned (.bool false))) := isB_no (fun h => e2 (HE.out.1 h).2.1)
          go_enter Tryz.func67, Tryz.ntmps67
          go_wp2_with fail
          refine (c25 st 0 200 _).mono ?_
          rintro e w1 ⟨rfl, hw⟩
          obtain rfl := hw.symm
          rw [hq]
          go_wp2
          all_goals go_ret
          all_goals exact ⟨HN.out, hB0 _⟩
        · obtain rfl := (ba_nil _).1 e2
          clear e2
          have HE2 : Hid (nameOk nm.data.toList = true ↔ TnOk false 0 ⟨#[]⟩ hs nm st) := ⟨fun h => HE.out.2 ⟨rfl, (ba_nil _).2 rfl, h⟩, fun h => (HE.out.1 h).2.2⟩
          go_enter Tryz.func67, Tryz.ntmps67
          go_wp2_with fail
          refine (c25 st 0 200 _).mono ?_
          rintro e w1 ⟨rfl, hw⟩
          obtain rfl := hw.symm
          rw [hq]
          go_wp2_with fail
          refine (c66 nm _ (by omega)).mono ?_
          rintro e w1 ⟨rfl, hw⟩
          obtain rfl := hw.symm
          go_wp2
          go_ret
          exact ⟨⟨_, rfl, HE2.out⟩, hB0 _⟩
    · have HE : Hid (TnOk true cd tx hs nm st ↔ (vr cd tx.data.toList = true ∧ hs = false ∧ nm.toList = [])) := tn_over hst
      clear hst
      cases hs
      · rcases (Classical.em (nm.toList = [])).symm with e2 | e2
        · have HN : Hid (IsB (TnOk true cd tx false nm st) (.returned (.bool false))) := isB_no (fun h => e2 (HE.out.1 h).2.2)
          go_enter Tryz.func67, Tryz.ntmps67
          go_wp2_with fail
          refine (c25 st 0 200 _).mono ?_
          rintro e w1 ⟨rfl, hw⟩
          obtain rfl := hw.symm
          rw [hq]
          go_wp2
          all_goals go_ret
          all_goals exact ⟨HN.out, hB0 _⟩
        · obtain rfl := (ba_nil _).1 e2
          clear e2
          have HE2 : Hid (vr cd tx.data.toList = true ↔ TnOk true cd tx false ⟨#[]⟩ st) := ⟨fun h => HE.out.2 ⟨h, rfl, (ba_nil _).2 rfl⟩, fun h => (HE.out.1 h).1⟩
          go_enter Tryz.func67, Tryz.ntmps67
          go_wp2_with fail
          refine (c25 st 0 200 _).mono ?_
          rintro e w1 ⟨rfl, hw⟩
          obtain rfl := hw.symm
          rw [hq]
          go_wp2_with fail
          refine (c95 cd tx _ (by omega)).mono ?_
          rintro e w2 ⟨rfl, hb2⟩
          have hB2 : Below w.heap.size w w2 := (hB0 _).trans (hb2.mono (by simp))
          go_wp2
          go_ret
          exact ⟨⟨_, rfl, HE2.out⟩, hB2⟩
      · have HN : Hid (IsB (TnOk true cd tx true nm st) (.returned (.bool false))) := isB_no (fun h => by have := (HE.out.1 h).2.1; cases this)
        go_enter Tryz.func67, Tryz.ntmps67
        go_wp2_with fail
        refine (c25 st 0 200 _).mono ?_
        rintro e w1 ⟨rfl, hw⟩
        obtain rfl := hw.symm
        rw [hq]
        go_wp2
        all_goals go_ret
        all_goals exact ⟨HN.out, hB0 _⟩
end Go.Proofs.YtdcgjdgpiogdaaaGreatDoor

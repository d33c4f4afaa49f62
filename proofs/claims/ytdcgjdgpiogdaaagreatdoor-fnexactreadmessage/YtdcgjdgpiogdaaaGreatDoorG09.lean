import Derived.Test.YtdcgjdgpiogdaaaGreatDoorG08
namespace Go.Proofs.YtdcgjdgpiogdaaaGreatDoor
open Go.RowKit
/-- A turn such as a message may tell. -/
def TnOk (ov : Bool) (cd : Int) (tx : ByteArray) (hs : Bool) (nm : ByteArray) (st : Int) : Prop := (0 ≤ st ∧ st ≤ 200) ∧ ((ov = true ∧ vr cd tx.data.toList = true ∧ hs = false ∧ nm = ⟨#[]⟩) ∨ (ov = false ∧ cd = 0 ∧ tx = ⟨#[]⟩ ∧ nameOk nm.data.toList = true))
theorem tn_over {cd st : Int} {tx nm : ByteArray} {hs : Bool} (h : 0 ≤ st ∧ st ≤ 200) : TnOk true cd tx hs nm st ↔ (vr cd tx.data.toList = true ∧ hs = false ∧ nm.toList = []) := by
  rw [ba_nil]
  constructor
  · rintro ⟨_, ⟨_, h⟩ | ⟨h, _⟩⟩
    · exact h
    · cases h
  · exact fun k => ⟨h, .inl ⟨rfl, k⟩⟩
theorem tn_on {cd st : Int} {tx nm : ByteArray} {hs : Bool} (h : 0 ≤ st ∧ st ≤ 200) : TnOk false cd tx hs nm st ↔ (cd = 0 ∧ tx.toList = [] ∧ nameOk nm.data.toList = true) := by
  rw [ba_nil]
  constructor
  · rintro ⟨_, ⟨h, _⟩ | ⟨_, h⟩⟩
    · cases h
    · exact h
  · exact fun k => ⟨h, .inr ⟨rfl, k⟩⟩
set_option maxHeartbeats 4000000 in
theorem c107 (ov hs : Bool) (cd st : Int) (tx nm : ByteArray) (w : World) (h1 : tx.size ≤ 1048600) (h2 : nm.size ≤ 1048600) :
    Calls Tryz.prog 107 #[.agg #[.bool ov, .int .i64 cd, .string tx, .bool hs, .string nm, .int .i64 st]] w fun e w' => IsB (TnOk ov cd tx hs nm st) e ∧ Below w.heap.size w w' := by
  have hB0 : ∀ o, Below w.heap.size w (w.alloc o) := fun o => (Below.refl _ _).alloc (Nat.le_refl _) _
  rcases (Classical.em (0 ≤ st ∧ st ≤ 200)).symm with hst | hst
  · have HN : Hid (IsB (TnOk ov cd tx hs nm st) (.returned (.bool false))) := isB_no (fun h => hst h.1)
    by_cases q1 : st < 0
    · go_enter Tryz.func107, Tryz.ntmps107
      go_wp2
      all_goals go_ret
      all_goals exact ⟨HN.out, hB0 _⟩
    · have q2 : 200 < st := by omega
      clear hst
      go_enter Tryz.func107, Tryz.ntmps107
      go_wp2
      all_goals go_ret
      all_goals exact ⟨HN.out, hB0 _⟩
  · have q1 : ¬ st < 0 := by omega
    have q2 : ¬ 200 < st := by omega
    cases ov
    · have HE : Hid (TnOk false cd tx hs nm st ↔ (cd = 0 ∧ tx.toList = [] ∧ nameOk nm.data.toList = true)) := tn_on hst
      clear hst
      rcases (Classical.em (cd = 0)).symm with e1 | e1
      · have HN : Hid (IsB (TnOk false cd tx hs nm st) (.returned (.bool false))) := isB_no (fun h => e1 (HE.out.1 h).1)
        go_enter Tryz.func107, Tryz.ntmps107
        go_wp2
        all_goals go_ret
        all_goals exact ⟨HN.out, hB0 _⟩
      · obtain rfl := e1
        rcases (Classical.em (tx.toList = [])).symm with e2 | e2
        · have HN : Hid (IsB (TnOk false 0 tx hs nm st) (.returned (.bool false))) := isB_no (fun h => e2 (HE.out.1 h).2.1)
          go_enter Tryz.func107, Tryz.ntmps107
          go_wp2
          all_goals go_ret
          all_goals exact ⟨HN.out, hB0 _⟩
        · obtain rfl := (ba_nil _).1 e2
          clear e2
          have HE2 : Hid (nameOk nm.data.toList = true ↔ TnOk false 0 ⟨#[]⟩ hs nm st) := ⟨fun h => HE.out.2 ⟨rfl, (ba_nil _).2 rfl, h⟩, fun h => (HE.out.1 h).2.2⟩
          go_enter Tryz.func107, Tryz.ntmps107
          go_wp2_with fail
          refine (c106 nm _ (by omega)).mono ?_
          rintro e w1 ⟨rfl, hw⟩
          obtain rfl := hw.symm
          go_wp2
          go_ret
          exact ⟨⟨_, rfl, HE2.out⟩, hB0 _⟩
    · have HE : Hid (TnOk true cd tx hs nm st ↔ (vr cd tx.data.toList = true ∧ hs = false ∧ nm.toList = [])) := tn_over hst
      clear hst
      cases hv : vr cd tx.data.toList
      · have HN : Hid (IsB (TnOk true cd tx hs nm st) (.returned (.bool false))) := isB_no (fun h => absurd (hv.symm.trans (HE.out.1 h).1) (by decide))
        go_enter Tryz.func107, Tryz.ntmps107
        go_wp2_with fail
        refine (c127 cd tx _ (by omega)).mono ?_
        rintro e w1 ⟨rfl, hb1⟩
        have hB1 : Below w.heap.size w w1 := (hB0 _).trans (hb1.mono (by simp))
        rw [hv]
        go_wp2
        go_ret
        exact ⟨HN.out, hB1⟩
      · have HP : Hid (IsB (TnOk true cd tx hs nm st) (.returned (.bool (!hs && nm.toList.isEmpty)))) := ⟨_, rfl, by
          rw [HE.out]
          cases hs <;> simp [hv]⟩
        go_enter Tryz.func107, Tryz.ntmps107
        go_wp2_with fail
        refine (c127 cd tx _ (by omega)).mono ?_
        rintro e w1 ⟨rfl, hb1⟩
        have hB1 : Below w.heap.size w w1 := (hB0 _).trans (hb1.mono (by simp))
        have k3 : w1.cell? ⟨w.heap.size, 3, none⟩ = some (.bool hs) := (hb1.cell (p := ⟨w.heap.size, 3, none⟩) (by simp)).trans (by simp [go_sem])
        have k4 : w1.cell? ⟨w.heap.size, 4, none⟩ = some (.string nm) := (hb1.cell (p := ⟨w.heap.size, 4, none⟩) (by simp)).trans (by simp [go_sem])
        clear hb1
        rw [hv]
        cases hs
        all_goals go_wp2
        all_goals go_ret
        all_goals exact ⟨HP.out, hB1⟩
set_option maxHeartbeats 4000000 in
theorem c67 (ov hs : Bool) (cd st : Int) (tx nm : ByteArray) (w : World) (h1 : tx.size ≤ 1048600) (h2 : nm.size ≤ 1048600) :
    Calls Tryz.prog 67 #[.agg #[.bool ov, .int .i64 cd, .string tx, .bool hs, .string nm, .int .i64 st]] w fun e w' => IsB (TnOk ov cd tx hs nm st) e ∧ Below w.heap.size w w' := by
  have hB0 : ∀ o, Below w.heap.size w (w.alloc o) := fun o => (Below.refl _ _).alloc (Nat.le_refl _) _
  cases hq : decide (0 ≤ st ∧ st ≤ 200)
  · have HN : Hid (IsB (TnOk ov cd tx hs nm st) (.returned (.bool false))) := isB_no (fun h => of_decide_eq_false hq h.1)
    go_enter Tryz.func67, Tryz.ntmps67
    go_wp2_with fail
    refine (c25 st 0 200 _).mono ?_
    rintro e w1 ⟨rfl, hw⟩
    obtain rfl := hw.symm
    rw [hq]
    go_wp2
    go_ret
    exact ⟨HN.out, hB0 _⟩
  · have hst := of_decide_eq_true hq
    cases ov
    · have HE : Hid (TnOk false cd tx hs nm st ↔ (cd = 0 ∧ tx.toList = [] ∧ nameOk nm.data.toList = true)) := tn_on hst
      clear hst
      rcases (Classical.em (cd = 0)).symm with e1 | e1
      · have HN : Hid (IsB (TnOk false cd tx hs nm st) (.returned (.bool false))) := isB_no (fun h => e1 (HE.out.1 h).1)
        go_enter Tryz.func67, Tryz.ntmps67
        go_wp2_with fail
        refine (c25 st 0 200 _).mono ?_
        rintro e w1 ⟨rfl, hw⟩
        obtain rfl := hw.symm
        rw [hq]
        go_wp2
        all_goals go_ret
        all_goals exact ⟨HN.out, hB0 _⟩
      · obtain rfl := e1
        rcases (Classical.em (tx.toList = [])).symm with e2 | e2
        · have HN : Hid (IsB (TnOk false 0 tx hs nm st) (.returned (.bool false))) := isB_no (fun h => e2 (HE.out.1 h).2.1)
          go_enter Tryz.func67, Tryz.ntmps67
          go_wp2_with fail
          refine (c25 st 0 200 _).mono ?_
          rintro e w1 ⟨rfl, hw⟩
          obtain rfl := hw.symm
          rw [hq]
          go_wp2
          all_goals go_ret
          all_goals exact ⟨HN.out, hB0 _⟩
        · obtain rfl := (ba_nil _).1 e2
          clear e2
          have HE2 : Hid (nameOk nm.data.toList = true ↔ TnOk false 0 ⟨#[]⟩ hs nm st) := ⟨fun h => HE.out.2 ⟨rfl, (ba_nil _).2 rfl, h⟩, fun h => (HE.out.1 h).2.2⟩
          go_enter Tryz.func67, Tryz.ntmps67
          go_wp2_with fail
          refine (c25 st 0 200 _).mono ?_
          rintro e w1 ⟨rfl, hw⟩
          obtain rfl := hw.symm
          rw [hq]
          go_wp2_with fail
          refine (c66 nm _ (by omega)).mono ?_
          rintro e w1 ⟨rfl, hw⟩
          obtain rfl := hw.symm
          go_wp2
          go_ret
          exact ⟨⟨_, rfl, HE2.out⟩, hB0 _⟩
    · have HE : Hid (TnOk true cd tx hs nm st ↔ (vr cd tx.data.toList = true ∧ hs = false ∧ nm.toList = [])) := tn_over hst
      clear hst
      cases hs
      · rcases (Classical.em (nm.toList = [])).symm with e2 | e2
        · have HN : Hid (IsB (TnOk true cd tx false nm st) (.returned (.bool false))) := isB_no (fun h => e2 (HE.out.1 h).2.2)
          go_enter Tryz.func67, Tryz.ntmps67
          go_wp2_with fail
          refine (c25 st 0 200 _).mono ?_
          rintro e w1 ⟨rfl, hw⟩
          obtain rfl := hw.symm
          rw [hq]
          go_wp2
          all_goals go_ret
          all_goals exact ⟨HN.out, hB0 _⟩
        · obtain rfl := (ba_nil _).1 e2
          clear e2
          have HE2 : Hid (vr cd tx.data.toList = true ↔ TnOk true cd tx false ⟨#[]⟩ st) := ⟨fun h => HE.out.2 ⟨h, rfl, (ba_nil _).2 rfl⟩, fun h => (HE.out.1 h).1⟩
          go_enter Tryz.func67, Tryz.ntmps67
          go_wp2_with fail
          refine (c25 st 0 200 _).mono ?_
          rintro e w1 ⟨rfl, hw⟩
          obtain rfl := hw.symm
          rw [hq]
          go_wp2_with fail
          refine (c95 cd tx _ (by omega)).mono ?_
          rintro e w2 ⟨rfl, hb2⟩
          have hB2 : Below w.heap.size w w2 := (hB0 _).trans (hb2.mono (by simp))
          go_wp2
          go_ret
          exact ⟨⟨_, rfl, HE2.out⟩, hB2⟩
      · have HN : Hid (IsB (TnOk true cd tx true nm st) (.returned (.bool false))) := isB_no (fun h => by have := (HE.out.1 h).2.1; cases this)
        go_enter Tryz.func67, Tryz.ntmps67
        go_wp2_with fail
        refine (c25 st 0 200 _).mono ?_
        rintro e w1 ⟨rfl, hw⟩
        obtain rfl := hw.symm
        rw [hq]
        go_wp2
        all_goals go_ret
        all_goals exact ⟨HN.out, hB0 _⟩
end Go.Proofs.YtdcgjdgpiogdaaaGreatDoor
namespace Go.Proofs.YtdcgjdgpiogdaaaGreatDoor
open Go.RowKit
/-- A message of a turn uses nothing else. -/
def BareT (x : G16) : Prop := x.to = 0 ∧ x.km.tl = ⟨#[]⟩ ∧ x.km.ar = ⟨#[]⟩ ∧ x.ls.length = 0
def TurnOkM (x : G16) : Prop := BareT x ∧ (1 ≤ x.fr ∧ x.fr ≤ 4) ∧ momOk x.ep x.ed = true ∧ nameOk x.km.nm.data.toList = true ∧ (0 ≤ x.ct ∧ x.ct ≤ 15) ∧ TnOk x.tn.over x.tn.cd x.tn.tx x.tn.has x.tn.nm x.tn.st
/-- One that says that a worker is there uses nothing else. -/
def BareH (x : G16) : Prop := x.to = 0 ∧ x.ep = 0 ∧ x.ed = 0 ∧ x.km.nm = ⟨#[]⟩ ∧ x.km.tl = ⟨#[]⟩ ∧ x.km.ar = ⟨#[]⟩ ∧ x.ls.length = 0 ∧ x.ct = 0 ∧ x.tn.over = false ∧ x.tn.cd = 0 ∧ x.tn.tx = ⟨#[]⟩ ∧ x.tn.has = false ∧ x.tn.nm = ⟨#[]⟩ ∧ x.tn.st = 0
def HereOk (x : G16) : Prop := BareH x ∧ (1 ≤ x.fr ∧ x.fr ≤ 4)
theorem sm_turn (x : G16) : Sm30 2 x.to x.fr x.ep x.ed x.km.nm x.km.tl x.km.ar x.ct x.tn.over x.tn.cd x.tn.tx x.tn.has x.tn.nm x.tn.st 2 0 x.fr x.ep x.ed x.km.nm ⟨#[]⟩ ⟨#[]⟩ x.ct x.tn.over x.tn.cd x.tn.tx x.tn.has x.tn.nm x.tn.st (decide (x.ls.length = 0)) ↔ BareT x := by
  unfold Sm30 BareT
  rw [decide_eq_true_eq]
  constructor
  · rintro ⟨_, h1, _, _, _, _, h2, h3, h4, _⟩
    exact ⟨h1, h2, h3, h4⟩
  · rintro ⟨h1, h2, h3, h4⟩
    exact ⟨rfl, h1, rfl, rfl, rfl, rfl, h2, h3, h4, rfl, rfl, rfl, rfl, rfl, rfl, rfl⟩
theorem sm_here (x : G16) : Sm30 3 x.to x.fr x.ep x.ed x.km.nm x.km.tl x.km.ar x.ct x.tn.over x.tn.cd x.tn.tx x.tn.has x.tn.nm x.tn.st 3 0 x.fr 0 0 ⟨#[]⟩ ⟨#[]⟩ ⟨#[]⟩ 0 false 0 ⟨#[]⟩ false ⟨#[]⟩ 0 (decide (x.ls.length = 0)) ↔ BareH x := by
  unfold Sm30 BareH
  rw [decide_eq_true_eq]
  constructor
  · rintro ⟨_, h1, _, h2⟩
    exact ⟨h1, h2⟩
  · rintro ⟨h1, h2⟩
    exact ⟨rfl, h1, rfl, h2⟩
set_option maxHeartbeats 4000000 in
set_option maxRecDepth 100000 in
theorem c82 (x : G16) (ai : Option Addr) (ci : Nat) (w : World) (hl : x.ls.length ≤ 1048576) :
    Calls Tryz.prog 82 #[.agg #[.int .i64 3, .int .i64 x.to, .int .i64 x.fr, .int .i64 x.ep, .int .i64 x.ed, .string x.km.nm, .string x.km.tl, .string x.km.ar, .slice ai x.ls.length ci, .int .i64 x.ct, .bool x.tn.over, .int .i64 x.tn.cd, .string x.tn.tx, .bool x.tn.has, .string x.tn.nm, .int .i64 x.tn.st]] w fun e w' => IsB (HereOk x) e ∧ Below w.heap.size w w' := by
  have hB0 : ∀ o, Below w.heap.size w (w.alloc o) := fun o => (Below.refl _ _).alloc (Nat.le_refl _) _
  go_enter Tryz.func82, Tryz.ntmps82
  go_wp2_with fail
  refine (c30 3 x.to x.fr x.ep x.ed x.ct x.tn.cd x.tn.st x.km.nm x.km.tl x.km.ar x.tn.tx x.tn.nm x.tn.over x.tn.has 3 0 x.fr 0 0 0 0 0 ⟨#[]⟩ ⟨#[]⟩ ⟨#[]⟩ ⟨#[]⟩ ⟨#[]⟩ false false ai none x.ls.length 0 ci 0 (decide (x.ls.length = 0)) _ (fun u hb => c69n ai none ci 0 x.ls u hl)).mono ?_
  rintro e w1 ⟨⟨r, rfl, hr⟩, hb1⟩
  have HR : Hid (r = true ↔ BareH x) := hr.trans (sm_here x)
  have hx1 : Below (w.heap.size + 1) (w.alloc (.cells #[.int .i64 3, .int .i64 x.to, .int .i64 x.fr, .int .i64 x.ep, .int .i64 x.ed, .string x.km.nm, .string x.km.tl, .string x.km.ar, .slice ai x.ls.length ci, .int .i64 x.ct, .bool x.tn.over, .int .i64 x.tn.cd, .string x.tn.tx, .bool x.tn.has, .string x.tn.nm, .int .i64 x.tn.st] 41)) w1 := by have h := hb1; simp at h; exact h
  have hB1 : Below w.heap.size w w1 := (hB0 _).trans (hx1.mono (by omega))
  have a2 : w1.cell? ⟨w.heap.size, 2, none⟩ = some (.int .i64 x.fr) := (hx1.cell (p := ⟨w.heap.size, 2, none⟩) (by show w.heap.size < w.heap.size + 1; omega)).trans (by simp [go_sem])
  clear hr hb1 hx1
  cases r
  · have HN : Hid (IsB (HereOk x) (.returned (.bool false))) := isB_no (fun h => absurd (HR.out.2 h.1) Bool.false_ne_true)
    go_wp2
    go_ret
    exact ⟨HN.out, hB1⟩
  · go_wp2_with fail
    refine (c28 x.fr w1).mono ?_
    rintro e w1' ⟨rfl, hw⟩
    obtain rfl := hw.symm
    have HE : Hid (decide (1 ≤ x.fr ∧ x.fr ≤ 4) = true ↔ HereOk x) := by
      rw [decide_eq_true_eq]
      exact ⟨fun h => ⟨HR.out.1 (by first | rfl | trivial), h⟩, fun h => h.2⟩
    go_wp2
    go_ret
    exact ⟨⟨_, rfl, by rw [← HE.out]; simp⟩, hB1⟩
set_option maxHeartbeats 8000000 in
set_option maxRecDepth 100000 in
theorem c79 (x : G16) (ai : Option Addr) (ci : Nat) (w : World) (hs : x.le 1048576) :
    Calls Tryz.prog 79 #[.agg #[.int .i64 2, .int .i64 x.to, .int .i64 x.fr, .int .i64 x.ep, .int .i64 x.ed, .string x.km.nm, .string x.km.tl, .string x.km.ar, .slice ai x.ls.length ci, .int .i64 x.ct, .bool x.tn.over, .int .i64 x.tn.cd, .string x.tn.tx, .bool x.tn.has, .string x.tn.nm, .int .i64 x.tn.st]] w fun e w' => IsB (TurnOkM x) e ∧ Below w.heap.size w w' := by
  obtain ⟨s1, ⟨hl, s3⟩, s4⟩ := hs
  have hB0 : ∀ o p, Below w.heap.size w ((w.alloc o).alloc p) := fun o p => ((Below.refl _ _).alloc (Nat.le_refl _) _).alloc (by simp) _
  clear s3
  go_enter Tryz.func79, Tryz.ntmps79
  go_wp2_with fail
  refine (c30 2 x.to x.fr x.ep x.ed x.ct x.tn.cd x.tn.st x.km.nm x.km.tl x.km.ar x.tn.tx x.tn.nm x.tn.over x.tn.has 2 0 x.fr x.ep x.ed x.ct x.tn.cd x.tn.st x.km.nm ⟨#[]⟩ ⟨#[]⟩ x.tn.tx x.tn.nm x.tn.over x.tn.has ai none x.ls.length 0 ci 0 (decide (x.ls.length = 0)) _ (fun u hb => c69n ai none ci 0 x.ls u hl)).mono ?_
  rintro e w1 ⟨⟨r, rfl, hr⟩, hb1⟩
  have HR : Hid (r = true ↔ BareT x) := hr.trans (sm_turn x)
  have hx1 : Below (w.heap.size + 2) ((w.alloc (.cells #[.int .i64 2, .int .i64 x.to, .int .i64 x.fr, .int .i64 x.ep, .int .i64 x.ed, .string x.km.nm, .string x.km.tl, .string x.km.ar, .slice ai x.ls.length ci, .int .i64 x.ct, .bool x.tn.over, .int .i64 x.tn.cd, .string x.tn.tx, .bool x.tn.has, .string x.tn.nm, .int .i64 x.tn.st] 41)).alloc (.cells #[.int .i64 2, .int .i64 0, .int .i64 x.fr, .int .i64 x.ep, .int .i64 x.ed, .string x.km.nm, .string ⟨#[]⟩, .string ⟨#[]⟩, .slice none 0 0, .int .i64 x.ct, .bool x.tn.over, .int .i64 x.tn.cd, .string x.tn.tx, .bool x.tn.has, .string x.tn.nm, .int .i64 x.tn.st] 41)) w1 := by have h := hb1; simp at h; exact h
  have hB1 : Below w.heap.size w w1 := (hB0 _ _).trans (hx1.mono (by omega))
  have ZA : BlkAt w1 w.heap.size [.int .i64 2, .int .i64 x.to, .int .i64 x.fr, .int .i64 x.ep, .int .i64 x.ed, .string x.km.nm, .string x.km.tl, .string x.km.ar, .slice ai x.ls.length ci, .int .i64 x.ct, .bool x.tn.over, .int .i64 x.tn.cd, .string x.tn.tx, .bool x.tn.has, .string x.tn.nm, .int .i64 x.tn.st] := fun j v h => (hx1.cell (p := ⟨w.heap.size, j, none⟩) (by show w.heap.size < w.heap.size + 2; omega)).trans (by simp [go_sem, h])
  have a2 := ZA 2 _ rfl
  have a3 := ZA 3 _ rfl
  have a4 := ZA 4 _ rfl
  have a5 := ZA 5 _ rfl
  have a9 := ZA 9 _ rfl
  have a10 := ZA 10 _ rfl
  have a11 := ZA 11 _ rfl
  have a12 := ZA 12 _ rfl
  have a13 := ZA 13 _ rfl
  have a14 := ZA 14 _ rfl
  have a15 := ZA 15 _ rfl
  clear hr hb1 hx1 ZA
  cases r
  · have HN : Hid (IsB (TurnOkM x) (.returned (.bool false))) := isB_no (fun h => absurd (HR.out.2 h.1) Bool.false_ne_true)
    go_wp2
    go_ret
    exact ⟨HN.out, hB1⟩
  · go_wp2_with fail
    refine (c28 x.fr w1).mono ?_
    rintro e w1' ⟨rfl, hw⟩
    obtain rfl := hw.symm
    cases h2 : decide (1 ≤ x.fr ∧ x.fr ≤ 4)
    · have HN : Hid (IsB (TurnOkM x) (.returned (.bool false))) := isB_no (fun h => of_decide_eq_false h2 h.2.1)
      go_wp2
      go_ret
      exact ⟨HN.out, hB1⟩
    · go_wp2_with fail
      refine (c96 x.ep x.ed w1).mono ?_
      rintro e w1' ⟨rfl, hw⟩
      obtain rfl := hw.symm
      cases h3 : momOk x.ep x.ed
      · have HN : Hid (IsB (TurnOkM x) (.returned (.bool false))) := isB_no (fun h => absurd (h3.symm.trans h.2.2.1) (by decide))
        go_wp2
        go_ret
        exact ⟨HN.out, hB1⟩
      · go_wp2_with fail
        refine (c106 x.km.nm w1 (by have := s1.1; omega)).mono ?_
        rintro e w1' ⟨rfl, hw⟩
        obtain rfl := hw.symm
        cases h4 : nameOk x.km.nm.data.toList
        · have HN : Hid (IsB (TurnOkM x) (.returned (.bool false))) := isB_no (fun h => absurd (h4.symm.trans h.2.2.2.1) (by decide))
          go_wp2
          go_ret
          exact ⟨HN.out, hB1⟩
        · by_cases q1 : 0 ≤ x.ct
          · by_cases q2 : x.ct ≤ 15
            · go_wp2_with fail
              refine (c107 x.tn.over x.tn.has x.tn.cd x.tn.st x.tn.tx x.tn.nm w1 (by have := s4.1; omega) (by have := s4.2; omega)).mono ?_
              rintro e w2 ⟨⟨r, rfl, hr⟩, hb2⟩
              have hB2 : Below w.heap.size w w2 := hB1.trans (hb2.mono hB1.size)
              have HE : Hid (r = true ↔ TurnOkM x) := ⟨fun h => ⟨HR.out.1 (by first | rfl | trivial), of_decide_eq_true h2, h3, h4, ⟨q1, q2⟩, hr.1 h⟩, fun h => hr.2 h.2.2.2.2.2⟩
              clear hr hb2
              go_wp2
              go_ret
              exact ⟨⟨r, rfl, HE.out⟩, hB2⟩
            · have q3 : 15 < x.ct := by omega
              have HN : Hid (IsB (TurnOkM x) (.returned (.bool false))) := isB_no (fun h => q2 h.2.2.2.2.1.2)
              go_wp2
              go_ret
              exact ⟨HN.out, hB1⟩
          · have q3 : x.ct < 0 := by omega
            have HN : Hid (IsB (TurnOkM x) (.returned (.bool false))) := isB_no (fun h => q1 h.2.2.2.2.1.1)
            go_wp2
            go_ret
            exact ⟨HN.out, hB1⟩
end Go.Proofs.YtdcgjdgpiogdaaaGreatDoor

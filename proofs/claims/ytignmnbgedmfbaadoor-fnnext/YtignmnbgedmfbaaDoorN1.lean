import Derived.Test.YtignmnbgedmfbaaDoorRA
namespace Go.Proofs.YtignmnbgedmfbaaDoor
open Go.RowKit

theorem name_short (s : ByteArray) (h : ¬ (1 ≤ s.size ∧ s.size ≤ 20)) : nameOk s.data.toList = false := by
  unfold nameOk
  have : (decide (1 ≤ s.data.toList.length ∧ s.data.toList.length ≤ 20)) = false := by
    simp only [decide_eq_false_iff_not]; simpa using h
  rw [this]; rfl
theorem name_long (s : ByteArray) (h : 1 ≤ s.size ∧ s.size ≤ 20) : nameOk s.data.toList = s.data.toList.all isGraph := by
  unfold nameOk
  have : (decide (1 ≤ s.data.toList.length ∧ s.data.toList.length ≤ 20)) = true := by
    simp only [decide_eq_true_eq]; simpa using h
  rw [this]; rfl

set_option maxHeartbeats 400000 in
theorem c78 (s : ByteArray) (w : World) (hs : s.size ≤ 1048700) :
    Calls Tryd.prog 78 #[.string s] w fun e w' => e = .returned (.bool (nameOk s.data.toList)) ∧ w' = w := by
  by_cases h : 1 ≤ s.size ∧ s.size ≤ 20
  · have hN : Hid (nameOk s.data.toList = s.data.toList.all isGraph) := name_long s h
    obtain ⟨h1, h2⟩ := h
    go_enter Tryd.func78, Tryd.ntmps78
    go_wp2
    go_loop [14] (fun i => ∃ k : Nat, k ≤ s.size ∧ i = .int .i64 k ∧ Hid ((s.data.toList.take k).all isGraph = true)) (fun i => s.size - (intOf i).toNat)
    case atStart => exact ⟨0, Nat.zero_le _, rfl, rfl⟩
    case round =>
      obtain ⟨k, hk, rfl, ha⟩ := hrel
      by_cases hlt : k < s.size
      · by_cases hg : isGraph s[k] = true
        · have hg' := (graph_iff _).1 hg
          have hn := Hid.out ha
          have ha' : Hid ((s.data.toList.take (k + 1)).all isGraph = true) := all_take_snoc _ s k hlt ha.out hg
          clear hg hn
          go_wp2
          go_round
          case rel => exact ⟨k + 1, by omega, by go_num, ha'⟩
          case measure => simp [intOf]; omega
        · have hf : Hid (s.data.toList.all isGraph = false) := all_false_at _ s k hlt (by simpa using hg)
          have hg' : (s[k].toNat : Int) < 33 ∨ 126 < (s[k].toNat : Int) := by
            rcases Int.lt_or_le (s[k].toNat : Int) 33 with h | h
            · exact .inl h
            · rcases Int.lt_or_le 126 (s[k].toNat : Int) with h' | h'
              · exact .inr h'
              · exact absurd ((graph_iff _).2 ⟨h, h'⟩) hg
          clear hg
          rcases hg' with hg | hg
          all_goals
            go_wp2
            all_goals go_ret
            all_goals exact ⟨ret_bool (by rw [hN.out, hf.out]), rfl⟩
      · go_wp2
        go_ret
        exact ⟨ret_bool (by rw [hN.out, all_take_size _ s k (by omega) ha.out]), rfl⟩
  · have hN : Hid (nameOk s.data.toList = false) := name_short s h
    by_cases h1 : 1 ≤ s.size
    all_goals
      go_enter Tryd.func78, Tryd.ntmps78
      go_wp2
      all_goals go_ret
      all_goals exact ⟨ret_bool (by rw [hN.out]), rfl⟩

set_option maxHeartbeats 400000 in
theorem c57 (s : ByteArray) (w : World) (hs : s.size ≤ 1048700) :
    Calls Tryd.prog 57 #[.string s] w fun e w' => e = .returned (.bool (nameOk s.data.toList)) ∧ w' = w := by
  by_cases h : 1 ≤ s.size ∧ s.size ≤ 20
  · have hN : Hid (nameOk s.data.toList = s.data.toList.all isGraph) := name_long s h
    have hd : decide ((1 : Int) ≤ (s.size : Int) ∧ (s.size : Int) ≤ 20) = true := by simp; omega
    go_enter Tryd.func57, Tryd.ntmps57
    go_wp2_with fail
    refine (c62 _ _ _ _).mono ?_
    rintro e w' ⟨rfl, rfl⟩
    rw [hd]
    go_wp2
    go_loop [3] (fun i => ∃ k : Nat, k ≤ s.size ∧ i = .int .i64 k ∧ Hid ((s.data.toList.take k).all isGraph = true)) (fun i => s.size - (intOf i).toNat)
    case atStart => exact ⟨0, Nat.zero_le _, rfl, rfl⟩
    case round =>
      obtain ⟨k, hk, rfl, ha⟩ := hrel
      by_cases hlt : k < s.size
      · by_cases hg : isGraph s[k] = true
        · have hg' := (graph_iff _).1 hg
          have ha' : Hid ((s.data.toList.take (k + 1)).all isGraph = true) := all_take_snoc _ s k hlt ha.out hg
          clear hg
          go_wp2
          go_round
          case rel => exact ⟨k + 1, by omega, by go_num, ha'⟩
          case measure => simp [intOf]; omega
        · have hf : Hid (s.data.toList.all isGraph = false) := all_false_at _ s k hlt (by simpa using hg)
          have hg' : (s[k].toNat : Int) < 33 ∨ 126 < (s[k].toNat : Int) := by
            rcases Int.lt_or_le (s[k].toNat : Int) 33 with h | h
            · exact .inl h
            · rcases Int.lt_or_le 126 (s[k].toNat : Int) with h' | h'
              · exact .inr h'
              · exact absurd ((graph_iff _).2 ⟨h, h'⟩) hg
          clear hg
          rcases hg' with hg | hg
          all_goals
            go_wp2
            all_goals go_ret
            all_goals exact ⟨ret_bool (by rw [hN.out, hf.out]), rfl⟩
      · go_wp2
        go_ret
        exact ⟨ret_bool (by rw [hN.out, all_take_size _ s k (by omega) ha.out]), rfl⟩
  · have hN : Hid (nameOk s.data.toList = false) := name_short s h
    have hd : decide ((1 : Int) ≤ (s.size : Int) ∧ (s.size : Int) ≤ 20) = false := by simp only [decide_eq_false_iff_not]; omega
    go_enter Tryd.func57, Tryd.ntmps57
    go_wp2_with fail
    refine (c62 _ _ _ _).mono ?_
    rintro e w' ⟨rfl, rfl⟩
    rw [hd]
    go_wp2
    go_ret
    exact ⟨ret_bool (by rw [hN.out]), rfl⟩

/-- a valid result -/
def vr (c : Int) (l : List UInt8) : Bool :=
  if c = 0 ∨ c = 1 then decide (l.length ≤ 300) else if c = 2 then num40 l else if c = 3 then l.isEmpty else if c = 4 ∨ c = 5 ∨ c = 7 then nameOk l else false
theorem num40_len {l : List UInt8} (h : num40 l = true) : l.length ≤ 2 := by
  simp only [num40, Bool.and_eq_true, decide_eq_true_eq] at h
  exact val_dig_len l h.1.2 h.1.1 h.2
theorem vr_long {c : Int} {l : List UInt8} (h : 300 < l.length) : vr c l = false := by
  have h1 : decide (l.length ≤ 300) = false := by simp only [decide_eq_false_iff_not]; omega
  have h2 : num40 l = false := by
    by_cases h2 : num40 l = true
    · have := num40_len h2; omega
    · simpa using h2
  have h3 : l.isEmpty = false := by cases l with | nil => simp at h | cons a r => rfl
  have h4 : nameOk l = false := by
    unfold nameOk
    have : decide (1 ≤ l.length ∧ l.length ≤ 20) = false := by simp only [decide_eq_false_iff_not]; omega
    rw [this]; rfl
  unfold vr
  rw [h1, h2, h3, h4]
  split <;> (try rfl)
  split <;> (try rfl)
  split <;> (try rfl)
  split <;> rfl

set_option maxHeartbeats 1000000 in
theorem c52 (c : Int) (s : ByteArray) (w : World) (hs : s.size ≤ 1048700) :
    Calls Tryd.prog 52 #[.agg #[.int .i64 c, .string s]] w fun e w' => e = .returned (.bool (vr c s.data.toList)) ∧ Below w.heap.size w w' := by
  have hlen : s.data.toList.length = s.size := by simp
  by_cases h01 : c = 0 ∨ c = 1
  · have hV : Hid (vr c s.data.toList = decide ((s.size : Int) ≤ 300)) := by unfold vr; rw [if_pos h01, hlen]; simp [Hid]; omega
    clear hlen
    rcases h01 with rfl | rfl
    all_goals
      go_enter Tryd.func52, Tryd.ntmps52
      go_wp2
      go_ret
      exact ⟨ret_bool (by rw [hV.out]), (Below.refl _ _).alloc (Nat.le_refl _) _⟩
  by_cases h2 : c = 2
  · subst h2
    have hV : Hid (vr 2 s.data.toList = num40 s.data.toList) := rfl
    clear hlen h01
    go_enter Tryd.func52, Tryd.ntmps52
    go_wp2_with fail
    refine (c73 _ _ hs).mono ?_
    rintro e w1 ⟨rfl, rfl⟩
    go_wp2
    go_ret
    exact ⟨ret_bool (by rw [hV.out]), (Below.refl _ _).alloc (Nat.le_refl _) _⟩
  by_cases h3 : c = 3
  · subst h3
    have hV : Hid (vr 3 s.data.toList = s.toList.isEmpty) := by rw [ByteArray.toList_eq]; rfl
    clear hlen h01 h2
    go_enter Tryd.func52, Tryd.ntmps52
    go_wp2
    go_ret
    exact ⟨ret_bool (by rw [hV.out]), (Below.refl _ _).alloc (Nat.le_refl _) _⟩
  by_cases h4 : c = 4 ∨ c = 5 ∨ c = 7
  · have hV : Hid (vr c s.data.toList = nameOk s.data.toList) := by unfold vr; rw [if_neg h01, if_neg h2, if_neg h3, if_pos h4]; rfl
    clear hlen h01 h2 h3
    rcases h4 with rfl | rfl | rfl
    all_goals
      go_enter Tryd.func52, Tryd.ntmps52
      go_wp2_with fail
      refine (c78 _ _ hs).mono ?_
      rintro e w1 ⟨rfl, rfl⟩
      go_wp2
      go_ret
      exact ⟨ret_bool (by rw [hV.out]), (Below.refl _ _).alloc (Nat.le_refl _) _⟩
  · have hV : Hid (vr c s.data.toList = false) := by unfold vr; rw [if_neg h01, if_neg h2, if_neg h3, if_neg h4]; rfl
    have e0 : (c == 0) = false := by simp; omega
    have e1 : (c == 1) = false := by simp; omega
    have e2 : (c == 2) = false := by simp; omega
    have e3 : (c == 3) = false := by simp; omega
    have e4 : (c == 4) = false := by simp; omega
    have e5 : (c == 5) = false := by simp; omega
    have e7 : (c == 7) = false := by simp; omega
    clear hlen h01 h2 h3 h4
    go_enter Tryd.func52, Tryd.ntmps52
    go_wp2
    go_ret
    exact ⟨ret_bool (by rw [hV.out]), (Below.refl _ _).alloc (Nat.le_refl _) _⟩

set_option maxHeartbeats 1000000 in
theorem c54 (c : Int) (s : ByteArray) (w : World) (hs : s.size ≤ 1048700) :
    Calls Tryd.prog 54 #[.agg #[.int .i64 c, .string s]] w fun e w' => e = .returned (.bool (vr c s.data.toList)) ∧ Below w.heap.size w w' := by
  have hlen : s.data.toList.length = s.size := by simp
  by_cases h300 : 300 < s.size
  · have hV : Hid (vr c s.data.toList = false) := vr_long (by omega)
    clear hlen
    go_enter Tryd.func54, Tryd.ntmps54
    go_wp2
    go_ret
    exact ⟨ret_bool (by rw [hV.out]), (Below.refl _ _).alloc (Nat.le_refl _) _⟩
  by_cases h01 : c = 0 ∨ c = 1
  · have hV : Hid (vr c s.data.toList = true) := by unfold vr; rw [if_pos h01, hlen]; simp [Hid]; omega
    clear hlen
    rcases h01 with rfl | rfl
    all_goals
      go_enter Tryd.func54, Tryd.ntmps54
      go_wp2
      go_ret
      exact ⟨ret_bool (by rw [hV.out]), (Below.refl _ _).alloc (Nat.le_refl _) _⟩
  by_cases h2 : c = 2
  · subst h2
    have hV : Hid (vr 2 s.data.toList = num40 s.data.toList) := rfl
    clear hlen h01
    go_enter Tryd.func54, Tryd.ntmps54
    go_wp2_with fail
    refine (c38 _ _ hs).mono ?_
    rintro e w1 ⟨rfl, hb1⟩
    go_wp2_with fail
    refine (c62 _ _ _ _).mono ?_
    rintro e w2 ⟨rfl, rfl⟩
    go_wp2
    go_ret
    refine ⟨ret_bool (by rw [hV.out]; rw [← n29_num40]; simp), ((Below.refl _ _).alloc (Nat.le_refl _) _).trans (hb1.mono (by simp))⟩
  by_cases h3 : c = 3
  · subst h3
    have hV : Hid (vr 3 s.data.toList = s.toList.isEmpty) := by rw [ByteArray.toList_eq]; rfl
    clear hlen h01 h2
    go_enter Tryd.func54, Tryd.ntmps54
    go_wp2
    go_ret
    exact ⟨ret_bool (by rw [hV.out]), (Below.refl _ _).alloc (Nat.le_refl _) _⟩
  by_cases h4 : c = 4 ∨ c = 5 ∨ c = 7
  · have hV : Hid (vr c s.data.toList = nameOk s.data.toList) := by unfold vr; rw [if_neg h01, if_neg h2, if_neg h3, if_pos h4]; rfl
    clear hlen h01 h2 h3
    rcases h4 with rfl | rfl | rfl
    all_goals
      go_enter Tryd.func54, Tryd.ntmps54
      go_wp2_with fail
      refine (c57 _ _ hs).mono ?_
      rintro e w1 ⟨rfl, rfl⟩
      go_wp2
      go_ret
      exact ⟨ret_bool (by rw [hV.out]), (Below.refl _ _).alloc (Nat.le_refl _) _⟩
  · have hV : Hid (vr c s.data.toList = false) := by unfold vr; rw [if_neg h01, if_neg h2, if_neg h3, if_neg h4]; rfl
    have e0 : (c == 0) = false := by simp; omega
    have e1 : (c == 1) = false := by simp; omega
    have e2 : (c == 2) = false := by simp; omega
    have e3 : (c == 3) = false := by simp; omega
    have e4 : (c == 4) = false := by simp; omega
    have e5 : (c == 5) = false := by simp; omega
    have e7 : (c == 7) = false := by simp; omega
    clear hlen h01 h2 h3 h4
    go_enter Tryd.func54, Tryd.ntmps54
    go_wp2
    go_ret
    exact ⟨ret_bool (by rw [hV.out]), (Below.refl _ _).alloc (Nat.le_refl _) _⟩

set_option maxHeartbeats 400000 in
theorem c59 (c : Int) (s : ByteArray) (w : World) :
    Calls Tryd.prog 59 #[.agg #[.int .i64 c, .string s]] w fun e w' => e = .returned (.agg #[.int .i64 c, .string s]) ∧ Below w.heap.size w w' := by
  go_enter Tryd.func59, Tryd.ntmps59
  go_wp2
  refine bodyPost_ret (v := .agg #[.int .i64 c, .string s]) (by simp [results, Tryd.results59, go_sem]) rfl ⟨rfl, ?_⟩
  exact (((Below.refl _ _).alloc (Nat.le_refl _) _).alloc (by simp) _).alloc (by simp; omega) _


end Go.Proofs.YtignmnbgedmfbaaDoor

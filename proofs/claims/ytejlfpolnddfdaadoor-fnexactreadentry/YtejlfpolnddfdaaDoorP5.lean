import Derived.Test.YtejlfpolnddfdaaDoorP3
import Derived.Test.YtejlfpolnddfdaaDoorPM
namespace Go.Proofs.YtejlfpolnddfdaaDoor
open Go.RowKit

theorem all_take_snoc (p : UInt8 → Bool) (s : ByteArray) (k : Nat) (h : k < s.size) (ha : (s.data.toList.take k).all p = true) (hp : p s[k] = true) : (s.data.toList.take (k + 1)).all p = true := by
  rw [take_snoc s k h, List.all_append, ha]; simpa using hp
theorem all_false_at (p : UInt8 → Bool) (s : ByteArray) (k : Nat) (h : k < s.size) (hp : p s[k] = false) : s.data.toList.all p = false := by
  rw [List.all_eq_false]
  exact ⟨s[k], by simp [ByteArray.getElem_eq_getElem_data], by simp [hp]⟩
theorem all_take_size (p : UInt8 → Bool) (s : ByteArray) (k : Nat) (h : s.size ≤ k) (ha : (s.data.toList.take k).all p = true) : s.data.toList.all p = true := by
  rwa [List.take_of_length_le (by simpa using h)] at ha
def ofL (l : List UInt8) : ByteArray := ⟨l.toArray⟩
theorem ofL_size (l : List UInt8) : (ofL l).size = l.length := by simp [ofL, ByteArray.size]
set_option maxHeartbeats 400000 in
theorem c27 (n l h : Int) (w : World) :
    Calls Tryd.prog 27 #[.int .i64 n, .int .i64 l, .int .i64 h] w fun e w' => e = .returned (.bool (decide (l ≤ n ∧ n ≤ h))) ∧ w' = w := by
  by_cases h1 : l ≤ n <;> by_cases h2 : n ≤ h
  all_goals
    go_enter Tryd.func27, Tryd.ntmps27
    go_wp2
    all_goals go_ret
    all_goals exact ⟨by simp [*], rfl⟩
theorem cat_ofL (a b : List UInt8) : ofL a ++ ofL b = ofL (a ++ b) := by apply ByteArray.ext; simp [ofL]
theorem one_ofL (c : UInt8) : (⟨#[c]⟩ : ByteArray) = ofL [c] := rfl
theorem nil_ofL : (⟨#[]⟩ : ByteArray) = ofL [] := rfl
theorem name_short (s : ByteArray) (h : ¬ (1 ≤ s.size ∧ s.size ≤ 20)) : nameOk s.data.toList = false := by
  unfold nameOk
  have : (decide (1 ≤ s.data.toList.length ∧ s.data.toList.length ≤ 20)) = false := by
    simp only [decide_eq_false_iff_not]; simpa using h
  rw [this]; rfl
theorem name_long (s : ByteArray) (h : 1 ≤ s.size ∧ s.size ≤ 20) : nameOk s.data.toList = s.data.toList.all isGraph := by
  unfold nameOk
  have : (decide (1 ≤ s.data.toList.length ∧ s.data.toList.length ≤ 20)) = true := by
    simp only [decide_eq_true_eq]; simpa using h
  rw [this]; rfl
set_option maxHeartbeats 400000 in
theorem c75 (s : ByteArray) (w : World) (hs : s.size ≤ 1048700) :
    Calls Tryd.prog 75 #[.string s] w fun e w' => e = .returned (.bool (nameOk s.data.toList)) ∧ w' = w := by
  by_cases h : 1 ≤ s.size ∧ s.size ≤ 20
  · have hN : Hid (nameOk s.data.toList = s.data.toList.all isGraph) := name_long s h
    obtain ⟨h1, h2⟩ := h
    go_enter Tryd.func75, Tryd.ntmps75
    go_wp2
    go_loop [14] (fun i => ∃ k : Nat, k ≤ s.size ∧ i = .int .i64 k ∧ Hid ((s.data.toList.take k).all isGraph = true)) (fun i => s.size - (intOf i).toNat)
    case atStart => exact ⟨0, Nat.zero_le _, rfl, rfl⟩
    case round =>
      obtain ⟨k, hk, rfl, ha⟩ := hrel
      by_cases hlt : k < s.size
      · by_cases hg : isGraph s[k] = true
        · have hg' := (graph_iff _).1 hg
          have hn := Hid.out ha
          have ha' : Hid ((s.data.toList.take (k + 1)).all isGraph = true) := all_take_snoc _ s k hlt ha.out hg
          clear hg hn
          go_wp2
          go_round
          case rel => exact ⟨k + 1, by omega, by go_num, ha'⟩
          case measure => simp [intOf]; omega
        · have hf : Hid (s.data.toList.all isGraph = false) := all_false_at _ s k hlt (by simpa using hg)
          have hg' : (s[k].toNat : Int) < 33 ∨ 126 < (s[k].toNat : Int) := by
            rcases Int.lt_or_le (s[k].toNat : Int) 33 with h | h
            · exact .inl h
            · rcases Int.lt_or_le 126 (s[k].toNat : Int) with h' | h'
              · exact .inr h'
              · exact absurd ((graph_iff _).2 ⟨h, h'⟩) hg
          clear hg
          rcases hg' with hg | hg
          all_goals
            go_wp2
            all_goals go_ret
            all_goals exact ⟨ret_bool (by rw [hN.out, hf.out]), rfl⟩
      · go_wp2
        go_ret
        exact ⟨ret_bool (by rw [hN.out, all_take_size _ s k (by omega) ha.out]), rfl⟩
  · have hN : Hid (nameOk s.data.toList = false) := name_short s h
    by_cases h1 : 1 ≤ s.size
    all_goals
      go_enter Tryd.func75, Tryd.ntmps75
      go_wp2
      all_goals go_ret
      all_goals exact ⟨ret_bool (by rw [hN.out]), rfl⟩
set_option maxHeartbeats 400000 in
theorem c30 (s : ByteArray) (w : World) (hs : s.size ≤ 1048700) :
    Calls Tryd.prog 30 #[.string s] w fun e w' => e = .returned (.bool (nameOk s.data.toList)) ∧ w' = w := by
  by_cases h : 1 ≤ s.size ∧ s.size ≤ 20
  · have hN : Hid (nameOk s.data.toList = s.data.toList.all isGraph) := name_long s h
    have hd : decide ((1 : Int) ≤ (s.size : Int) ∧ (s.size : Int) ≤ 20) = true := by simp; omega
    go_enter Tryd.func30, Tryd.ntmps30
    go_wp2_with fail
    refine (c27 _ _ _ _).mono ?_
    rintro e w' ⟨rfl, rfl⟩
    rw [hd]
    go_wp2
    go_loop [3] (fun i => ∃ k : Nat, k ≤ s.size ∧ i = .int .i64 k ∧ Hid ((s.data.toList.take k).all isGraph = true)) (fun i => s.size - (intOf i).toNat)
    case atStart => exact ⟨0, Nat.zero_le _, rfl, rfl⟩
    case round =>
      obtain ⟨k, hk, rfl, ha⟩ := hrel
      by_cases hlt : k < s.size
      · by_cases hg : isGraph s[k] = true
        · have hg' := (graph_iff _).1 hg
          have ha' : Hid ((s.data.toList.take (k + 1)).all isGraph = true) := all_take_snoc _ s k hlt ha.out hg
          clear hg
          go_wp2
          go_round
          case rel => exact ⟨k + 1, by omega, by go_num, ha'⟩
          case measure => simp [intOf]; omega
        · have hf : Hid (s.data.toList.all isGraph = false) := all_false_at _ s k hlt (by simpa using hg)
          have hg' : (s[k].toNat : Int) < 33 ∨ 126 < (s[k].toNat : Int) := by
            rcases Int.lt_or_le (s[k].toNat : Int) 33 with h | h
            · exact .inl h
            · rcases Int.lt_or_le 126 (s[k].toNat : Int) with h' | h'
              · exact .inr h'
              · exact absurd ((graph_iff _).2 ⟨h, h'⟩) hg
          clear hg
          rcases hg' with hg | hg
          all_goals
            go_wp2
            all_goals go_ret
            all_goals exact ⟨ret_bool (by rw [hN.out, hf.out]), rfl⟩
      · go_wp2
        go_ret
        exact ⟨ret_bool (by rw [hN.out, all_take_size _ s k (by omega) ha.out]), rfl⟩
  · have hN : Hid (nameOk s.data.toList = false) := name_short s h
    have hd : decide ((1 : Int) ≤ (s.size : Int) ∧ (s.size : Int) ≤ 20) = false := by simp only [decide_eq_false_iff_not]; omega
    go_enter Tryd.func30, Tryd.ntmps30
    go_wp2_with fail
    refine (c27 _ _ _ _).mono ?_
    rintro e w' ⟨rfl, rfl⟩
    rw [hd]
    go_wp2
    go_ret
    exact ⟨ret_bool (by rw [hN.out]), rfl⟩
end Go.Proofs.YtejlfpolnddfdaaDoor

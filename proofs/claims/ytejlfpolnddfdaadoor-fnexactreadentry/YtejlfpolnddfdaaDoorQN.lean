import Derived.Test.YtejlfpolnddfdaaDoorQG
import Derived.Test.YtejlfpolnddfdaaDoorB6
namespace Go.Proofs.YtejlfpolnddfdaaDoor
open Go.RowKit
/-- the decimal from 0 to the most -/
def numM (M : Int) (l : List UInt8) : Bool := lean1 l && l.all isDig && decide (val l ≤ M)
/-- what a decimal from 0 to the most comes to -/
def rnM (M : Int) (l : List UInt8) : Int := if numM M l = true then val l else 0

theorem nM_lean {M : Int} {l : List UInt8} (h : lean1 l = false) : numM M l = false := by simp [numM, h]
theorem nM_dig {M : Int} {l : List UInt8} (h : l.all isDig = false) : numM M l = false := by simp only [numM, h, Bool.and_false, Bool.false_and]
theorem nM_big {M : Int} {l : List UInt8} (k : Nat) (h : M < val (l.take k)) : numM M l = false := by
  by_cases ha : l.all isDig = true
  · have := val_take_le l ha k
    have hd : decide (val l ≤ M) = false := by simp only [decide_eq_false_iff_not]; omega
    simp only [numM, hd, Bool.and_false]
  · exact nM_dig (by simpa using ha)
theorem nM_yes {M : Int} {l : List UInt8} (h1 : lean1 l = true) (h2 : l.all isDig = true) (h3 : val l ≤ M) : numM M l = true := by
  have hd : decide (val l ≤ M) = true := by simpa using h3
  simp only [numM, h1, h2, hd, Bool.and_self]
theorem rnM_no {M : Int} {l : List UInt8} (h : numM M l = false) : rnM M l = 0 := by simp [rnM, h]
theorem rnM_yes {M : Int} {l : List UInt8} (h : numM M l = true) : rnM M l = val l := by simp [rnM, h]
set_option maxHeartbeats 400000 in
theorem c45m (M : Int) (s : ByteArray) (w : World) (hs : s.size ≤ 1048700) (hM0 : 0 ≤ M) (hM1 : M ≤ 100000) :
    Calls Tryd.prog 45 #[.string s, .int .i64 M] w fun e w' => e = .returned (.tuple #[.int .i64 (rnM M s.data.toList), .bool (numM M s.data.toList)]) ∧ w' = w := by
  by_cases h0 : s.size = 0
  · have e0 : s.toList = [] := by
      rw [ByteArray.toList_eq]
      exact List.length_eq_zero_iff.1 (by simpa using h0)
    have hN : Hid (numM M s.data.toList = false) := nM_lean (by rw [← ByteArray.toList_eq, e0]; rfl)
    go_enter Tryd.func45, Tryd.ntmps45
    go_wp2
    go_ret2
    exact ⟨ret_pair (rnM_no hN.out).symm hN.out.symm, rfl⟩
  · have e0 : s.toList.isEmpty = false := by rw [ByteArray.toList_eq]; exact str_isEmpty s (by omega)
    have e1 : ¬ s.toList = [] := fun h => by rw [h] at e0; cases e0
    have hp : 0 < s.size := by omega
    have hh := head_zero s hp
    by_cases hl : lean1 s.data.toList = true
    · have HL : Hid (lean1 s.data.toList = true) := hl
      have hc : (s[0].toNat = 48 ∧ s.toList = [48]) ∨ ((s[0].toNat : Int) == 48) = false := by
        by_cases h48 : s[0].toNat = 48
        · refine .inl ⟨h48, ?_⟩
          have h1 : s[0] = 48 := UInt8.toNat_inj.1 h48
          rw [ByteArray.toList_eq]
          exact ((lean1_iff _).1 hl).2 (by rw [hh]; exact h1)
        · exact .inr (by simp; omega)
      clear hl hh
      rcases hc with ⟨h48, hz⟩ | h48
      all_goals
        go_enter Tryd.func45, Tryd.ntmps45
        go_wp2
        go_loop [6, 21] (fun n i => ∃ k : Nat, k ≤ s.size ∧ i = .int .i64 k ∧ n = .int .i64 (val (s.data.toList.take k)) ∧ 0 ≤ val (s.data.toList.take k) ∧ val (s.data.toList.take k) ≤ M ∧ Hid ((s.data.toList.take k).all isDig = true)) (fun _ i => s.size - (intOf i).toNat)
        case atStart => exact ⟨0, Nat.zero_le _, rfl, rfl, by simp [val], by simpa [val] using hM0, rfl⟩
        case round =>
          obtain ⟨k, hk, rfl, rfl, hv0, hv1, ha⟩ := hrel
          by_cases hlt : k < s.size
          · by_cases hg : isDig s[k] = true
            · have hg' := (dig_iff _).1 hg
              have hw := byte_sub _ hg'
              have ha' : Hid ((s.data.toList.take (k + 1)).all isDig = true) := all_take_snoc _ s k hlt ha.out hg
              have hvs : Hid (val (s.data.toList.take (k + 1)) = val (s.data.toList.take k) * 10 + ((s[k].toNat : Int) - 48)) := by
                rw [take_snoc s k hlt]; exact val_snoc _ _
              clear hg
              by_cases hb : M < val (s.data.toList.take k) * 10 + ((s[k].toNat : Int) - 48)
              · have hN : Hid (numM M s.data.toList = false) := nM_big (k + 1) (by rw [hvs.out]; exact hb)
                go_wp2
                go_ret2
                exact ⟨ret_pair (rnM_no hN.out).symm hN.out.symm, rfl⟩
              · go_wp2
                go_round
                case rel => exact ⟨k + 1, by omega, by go_num, by rw [hvs.out], by rw [hvs.out]; omega, by rw [hvs.out]; omega, ha'⟩
                case measure => simp [intOf]; omega
            · have hN : Hid (numM M s.data.toList = false) := nM_dig (all_false_at _ s k hlt (by simpa using hg))
              have hg' : (s[k].toNat : Int) < 48 ∨ 57 < (s[k].toNat : Int) := by
                rcases Int.lt_or_le (s[k].toNat : Int) 48 with h | h
                · exact .inl h
                · rcases Int.lt_or_le 57 (s[k].toNat : Int) with h' | h'
                  · exact .inr h'
                  · exact absurd ((dig_iff _).2 ⟨h, h'⟩) hg
              clear hg
              rcases hg' with hg | hg
              all_goals
                go_wp2
                all_goals go_ret2
                all_goals exact ⟨ret_pair (rnM_no hN.out).symm hN.out.symm, rfl⟩
          · have hall := all_take_size _ s k (by omega) ha.out
            have hE : s.data.toList.take k = s.data.toList := List.take_of_length_le (by simp; omega)
            have hN : Hid (numM M s.data.toList = true) := nM_yes HL.out hall (by rw [← hE]; exact hv1)
            have HE : Hid (s.data.toList.take k = s.data.toList) := hE
            clear hall hE
            go_wp2
            go_ret2
            exact ⟨ret_pair (by rw [rnM_yes hN.out, HE.out]) hN.out.symm, rfl⟩
    · have hN : Hid (numM M s.data.toList = false) := nM_lean (by simpa using hl)
      have h48 : s[0].toNat = 48 ∧ ¬ s.toList = [48] := by
        rw [ByteArray.toList_eq] at e1 ⊢
        rw [lean1_iff, hh] at hl
        by_cases h1 : s[0] = 48
        · refine ⟨by rw [h1]; rfl, fun hz => hl ⟨e1, fun _ => hz⟩⟩
        · exact absurd ⟨e1, fun h => absurd h h1⟩ hl
      obtain ⟨h48, hz⟩ := h48
      have hz' : (!s.toList == [48]) = true := by simpa using hz
      clear hh hl
      go_enter Tryd.func45, Tryd.ntmps45
      go_wp2
      go_ret2
      exact ⟨ret_pair (rnM_no hN.out).symm hN.out.symm, rfl⟩

end Go.Proofs.YtejlfpolnddfdaaDoor

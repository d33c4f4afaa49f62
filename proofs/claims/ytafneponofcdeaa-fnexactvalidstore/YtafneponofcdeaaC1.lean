import Derived.Test.YtafneponofcdeaaB6
import Derived.Test.YtafneponofcdeaaSH
import Derived.Lib.IndexLaws
namespace Go.Proofs.Ytafneponofcdeaa
open Go.RowKit

/-- the decimal from 0 to 7 -/
def num7 (l : List UInt8) : Bool := lean1 l && l.all isDig && decide (val l ≤ 7)
/-- what a decimal from 0 to 7 comes to -/
def rn7 (l : List UInt8) : Int := if num7 l = true then val l else 0

theorem n7_lean {l : List UInt8} (h : lean1 l = false) : num7 l = false := by simp [num7, h]
theorem n7_dig {l : List UInt8} (h : l.all isDig = false) : num7 l = false := by simp only [num7, h, Bool.and_false, Bool.false_and]
theorem n7_big {l : List UInt8} (k : Nat) (h : 7 < val (l.take k)) : num7 l = false := by
  by_cases ha : l.all isDig = true
  · have := val_take_le l ha k
    have hd : decide (val l ≤ 7) = false := by simp only [decide_eq_false_iff_not]; omega
    simp only [num7, hd, Bool.and_false]
  · exact n7_dig (by simpa using ha)
theorem n7_yes {l : List UInt8} (h1 : lean1 l = true) (h2 : l.all isDig = true) (h3 : val l ≤ 7) : num7 l = true := by
  have hd : decide (val l ≤ 7) = true := by simpa using h3
  simp only [num7, h1, h2, hd, Bool.and_self]
theorem rn7_no {l : List UInt8} (h : num7 l = false) : rn7 l = 0 := by simp [rn7, h]
theorem rn7_yes {l : List UInt8} (h : num7 l = true) : rn7 l = val l := by simp [rn7, h]
set_option maxHeartbeats 400000 in
theorem c15s (s : ByteArray) (w : World) (hs : s.size ≤ 1048700) :
    Calls Try.prog 15 #[.string s, .int .i64 7] w fun e w' => e = .returned (.tuple #[.int .i64 (rn7 s.data.toList), .bool (num7 s.data.toList)]) ∧ w' = w := by
  by_cases h0 : s.size = 0
  · have e0 : s.toList = [] := by
      rw [ByteArray.toList_eq]
      exact List.length_eq_zero_iff.1 (by simpa using h0)
    have hN : Hid (num7 s.data.toList = false) := n7_lean (by rw [← ByteArray.toList_eq, e0]; rfl)
    go_enter Try.func15, Try.ntmps15
    go_wp2
    go_ret2
    exact ⟨ret_pair (rn7_no hN.out).symm hN.out.symm, rfl⟩
  · have e0 : s.toList.isEmpty = false := by rw [ByteArray.toList_eq]; exact str_isEmpty s (by omega)
    have e1 : ¬ s.toList = [] := fun h => by rw [h] at e0; cases e0
    have hp : 0 < s.size := by omega
    have hh := head_zero s hp
    by_cases hl : lean1 s.data.toList = true
    · have HL : Hid (lean1 s.data.toList = true) := hl
      have hc : (s[0].toNat = 48 ∧ s.toList = [48]) ∨ ((s[0].toNat : Int) == 48) = false := by
        by_cases h48 : s[0].toNat = 48
        · refine .inl ⟨h48, ?_⟩
          have h1 : s[0] = 48 := UInt8.toNat_inj.1 h48
          rw [ByteArray.toList_eq]
          exact ((lean1_iff _).1 hl).2 (by rw [hh]; exact h1)
        · exact .inr (by simp; omega)
      clear hl hh
      rcases hc with ⟨h48, hz⟩ | h48
      all_goals
        go_enter Try.func15, Try.ntmps15
        go_wp2
        go_loop [6, 21] (fun n i => ∃ k : Nat, k ≤ s.size ∧ i = .int .i64 k ∧ n = .int .i64 (val (s.data.toList.take k)) ∧ 0 ≤ val (s.data.toList.take k) ∧ val (s.data.toList.take k) ≤ 7 ∧ Hid ((s.data.toList.take k).all isDig = true)) (fun _ i => s.size - (intOf i).toNat)
        case atStart => exact ⟨0, Nat.zero_le _, rfl, rfl, by simp [val], by simp [val], rfl⟩
        case round =>
          obtain ⟨k, hk, rfl, rfl, hv0, hv1, ha⟩ := hrel
          by_cases hlt : k < s.size
          · by_cases hg : isDig s[k] = true
            · have hg' := (dig_iff _).1 hg
              have hw := byte_sub _ hg'
              have ha' : Hid ((s.data.toList.take (k + 1)).all isDig = true) := all_take_snoc _ s k hlt ha.out hg
              have hvs : Hid (val (s.data.toList.take (k + 1)) = val (s.data.toList.take k) * 10 + ((s[k].toNat : Int) - 48)) := by
                rw [take_snoc s k hlt]; exact val_snoc _ _
              clear hg
              by_cases hb : 7 < val (s.data.toList.take k) * 10 + ((s[k].toNat : Int) - 48)
              · have hN : Hid (num7 s.data.toList = false) := n7_big (k + 1) (by rw [hvs.out]; exact hb)
                go_wp2
                go_ret2
                exact ⟨ret_pair (rn7_no hN.out).symm hN.out.symm, rfl⟩
              · go_wp2
                go_round
                case rel => exact ⟨k + 1, by omega, by go_num, by rw [hvs.out], by rw [hvs.out]; omega, by rw [hvs.out]; omega, ha'⟩
                case measure => simp [intOf]; omega
            · have hN : Hid (num7 s.data.toList = false) := n7_dig (all_false_at _ s k hlt (by simpa using hg))
              have hg' : (s[k].toNat : Int) < 48 ∨ 57 < (s[k].toNat : Int) := by
                rcases Int.lt_or_le (s[k].toNat : Int) 48 with h | h
                · exact .inl h
                · rcases Int.lt_or_le 57 (s[k].toNat : Int) with h' | h'
                  · exact .inr h'
                  · exact absurd ((dig_iff _).2 ⟨h, h'⟩) hg
              clear hg
              rcases hg' with hg | hg
              all_goals
                go_wp2
                all_goals go_ret2
                all_goals exact ⟨ret_pair (rn7_no hN.out).symm hN.out.symm, rfl⟩
          · have hall := all_take_size _ s k (by omega) ha.out
            have hE : s.data.toList.take k = s.data.toList := List.take_of_length_le (by simp; omega)
            have hN : Hid (num7 s.data.toList = true) := n7_yes HL.out hall (by rw [← hE]; exact hv1)
            have HE : Hid (s.data.toList.take k = s.data.toList) := hE
            clear hall hE
            go_wp2
            go_ret2
            exact ⟨ret_pair (by rw [rn7_yes hN.out, HE.out]) hN.out.symm, rfl⟩
    · have hN : Hid (num7 s.data.toList = false) := n7_lean (by simpa using hl)
      have h48 : s[0].toNat = 48 ∧ ¬ s.toList = [48] := by
        rw [ByteArray.toList_eq] at e1 ⊢
        rw [lean1_iff, hh] at hl
        by_cases h1 : s[0] = 48
        · refine ⟨by rw [h1]; rfl, fun hz => hl ⟨e1, fun _ => hz⟩⟩
        · exact absurd ⟨e1, fun h => absurd h h1⟩ hl
      obtain ⟨h48, hz⟩ := h48
      have hz' : (!s.toList == [48]) = true := by simpa using hz
      clear hh hl
      go_enter Try.func15, Try.ntmps15
      go_wp2
      go_ret2
      exact ⟨ret_pair (rn7_no hN.out).symm hN.out.symm, rfl⟩

/-- A text cut at its first colon. -/
theorem cut_58 (l : List UInt8) : ((Lib.cut l [58]).2.2 = true ∧ l = (Lib.cut l [58]).1 ++ 58 :: (Lib.cut l [58]).2.1 ∧ (58 : UInt8) ∉ (Lib.cut l [58]).1) ∨ ((Lib.cut l [58]).2.2 = false ∧ (Lib.cut l [58]).1 = l ∧ (58 : UInt8) ∉ l) := by
  unfold Lib.cut
  rw [Lib.index_one]
  have hge := Lib.indexByte_ge l 58
  by_cases h : Lib.indexByte l 58 = -1
  · rw [h, if_neg (by omega)]
    refine .inr ⟨rfl, rfl, fun hm => ?_⟩
    obtain ⟨k, hk, e⟩ := List.getElem_of_mem hm
    exact Lib.indexByte_none h k (by rw [List.getElem?_eq_getElem hk, e])
  · obtain ⟨o, ho⟩ : ∃ o : Nat, Lib.indexByte l 58 = o := ⟨(Lib.indexByte l 58).toNat, by omega⟩
    obtain ⟨h1, h2⟩ := Lib.indexByte_some ho
    have hl : o < l.length := by
      rcases Nat.lt_or_ge o l.length with h | h
      · exact h
      · rw [List.getElem?_eq_none h] at h1; cases h1
    rw [ho, if_pos (by omega)]
    refine .inl ⟨rfl, ?_, fun hm => ?_⟩
    · simp only [Int.toNat_natCast, List.length_singleton]
      have hx : l[o] = 58 := by rw [List.getElem?_eq_getElem hl] at h1; exact Option.some.inj h1
      conv => lhs; rw [← List.take_append_drop o l, List.drop_eq_getElem_cons hl, hx]
    · simp only [Int.toNat_natCast] at hm
      obtain ⟨k, hk, e⟩ := List.getElem_of_mem hm
      rw [List.length_take] at hk
      rw [List.getElem_take] at e
      exact h2 k (by omega) (by rw [List.getElem?_eq_getElem (by omega), e])

/-- The variable that strings' search looks at. -/
def MaxAt (w : World) : Prop := 0 < w.heap.size ∧ ∃ m, w.cell? ⟨0, 0, none⟩ = some (.int .i64 m)
theorem max_below {w w' : World} (h : MaxAt w) (hb : Below w.heap.size w w') : MaxAt w' := by
  obtain ⟨h1, m, hm⟩ := h
  exact ⟨Nat.lt_of_lt_of_le h1 hb.size, m, by rw [hb.cell (by exact h1)]; exact hm⟩
theorem below_drewN {w : World} (n : Nat) : Below w.heap.size w (w.drewN n) := ⟨rfl, rfl, rfl, Nat.le_refl _, fun _ _ => rfl⟩

theorem c14w (l : List UInt8) (w : World) (hs : l.length ≤ 1048700) (hm : MaxAt w) :
    Calls Try.prog 14 #[.string (ofL l), .string ⟨#[58]⟩] w fun e w' => e = .returned (.tuple #[.string (ofL (Lib.cut l [58]).1), .string (ofL (Lib.cut l [58]).2.1), .bool (Lib.cut l [58]).2.2]) ∧ Below w.heap.size w w' := by
  obtain ⟨_, m, hm⟩ := hm
  refine (Try.strings_Cut (ofL l) ⟨#[58]⟩ m w (by rw [ofL_size]; omega) hm).mono ?_
  rintro e w' ⟨rfl, n, rfl⟩
  exact ⟨rfl, below_drewN n⟩
end Go.Proofs.Ytafneponofcdeaa

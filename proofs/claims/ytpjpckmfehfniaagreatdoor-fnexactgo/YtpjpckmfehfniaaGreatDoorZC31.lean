import Derived.Test.YtpjpckmfehfniaaGreatDoorZC30
namespace Go.Proofs.YtpjpckmfehfniaaGreatDoor.M
open Go.RowKit

theorem all_take_snoc (p : UInt8 → Bool) (s : ByteArray) (k : Nat) (h : k < s.size) (ha : (s.data.toList.take k).all p = true) (hp : p s[k] = true) : (s.data.toList.take (k + 1)).all p = true := by
  rw [take_snoc s k h, List.all_append, ha]; simpa using hp
theorem all_false_at (p : UInt8 → Bool) (s : ByteArray) (k : Nat) (h : k < s.size) (hp : p s[k] = false) : s.data.toList.all p = false := by
  rw [List.all_eq_false]
  exact ⟨s[k], by simp [ByteArray.getElem_eq_getElem_data], by simp [hp]⟩
theorem all_take_size (p : UInt8 → Bool) (s : ByteArray) (k : Nat) (h : s.size ≤ k) (ha : (s.data.toList.take k).all p = true) : s.data.toList.all p = true := by
  rwa [List.take_of_length_le (by simpa using h)] at ha
def ofL (l : List UInt8) : ByteArray := ⟨l.toArray⟩
theorem ofL_size (l : List UInt8) : (ofL l).size = l.length := by simp [ofL, ByteArray.size]
set_option maxHeartbeats 400000 in
theorem c67 (n l h : Int) (w : World) :
    Calls Tryz.prog 67 #[.int .i64 n, .int .i64 l, .int .i64 h] w fun e w' => e = .returned (.bool (decide (l ≤ n ∧ n ≤ h))) ∧ w' = w := by
  by_cases h1 : l ≤ n <;> by_cases h2 : n ≤ h
  all_goals
    go_enter Tryz.func67, Tryz.ntmps67
    go_wp2
    all_goals go_ret
    all_goals exact ⟨by simp [*], rfl⟩
theorem cat_ofL (a b : List UInt8) : ofL a ++ ofL b = ofL (a ++ b) := by apply ByteArray.ext; simp [ofL]
theorem one_ofL (c : UInt8) : (⟨#[c]⟩ : ByteArray) = ofL [c] := rfl
theorem nil_ofL : (⟨#[]⟩ : ByteArray) = ofL [] := rfl
theorem name_short (s : ByteArray) (h : ¬ (1 ≤ s.size ∧ s.size ≤ 20)) : nameOk s.data.toList = false := by
  unfold nameOk
  have : (decide (1 ≤ s.data.toList.length ∧ s.data.toList.length ≤ 20)) = false := by
    simp only [decide_eq_false_iff_not]; simpa using h
  rw [this]; rfl
theorem name_long (s : ByteArray) (h : 1 ≤ s.size ∧ s.size ≤ 20) : nameOk s.data.toList = s.data.toList.all isGraph := by
  unfold nameOk
  have : (decide (1 ≤ s.data.toList.length ∧ s.data.toList.length ≤ 20)) = true := by
    simp only [decide_eq_true_eq]; simpa using h
  rw [this]; rfl
set_option maxHeartbeats 400000 in
theorem c87 (s : ByteArray) (w : World) (hs : s.size ≤ 1048700) :
    Calls Tryz.prog 87 #[.string s] w fun e w' => e = .returned (.bool (nameOk s.data.toList)) ∧ w' = w := by
  by_cases h : 1 ≤ s.size ∧ s.size ≤ 20
  · have hN : Hid (nameOk s.data.toList = s.data.toList.all isGraph) := name_long s h
    obtain ⟨h1, h2⟩ := h
    go_enter Tryz.func87, Tryz.ntmps87
    go_wp2
    go_loop [14] (fun i => ∃ k : Nat, k ≤ s.size ∧ i = .int .i64 k ∧ Hid ((s.data.toList.take k).all isGraph = true)) (fun i => s.size - (intOf i).toNat)
    case atStart => exact ⟨0, Nat.zero_le _, rfl, rfl⟩
    case round =>
      obtain ⟨k, hk, rfl, ha⟩ := hrel
      by_cases hlt : k < s.size
      · by_cases hg : isGraph s[k] = true
        · have hg' := (graph_iff _).1 hg
          have hn := Hid.out ha
          have ha' : Hid ((s.data.toList.take (k + 1)).all isGraph = true) := all_take_snoc _ s k hlt ha.out hg
          clear hg hn
          go_wp2
          go_round
          case rel => exact ⟨k + 1, by omega, by go_num, ha'⟩
          case measure => simp [intOf]; omega
        · have hf : Hid (s.data.toList.all isGraph = false) := all_false_at _ s k hlt (by simpa using hg)
          have hg' : (s[k].toNat : Int) < 33 ∨ 126 < (s[k].toNat : Int) := by
            rcases Int.lt_or_le (s[k].toNat : Int) 33 with h | h
            · exact .inl h
            · rcases Int.lt_or_le 126 (s[k].toNat : Int) with h' | h'
              · exact .inr h'
              · exact absurd ((graph_iff _).2 ⟨h, h'⟩) hg
          clear hg
          rcases hg' with hg | hg
          all_goals
            go_wp2
            all_goals go_ret
            all_goals exact ⟨ret_bool (by rw [hN.out, hf.out]), rfl⟩
      · go_wp2
        go_ret
        exact ⟨ret_bool (by rw [hN.out, all_take_size _ s k (by omega) ha.out]), rfl⟩
  · have hN : Hid (nameOk s.data.toList = false) := name_short s h
    by_cases h1 : 1 ≤ s.size
    all_goals
      go_enter Tryz.func87, Tryz.ntmps87
      go_wp2
      all_goals go_ret
      all_goals exact ⟨ret_bool (by rw [hN.out]), rfl⟩
set_option maxHeartbeats 400000 in
theorem c73 (s : ByteArray) (w : World) (hs : s.size ≤ 1048700) :
    Calls Tryz.prog 73 #[.string s] w fun e w' => e = .returned (.bool (nameOk s.data.toList)) ∧ w' = w := by
  by_cases h : 1 ≤ s.size ∧ s.size ≤ 20
  · have hN : Hid (nameOk s.data.toList = s.data.toList.all isGraph) := name_long s h
    have hd : decide ((1 : Int) ≤ (s.size : Int) ∧ (s.size : Int) ≤ 20) = true := by simp; omega
    go_enter Tryz.func73, Tryz.ntmps73
    go_wp2_with fail
    refine (c67 _ _ _ _).mono ?_
    rintro e w' ⟨rfl, rfl⟩
    rw [hd]
    go_wp2
    go_loop [3] (fun i => ∃ k : Nat, k ≤ s.size ∧ i = .int .i64 k ∧ Hid ((s.data.toList.take k).all isGraph = true)) (fun i => s.size - (intOf i).toNat)
    case atStart => exact ⟨0, Nat.zero_le _, rfl, rfl⟩
    case round =>
      obtain ⟨k, hk, rfl, ha⟩ := hrel
      by_cases hlt : k < s.size
      · by_cases hg : isGraph s[k] = true
        · have hg' := (graph_iff _).1 hg
          have ha' : Hid ((s.data.toList.take (k + 1)).all isGraph = true) := all_take_snoc _ s k hlt ha.out hg
          clear hg
          go_wp2
          go_round
          case rel => exact ⟨k + 1, by omega, by go_num, ha'⟩
          case measure => simp [intOf]; omega
        · have hf : Hid (s.data.toList.all isGraph = false) := all_false_at _ s k hlt (by simpa using hg)
          have hg' : (s[k].toNat : Int) < 33 ∨ 126 < (s[k].toNat : Int) := by
            rcases Int.lt_or_le (s[k].toNat : Int) 33 with h | h
            · exact .inl h
            · rcases Int.lt_or_le 126 (s[k].toNat : Int) with h' | h'
              · exact .inr h'
              · exact absurd ((graph_iff _).2 ⟨h, h'⟩) hg
          clear hg
          rcases hg' with hg | hg
          all_goals
            go_wp2
            all_goals go_ret
            all_goals exact ⟨ret_bool (by rw [hN.out, hf.out]), rfl⟩
      · go_wp2
        go_ret
        exact ⟨ret_bool (by rw [hN.out, all_take_size _ s k (by omega) ha.out]), rfl⟩
  · have hN : Hid (nameOk s.data.toList = false) := name_short s h
    have hd : decide ((1 : Int) ≤ (s.size : Int) ∧ (s.size : Int) ≤ 20) = false := by simp only [decide_eq_false_iff_not]; omega
    go_enter Tryz.func73, Tryz.ntmps73
    go_wp2_with fail
    refine (c67 _ _ _ _).mono ?_
    rintro e w' ⟨rfl, rfl⟩
    rw [hd]
    go_wp2
    go_ret
    exact ⟨ret_bool (by rw [hN.out]), rfl⟩
end Go.Proofs.YtpjpckmfehfniaaGreatDoor.M
namespace Go.Proofs.YtpjpckmfehfniaaGreatDoor.M
open Go.RowKit

theorem str_isEmpty (s : ByteArray) (h : 1 ≤ s.size) : s.data.toList.isEmpty = false := by
  cases hl : s.data.toList with
  | nil => have : s.data.toList.length = s.size := by simp
           rw [hl] at this; simp at this; omega
  | cons a r => rfl
theorem ret_pair {a b : Int} {x y : Bool} (h : a = b) (h' : x = y) : Ending.returned (.tuple #[.int .i64 a, .bool x]) = .returned (.tuple #[.int .i64 b, .bool y]) := by rw [h, h']

/-- what a decimal from 0 to 40 comes to -/
def rn40 (l : List UInt8) : Int := if num40 l = true then val l else 0

theorem lean1_iff (l : List UInt8) : lean1 l = true ↔ l ≠ [] ∧ (l.headD 0 = 48 → l = [48]) := by
  cases l with
  | nil => simp [lean1]
  | cons a r =>
    by_cases h : a = 48
    · simp [lean1, h]
    · simp [lean1, h]
theorem n40_lean {l : List UInt8} (h : lean1 l = false) : num40 l = false := by simp [num40, h]
theorem n40_dig {l : List UInt8} (h : l.all isDig = false) : num40 l = false := by simp only [num40, h, Bool.and_false, Bool.false_and]
theorem n40_big {l : List UInt8} (k : Nat) (h : 40 < val (l.take k)) : num40 l = false := by
  by_cases ha : l.all isDig = true
  · have := val_take_le l ha k
    have hd : decide (val l ≤ 40) = false := by simp only [decide_eq_false_iff_not]; omega
    simp only [num40, hd, Bool.and_false]
  · exact n40_dig (by simpa using ha)
theorem n40_yes {l : List UInt8} (h1 : lean1 l = true) (h2 : l.all isDig = true) (h3 : val l ≤ 40) : num40 l = true := by
  have hd : decide (val l ≤ 40) = true := by simpa using h3
  simp only [num40, h1, h2, hd, Bool.and_self]
theorem rn_no {l : List UInt8} (h : num40 l = false) : rn40 l = 0 := by simp [rn40, h]
theorem rn_yes {l : List UInt8} (h : num40 l = true) : rn40 l = val l := by simp [rn40, h]
theorem head_zero (s : ByteArray) (h : 0 < s.size) : s.data.toList.headD 0 = s[0] := by
  have e : s.data.toList = s[0] :: s.data.toList.tail := by
    have hl : s.data.toList.length = s.size := by simp
    cases hd : s.data.toList with
    | nil => rw [hd] at hl; simp at hl; omega
    | cons a r =>
      simp only [List.tail_cons]
      congr 1
      have : s[0] = s.data.toList[0]'(by simpa using h) := by simp [ByteArray.getElem_eq_getElem_data]
      rw [this]
      simp [hd]
  rw [e]; rfl
theorem byte_sub (c : UInt8) (h : 48 ≤ (c.toNat : Int) ∧ (c.toNat : Int) ≤ 57) : IntKind.u8.wrap ((c.toNat : Int) - 48) = (c.toNat : Int) - 48 := by
  simp [IntKind.wrap, IntKind.signed, IntKind.bits]; omega

set_option maxHeartbeats 400000 in
theorem c123 (s : ByteArray) (w : World) (hs : s.size ≤ 1048700) :
    Calls Tryz.prog 123 #[.string s, .int .i64 40] w fun e w' => e = .returned (.tuple #[.int .i64 (rn40 s.data.toList), .bool (num40 s.data.toList)]) ∧ w' = w := by
  by_cases h0 : s.size = 0
  · have e0 : s.toList = [] := by
      rw [ByteArray.toList_eq]
      exact List.length_eq_zero_iff.1 (by simpa using h0)
    have hN : Hid (num40 s.data.toList = false) := n40_lean (by rw [← ByteArray.toList_eq, e0]; rfl)
    go_enter Tryz.func123, Tryz.ntmps123
    go_wp2
    go_ret2
    exact ⟨ret_pair (rn_no hN.out).symm hN.out.symm, rfl⟩
  · have e0 : s.toList.isEmpty = false := by rw [ByteArray.toList_eq]; exact str_isEmpty s (by omega)
    have e1 : ¬ s.toList = [] := fun h => by rw [h] at e0; cases e0
    have hp : 0 < s.size := by omega
    have hh := head_zero s hp
    by_cases hl : lean1 s.data.toList = true
    · have HL : Hid (lean1 s.data.toList = true) := hl
      have hc : (s[0].toNat = 48 ∧ s.toList = [48]) ∨ ((s[0].toNat : Int) == 48) = false := by
        by_cases h48 : s[0].toNat = 48
        · refine .inl ⟨h48, ?_⟩
          have h1 : s[0] = 48 := UInt8.toNat_inj.1 h48
          rw [ByteArray.toList_eq]
          exact ((lean1_iff _).1 hl).2 (by rw [hh]; exact h1)
        · exact .inr (by simp; omega)
      clear hl hh
      rcases hc with ⟨h48, hz⟩ | h48
      all_goals
        go_enter Tryz.func123, Tryz.ntmps123
        go_wp2
        go_loop [6, 21] (fun n i => ∃ k : Nat, k ≤ s.size ∧ i = .int .i64 k ∧ n = .int .i64 (val (s.data.toList.take k)) ∧ 0 ≤ val (s.data.toList.take k) ∧ val (s.data.toList.take k) ≤ 40 ∧ Hid ((s.data.toList.take k).all isDig = true)) (fun _ i => s.size - (intOf i).toNat)
        case atStart => exact ⟨0, Nat.zero_le _, rfl, rfl, by simp [val], by simp [val], rfl⟩
        case round =>
          obtain ⟨k, hk, rfl, rfl, hv0, hv1, ha⟩ := hrel
          by_cases hlt : k < s.size
          · by_cases hg : isDig s[k] = true
            · have hg' := (dig_iff _).1 hg
              have hw := byte_sub _ hg'
              have ha' : Hid ((s.data.toList.take (k + 1)).all isDig = true) := all_take_snoc _ s k hlt ha.out hg
              have hvs : Hid (val (s.data.toList.take (k + 1)) = val (s.data.toList.take k) * 10 + ((s[k].toNat : Int) - 48)) := by
                rw [take_snoc s k hlt]; exact val_snoc _ _
              clear hg
              by_cases hb : 40 < val (s.data.toList.take k) * 10 + ((s[k].toNat : Int) - 48)
              · have hN : Hid (num40 s.data.toList = false) := n40_big (k + 1) (by rw [hvs.out]; exact hb)
                go_wp2
                go_ret2
                exact ⟨ret_pair (rn_no hN.out).symm hN.out.symm, rfl⟩
              · go_wp2
                go_round
                case rel => exact ⟨k + 1, by omega, by go_num, by rw [hvs.out], by rw [hvs.out]; omega, by rw [hvs.out]; omega, ha'⟩
                case measure => simp [intOf]; omega
            · have hN : Hid (num40 s.data.toList = false) := n40_dig (all_false_at _ s k hlt (by simpa using hg))
              have hg' : (s[k].toNat : Int) < 48 ∨ 57 < (s[k].toNat : Int) := by
                rcases Int.lt_or_le (s[k].toNat : Int) 48 with h | h
                · exact .inl h
                · rcases Int.lt_or_le 57 (s[k].toNat : Int) with h' | h'
                  · exact .inr h'
                  · exact absurd ((dig_iff _).2 ⟨h, h'⟩) hg
              clear hg
              rcases hg' with hg | hg
              all_goals
                go_wp2
                all_goals go_ret2
                all_goals exact ⟨ret_pair (rn_no hN.out).symm hN.out.symm, rfl⟩
          · have hall := all_take_size _ s k (by omega) ha.out
            have hE : s.data.toList.take k = s.data.toList := List.take_of_length_le (by simp; omega)
            have hN : Hid (num40 s.data.toList = true) := n40_yes HL.out hall (by rw [← hE]; exact hv1)
            have HE : Hid (s.data.toList.take k = s.data.toList) := hE
            clear hall hE
            go_wp2
            go_ret2
            exact ⟨ret_pair (by rw [rn_yes hN.out, HE.out]) hN.out.symm, rfl⟩
    · have hN : Hid (num40 s.data.toList = false) := n40_lean (by simpa using hl)
      have h48 : s[0].toNat = 48 ∧ ¬ s.toList = [48] := by
        rw [ByteArray.toList_eq] at e1 ⊢
        rw [lean1_iff, hh] at hl
        by_cases h1 : s[0] = 48
        · refine ⟨by rw [h1]; rfl, fun hz => hl ⟨e1, fun _ => hz⟩⟩
        · exact absurd ⟨e1, fun h => absurd h h1⟩ hl
      obtain ⟨h48, hz⟩ := h48
      have hz' : (!s.toList == [48]) = true := by simpa using hz
      clear hh hl
      go_enter Tryz.func123, Tryz.ntmps123
      go_wp2
      go_ret2
      exact ⟨ret_pair (rn_no hN.out).symm hN.out.symm, rfl⟩

end Go.Proofs.YtpjpckmfehfniaaGreatDoor.M
namespace Go.Proofs.YtpjpckmfehfniaaGreatDoor.M
open Go.RowKit

theorem div_form (n : Int) (h : 0 ≤ n) (h1 : n ≤ 100000000) : IntKind.i64.wrap (n.tdiv 10) = n / 10 := by
  rw [Int.tdiv_eq_ediv_of_nonneg h]
  simp [IntKind.wrap, IntKind.signed, IntKind.bits]; omega
theorem mod_form (n : Int) (h : 0 ≤ n) : IntKind.u8.wrap (IntKind.i64.wrap (48 + n.tmod 10)) = 48 + n % 10 := by
  rw [Int.tmod_eq_emod_of_nonneg h]
  simp [IntKind.wrap, IntKind.signed, IntKind.bits]; omega
theorem conv1 (u : World) (y : Int) : (convert 60 9 (.slice (some ⟨u.heap.size, 0, none⟩) 1 1)).run Tryz.prog (u.alloc (.cells #[.int .u8 y] 5)) = .ok (.string (strOfNums [y])) (u.alloc (.cells #[.int .u8 y] 5)) :=
  run_convert_bytes_arg _ 60 5 Tryz.underlying60 Tryz.underlying5 _ 0 1 1 [y] rfl (fun i hi => by
    obtain rfl : i = 0 := by omega
    simp) 9 Tryz.underlying9

theorem ofL_snoc (l : List UInt8) (x : Int) : ofL (l ++ [UInt8.ofNat x.toNat]) = ofL l ++ strOfNums [x] := by
  apply ByteArray.ext
  simp [ofL, strOfNums]
theorem convD (u : World) (y : Int) : (convert 60 9 (.slice (some ⟨u.heap.size, 0, none⟩) 1 1)).run Tryz.prog (u.alloc (.cells #[.int .u8 y] 5)).drew = .ok (.string (strOfNums [y])) (u.alloc (.cells #[.int .u8 y] 5)).drew :=
  run_convert_bytes_arg _ 60 5 Tryz.underlying60 Tryz.underlying5 _ 0 1 1 [y] rfl (fun i hi => by
    obtain rfl : i = 0 := by omega
    simp) 9 Tryz.underlying9
theorem convB {u w1 : World} {y : Int} (hb : Below (u.alloc (.cells #[.int .u8 y] 5)).drew.heap.size (u.alloc (.cells #[.int .u8 y] 5)).drew w1) :
    (convert 60 9 (.slice (some ⟨u.heap.size, 0, none⟩) 1 1)).run Tryz.prog w1 = .ok (.string (strOfNums [y])) w1 :=
  run_convert_bytes_arg _ 60 5 Tryz.underlying60 Tryz.underlying5 _ 0 1 1 [y] rfl (fun i hi => by
    obtain rfl : i = 0 := by omega
    rw [hb.cell (by simp)]
    simp) 9 Tryz.underlying9

set_option maxRecDepth 100000 in
set_option maxHeartbeats 4000000 in
theorem c77 (f : Nat) : ∀ (n : Int) (w : World), 0 ≤ n → n ≤ 100000000 → n.toNat < f →
    Calls Tryz.prog 77 #[.int .i64 n] w fun e w' => e = .returned (.string (ofL (dec n))) ∧ Below w.heap.size w w' := by
  induction f with
  | zero => intro n w _ _ h; omega
  | succ f ih =>
    intro n w h0 h1 hf
    have hcv := conv1
    have hcd := convD
    have hz : ∀ y, (strOfNums [y]).size = 1 := fun y => strOfNums_size [y]
    by_cases h : n < 10
    · go_enter Tryz.func77, Tryz.ntmps77
      go_wp2
      go_ret
      exact ⟨by rw [dec_lt n h]; rfl, (Below.refl _ _).alloc (Nat.le_refl _) _⟩
    · have hq : (ofL (dec (n / 10))).size ≤ 100000001 := by rw [ofL_size]; exact dec_len _ (by omega) (by omega)
      have H : Hid (∀ w, Calls Tryz.prog 77 #[.int .i64 (IntKind.i64.wrap (n.tdiv 10))] w fun e w' => e = .returned (.string (ofL (dec (n / 10)))) ∧ Below w.heap.size w w') := by
        rw [div_form n h0 h1]
        exact fun w => ih (n / 10) w (by omega) (by omega) (by omega)
      have HD : Hid (Ending.returned (.string (ofL (dec (n / 10)) ++ strOfNums [48 + n % 10])) = .returned (.string (ofL (dec n)))) := by
        rw [dec_ge n (by omega), ofL_snoc]; rfl
      clear ih
      go_enter Tryz.func77, Tryz.ntmps77
      go_wp2_with fail
      go_region_with (go_at_call 77; refine (H.out _).mono ?_; rintro e w1 ⟨rfl, hb1⟩; (try (have hcb := convB hb1)))
      all_goals go_wp2
      all_goals go_ret
      all_goals refine ⟨?_, ?_⟩
      all_goals first
        | exact HD.out
        | exact (((Below.refl w.heap.size w).drew).trans hb1).alloc hb1.size _
        | exact (((Below.refl w.heap.size w).alloc (Nat.le_refl _) _).drew).trans (hb1.mono (by simp))
end Go.Proofs.YtpjpckmfehfniaaGreatDoor.M

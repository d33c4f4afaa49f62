import Derived.Test.YtkhlekmicpmpkaaGreatDoorZK00
import Derived.Deep.RegionWith
namespace Go.Proofs.YtkhlekmicpmpkaaGreatDoor
open Go.RowKit
def sumS (s : ByteArray) (n : Int) : ByteArray := if 1 ≤ n ∧ n ≤ 8 then strOfNums (outs (hsum s.data.toList) n.toNat) else ByteArray.empty
set_option maxHeartbeats 400000 in
theorem c75 (n l h : Int) (w : World) :
 Calls Tryz.prog 75 #[.int .i64 n, .int .i64 l, .int .i64 h] w fun e w' => e = .returned (.bool (decide (l ≤ n ∧ n ≤ h))) ∧ w' = w := by
 by_cases h1 : l ≤ n <;> by_cases h2 : n ≤ h
 all_goals
  go_enter Tryz.func75, Tryz.ntmps75
  go_wp2
  all_goals go_ret
  all_goals exact ⟨by simp [*], rfl⟩
set_option maxHeartbeats 400000 in
theorem c45 (n : Int) (w : World) :
 Calls Tryz.prog 45 #[.int .i64 n] w fun e w' => e = .returned (.bool (decide (1 ≤ n ∧ n ≤ 8))) ∧ w' = w := by
 go_enter Tryz.func45, Tryz.ntmps45
 go_wp2_with (go_at_call 75; refine (c75 _ _ _ _).mono ?_; rintro e w' ⟨rfl, rfl⟩)
 go_ret
 exact ⟨by simp, rfl⟩
set_option maxHeartbeats 400000 in
theorem c54 (n : Int) (w : World) :
 Calls Tryz.prog 54 #[.int .i64 n] w fun e w' => e = .returned (.bool (decide (1 ≤ n ∧ n ≤ 8))) ∧ w' = w := by
 by_cases h1 : 1 ≤ n <;> by_cases h2 : n ≤ 8
 all_goals
  go_enter Tryz.func54, Tryz.ntmps54
  go_wp2
  all_goals go_ret
  all_goals exact ⟨by simp [*], rfl⟩
set_option maxHeartbeats 400000 in
theorem c47 (s : ByteArray) (n : Int) (w : World) (hs : s.size ≤ 1048700) :
 Calls Tryz.prog 47 #[.string s, .int .i64 n] w fun e w' => e = .returned (.string (sumS s n)) ∧ Below w.heap.size w w' := by
 by_cases h : 1 ≤ n ∧ n ≤ 8
 · have hd : decide (1 ≤ n ∧ n ≤ 8) = true := by simpa using h
   have hx := hsum_range s.data.toList
   obtain ⟨k, rfl⟩ := Int.eq_ofNat_of_zero_le (show 0 ≤ n by omega)
   have hS : Hid (sumS s k = strOfNums (outs (hsum s.data.toList) k)) := by unfold sumS; rw [if_pos h]; rfl
   go_enter Tryz.func47, Tryz.ntmps47
   go_wp2_with fail
   refine (c45 _ _).mono ?_
   rintro e w' ⟨rfl, rfl⟩
   rw [hd]
   go_wp2_with fail
   refine (c77 _ _ hs).mono ?_
   rintro e w' ⟨rfl, rfl⟩
   go_wp2_with fail
   refine (c76 _ _ _ hx.1 hx.2 (by omega)).mono ?_
   rintro e w' ⟨rfl, hb⟩
   go_wp2
   go_ret
   exact ⟨by rw [hS.out]; rfl, hb⟩
 · have hd : decide (1 ≤ n ∧ n ≤ 8) = false := by simpa using h
   have hS : Hid (sumS s n = ByteArray.empty) := by unfold sumS; rw [if_neg h]; rfl
   go_enter Tryz.func47, Tryz.ntmps47
   go_wp2_with fail
   refine (c45 _ _).mono ?_
   rintro e w' ⟨rfl, rfl⟩
   rw [hd]
   go_wp2
   go_ret
   exact ⟨by rw [hS.out]; rfl, Below.refl _ _⟩
theorem sl50 (u : World) (b k : Nat) (h1 : 1 ≤ k) (h2 : k ≤ 8) :
 (Instr.sliceAt 137 (.pointer (some ⟨b, 0, none⟩)) (some (.int .i64 (8 - (k : Int)))) none none).run Tryz.prog u = .ok (.slice (some ⟨b, 8 - k, none⟩) k k) u := by
 obtain rfl | rfl | rfl | rfl | rfl | rfl | rfl | rfl : k = 1 ∨ k = 2 ∨ k = 3 ∨ k = 4 ∨ k = 5 ∨ k = 6 ∨ k = 7 ∨ k = 8 := by omega
 all_goals kernel_rfl
theorem cvKey (u : World) (X : Int) (k : Nat) (h2 : k ≤ 8) :
 (convert 96 9 (.slice (some ⟨u.heap.size, 8 - k, none⟩) k k)).run Tryz.prog (u.alloc (.cells #[.int .u8 (kc X k 0), .int .u8 (kc X k 1), .int .u8 (kc X k 2), .int .u8 (kc X k 3), .int .u8 (kc X k 4), .int .u8 (kc X k 5), .int .u8 (kc X k 6), .int .u8 (kc X k 7)] 137))
  = .ok (.string (strOfNums (outs X k))) (u.alloc (.cells #[.int .u8 (kc X k 0), .int .u8 (kc X k 1), .int .u8 (kc X k 2), .int .u8 (kc X k 3), .int .u8 (kc X k 4), .int .u8 (kc X k 5), .int .u8 (kc X k 6), .int .u8 (kc X k 7)] 137)) :=
 run_convert_bytes_arg _ 96 5 Tryz.underlying96 Tryz.underlying5 _ (8 - k) k k (outs X k) (outs_length X k) (fun i hi => by
  rw [← kc_outs X k i h2 hi]
  have hj : 8 - k + i < 8 := by omega
  generalize 8 - k + i = j at hj ⊢
  obtain rfl | rfl | rfl | rfl | rfl | rfl | rfl | rfl : j = 0 ∨ j = 1 ∨ j = 2 ∨ j = 3 ∨ j = 4 ∨ j = 5 ∨ j = 6 ∨ j = 7 := by omega
  all_goals simp) 9 Tryz.underlying9
set_option maxHeartbeats 400000 in
theorem c58 (s : ByteArray) (n : Int) (w : World) (hs : s.size ≤ 1048700) :
 Calls Tryz.prog 58 #[.string s, .int .i64 n] w fun e w' => e = .returned (.string (sumS s n)) ∧ Below w.heap.size w w' := by
 by_cases h : 1 ≤ n ∧ n ≤ 8
 · have hd : decide (1 ≤ n ∧ n ≤ 8) = true := by simpa using h
   have hx := hsum_range s.data.toList
   obtain ⟨k, rfl⟩ := Int.eq_ofNat_of_zero_le (show 0 ≤ n by omega)
   have hS : Hid (sumS s k = strOfNums (outs (hsum s.data.toList) k)) := by unfold sumS; rw [if_pos h]; rfl
   go_enter Tryz.func58, Tryz.ntmps58
   go_wp2_with fail
   refine (c54 _ _).mono ?_
   rintro e w' ⟨rfl, rfl⟩
   rw [hd]
   go_wp2_with fail
   refine (c84 _ _ _ (by omega) hs).mono ?_
   rintro e w' ⟨⟨X, hX, rfl⟩, hb⟩
   have HX : Hid (X = hsum s.data.toList) := hX
   clear hX
   have g1 := fun (u : World) (b : Nat) => sl50 u b k (by omega) (by omega)
   have g2 := fun (u : World) => cvKey u X k (by omega)
   go_wp2
   go_ret
   exact ⟨by rw [hS.out, ← HX.out]; rfl, hb.alloc hb.size _⟩
 · have hd : decide (1 ≤ n ∧ n ≤ 8) = false := by simpa using h
   have hS : Hid (sumS s n = ByteArray.empty) := by unfold sumS; rw [if_neg h]; rfl
   go_enter Tryz.func58, Tryz.ntmps58
   go_wp2_with fail
   refine (c54 _ _).mono ?_
   rintro e w' ⟨rfl, rfl⟩
   rw [hd]
   go_wp2
   go_ret
   exact ⟨by rw [hS.out]; rfl, Below.refl _ _⟩
end Go.Proofs.YtkhlekmicpmpkaaGreatDoor
namespace Go.Proofs.YtkhlekmicpmpkaaGreatDoor
open Go.RowKit
theorem ret_bool {a b : Bool} (h : a = b) : Ending.returned (.bool a) = .returned (.bool b) := by rw [h]
theorem all_take_snoc (p : UInt8 → Bool) (s : ByteArray) (k : Nat) (h : k < s.size) (ha : (s.data.toList.take k).all p = true) (hp : p s[k] = true) : (s.data.toList.take (k + 1)).all p = true := by
 rw [take_snoc s k h, List.all_append, ha]; simpa using hp
theorem all_false_at (p : UInt8 → Bool) (s : ByteArray) (k : Nat) (h : k < s.size) (hp : p s[k] = false) : s.data.toList.all p = false := by
 rw [List.all_eq_false]
 exact ⟨s[k], by simp [ByteArray.getElem_eq_getElem_data], by simp [hp]⟩
theorem all_take_size (p : UInt8 → Bool) (s : ByteArray) (k : Nat) (h : s.size ≤ k) (ha : (s.data.toList.take k).all p = true) : s.data.toList.all p = true := by
 rwa [List.take_of_length_le (by simpa using h)] at ha
theorem name_short (s : ByteArray) (h : ¬ (1 ≤ s.size ∧ s.size ≤ 20)) : nameOk s.data.toList = false := by
 unfold nameOk
 have : (decide (1 ≤ s.data.toList.length ∧ s.data.toList.length ≤ 20)) = false := by
  simp only [decide_eq_false_iff_not]; simpa using h
 rw [this]; rfl
theorem name_long (s : ByteArray) (h : 1 ≤ s.size ∧ s.size ≤ 20) : nameOk s.data.toList = s.data.toList.all isGraph := by
 unfold nameOk
 have : (decide (1 ≤ s.data.toList.length ∧ s.data.toList.length ≤ 20)) = true := by
  simp only [decide_eq_true_eq]; simpa using h
 rw [this]; rfl
set_option maxHeartbeats 400000 in
theorem c85 (s : ByteArray) (w : World) (hs : s.size ≤ 1048700) :
 Calls Tryz.prog 85 #[.string s] w fun e w' => e = .returned (.bool (nameOk s.data.toList)) ∧ w' = w := by
 by_cases h : 1 ≤ s.size ∧ s.size ≤ 20
 · have hN : Hid (nameOk s.data.toList = s.data.toList.all isGraph) := name_long s h
   obtain ⟨h1, h2⟩ := h
   go_enter Tryz.func85, Tryz.ntmps85
   go_wp2
   go_loop [14] (fun i => ∃ k : Nat, k ≤ s.size ∧ i = .int .i64 k ∧ Hid ((s.data.toList.take k).all isGraph = true)) (fun i => s.size - (intOf i).toNat)
   case atStart => exact ⟨0, Nat.zero_le _, rfl, rfl⟩
   case round =>
    obtain ⟨k, hk, rfl, ha⟩ := hrel
    by_cases hlt : k < s.size
    · by_cases hg : isGraph s[k] = true
      · have hg' := (graph_iff _).1 hg
        have hn := Hid.out ha
        have ha' : Hid ((s.data.toList.take (k + 1)).all isGraph = true) := all_take_snoc _ s k hlt ha.out hg
        clear hg hn
        go_wp2
        go_round
        case rel => exact ⟨k + 1, by omega, by go_num, ha'⟩
        case measure => simp [intOf]; omega
      · have hf : Hid (s.data.toList.all isGraph = false) := all_false_at _ s k hlt (by simpa using hg)
        have hg' : (s[k].toNat : Int) < 33 ∨ 126 < (s[k].toNat : Int) := by
         rcases Int.lt_or_le (s[k].toNat : Int) 33 with h | h
         · exact .inl h
         · rcases Int.lt_or_le 126 (s[k].toNat : Int) with h' | h'
           · exact .inr h'
           · exact absurd ((graph_iff _).2 ⟨h, h'⟩) hg
        clear hg
        rcases hg' with hg | hg
        all_goals
         go_wp2
         all_goals go_ret
         all_goals exact ⟨ret_bool (by rw [hN.out, hf.out]), rfl⟩
    · go_wp2
      go_ret
      exact ⟨ret_bool (by rw [hN.out, all_take_size _ s k (by omega) ha.out]), rfl⟩
 · have hN : Hid (nameOk s.data.toList = false) := name_short s h
   by_cases h1 : 1 ≤ s.size
   all_goals
    go_enter Tryz.func85, Tryz.ntmps85
    go_wp2
    all_goals go_ret
    all_goals exact ⟨ret_bool (by rw [hN.out]), rfl⟩
set_option maxHeartbeats 400000 in
theorem c48 (s : ByteArray) (w : World) (hs : s.size ≤ 1048700) :
 Calls Tryz.prog 48 #[.string s] w fun e w' => e = .returned (.bool (nameOk s.data.toList)) ∧ w' = w := by
 by_cases h : 1 ≤ s.size ∧ s.size ≤ 20
 · have hN : Hid (nameOk s.data.toList = s.data.toList.all isGraph) := name_long s h
   have hd : decide ((1 : Int) ≤ (s.size : Int) ∧ (s.size : Int) ≤ 20) = true := by simp; omega
   go_enter Tryz.func48, Tryz.ntmps48
   go_wp2_with fail
   refine (c75 _ _ _ _).mono ?_
   rintro e w' ⟨rfl, rfl⟩
   rw [hd]
   go_wp2
   go_loop [3] (fun i => ∃ k : Nat, k ≤ s.size ∧ i = .int .i64 k ∧ Hid ((s.data.toList.take k).all isGraph = true)) (fun i => s.size - (intOf i).toNat)
   case atStart => exact ⟨0, Nat.zero_le _, rfl, rfl⟩
   case round =>
    obtain ⟨k, hk, rfl, ha⟩ := hrel
    by_cases hlt : k < s.size
    · by_cases hg : isGraph s[k] = true
      · have hg' := (graph_iff _).1 hg
        have ha' : Hid ((s.data.toList.take (k + 1)).all isGraph = true) := all_take_snoc _ s k hlt ha.out hg
        clear hg
        go_wp2
        go_round
        case rel => exact ⟨k + 1, by omega, by go_num, ha'⟩
        case measure => simp [intOf]; omega
      · have hf : Hid (s.data.toList.all isGraph = false) := all_false_at _ s k hlt (by simpa using hg)
        have hg' : (s[k].toNat : Int) < 33 ∨ 126 < (s[k].toNat : Int) := by
         rcases Int.lt_or_le (s[k].toNat : Int) 33 with h | h
         · exact .inl h
         · rcases Int.lt_or_le 126 (s[k].toNat : Int) with h' | h'
           · exact .inr h'
           · exact absurd ((graph_iff _).2 ⟨h, h'⟩) hg
        clear hg
        rcases hg' with hg | hg
        all_goals
         go_wp2
         all_goals go_ret
         all_goals exact ⟨ret_bool (by rw [hN.out, hf.out]), rfl⟩
    · go_wp2
      go_ret
      exact ⟨ret_bool (by rw [hN.out, all_take_size _ s k (by omega) ha.out]), rfl⟩
 · have hN : Hid (nameOk s.data.toList = false) := name_short s h
   have hd : decide ((1 : Int) ≤ (s.size : Int) ∧ (s.size : Int) ≤ 20) = false := by simp only [decide_eq_false_iff_not]; omega
   go_enter Tryz.func48, Tryz.ntmps48
   go_wp2_with fail
   refine (c75 _ _ _ _).mono ?_
   rintro e w' ⟨rfl, rfl⟩
   rw [hd]
   go_wp2
   go_ret
   exact ⟨ret_bool (by rw [hN.out]), rfl⟩
end Go.Proofs.YtkhlekmicpmpkaaGreatDoor
namespace Go.Proofs.YtkhlekmicpmpkaaGreatDoor
open Go.RowKit
theorem str_isEmpty (s : ByteArray) (h : 1 ≤ s.size) : s.data.toList.isEmpty = false := by
 cases hl : s.data.toList with
 | nil => have : s.data.toList.length = s.size := by simp
          rw [hl] at this; simp at this; omega
 | cons a r => rfl
theorem ret_pair {a b : Int} {x y : Bool} (h : a = b) (h' : x = y) : Ending.returned (.tuple #[.int .i64 a, .bool x]) = .returned (.tuple #[.int .i64 b, .bool y]) := by rw [h, h']
def rn40 (l : List UInt8) : Int := if num40 l = true then val l else 0
theorem lean1_iff (l : List UInt8) : lean1 l = true ↔ l ≠ [] ∧ (l.headD 0 = 48 → l = [48]) := by
 cases l with
 | nil => simp [lean1]
 | cons a r =>
  by_cases h : a = 48
  · simp [lean1, h]
  · simp [lean1, h]
theorem n40_lean {l : List UInt8} (h : lean1 l = false) : num40 l = false := by simp [num40, h]
theorem n40_dig {l : List UInt8} (h : l.all isDig = false) : num40 l = false := by simp only [num40, h, Bool.and_false, Bool.false_and]
theorem n40_big {l : List UInt8} (k : Nat) (h : 40 < val (l.take k)) : num40 l = false := by
 by_cases ha : l.all isDig = true
 · have := val_take_le l ha k
   have hd : decide (val l ≤ 40) = false := by simp only [decide_eq_false_iff_not]; omega
   simp only [num40, hd, Bool.and_false]
 · exact n40_dig (by simpa using ha)
theorem n40_yes {l : List UInt8} (h1 : lean1 l = true) (h2 : l.all isDig = true) (h3 : val l ≤ 40) : num40 l = true := by
 have hd : decide (val l ≤ 40) = true := by simpa using h3
 simp only [num40, h1, h2, hd, Bool.and_self]
theorem rn_no {l : List UInt8} (h : num40 l = false) : rn40 l = 0 := by simp [rn40, h]
theorem rn_yes {l : List UInt8} (h : num40 l = true) : rn40 l = val l := by simp [rn40, h]
theorem head_zero (s : ByteArray) (h : 0 < s.size) : s.data.toList.headD 0 = s[0] := by
 have e : s.data.toList = s[0] :: s.data.toList.tail := by
  have hl : s.data.toList.length = s.size := by simp
  cases hd : s.data.toList with
  | nil => rw [hd] at hl; simp at hl; omega
  | cons a r =>
   simp only [List.tail_cons]
   congr 1
   have : s[0] = s.data.toList[0]'(by simpa using h) := by simp [ByteArray.getElem_eq_getElem_data]
   rw [this]
   simp [hd]
 rw [e]; rfl
theorem byte_sub (c : UInt8) (h : 48 ≤ (c.toNat : Int) ∧ (c.toNat : Int) ≤ 57) : IntKind.u8.wrap ((c.toNat : Int) - 48) = (c.toNat : Int) - 48 := by
 simp [IntKind.wrap, IntKind.signed, IntKind.bits]; omega
set_option maxHeartbeats 400000 in
theorem c83 (s : ByteArray) (w : World) (hs : s.size ≤ 1048700) :
 Calls Tryz.prog 83 #[.string s, .int .i64 40] w fun e w' => e = .returned (.tuple #[.int .i64 (rn40 s.data.toList), .bool (num40 s.data.toList)]) ∧ w' = w := by
 by_cases h0 : s.size = 0
 · have e0 : s.toList = [] := by
    rw [ByteArray.toList_eq]
    exact List.length_eq_zero_iff.1 (by simpa using h0)
   have hN : Hid (num40 s.data.toList = false) := n40_lean (by rw [← ByteArray.toList_eq, e0]; rfl)
   go_enter Tryz.func83, Tryz.ntmps83
   go_wp2
   go_ret2
   exact ⟨ret_pair (rn_no hN.out).symm hN.out.symm, rfl⟩
 · have e0 : s.toList.isEmpty = false := by rw [ByteArray.toList_eq]; exact str_isEmpty s (by omega)
   have e1 : ¬ s.toList = [] := fun h => by rw [h] at e0; cases e0
   have hp : 0 < s.size := by omega
   have hh := head_zero s hp
   by_cases hl : lean1 s.data.toList = true
   · have HL : Hid (lean1 s.data.toList = true) := hl
     have hc : (s[0].toNat = 48 ∧ s.toList = [48]) ∨ ((s[0].toNat : Int) == 48) = false := by
      by_cases h48 : s[0].toNat = 48
      · refine .inl ⟨h48, ?_⟩
        have h1 : s[0] = 48 := UInt8.toNat_inj.1 h48
        rw [ByteArray.toList_eq]
        exact ((lean1_iff _).1 hl).2 (by rw [hh]; exact h1)
      · exact .inr (by simp; omega)
     clear hl hh
     rcases hc with ⟨h48, hz⟩ | h48
     all_goals
      go_enter Tryz.func83, Tryz.ntmps83
      go_wp2
      go_loop [6, 21] (fun n i => ∃ k : Nat, k ≤ s.size ∧ i = .int .i64 k ∧ n = .int .i64 (val (s.data.toList.take k)) ∧ 0 ≤ val (s.data.toList.take k) ∧ val (s.data.toList.take k) ≤ 40 ∧ Hid ((s.data.toList.take k).all isDig = true)) (fun _ i => s.size - (intOf i).toNat)
      case atStart => exact ⟨0, Nat.zero_le _, rfl, rfl, by simp [val], by simp [val], rfl⟩
      case round =>
       obtain ⟨k, hk, rfl, rfl, hv0, hv1, ha⟩ := hrel
       by_cases hlt : k < s.size
       · by_cases hg : isDig s[k] = true
         · have hg' := (dig_iff _).1 hg
           have hw := byte_sub _ hg'
           have ha' : Hid ((s.data.toList.take (k + 1)).all isDig = true) := all_take_snoc _ s k hlt ha.out hg
           have hvs : Hid (val (s.data.toList.take (k + 1)) = val (s.data.toList.take k) * 10 + ((s[k].toNat : Int) - 48)) := by
            rw [take_snoc s k hlt]; exact val_snoc _ _
           clear hg
           by_cases hb : 40 < val (s.data.toList.take k) * 10 + ((s[k].toNat : Int) - 48)
           · have hN : Hid (num40 s.data.toList = false) := n40_big (k + 1) (by rw [hvs.out]; exact hb)
             go_wp2
             go_ret2
             exact ⟨ret_pair (rn_no hN.out).symm hN.out.symm, rfl⟩
           · go_wp2
             go_round
             case rel => exact ⟨k + 1, by omega, by go_num, by rw [hvs.out], by rw [hvs.out]; omega, by rw [hvs.out]; omega, ha'⟩
             case measure => simp [intOf]; omega
         · have hN : Hid (num40 s.data.toList = false) := n40_dig (all_false_at _ s k hlt (by simpa using hg))
           have hg' : (s[k].toNat : Int) < 48 ∨ 57 < (s[k].toNat : Int) := by
            rcases Int.lt_or_le (s[k].toNat : Int) 48 with h | h
            · exact .inl h
            · rcases Int.lt_or_le 57 (s[k].toNat : Int) with h' | h'
              · exact .inr h'
              · exact absurd ((dig_iff _).2 ⟨h, h'⟩) hg
           clear hg
           rcases hg' with hg | hg
           all_goals
            go_wp2
            all_goals go_ret2
            all_goals exact ⟨ret_pair (rn_no hN.out).symm hN.out.symm, rfl⟩
       · have hall := all_take_size _ s k (by omega) ha.out
         have hE : s.data.toList.take k = s.data.toList := List.take_of_length_le (by simp; omega)
         have hN : Hid (num40 s.data.toList = true) := n40_yes HL.out hall (by rw [← hE]; exact hv1)
         have HE : Hid (s.data.toList.take k = s.data.toList) := hE
         clear hall hE
         go_wp2
         go_ret2
         exact ⟨ret_pair (by rw [rn_yes hN.out, HE.out]) hN.out.symm, rfl⟩
   · have hN : Hid (num40 s.data.toList = false) := n40_lean (by simpa using hl)
     have h48 : s[0].toNat = 48 ∧ ¬ s.toList = [48] := by
      rw [ByteArray.toList_eq] at e1 ⊢
      rw [lean1_iff, hh] at hl
      by_cases h1 : s[0] = 48
      · refine ⟨by rw [h1]; rfl, fun hz => hl ⟨e1, fun _ => hz⟩⟩
      · exact absurd ⟨e1, fun h => absurd h h1⟩ hl
     obtain ⟨h48, hz⟩ := h48
     have hz' : (!s.toList == [48]) = true := by simpa using hz
     clear hh hl
     go_enter Tryz.func83, Tryz.ntmps83
     go_wp2
     go_ret2
     exact ⟨ret_pair (rn_no hN.out).symm hN.out.symm, rfl⟩
end Go.Proofs.YtkhlekmicpmpkaaGreatDoor

import Derived.Test.YtkhlekmicpmpkaaGreatDoorZK01
import Derived.Shelf.Strings.Cut
import Derived.Test.YtkhlekmicpmpkaaGreatDoorProg
namespace Go.Proofs.YtkhlekmicpmpkaaGreatDoor
open Go.RowKit
set_option maxRecDepth 100000
def ofL (l : List UInt8) : ByteArray := ⟨l.toArray⟩
theorem ofL_size (l : List UInt8) : (ofL l).size = l.length := by simp [ofL, ByteArray.size]
theorem ofL_snoc (l : List UInt8) (x : Int) : ofL (l ++ [UInt8.ofNat x.toNat]) = ofL l ++ strOfNums [x] := by
 apply ByteArray.ext
 simp [ofL, strOfNums]
theorem convD (u : World) (y : Int) : (convert 96 9 (.slice (some ⟨u.heap.size, 0, none⟩) 1 1)).run Tryz.prog (u.alloc (.cells #[.int .u8 y] 5)).drew = .ok (.string (strOfNums [y])) (u.alloc (.cells #[.int .u8 y] 5)).drew :=
 run_convert_bytes_arg _ 96 5 Tryz.underlying96 Tryz.underlying5 _ 0 1 1 [y] rfl (fun i hi => by
  obtain rfl : i = 0 := by omega
  simp) 9 Tryz.underlying9
theorem convB {u w1 : World} {y : Int} (hb : Below (u.alloc (.cells #[.int .u8 y] 5)).drew.heap.size (u.alloc (.cells #[.int .u8 y] 5)).drew w1) :
 (convert 96 9 (.slice (some ⟨u.heap.size, 0, none⟩) 1 1)).run Tryz.prog w1 = .ok (.string (strOfNums [y])) w1 :=
 run_convert_bytes_arg _ 96 5 Tryz.underlying96 Tryz.underlying5 _ 0 1 1 [y] rfl (fun i hi => by
  obtain rfl : i = 0 := by omega
  rw [hb.cell (by simp)]
  simp) 9 Tryz.underlying9
set_option maxHeartbeats 400000 in
theorem c100 (f : Nat) : ∀ (n : Int) (w : World), 0 ≤ n → n ≤ 100000000 → n.toNat < f →
 Calls Tryz.prog 100 #[.int .i64 n] w fun e w' => e = .returned (.string (ofL (dec n))) ∧ Below w.heap.size w w' := by
 induction f with
 | zero => intro n w _ _ h; omega
 | succ f ih =>
  intro n w h0 h1 hf
  have hcv := conv1
  have hcd := convD
  have hz : ∀ y, (strOfNums [y]).size = 1 := fun y => strOfNums_size [y]
  by_cases h : n < 10
  · go_enter Tryz.func100, Tryz.ntmps100
    go_wp2
    go_ret
    exact ⟨by rw [dec_lt n h]; rfl, (Below.refl _ _).alloc (Nat.le_refl _) _⟩
  · have hq : (ofL (dec (n / 10))).size ≤ 100000001 := by rw [ofL_size]; exact dec_len _ (by omega) (by omega)
    have H : Hid (∀ w, Calls Tryz.prog 100 #[.int .i64 (IntKind.i64.wrap (n.tdiv 10))] w fun e w' => e = .returned (.string (ofL (dec (n / 10)))) ∧ Below w.heap.size w w') := by
     rw [div_form n h0 h1]
     exact fun w => ih (n / 10) w (by omega) (by omega) (by omega)
    have HD : Hid (Ending.returned (.string (ofL (dec (n / 10)) ++ strOfNums [48 + n % 10])) = .returned (.string (ofL (dec n)))) := by
     rw [dec_ge n (by omega), ofL_snoc]; rfl
    clear ih
    go_enter Tryz.func100, Tryz.ntmps100
    go_wp2_with fail
    go_region_with (go_at_call 100; refine (H.out _).mono ?_; rintro e w1 ⟨rfl, hb1⟩; (try (have hcb := convB hb1)))
    all_goals go_wp2
    all_goals go_ret
    all_goals refine ⟨?_, ?_⟩
    all_goals first
     | exact HD.out
     | exact (((Below.refl w.heap.size w).drew).trans hb1).alloc hb1.size _
     | exact (((Below.refl w.heap.size w).alloc (Nat.le_refl _) _).drew).trans (hb1.mono (by simp))
end Go.Proofs.YtkhlekmicpmpkaaGreatDoor
namespace Go.Proofs.YtkhlekmicpmpkaaGreatDoor
open Go.RowKit
set_option maxRecDepth 100000
def n29 (l : List UInt8) : Int := if (1 ≤ l.length ∧ l.length ≤ 7) ∧ l.all isDig = true ∧ dec (val l) = l then val l else -1
theorem n29_len {l : List UInt8} (h : ¬ (1 ≤ l.length ∧ l.length ≤ 7)) : n29 l = -1 := by unfold n29; rw [if_neg (fun x => h x.1)]
theorem n29_dig {l : List UInt8} (h : l.all isDig = false) : n29 l = -1 := by unfold n29; rw [if_neg (fun x => by rw [h] at x; cases x.2.1)]
theorem n29_dec {l : List UInt8} (h : dec (val l) ≠ l) : n29 l = -1 := by unfold n29; rw [if_neg (fun x => h x.2.2)]
theorem n29_yes {l : List UInt8} (h : 1 ≤ l.length ∧ l.length ≤ 7) (h2 : l.all isDig = true) (h3 : dec (val l) = l) : n29 l = val l := by unfold n29; rw [if_pos ⟨h, h2, h3⟩]
theorem n29_num40 (l : List UInt8) : decide (0 ≤ n29 l ∧ n29 l ≤ 40) = num40 l := by
 by_cases h : num40 l = true
 · rw [h]
   have h' := h
   simp only [num40, Bool.and_eq_true, decide_eq_true_eq] at h'
   obtain ⟨⟨h1, h2⟩, h3⟩ := h'
   have hl := val_dig_len l h2 h1 h3
   have hne : l ≠ [] := ((lean1_iff l).1 h1).1
   have h1' : 1 ≤ l.length := List.length_pos_iff.2 hne
   rw [n29_yes ⟨h1', by omega⟩ h2 (dec_val l h2 h1).1]
   have := val_nonneg l h2
   simp only [decide_eq_true_eq]; omega
 · have h' : num40 l = false := by simpa using h
   rw [h']
   simp only [decide_eq_false_iff_not]
   intro ⟨a, b⟩
   unfold n29 at a b
   by_cases c : (1 ≤ l.length ∧ l.length ≤ 7) ∧ l.all isDig = true ∧ dec (val l) = l
   · rw [if_pos c] at a b
     have hd := (dec_lean ((val l).toNat + 1) (val l) a (by omega)).1
     rw [c.2.2] at hd
     rw [n40_yes hd c.2.1 b] at h'
     cases h'
   · rw [if_neg c] at a
     omega
theorem val_bound (l : List UInt8) (h : l.all isDig = true) : val l < 10 ^ l.length := by
 revert h
 refine snoc_ind (P := fun l => l.all isDig = true → val l < 10 ^ l.length) (by simp [val]) (fun l c ih h => ?_) l
 rw [List.all_append] at h
 simp only [List.all_cons, List.all_nil, Bool.and_true, Bool.and_eq_true] at h
 have := ih h.1
 have hc := (dig_iff c).1 h.2
 rw [val_snoc, List.length_append, List.length_singleton, Int.pow_succ]
 omega
theorem val_seven (l : List UInt8) (h : l.all isDig = true) (hl : l.length ≤ 7) : val l ≤ 10000000 := by
 have h1 := val_bound l h
 have h2 : (10 : Int) ^ l.length ≤ 10 ^ 7 := by exact_mod_cast Nat.pow_le_pow_right (by omega) hl
 omega
set_option maxHeartbeats 400000 in
theorem c79 (s : ByteArray) (w : World) (hs : s.size ≤ 1048700) :
 Calls Tryz.prog 79 #[.string s] w fun e w' => e = .returned (.int .i64 (n29 s.data.toList)) ∧ Below w.heap.size w w' := by
 by_cases h : 1 ≤ s.size ∧ s.size ≤ 7
 · obtain ⟨h1, h2⟩ := h
   go_enter Tryz.func79, Tryz.ntmps79
   go_wp2
   go_loop [3, 4] (fun n i => ∃ k : Nat, k ≤ s.size ∧ i = .int .i64 k ∧ n = .int .i64 (val (s.data.toList.take k)) ∧ 0 ≤ val (s.data.toList.take k) ∧ val (s.data.toList.take k) ≤ 10000000 ∧ Hid ((s.data.toList.take k).all isDig = true)) (fun _ i => s.size - (intOf i).toNat)
   case atStart => exact ⟨0, Nat.zero_le _, rfl, rfl, by simp [val], by simp [val], rfl⟩
   case round =>
    obtain ⟨k, hk, rfl, rfl, hv0, hv1, ha⟩ := hrel
    by_cases hlt : k < s.size
    · by_cases hg : isDig s[k] = true
      · have hg' := (dig_iff _).1 hg
        have hw := byte_sub _ hg'
        have ha' : Hid ((s.data.toList.take (k + 1)).all isDig = true) := all_take_snoc _ s k hlt ha.out hg
        have hvs : Hid (val (s.data.toList.take (k + 1)) = val (s.data.toList.take k) * 10 + ((s[k].toNat : Int) - 48)) := by
         rw [take_snoc s k hlt]; exact val_snoc _ _
        have hb : Hid (val (s.data.toList.take (k + 1)) ≤ 10000000) := val_seven _ ha'.out (by simp; omega)
        clear hg
        go_wp2
        go_round
        case rel => exact ⟨k + 1, by omega, by go_num, by rw [hvs.out], by rw [hvs.out]; omega, hb.out, ha'⟩
        case measure => simp [intOf]; omega
      · have hN : Hid (n29 s.data.toList = -1) := n29_dig (all_false_at _ s k hlt (by simpa using hg))
        have hg' : (s[k].toNat : Int) < 48 ∨ 57 < (s[k].toNat : Int) := by
         rcases Int.lt_or_le (s[k].toNat : Int) 48 with h | h
         · exact .inl h
         · rcases Int.lt_or_le 57 (s[k].toNat : Int) with h' | h'
           · exact .inr h'
           · exact absurd ((dig_iff _).2 ⟨h, h'⟩) hg
        clear hg
        rcases hg' with hg | hg
        all_goals
         go_wp2
         all_goals go_ret
         all_goals exact ⟨ret_int hN.out.symm, Below.refl _ _⟩
    · have hall : Hid (s.data.toList.all isDig = true) := all_take_size _ s k (by omega) ha.out
      have hE : Hid (s.data.toList.take k = s.data.toList) := List.take_of_length_le (by simp; omega)
      go_wp2_with fail
      refine (c100 _ _ _ hv0 (by omega) (Nat.lt_succ_self _)).mono ?_
      rintro e w1 ⟨rfl, hb1⟩
      rw [hE.out]
      by_cases hd : dec (val s.data.toList) = s.data.toList
      · have hN : Hid (n29 s.data.toList = val s.data.toList) := n29_yes (by simpa using ⟨h1, h2⟩) hall.out hd
        have hne : ((ofL (dec (val s.data.toList))).toList == s.toList) = true := by
         rw [hd, ByteArray.toList_eq, ByteArray.toList_eq]; simp [ofL]
        clear hd
        go_wp2
        go_ret
        exact ⟨ret_int hN.out.symm, hb1⟩
      · have hN : Hid (n29 s.data.toList = -1) := n29_dec hd
        have hne : ((ofL (dec (val s.data.toList))).toList == s.toList) = false := by
         rw [ByteArray.toList_eq, ByteArray.toList_eq]; simpa [ofL] using hd
        clear hd
        go_wp2
        go_ret
        exact ⟨ret_int hN.out.symm, hb1⟩
 · have hN : Hid (n29 s.data.toList = -1) := n29_len (by simpa using h)
   by_cases h1 : 1 ≤ s.size
   all_goals
    go_enter Tryz.func79, Tryz.ntmps79
    go_wp2
    all_goals go_ret
    all_goals exact ⟨ret_int hN.out.symm, Below.refl _ _⟩
end Go.Proofs.YtkhlekmicpmpkaaGreatDoor
namespace Go.Proofs.YtkhlekmicpmpkaaGreatDoor
open Go.RowKit
set_option maxRecDepth 100000
def vr (c : Int) (l : List UInt8) : Bool :=
 if c = 0 ∨ c = 1 then decide (l.length ≤ 300) else if c = 2 then num40 l else if c = 3 then l.isEmpty else if c = 4 ∨ c = 5 ∨ c = 7 then nameOk l else false
theorem num40_len {l : List UInt8} (h : num40 l = true) : l.length ≤ 2 := by
 simp only [num40, Bool.and_eq_true, decide_eq_true_eq] at h
 exact val_dig_len l h.1.2 h.1.1 h.2
theorem vr_long {c : Int} {l : List UInt8} (h : 300 < l.length) : vr c l = false := by
 have h1 : decide (l.length ≤ 300) = false := by simp only [decide_eq_false_iff_not]; omega
 have h2 : num40 l = false := by
  by_cases h2 : num40 l = true
  · have := num40_len h2; omega
  · simpa using h2
 have h3 : l.isEmpty = false := by cases l with | nil => simp at h | cons a r => rfl
 have h4 : nameOk l = false := by
  unfold nameOk
  have : decide (1 ≤ l.length ∧ l.length ≤ 20) = false := by simp only [decide_eq_false_iff_not]; omega
  rw [this]; rfl
 unfold vr
 rw [h1, h2, h3, h4]
 split <;> (try rfl)
 split <;> (try rfl)
 split <;> (try rfl)
 split <;> rfl
set_option maxHeartbeats 1000000 in
theorem c62 (c : Int) (s : ByteArray) (w : World) (hs : s.size ≤ 1048700) :
 Calls Tryz.prog 62 #[.agg #[.int .i64 c, .string s]] w fun e w' => e = .returned (.bool (vr c s.data.toList)) ∧ Below w.heap.size w w' := by
 have hlen : s.data.toList.length = s.size := by simp
 by_cases h01 : c = 0 ∨ c = 1
 · have hV : Hid (vr c s.data.toList = decide ((s.size : Int) ≤ 300)) := by unfold vr; rw [if_pos h01, hlen]; simp [Hid]; omega
   clear hlen
   rcases h01 with rfl | rfl
   all_goals
    go_enter Tryz.func62, Tryz.ntmps62
    go_wp2
    go_ret
    exact ⟨ret_bool (by rw [hV.out]), (Below.refl _ _).alloc (Nat.le_refl _) _⟩
 by_cases h2 : c = 2
 · subst h2
   have hV : Hid (vr 2 s.data.toList = num40 s.data.toList) := rfl
   clear hlen h01
   go_enter Tryz.func62, Tryz.ntmps62
   go_wp2_with fail
   refine (c83 _ _ hs).mono ?_
   rintro e w1 ⟨rfl, rfl⟩
   go_wp2
   go_ret
   exact ⟨ret_bool (by rw [hV.out]), (Below.refl _ _).alloc (Nat.le_refl _) _⟩
 by_cases h3 : c = 3
 · subst h3
   have hV : Hid (vr 3 s.data.toList = s.toList.isEmpty) := by rw [ByteArray.toList_eq]; rfl
   clear hlen h01 h2
   go_enter Tryz.func62, Tryz.ntmps62
   go_wp2
   go_ret
   exact ⟨ret_bool (by rw [hV.out]), (Below.refl _ _).alloc (Nat.le_refl _) _⟩
 by_cases h4 : c = 4 ∨ c = 5 ∨ c = 7
 · have hV : Hid (vr c s.data.toList = nameOk s.data.toList) := by unfold vr; rw [if_neg h01, if_neg h2, if_neg h3, if_pos h4]; rfl
   clear hlen h01 h2 h3
   rcases h4 with rfl | rfl | rfl
   all_goals
    go_enter Tryz.func62, Tryz.ntmps62
    go_wp2_with fail
    refine (c85 _ _ hs).mono ?_
    rintro e w1 ⟨rfl, rfl⟩
    go_wp2
    go_ret
    exact ⟨ret_bool (by rw [hV.out]), (Below.refl _ _).alloc (Nat.le_refl _) _⟩
 · have hV : Hid (vr c s.data.toList = false) := by unfold vr; rw [if_neg h01, if_neg h2, if_neg h3, if_neg h4]; rfl
   have e0 : (c == 0) = false := by simp; omega
   have e1 : (c == 1) = false := by simp; omega
   have e2 : (c == 2) = false := by simp; omega
   have e3 : (c == 3) = false := by simp; omega
   have e4 : (c == 4) = false := by simp; omega
   have e5 : (c == 5) = false := by simp; omega
   have e7 : (c == 7) = false := by simp; omega
   clear hlen h01 h2 h3 h4
   go_enter Tryz.func62, Tryz.ntmps62
   go_wp2
   go_ret
   exact ⟨ret_bool (by rw [hV.out]), (Below.refl _ _).alloc (Nat.le_refl _) _⟩
end Go.Proofs.YtkhlekmicpmpkaaGreatDoor
namespace Go.Proofs.YtkhlekmicpmpkaaGreatDoor
open Go.RowKit
set_option maxRecDepth 100000
set_option maxHeartbeats 1000000 in
theorem c51 (c : Int) (s : ByteArray) (w : World) (hs : s.size ≤ 1048700) :
 Calls Tryz.prog 51 #[.agg #[.int .i64 c, .string s]] w fun e w' => e = .returned (.bool (vr c s.data.toList)) ∧ Below w.heap.size w w' := by
 have hlen : s.data.toList.length = s.size := by simp
 by_cases h300 : 300 < s.size
 · have hV : Hid (vr c s.data.toList = false) := vr_long (by omega)
   clear hlen
   go_enter Tryz.func51, Tryz.ntmps51
   go_wp2
   go_ret
   exact ⟨ret_bool (by rw [hV.out]), (Below.refl _ _).alloc (Nat.le_refl _) _⟩
 by_cases h01 : c = 0 ∨ c = 1
 · have hV : Hid (vr c s.data.toList = true) := by unfold vr; rw [if_pos h01, hlen]; simp [Hid]; omega
   clear hlen
   rcases h01 with rfl | rfl
   all_goals
    go_enter Tryz.func51, Tryz.ntmps51
    go_wp2
    go_ret
    exact ⟨ret_bool (by rw [hV.out]), (Below.refl _ _).alloc (Nat.le_refl _) _⟩
 by_cases h2 : c = 2
 · subst h2
   have hV : Hid (vr 2 s.data.toList = num40 s.data.toList) := rfl
   clear hlen h01
   go_enter Tryz.func51, Tryz.ntmps51
   go_wp2_with fail
   refine (c79 _ _ hs).mono ?_
   rintro e w1 ⟨rfl, hb1⟩
   go_wp2_with fail
   refine (c75 _ _ _ _).mono ?_
   rintro e w2 ⟨rfl, rfl⟩
   go_wp2
   go_ret
   refine ⟨ret_bool (by rw [hV.out]; rw [← n29_num40]; simp), ((Below.refl _ _).alloc (Nat.le_refl _) _).trans (hb1.mono (by simp))⟩
 by_cases h3 : c = 3
 · subst h3
   have hV : Hid (vr 3 s.data.toList = s.toList.isEmpty) := by rw [ByteArray.toList_eq]; rfl
   clear hlen h01 h2
   go_enter Tryz.func51, Tryz.ntmps51
   go_wp2
   go_ret
   exact ⟨ret_bool (by rw [hV.out]), (Below.refl _ _).alloc (Nat.le_refl _) _⟩
 by_cases h4 : c = 4 ∨ c = 5 ∨ c = 7
 · have hV : Hid (vr c s.data.toList = nameOk s.data.toList) := by unfold vr; rw [if_neg h01, if_neg h2, if_neg h3, if_pos h4]; rfl
   clear hlen h01 h2 h3
   rcases h4 with rfl | rfl | rfl
   all_goals
    go_enter Tryz.func51, Tryz.ntmps51
    go_wp2_with fail
    refine (c48 _ _ hs).mono ?_
    rintro e w1 ⟨rfl, rfl⟩
    go_wp2
    go_ret
    exact ⟨ret_bool (by rw [hV.out]), (Below.refl _ _).alloc (Nat.le_refl _) _⟩
 · have hV : Hid (vr c s.data.toList = false) := by unfold vr; rw [if_neg h01, if_neg h2, if_neg h3, if_neg h4]; rfl
   have e0 : (c == 0) = false := by simp; omega
   have e1 : (c == 1) = false := by simp; omega
   have e2 : (c == 2) = false := by simp; omega
   have e3 : (c == 3) = false := by simp; omega
   have e4 : (c == 4) = false := by simp; omega
   have e5 : (c == 5) = false := by simp; omega
   have e7 : (c == 7) = false := by simp; omega
   clear hlen h01 h2 h3 h4
   go_enter Tryz.func51, Tryz.ntmps51
   go_wp2
   go_ret
   exact ⟨ret_bool (by rw [hV.out]), (Below.refl _ _).alloc (Nat.le_refl _) _⟩
end Go.Proofs.YtkhlekmicpmpkaaGreatDoor
namespace Go.Proofs
open Go.Shelf
def Tryz.lays145_ren : Go.Shelf.Ren := ⟨fun | 145 => 82 | 220 => 102 | 219 => 114 | 217 => 121 | 225 => 122 | 224 => 123 | 267 => 124 | 266 => 146 | 314 => 147 | n => n, fun | 9 => 9 | 4 => 4 | 59 => 132 | 3 => 3 | 5 => 5 | 46 => 158 | 146 => 189 | 51 => 181 | n => n, fun | 1 => 0 | n => n⟩
theorem Tryz.lays145 : Go.Proofs.Lays.n145 Tryz.prog Tryz.lays145_ren := {
 mixed := by kernel_rfl
 f145 := Tryz.func82.trans (congrArg some (by kernel_rfl))
 f217 := Tryz.func121.trans (congrArg some (by kernel_rfl))
 f219 := Tryz.func114.trans (congrArg some (by kernel_rfl))
 f220 := Tryz.func102.trans (congrArg some (by kernel_rfl))
 f224 := Tryz.func123.trans (congrArg some (by kernel_rfl))
 f225 := Tryz.func122.trans (congrArg some (by kernel_rfl))
 f266 := Tryz.func146.trans (congrArg some (by kernel_rfl))
 f267 := Tryz.func124.trans (congrArg some (by kernel_rfl))
 f314 := Tryz.func147.trans (congrArg some (by kernel_rfl))
 t3 := Tryz.underlying3
 a3 := Tryz.isAgg3
 z3 := Tryz.sizeOf3
 v3 := Tryz.zeroValue3
 t4 := Tryz.underlying4
 a4 := Tryz.isAgg4
 z4 := Tryz.sizeOf4
 v4 := Tryz.zeroValue4
 t5 := Tryz.underlying5
 a5 := Tryz.isAgg5
 z5 := Tryz.sizeOf5
 v5 := Tryz.zeroValue5
 t9 := Tryz.underlying9
 a9 := Tryz.isAgg9
 z9 := Tryz.sizeOf9
 v9 := Tryz.zeroValue9
 t46 := Tryz.underlying158
 a46 := Tryz.isAgg158
 z46 := Tryz.sizeOf158
 v46 := Tryz.zeroValue158
 t51 := Tryz.underlying181
 a51 := Tryz.isAgg181
 z51 := Tryz.sizeOf181
 v51 := Tryz.zeroValue181
 t59 := Tryz.underlying132
 a59 := Tryz.isAgg132
 z59 := Tryz.sizeOf132
 v59 := Tryz.zeroValue132
 t146 := Tryz.underlying189
 a146 := Tryz.isAgg189
 z146 := Tryz.sizeOf189
 v146 := Tryz.zeroValue189
 g1 := by kernel_rfl }
theorem Tryz.strings_Cut (s sep : ByteArray) (m : Int) (w : World) (hs : s.size < 4294967281) (hm : w.cell? ⟨0, 0, none⟩ = some (.int .i64 m)) :
 Calls Tryz.prog 82 #[.string s, .string sep] w fun e w' => e = .returned (.tuple #[.string ⟨(Lib.cut s.data.toList sep.data.toList).1.toArray⟩, .string ⟨(Lib.cut s.data.toList sep.data.toList).2.1.toArray⟩, .bool (Lib.cut s.data.toList sep.data.toList).2.2]) ∧ ∃ n, w' = w.drewN n := Any.strings_Cut Tryz.lays145 s sep m w hs hm
end Go.Proofs

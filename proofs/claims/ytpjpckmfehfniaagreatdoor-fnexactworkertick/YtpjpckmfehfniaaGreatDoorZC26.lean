import Derived.Test.YtpjpckmfehfniaaGreatDoorZC20
import Derived.Test.YtpjpckmfehfniaaGreatDoorZC22
namespace Go.Proofs.YtpjpckmfehfniaaGreatDoor.M
open Go.RowKit
theorem ret_int {k : IntKind} {a b : Int} (h : a = b) : Ending.returned (.int k a) = .returned (.int k b) := by rw [h]
def n29 (l : List UInt8) : Int := if (1 ≤ l.length ∧ l.length ≤ 7) ∧ l.all isDig = true ∧ dec (val l) = l then val l else -1
theorem n29_len {l : List UInt8} (h : ¬ (1 ≤ l.length ∧ l.length ≤ 7)) : n29 l = -1 := by unfold n29; rw [if_neg (fun x => h x.1)]
theorem n29_dig {l : List UInt8} (h : l.all isDig = false) : n29 l = -1 := by unfold n29; rw [if_neg (fun x => by rw [h] at x; cases x.2.1)]
theorem n29_dec {l : List UInt8} (h : dec (val l) ≠ l) : n29 l = -1 := by unfold n29; rw [if_neg (fun x => h x.2.2)]
theorem n29_yes {l : List UInt8} (h : 1 ≤ l.length ∧ l.length ≤ 7) (h2 : l.all isDig = true) (h3 : dec (val l) = l) : n29 l = val l := by unfold n29; rw [if_pos ⟨h, h2, h3⟩]
theorem n29_num40 (l : List UInt8) : decide (0 ≤ n29 l ∧ n29 l ≤ 40) = num40 l := by
 by_cases h : num40 l = true
 · rw [h]
   have h' := h
   simp only [num40, Bool.and_eq_true, decide_eq_true_eq] at h'
   obtain ⟨⟨h1, h2⟩, h3⟩ := h'
   have hl := val_dig_len l h2 h1 h3
   have hne : l ≠ [] := ((lean1_iff l).1 h1).1
   have h1' : 1 ≤ l.length := List.length_pos_iff.2 hne
   rw [n29_yes ⟨h1', by omega⟩ h2 (dec_val l h2 h1).1]
   have := val_nonneg l h2
   simp only [decide_eq_true_eq]; omega
 · have h' : num40 l = false := by simpa using h
   rw [h']
   simp only [decide_eq_false_iff_not]
   intro ⟨a, b⟩
   unfold n29 at a b
   by_cases c : (1 ≤ l.length ∧ l.length ≤ 7) ∧ l.all isDig = true ∧ dec (val l) = l
   · rw [if_pos c] at a b
     have hd := (dec_lean ((val l).toNat + 1) (val l) a (by omega)).1
     rw [c.2.2] at hd
     rw [n40_yes hd c.2.1 b] at h'
     cases h'
   · rw [if_neg c] at a
     omega
theorem val_bound (l : List UInt8) (h : l.all isDig = true) : val l < 10 ^ l.length := by
 revert h
 refine snoc_ind (P := fun l => l.all isDig = true → val l < 10 ^ l.length) (by simp [val]) (fun l c ih h => ?_) l
 rw [List.all_append] at h
 simp only [List.all_cons, List.all_nil, Bool.and_true, Bool.and_eq_true] at h
 have := ih h.1
 have hc := (dig_iff c).1 h.2
 rw [val_snoc, List.length_append, List.length_singleton, Int.pow_succ]
 omega
theorem val_seven (l : List UInt8) (h : l.all isDig = true) (hl : l.length ≤ 7) : val l ≤ 10000000 := by
 have h1 := val_bound l h
 have h2 : (10 : Int) ^ l.length ≤ 10 ^ 7 := by exact_mod_cast Nat.pow_le_pow_right (by omega) hl
 omega
set_option maxHeartbeats 400000 in
theorem c83 (s : ByteArray) (w : World) (hs : s.size ≤ 1048700) :
 Calls Tryz.prog 83 #[.string s] w fun e w' => e = .returned (.int .i64 (n29 s.data.toList)) ∧ Below w.heap.size w w' := by
 by_cases h : 1 ≤ s.size ∧ s.size ≤ 7
 · obtain ⟨h1, h2⟩ := h
   go_enter Tryz.func83, Tryz.ntmps83
   go_wp2
   go_loop [3, 4] (fun n i => ∃ k : Nat, k ≤ s.size ∧ i = .int .i64 k ∧ n = .int .i64 (val (s.data.toList.take k)) ∧ 0 ≤ val (s.data.toList.take k) ∧ val (s.data.toList.take k) ≤ 10000000 ∧ Hid ((s.data.toList.take k).all isDig = true)) (fun _ i => s.size - (intOf i).toNat)
   case atStart => exact ⟨0, Nat.zero_le _, rfl, rfl, by simp [val], by simp [val], rfl⟩
   case round =>
    obtain ⟨k, hk, rfl, rfl, hv0, hv1, ha⟩ := hrel
    by_cases hlt : k < s.size
    · by_cases hg : isDig s[k] = true
      · have hg' := (dig_iff _).1 hg
        have hw := byte_sub _ hg'
        have ha' : Hid ((s.data.toList.take (k + 1)).all isDig = true) := all_take_snoc _ s k hlt ha.out hg
        have hvs : Hid (val (s.data.toList.take (k + 1)) = val (s.data.toList.take k) * 10 + ((s[k].toNat : Int) - 48)) := by
         rw [take_snoc s k hlt]; exact val_snoc _ _
        have hb : Hid (val (s.data.toList.take (k + 1)) ≤ 10000000) := val_seven _ ha'.out (by simp; omega)
        clear hg
        go_wp2
        go_round
        case rel => exact ⟨k + 1, by omega, by go_num, by rw [hvs.out], by rw [hvs.out]; omega, hb.out, ha'⟩
        case measure => simp [intOf]; omega
      · have hN : Hid (n29 s.data.toList = -1) := n29_dig (all_false_at _ s k hlt (by simpa using hg))
        have hg' : (s[k].toNat : Int) < 48 ∨ 57 < (s[k].toNat : Int) := by
         rcases Int.lt_or_le (s[k].toNat : Int) 48 with h | h
         · exact .inl h
         · rcases Int.lt_or_le 57 (s[k].toNat : Int) with h' | h'
           · exact .inr h'
           · exact absurd ((dig_iff _).2 ⟨h, h'⟩) hg
        clear hg
        rcases hg' with hg | hg
        all_goals
         go_wp2
         all_goals go_ret
         all_goals exact ⟨ret_int hN.out.symm, Below.refl _ _⟩
    · have hall : Hid (s.data.toList.all isDig = true) := all_take_size _ s k (by omega) ha.out
      have hE : Hid (s.data.toList.take k = s.data.toList) := List.take_of_length_le (by simp; omega)
      go_wp2_with fail
      refine (c77 _ _ _ hv0 (by omega) (Nat.lt_succ_self _)).mono ?_
      rintro e w1 ⟨rfl, hb1⟩
      rw [hE.out]
      by_cases hd : dec (val s.data.toList) = s.data.toList
      · have hN : Hid (n29 s.data.toList = val s.data.toList) := n29_yes (by simpa using ⟨h1, h2⟩) hall.out hd
        have hne : ((ofL (dec (val s.data.toList))).toList == s.toList) = true := by
         rw [hd, ByteArray.toList_eq, ByteArray.toList_eq]; simp [ofL]
        clear hd
        go_wp2
        go_ret
        exact ⟨ret_int hN.out.symm, hb1⟩
      · have hN : Hid (n29 s.data.toList = -1) := n29_dec hd
        have hne : ((ofL (dec (val s.data.toList))).toList == s.toList) = false := by
         rw [ByteArray.toList_eq, ByteArray.toList_eq]; simpa [ofL] using hd
        clear hd
        go_wp2
        go_ret
        exact ⟨ret_int hN.out.symm, hb1⟩
 · have hN : Hid (n29 s.data.toList = -1) := n29_len (by simpa using h)
   by_cases h1 : 1 ≤ s.size
   all_goals
    go_enter Tryz.func83, Tryz.ntmps83
    go_wp2
    all_goals go_ret
    all_goals exact ⟨ret_int hN.out.symm, Below.refl _ _⟩
end Go.Proofs.YtpjpckmfehfniaaGreatDoor.M
namespace Go.Proofs.YtpjpckmfehfniaaGreatDoor.M
open Go.RowKit
def vr (c : Int) (l : List UInt8) : Bool :=
 if c = 0 ∨ c = 1 then decide (l.length ≤ 300) else if c = 2 then num40 l else if c = 3 then l.isEmpty else if c = 4 ∨ c = 5 ∨ c = 7 then nameOk l else false
theorem num40_len {l : List UInt8} (h : num40 l = true) : l.length ≤ 2 := by
 simp only [num40, Bool.and_eq_true, decide_eq_true_eq] at h
 exact val_dig_len l h.1.2 h.1.1 h.2
theorem vr_long {c : Int} {l : List UInt8} (h : 300 < l.length) : vr c l = false := by
 have h1 : decide (l.length ≤ 300) = false := by simp only [decide_eq_false_iff_not]; omega
 have h2 : num40 l = false := by
  by_cases h2 : num40 l = true
  · have := num40_len h2; omega
  · simpa using h2
 have h3 : l.isEmpty = false := by cases l with | nil => simp at h | cons a r => rfl
 have h4 : nameOk l = false := by
  unfold nameOk
  have : decide (1 ≤ l.length ∧ l.length ≤ 20) = false := by simp only [decide_eq_false_iff_not]; omega
  rw [this]; rfl
 unfold vr
 rw [h1, h2, h3, h4]
 split <;> (try rfl)
 split <;> (try rfl)
 split <;> (try rfl)
 split <;> rfl
set_option maxHeartbeats 1000000 in
theorem c92 (c : Int) (s : ByteArray) (w : World) (hs : s.size ≤ 1048700) :
 Calls Tryz.prog 92 #[.agg #[.int .i64 c, .string s]] w fun e w' => e = .returned (.bool (vr c s.data.toList)) ∧ Below w.heap.size w w' := by
 have hlen : s.data.toList.length = s.size := by simp
 by_cases h01 : c = 0 ∨ c = 1
 · have hV : Hid (vr c s.data.toList = decide ((s.size : Int) ≤ 300)) := by unfold vr; rw [if_pos h01, hlen]; simp [Hid]; omega
   clear hlen
   rcases h01 with rfl | rfl
   all_goals
    go_enter Tryz.func92, Tryz.ntmps92
    go_wp2
    go_ret
    exact ⟨ret_bool (by rw [hV.out]), (Below.refl _ _).alloc (Nat.le_refl _) _⟩
 by_cases h2 : c = 2
 · subst h2
   have hV : Hid (vr 2 s.data.toList = num40 s.data.toList) := rfl
   clear hlen h01
   go_enter Tryz.func92, Tryz.ntmps92
   go_wp2_with fail
   refine (c123 _ _ hs).mono ?_
   rintro e w1 ⟨rfl, rfl⟩
   go_wp2
   go_ret
   exact ⟨ret_bool (by rw [hV.out]), (Below.refl _ _).alloc (Nat.le_refl _) _⟩
 by_cases h3 : c = 3
 · subst h3
   have hV : Hid (vr 3 s.data.toList = s.toList.isEmpty) := by rw [ByteArray.toList_eq]; rfl
   clear hlen h01 h2
   go_enter Tryz.func92, Tryz.ntmps92
   go_wp2
   go_ret
   exact ⟨ret_bool (by rw [hV.out]), (Below.refl _ _).alloc (Nat.le_refl _) _⟩
 by_cases h4 : c = 4 ∨ c = 5 ∨ c = 7
 · have hV : Hid (vr c s.data.toList = nameOk s.data.toList) := by unfold vr; rw [if_neg h01, if_neg h2, if_neg h3, if_pos h4]; rfl
   clear hlen h01 h2 h3
   rcases h4 with rfl | rfl | rfl
   all_goals
    go_enter Tryz.func92, Tryz.ntmps92
    go_wp2_with fail
    refine (c87 _ _ hs).mono ?_
    rintro e w1 ⟨rfl, rfl⟩
    go_wp2
    go_ret
    exact ⟨ret_bool (by rw [hV.out]), (Below.refl _ _).alloc (Nat.le_refl _) _⟩
 · have hV : Hid (vr c s.data.toList = false) := by unfold vr; rw [if_neg h01, if_neg h2, if_neg h3, if_neg h4]; rfl
   have e0 : (c == 0) = false := by simp; omega
   have e1 : (c == 1) = false := by simp; omega
   have e2 : (c == 2) = false := by simp; omega
   have e3 : (c == 3) = false := by simp; omega
   have e4 : (c == 4) = false := by simp; omega
   have e5 : (c == 5) = false := by simp; omega
   have e7 : (c == 7) = false := by simp; omega
   clear hlen h01 h2 h3 h4
   go_enter Tryz.func92, Tryz.ntmps92
   go_wp2
   go_ret
   exact ⟨ret_bool (by rw [hV.out]), (Below.refl _ _).alloc (Nat.le_refl _) _⟩
end Go.Proofs.YtpjpckmfehfniaaGreatDoor.M
namespace Go.Proofs.YtpjpckmfehfniaaGreatDoor.M
open Go.RowKit
set_option maxHeartbeats 1000000 in
theorem c76 (c : Int) (s : ByteArray) (w : World) (hs : s.size ≤ 1048700) :
 Calls Tryz.prog 76 #[.agg #[.int .i64 c, .string s]] w fun e w' => e = .returned (.bool (vr c s.data.toList)) ∧ Below w.heap.size w w' := by
 have hlen : s.data.toList.length = s.size := by simp
 by_cases h300 : 300 < s.size
 · have hV : Hid (vr c s.data.toList = false) := vr_long (by omega)
   clear hlen
   go_enter Tryz.func76, Tryz.ntmps76
   go_wp2
   go_ret
   exact ⟨ret_bool (by rw [hV.out]), (Below.refl _ _).alloc (Nat.le_refl _) _⟩
 by_cases h01 : c = 0 ∨ c = 1
 · have hV : Hid (vr c s.data.toList = true) := by unfold vr; rw [if_pos h01, hlen]; simp [Hid]; omega
   clear hlen
   rcases h01 with rfl | rfl
   all_goals
    go_enter Tryz.func76, Tryz.ntmps76
    go_wp2
    go_ret
    exact ⟨ret_bool (by rw [hV.out]), (Below.refl _ _).alloc (Nat.le_refl _) _⟩
 by_cases h2 : c = 2
 · subst h2
   have hV : Hid (vr 2 s.data.toList = num40 s.data.toList) := rfl
   clear hlen h01
   go_enter Tryz.func76, Tryz.ntmps76
   go_wp2_with fail
   refine (c83 _ _ hs).mono ?_
   rintro e w1 ⟨rfl, hb1⟩
   go_wp2_with fail
   refine (c67 _ _ _ _).mono ?_
   rintro e w2 ⟨rfl, rfl⟩
   go_wp2
   go_ret
   refine ⟨ret_bool (by rw [hV.out]; rw [← n29_num40]; simp), ((Below.refl _ _).alloc (Nat.le_refl _) _).trans (hb1.mono (by simp))⟩
 by_cases h3 : c = 3
 · subst h3
   have hV : Hid (vr 3 s.data.toList = s.toList.isEmpty) := by rw [ByteArray.toList_eq]; rfl
   clear hlen h01 h2
   go_enter Tryz.func76, Tryz.ntmps76
   go_wp2
   go_ret
   exact ⟨ret_bool (by rw [hV.out]), (Below.refl _ _).alloc (Nat.le_refl _) _⟩
 by_cases h4 : c = 4 ∨ c = 5 ∨ c = 7
 · have hV : Hid (vr c s.data.toList = nameOk s.data.toList) := by unfold vr; rw [if_neg h01, if_neg h2, if_neg h3, if_pos h4]; rfl
   clear hlen h01 h2 h3
   rcases h4 with rfl | rfl | rfl
   all_goals
    go_enter Tryz.func76, Tryz.ntmps76
    go_wp2_with fail
    refine (c73 _ _ hs).mono ?_
    rintro e w1 ⟨rfl, rfl⟩
    go_wp2
    go_ret
    exact ⟨ret_bool (by rw [hV.out]), (Below.refl _ _).alloc (Nat.le_refl _) _⟩
 · have hV : Hid (vr c s.data.toList = false) := by unfold vr; rw [if_neg h01, if_neg h2, if_neg h3, if_neg h4]; rfl
   have e0 : (c == 0) = false := by simp; omega
   have e1 : (c == 1) = false := by simp; omega
   have e2 : (c == 2) = false := by simp; omega
   have e3 : (c == 3) = false := by simp; omega
   have e4 : (c == 4) = false := by simp; omega
   have e5 : (c == 5) = false := by simp; omega
   have e7 : (c == 7) = false := by simp; omega
   clear hlen h01 h2 h3 h4
   go_enter Tryz.func76, Tryz.ntmps76
   go_wp2
   go_ret
   exact ⟨ret_bool (by rw [hV.out]), (Below.refl _ _).alloc (Nat.le_refl _) _⟩
end Go.Proofs.YtpjpckmfehfniaaGreatDoor.M
namespace Go.Proofs.YtpjpckmfehfniaaGreatDoor.M
open Go.RowKit
set_option maxHeartbeats 400000 in
theorem c69 (n : Int) (w : World) :
 Calls Tryz.prog 69 #[.int .i64 n] w fun e w' => e = .returned (.bool (decide (1 ≤ n ∧ n ≤ 4))) ∧ w' = w := by
 by_cases h1 : 1 ≤ n <;> by_cases h2 : n ≤ 4
 all_goals
  go_enter Tryz.func69, Tryz.ntmps69
  go_wp2
  all_goals go_ret
  all_goals exact ⟨by simp [*], rfl⟩
set_option maxHeartbeats 400000 in
theorem c204 (n : Int) (w : World) :
 Calls Tryz.prog 204 #[.int .i64 n] w fun e w' => e = .returned (.bool (decide (1 ≤ n ∧ n ≤ 200))) ∧ w' = w := by
 by_cases h1 : 1 ≤ n <;> by_cases h2 : n ≤ 200
 all_goals
  go_enter Tryz.func204, Tryz.ntmps204
  go_wp2
  all_goals go_ret
  all_goals exact ⟨by simp [*], rfl⟩
def momOk (a b : Int) : Bool := decide (1 ≤ a ∧ a ≤ 200) && decide (0 ≤ b ∧ b ≤ 1000)
set_option maxHeartbeats 400000 in
theorem c176 (a b : Int) (w : World) :
 Calls Tryz.prog 176 #[.int .i64 a, .int .i64 b] w fun e w' => e = .returned (.bool (momOk a b)) ∧ w' = w := by
 have HM : Hid (momOk a b = (decide (1 ≤ a ∧ a ≤ 200) && decide (0 ≤ b ∧ b ≤ 1000))) := rfl
 cases h : decide (1 ≤ a ∧ a ≤ 200)
 · have HF : Hid (momOk a b = false) := by rw [HM.out, h]; rfl
   go_enter Tryz.func176, Tryz.ntmps176
   go_wp2_with fail
   refine (c204 a w).mono ?_
   rintro e w1 ⟨rfl, hw⟩
   obtain rfl := hw.symm
   rw [h]
   go_wp2
   go_ret
   exact ⟨by rw [HF.out]; rfl, rfl⟩
 · have HF : Hid (momOk a b = decide (0 ≤ b ∧ b ≤ 1000)) := by rw [HM.out, h]; rfl
   by_cases h1 : 0 ≤ b <;> by_cases h2 : b ≤ 1000
   all_goals
    go_enter Tryz.func176, Tryz.ntmps176
    go_wp2_with fail
    refine (c204 a w).mono ?_
    rintro e w1 ⟨rfl, hw⟩
    obtain rfl := hw.symm
    rw [h]
    go_wp2
    all_goals go_ret
    all_goals exact ⟨by rw [HF.out]; simp [*], rfl⟩
def LkOk (x : L4) : Prop := nameOk x.nm.data.toList = true ∧ ((x.has = true ∧ ((x.cd = 0 ∧ x.tx = ⟨#[]⟩) ∨ (x.cd = 4 ∧ x.tx = x.nm))) ∨ (x.has = false ∧ vr x.cd x.tx.data.toList = true))
def IsB (P : Prop) (e : Ending) : Prop := ∃ r, e = .returned (.bool r) ∧ (r = true ↔ P)
theorem isB_no {P : Prop} (h : ¬ P) : IsB P (.returned (.bool false)) := ⟨false, rfl, ⟨fun h => absurd h Bool.false_ne_true, fun k => absurd k h⟩⟩
theorem isB_yes {P : Prop} (h : P) : IsB P (.returned (.bool true)) := ⟨true, rfl, ⟨fun _ => h, fun _ => rfl⟩⟩
theorem ba_iff (x y : ByteArray) : x.toList = y.toList ↔ x = y := ⟨fun h => by
 rw [ByteArray.toList_eq, ByteArray.toList_eq] at h
 exact ByteArray.ext (Array.toList_inj.1 h), fun h => by rw [h]⟩
theorem ba_nil (x : ByteArray) : x.toList = [] ↔ x = ⟨#[]⟩ := by
 rw [ByteArray.toList_eq]
 exact ⟨fun h => ByteArray.ext (Array.toList_inj.1 h), fun h => by rw [h]⟩
theorem lk_name {x : L4} (h : nameOk x.nm.data.toList = false) : ¬ LkOk x := fun k => absurd (k.1.symm.trans h) (by decide)
theorem lk_ask {x : L4} (hn : nameOk x.nm.data.toList = true) (hh : x.has = false) : LkOk x ↔ vr x.cd x.tx.data.toList = true := by
 constructor
 · rintro ⟨_, ⟨h, _⟩ | ⟨_, h⟩⟩
   · rw [hh] at h; cases h
   · exact h
 · exact fun h => ⟨hn, .inr ⟨hh, h⟩⟩
theorem lk_has {x : L4} (hn : nameOk x.nm.data.toList = true) (hh : x.has = true) : LkOk x ↔ ((x.cd = 0 ∧ x.tx.toList = []) ∨ (x.cd = 4 ∧ x.tx.toList = x.nm.toList)) := by
 rw [ba_nil, ba_iff]
 constructor
 · rintro ⟨_, ⟨_, h⟩ | ⟨h, _⟩⟩
   · exact h
   · rw [hh] at h; cases h
 · exact fun h => ⟨hn, .inl ⟨hh, h⟩⟩
end Go.Proofs.YtpjpckmfehfniaaGreatDoor.M
namespace Go.Proofs.YtpjpckmfehfniaaGreatDoor.M
open Go.RowKit
set_option maxHeartbeats 2000000 in
theorem c74 (x : L4) (w : World) (hs : x.le 1048600) :
 Calls Tryz.prog 74 #[.agg #[.bool x.has, .string x.nm, .int .i64 x.cd, .string x.tx]] w fun e w' => IsB (LkOk x) e ∧ Below w.heap.size w w' := by
 obtain ⟨s1, s2⟩ := hs
 have hB0 : ∀ o, Below w.heap.size w (w.alloc o) := fun o => (Below.refl _ _).alloc (Nat.le_refl _) _
 cases hn : nameOk x.nm.data.toList
 · have HN : Hid (IsB (LkOk x) (.returned (.bool false))) := isB_no (lk_name hn)
   go_enter Tryz.func74, Tryz.ntmps74
   go_wp2_with fail
   refine (c73 x.nm _ (by omega)).mono ?_
   rintro e w1 ⟨rfl, hw⟩
   obtain rfl := hw.symm
   rw [hn]
   go_wp2
   go_ret
   exact ⟨HN.out, hB0 _⟩
 · cases hh : x.has
   · have HE : Hid (LkOk x ↔ vr x.cd x.tx.data.toList = true) := lk_ask hn hh
     go_enter Tryz.func74, Tryz.ntmps74
     go_wp2_with fail
     refine (c73 x.nm _ (by omega)).mono ?_
     rintro e w1 ⟨rfl, hw⟩
     obtain rfl := hw.symm
     rw [hn]
     go_wp2_with fail
     refine (c76 x.cd x.tx _ (by omega)).mono ?_
     rintro e w2 ⟨rfl, hb2⟩
     have hB2 : Below w.heap.size w w2 := (hB0 _).trans (hb2.mono (by simp))
     go_wp2
     go_ret
     exact ⟨⟨_, rfl, HE.out.symm⟩, hB2⟩
   · have HE : Hid (LkOk x ↔ ((x.cd = 0 ∧ x.tx.toList = []) ∨ (x.cd = 4 ∧ x.tx.toList = x.nm.toList))) := lk_has hn hh
     skip
     all_goals
      go_enter Tryz.func74, Tryz.ntmps74
      go_wp2_with fail
      refine (c73 x.nm _ (by omega)).mono ?_
      rintro e w1 ⟨rfl, hw⟩
      obtain rfl := hw.symm
      rw [hn]
      go_wp2
      all_goals go_ret
      all_goals first
       | exact ⟨isB_yes (HE.out.2 (by simp [*])), hB0 _⟩
       | exact ⟨isB_no (fun h => by have := HE.out.1 h; simp [*] at this), hB0 _⟩
       | exact ⟨isB_yes (HE.out.2 (by simp [*])), (hB0 _).alloc (by simp) _⟩
       | exact ⟨isB_no (fun h => by have := HE.out.1 h; simp [*] at this), (hB0 _).alloc (by simp) _⟩
set_option maxHeartbeats 2000000 in
theorem c41 (x : L4) (w : World) (hs : x.le 1048600) :
 Calls Tryz.prog 41 #[.agg #[.bool x.has, .string x.nm, .int .i64 x.cd, .string x.tx]] w fun e w' => IsB (LkOk x) e ∧ Below w.heap.size w w' := by
 obtain ⟨s1, s2⟩ := hs
 have hB0 : ∀ o, Below w.heap.size w (w.alloc o) := fun o => (Below.refl _ _).alloc (Nat.le_refl _) _
 cases hh : x.has
 · cases hn : nameOk x.nm.data.toList
   · have HN : Hid (IsB (LkOk x) (.returned (.bool false))) := isB_no (lk_name hn)
     go_enter Tryz.func41, Tryz.ntmps41
     go_wp2_with fail
     refine (c87 x.nm _ (by omega)).mono ?_
     rintro e w1 ⟨rfl, hw⟩
     obtain rfl := hw.symm
     rw [hn]
     go_wp2
     go_ret
     exact ⟨HN.out, hB0 _⟩
   · have HE : Hid (LkOk x ↔ vr x.cd x.tx.data.toList = true) := lk_ask hn hh
     go_enter Tryz.func41, Tryz.ntmps41
     go_wp2_with fail
     refine (c87 x.nm _ (by omega)).mono ?_
     rintro e w1 ⟨rfl, hw⟩
     obtain rfl := hw.symm
     rw [hn]
     go_wp2_with fail
     refine (c92 x.cd x.tx _ (by omega)).mono ?_
     rintro e w2 ⟨rfl, hb2⟩
     have hB2 : Below w.heap.size w w2 := (hB0 _).trans (hb2.mono (by simp))
     go_wp2
     go_ret
     exact ⟨⟨_, rfl, HE.out.symm⟩, hB2⟩
 · cases hn : nameOk x.nm.data.toList
   · have HN : Hid (IsB (LkOk x) (.returned (.bool false))) := isB_no (lk_name hn)
     go_enter Tryz.func41, Tryz.ntmps41
     go_wp2_with fail
     refine (c87 x.nm _ (by omega)).mono ?_
     rintro e w1 ⟨rfl, hw⟩
     obtain rfl := hw.symm
     rw [hn]
     go_wp2
     go_ret
     exact ⟨HN.out, (hB0 _).alloc (by simp) _⟩
   · have HE : Hid (LkOk x ↔ ((x.cd = 0 ∧ x.tx.toList = []) ∨ (x.cd = 4 ∧ x.tx.toList = x.nm.toList))) := lk_has hn hh
     skip
     all_goals
      go_enter Tryz.func41, Tryz.ntmps41
      go_wp2_with fail
      refine (c87 x.nm _ (by omega)).mono ?_
      rintro e w1 ⟨rfl, hw⟩
      obtain rfl := hw.symm
      rw [hn]
      go_wp2
      all_goals go_ret
      all_goals first
       | exact ⟨isB_yes (HE.out.2 (by simp [*])), (hB0 _).alloc (by simp) _⟩
       | exact ⟨isB_no (fun h => by have := HE.out.1 h; simp [*] at this), (hB0 _).alloc (by simp) _⟩
       | exact ⟨isB_yes (HE.out.2 (by simp [*])), ((hB0 _).alloc (by simp) _).alloc (by simp; omega) _⟩
       | exact ⟨isB_no (fun h => by have := HE.out.1 h; simp [*] at this), ((hB0 _).alloc (by simp) _).alloc (by simp; omega) _⟩
end Go.Proofs.YtpjpckmfehfniaaGreatDoor.M

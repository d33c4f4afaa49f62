import Derived.Test.YtboojefodbjbcaaGreatDoorZR04
import Derived.Deep.RegionHeld3
import Derived.Laws.Cover1
namespace Go.Proofs.YtboojefodbjbcaaGreatDoor.G
open Go.RowKit
theorem all_take_snoc (p : UInt8 → Bool) (s : ByteArray) (k : Nat) (h : k < s.size) (ha : (s.data.toList.take k).all p = true) (hp : p s[k] = true) : (s.data.toList.take (k + 1)).all p = true := by
 rw [take_snoc s k h, List.all_append, ha]; simpa using hp
theorem all_false_at (p : UInt8 → Bool) (s : ByteArray) (k : Nat) (h : k < s.size) (hp : p s[k] = false) : s.data.toList.all p = false := by
 rw [List.all_eq_false]
 exact ⟨s[k], by simp [ByteArray.getElem_eq_getElem_data], by simp [hp]⟩
theorem all_take_size (p : UInt8 → Bool) (s : ByteArray) (k : Nat) (h : s.size ≤ k) (ha : (s.data.toList.take k).all p = true) : s.data.toList.all p = true := by
 rwa [List.take_of_length_le (by simpa using h)] at ha
def ofL (l : List UInt8) : ByteArray := ⟨l.toArray⟩
theorem ofL_size (l : List UInt8) : (ofL l).size = l.length := by simp [ofL, ByteArray.size]
set_option maxHeartbeats 400000 in
theorem c67 (n l h : Int) (w : World) :
 Calls Tryz.prog 67 #[.int .i64 n, .int .i64 l, .int .i64 h] w fun e w' => e = .returned (.bool (decide (l ≤ n ∧ n ≤ h))) ∧ w' = w := by
 by_cases h1 : l ≤ n <;> by_cases h2 : n ≤ h
 all_goals
  go_enter Tryz.func67, Tryz.ntmps67
  go_wp2
  all_goals go_ret
  all_goals exact ⟨by simp [*], rfl⟩
theorem name_short (s : ByteArray) (h : ¬ (1 ≤ s.size ∧ s.size ≤ 20)) : nameOk s.data.toList = false := by
 unfold nameOk
 have : (decide (1 ≤ s.data.toList.length ∧ s.data.toList.length ≤ 20)) = false := by
  simp only [decide_eq_false_iff_not]; simpa using h
 rw [this]; rfl
theorem name_long (s : ByteArray) (h : 1 ≤ s.size ∧ s.size ≤ 20) : nameOk s.data.toList = s.data.toList.all isGraph := by
 unfold nameOk
 have : (decide (1 ≤ s.data.toList.length ∧ s.data.toList.length ≤ 20)) = true := by
  simp only [decide_eq_true_eq]; simpa using h
 rw [this]; rfl
set_option maxHeartbeats 400000 in
theorem c80 (s : ByteArray) (w : World) (hs : s.size ≤ 1048700) :
 Calls Tryz.prog 80 #[.string s] w fun e w' => e = .returned (.bool (nameOk s.data.toList)) ∧ w' = w := by
 by_cases h : 1 ≤ s.size ∧ s.size ≤ 20
 · have hN : Hid (nameOk s.data.toList = s.data.toList.all isGraph) := name_long s h
   obtain ⟨h1, h2⟩ := h
   go_enter Tryz.func80, Tryz.ntmps80
   go_wp2
   go_loop [14] (fun i => ∃ k : Nat, k ≤ s.size ∧ i = .int .i64 k ∧ Hid ((s.data.toList.take k).all isGraph = true)) (fun i => s.size - (intOf i).toNat)
   case atStart => exact ⟨0, Nat.zero_le _, rfl, rfl⟩
   case round =>
    obtain ⟨k, hk, rfl, ha⟩ := hrel
    by_cases hlt : k < s.size
    · by_cases hg : isGraph s[k] = true
      · have hg' := (graph_iff _).1 hg
        have hn := Hid.out ha
        have ha' : Hid ((s.data.toList.take (k + 1)).all isGraph = true) := all_take_snoc _ s k hlt ha.out hg
        clear hg hn
        go_wp2
        go_round
        case rel => exact ⟨k + 1, by omega, by go_num, ha'⟩
        case measure => simp [intOf]; omega
      · have hf : Hid (s.data.toList.all isGraph = false) := all_false_at _ s k hlt (by simpa using hg)
        have hg' : (s[k].toNat : Int) < 33 ∨ 126 < (s[k].toNat : Int) := by
         rcases Int.lt_or_le (s[k].toNat : Int) 33 with h | h
         · exact .inl h
         · rcases Int.lt_or_le 126 (s[k].toNat : Int) with h' | h'
           · exact .inr h'
           · exact absurd ((graph_iff _).2 ⟨h, h'⟩) hg
        clear hg
        rcases hg' with hg | hg
        all_goals
         go_wp2
         all_goals go_ret
         all_goals exact ⟨ret_bool (by rw [hN.out, hf.out]), rfl⟩
    · go_wp2
      go_ret
      exact ⟨ret_bool (by rw [hN.out, all_take_size _ s k (by omega) ha.out]), rfl⟩
 · have hN : Hid (nameOk s.data.toList = false) := name_short s h
   by_cases h1 : 1 ≤ s.size
   all_goals
    go_enter Tryz.func80, Tryz.ntmps80
    go_wp2
    all_goals go_ret
    all_goals exact ⟨ret_bool (by rw [hN.out]), rfl⟩
set_option maxHeartbeats 400000 in
theorem c31 (s : ByteArray) (w : World) (hs : s.size ≤ 1048700) :
 Calls Tryz.prog 31 #[.string s] w fun e w' => e = .returned (.bool (nameOk s.data.toList)) ∧ w' = w := by
 by_cases h : 1 ≤ s.size ∧ s.size ≤ 20
 · have hN : Hid (nameOk s.data.toList = s.data.toList.all isGraph) := name_long s h
   have hd : decide ((1 : Int) ≤ (s.size : Int) ∧ (s.size : Int) ≤ 20) = true := by simp; omega
   go_enter Tryz.func31, Tryz.ntmps31
   go_wp2_with fail
   refine (c67 _ _ _ _).mono ?_
   rintro e w' ⟨rfl, rfl⟩
   rw [hd]
   go_wp2
   go_loop [3] (fun i => ∃ k : Nat, k ≤ s.size ∧ i = .int .i64 k ∧ Hid ((s.data.toList.take k).all isGraph = true)) (fun i => s.size - (intOf i).toNat)
   case atStart => exact ⟨0, Nat.zero_le _, rfl, rfl⟩
   case round =>
    obtain ⟨k, hk, rfl, ha⟩ := hrel
    by_cases hlt : k < s.size
    · by_cases hg : isGraph s[k] = true
      · have hg' := (graph_iff _).1 hg
        have ha' : Hid ((s.data.toList.take (k + 1)).all isGraph = true) := all_take_snoc _ s k hlt ha.out hg
        clear hg
        go_wp2
        go_round
        case rel => exact ⟨k + 1, by omega, by go_num, ha'⟩
        case measure => simp [intOf]; omega
      · have hf : Hid (s.data.toList.all isGraph = false) := all_false_at _ s k hlt (by simpa using hg)
        have hg' : (s[k].toNat : Int) < 33 ∨ 126 < (s[k].toNat : Int) := by
         rcases Int.lt_or_le (s[k].toNat : Int) 33 with h | h
         · exact .inl h
         · rcases Int.lt_or_le 126 (s[k].toNat : Int) with h' | h'
           · exact .inr h'
           · exact absurd ((graph_iff _).2 ⟨h, h'⟩) hg
        clear hg
        rcases hg' with hg | hg
        all_goals
         go_wp2
         all_goals go_ret
         all_goals exact ⟨ret_bool (by rw [hN.out, hf.out]), rfl⟩
    · go_wp2
      go_ret
      exact ⟨ret_bool (by rw [hN.out, all_take_size _ s k (by omega) ha.out]), rfl⟩
 · have hN : Hid (nameOk s.data.toList = false) := name_short s h
   have hd : decide ((1 : Int) ≤ (s.size : Int) ∧ (s.size : Int) ≤ 20) = false := by simp only [decide_eq_false_iff_not]; omega
   go_enter Tryz.func31, Tryz.ntmps31
   go_wp2_with fail
   refine (c67 _ _ _ _).mono ?_
   rintro e w' ⟨rfl, rfl⟩
   rw [hd]
   go_wp2
   go_ret
   exact ⟨ret_bool (by rw [hN.out]), rfl⟩
end Go.Proofs.YtboojefodbjbcaaGreatDoor.G
namespace Go.Proofs.YtboojefodbjbcaaGreatDoor.G
set_option linter.unusedSimpArgs false
open Go.RowKit
def okM (x : M3) : Bool := nameOk x.nm.data.toList && nameOk x.tl.data.toList && decide ((x.ar.size : Int) ≤ 300)
set_option maxHeartbeats 1000000 in
theorem c30 (x : M3) (w : World) (hs : x.le 1048700) :
 Calls Tryz.prog 30 #[.agg #[.string x.nm, .string x.tl, .string x.ar]] w fun e w' => e = .returned (.bool (okM x)) ∧ Below w.heap.size w w' := by
 have HF : Hid (okM x = (nameOk x.nm.data.toList && nameOk x.tl.data.toList && decide ((x.ar.size : Int) ≤ 300))) := rfl
 obtain ⟨h1, h2, h3⟩ := hs
 go_enter Tryz.func30, Tryz.ntmps30
 go_wp2_with fail
 refine (c31 _ _ h1).mono ?_
 rintro e w1 ⟨rfl, rfl⟩
 cases hn : nameOk x.nm.data.toList
 · rw [hn] at HF
   go_wp2
   all_goals go_ret
   all_goals exact ⟨ret_bool (by rw [HF.out]; simp), (Below.refl _ _).alloc (Nat.le_refl _) _⟩
 · rw [hn] at HF
   go_wp2_with fail
   refine (c31 _ _ h2).mono ?_
   rintro e w1 ⟨rfl, rfl⟩
   cases hm : nameOk x.tl.data.toList
   all_goals
    rw [hm] at HF
    go_wp2
    all_goals go_ret
    all_goals exact ⟨ret_bool (by rw [HF.out]; simp), (Below.refl _ _).alloc (Nat.le_refl _) _⟩
theorem c30v {x : M3} {v : Bool} (hv : okM x = v) (w : World) (hs : x.le 1048700) :
 Calls Tryz.prog 30 #[.agg #[.string x.nm, .string x.tl, .string x.ar]] w fun e w' => e = .returned (.bool v) ∧ Below w.heap.size w w' := hv ▸ c30 x w hs
set_option maxHeartbeats 1000000 in
theorem c43 (x : M3) (w : World) (hs : x.le 1048700) :
 Calls Tryz.prog 43 #[.agg #[.string x.nm, .string x.tl, .string x.ar]] w fun e w' => e = .returned (.bool (okM x)) ∧ Below w.heap.size w w' := by
 have HF : Hid (okM x = (nameOk x.nm.data.toList && nameOk x.tl.data.toList && decide ((x.ar.size : Int) ≤ 300))) := rfl
 obtain ⟨h1, h2, h3⟩ := hs
 go_enter Tryz.func43, Tryz.ntmps43
 go_wp2_with fail
 refine (c80 _ _ h1).mono ?_
 rintro e w1 ⟨rfl, rfl⟩
 cases hn : nameOk x.nm.data.toList
 · rw [hn] at HF
   go_wp2
   all_goals go_ret
   all_goals exact ⟨ret_bool (by rw [HF.out]; simp), (Below.refl _ _).alloc (Nat.le_refl _) _⟩
 · rw [hn] at HF
   go_wp2_with fail
   refine (c80 _ _ h2).mono ?_
   rintro e w1 ⟨rfl, rfl⟩
   cases hm : nameOk x.tl.data.toList
   all_goals
    rw [hm] at HF
    go_wp2
    all_goals go_ret
    all_goals exact ⟨ret_bool (by rw [HF.out]; simp), (Below.refl _ _).alloc (Nat.le_refl _) _⟩
theorem c43v {x : M3} {v : Bool} (hv : okM x = v) (w : World) (hs : x.le 1048700) :
 Calls Tryz.prog 43 #[.agg #[.string x.nm, .string x.tl, .string x.ar]] w fun e w' => e = .returned (.bool v) ∧ Below w.heap.size w w' := hv ▸ c43 x w hs
theorem c163' (s : ByteArray) (w : World) (hs : s.size ≤ 1048700) :
 Calls Tryz.prog 163 #[.string s] w fun e w' => e = .returned (.string (ofL (quoteL s.data.toList))) ∧ Below w.heap.size w w' := c163 s w hs
def bodyL (x : M3) : List UInt8 := x.nm.data.toList ++ [32] ++ x.tl.data.toList ++ [32] ++ quoteL x.ar.data.toList
def makeL (x : M3) : List UInt8 := [109, 97, 107, 101, 32] ++ bodyL x ++ [10]
end Go.Proofs.YtboojefodbjbcaaGreatDoor.G
namespace Go.Proofs.YtboojefodbjbcaaGreatDoor.G
open Go.RowKit
def cst (b : UInt8) (p : List (List UInt8) × List UInt8) (c : UInt8) : List (List UInt8) × List UInt8 := if c = b then (p.1 ++ [p.2], []) else (p.1, p.2 ++ [c])
def cstate (b : UInt8) (l : List UInt8) : List (List UInt8) × List UInt8 := l.foldl (cst b) ([], [])
def cutS (b : UInt8) (l : List UInt8) : List (List UInt8) := (cstate b l).1 ++ [(cstate b l).2]
theorem cstate_snoc (b : UInt8) (l : List UInt8) (c : UInt8) : cstate b (l ++ [c]) = cst b (cstate b l) c := by simp [cstate]
theorem cstate_len (b : UInt8) (l : List UInt8) (p : List (List UInt8) × List UInt8) : (l.foldl (cst b) p).1.length ≤ p.1.length + l.length := by
 induction l generalizing p with
 | nil => simp
 | cons c l ih =>
  have := ih (cst b p c)
  have h2 : (cst b p c).1.length ≤ p.1.length + 1 := by unfold cst; split <;> simp
  simp only [List.foldl_cons, List.length_cons]; omega
theorem cstate_le (b : UInt8) (l : List UInt8) : (cstate b l).1.length ≤ l.length := by have := cstate_len b l ([], []); simpa [cstate] using this
def strL (ss : List (List UInt8)) : List Value := ss.map fun l => .string (ofL l)
theorem strL_snoc (ss : List (List UInt8)) (l : List UInt8) : strL (ss ++ [l]) = strL ss ++ [.string (ofL l)] := by simp [strL]
def LinesAt (w : World) (g : Nat) (ss : List (List UInt8)) : Prop := g < w.heap.size ∧ ∀ i, i < ss.length → w.cell? ⟨g, i, none⟩ = some (.string (ofL (ss.getD i [])))
theorem lines_of_owns {w : World} {base g k cp : Nat} {ss : List (List UInt8)} (h : w.ownsRow base 9 1 (.slice (some ⟨g, 0, none⟩) k cp) k (strL ss)) (hl : ss.length = k) : LinesAt w g ss := by
 refine ⟨(h.lt g rfl).2, fun i hi => ?_⟩
 rw [h.cellAt i (by omega)]
 simp [strL, hi]
theorem own_formF {w : World} {base : Nat} {e : TypeId} {size : Nat} {v : Value} {n : Nat} {xs : List Value} (h : w.ownsRow base e size v n xs) (hn : 0 < n) : ∃ g cp, v = .slice (some ⟨g, 0, none⟩) n cp := by
 rcases h.2 with ⟨_, h0⟩ | ⟨g, cap, cur, hv, _⟩
 · omega
 · exact ⟨g, cap, hv⟩
theorem info9 : (Tryz.prog.info? 9).map (fun i => (i.zero, i.size, i.bytes)) = some (some (.string ⟨#[]⟩), 1, 16) := by kernel_rfl
theorem ext_ofL {s : ByteArray} {l : List UInt8} (h : s.data.toList = l) : s = ofL l := by
 apply ByteArray.ext
 unfold ofL
 rw [← h]
theorem ext_listF (s : ByteArray) (a b : Nat) : (s.extract a b).data.toList = (s.data.toList.take b).drop a := by
 rw [ByteArray.data_extract, Array.toList_extract, List.extract_eq_take_drop, List.drop_take]
def wordOf (l : List UInt8) : List UInt8 := l.takeWhile (· != 32)
def restOf (l : List UInt8) : List UInt8 := (l.dropWhile (· != 32)).drop 1
theorem word_at {l : List UInt8} {k : Nat} (ha : (l.take k).all (· != 32) = true) (_hk : k ≤ l.length) (he : k = l.length ∨ l.getD k 0 = 32) : wordOf l = l.take k ∧ restOf l = l.drop (k + 1) := by
 have h : l.takeWhile (· != 32) = l.take k ∧ l.dropWhile (· != 32) = l.drop k := by
  rcases Nat.lt_or_ge k l.length with hlt | hge
  · have hx : l[k] = 32 := by
     rcases he with he | he
     · omega
     · simpa [hlt] using he
    have hsplit : l = l.take k ++ l[k] :: l.drop (k + 1) := by rw [← List.drop_eq_getElem_cons hlt, List.take_append_drop]
    have hall : ∀ a ∈ l.take k, (a != 32) = true := fun a h => List.all_eq_true.1 ha a h
    constructor
    · conv => lhs; rw [hsplit]
      rw [List.takeWhile_append_of_pos hall, hx]
      simp
    · conv => lhs; rw [hsplit]
      rw [List.dropWhile_append_of_pos hall, hx]
      rw [List.drop_eq_getElem_cons hlt, hx]
      simp
  · rw [List.take_of_length_le hge] at ha
    rw [List.take_of_length_le hge, List.drop_of_length_le hge]
    have hall : ∀ a ∈ l, (a != 32) = true := fun a h => List.all_eq_true.1 ha a h
    have := List.takeWhile_append_of_pos (l₂ := []) hall
    have h2 := List.dropWhile_append_of_pos (l₂ := []) hall
    simp only [List.append_nil, List.takeWhile_nil, List.dropWhile_nil] at this h2
    exact ⟨this, h2⟩
 refine ⟨h.1, ?_⟩
 unfold restOf
 rw [h.2, List.drop_drop]
end Go.Proofs.YtboojefodbjbcaaGreatDoor.G
namespace Go.Proofs.YtboojefodbjbcaaGreatDoor.G
open Go.RowKit
def restN (l : List UInt8) : Nat → List UInt8
 | 0 => l
 | k + 1 => restOf (restN l k)
def wordsN (l : List UInt8) (k : Nat) : List (List UInt8) := (List.range k).map fun j => wordOf (restN l j)
theorem wordsN_succ (l : List UInt8) (k : Nat) : wordsN l (k + 1) = wordsN l k ++ [wordOf (restN l k)] := by simp [wordsN, List.range_succ]
theorem rest_small (l : List UInt8) : (wordOf l).length ≤ l.length ∧ (restOf l).length ≤ l.length := by
 unfold wordOf restOf
 refine ⟨(List.takeWhile_sublist _).length_le, ?_⟩
 have := (List.dropWhile_sublist (l := l) (· != 32)).length_le
 simp only [List.length_drop]; omega
theorem restN_len (l : List UInt8) (k : Nat) : (restN l k).length ≤ l.length := by
 induction k with
 | zero => exact Nat.le_refl _
 | succ k ih => exact Nat.le_trans (rest_small _).2 ih
set_option maxHeartbeats 2000000 in
set_option maxRecDepth 100000 in
theorem c149w (s : ByteArray) (w : World) (hs : s.size ≤ 1048700) :
 Calls Tryz.prog 149 #[.string s, .int .i64 3] w fun e w' => (∃ g cp, e = .returned (.tuple #[.slice (some ⟨g, 0, none⟩) 3 cp, .string (ofL (restN s.data.toList 3))]) ∧ w.heap.size ≤ g ∧ LinesAt w' g (wordsN s.data.toList 3)) ∧ Below w.heap.size w w' := by
 obtain ⟨i0, hi, hz0, hz1, hz2⟩ := info_parts info9
 have hlen : s.data.toList.length = s.size := by simp
 go_enter Tryz.func149, Tryz.ntmps149
 go_wp2_with fail
 go_loopw [0, 6, 7] (fun sv v i wr => ∃ (m : Nat) (t : ByteArray) (ss : List (List UInt8)), m ≤ 3 ∧ i = .int .i64 m ∧ sv = .string t ∧ wr.ownsRow w.heap.size 9 1 v m (strL ss) ∧ Hid (t = ofL (restN s.data.toList m) ∧ ss = wordsN s.data.toList m) ∧ Below w.heap.size w wr ∧ w.heap.size + 1 ≤ wr.heap.size) (fun _ _ i _ => 3 - (intOf i).toNat)
 case atStart => exact ⟨0, s, [], Nat.zero_le _, rfl, rfl, World.ownsRow_lit _ #[] 0 (Nat.le_refl _) (Nat.zero_le _) rfl, ⟨rfl, rfl⟩, (Below.refl _ _).alloc (Nat.le_refl _) _, by simp⟩
 case round =>
  obtain ⟨m, t, ss, hm, rfl, rfl, hown, hrel, hb, hz⟩ := hrel
  by_cases hlt : m < 3
  · obtain ⟨hT, rfl⟩ := hrel.out
    have hts : t.size ≤ 1048700 := by rw [hT, ofL_size]; have := restN_len s.data.toList m; omega
    have hTl : t.data.toList = restN s.data.toList m := by rw [hT]; simp [ofL]
    have HTL : Hid (t.data.toList = restN s.data.toList m) := hTl
    have htlen : t.data.toList.length = t.size := by simp
    clear hT hTl
    clear hrel
    go_wp2_with fail
    go_loop [8] (fun n => ∃ k : Nat, k ≤ t.size ∧ n = .int .i64 k ∧ Hid ((t.data.toList.take k).all (· != 32) = true)) (fun n => t.size - (intOf n).toNat)
    case atStart => exact ⟨0, Nat.zero_le _, rfl, rfl⟩
    case round =>
     obtain ⟨k, hk, rfl, ha⟩ := hrel
     by_cases hkt : k < t.size
     · have hkt' : (k : Int) < (t.size : Int) := by omega
       by_cases h32 : t[k] = 32
       · have e1 : ((t[k].toNat : Int) != 32) = false := by rw [h32]; rfl
         obtain ⟨hw1, hw2⟩ := word_at (l := t.data.toList) ha.out (by omega) (.inr (by simp [hkt]; exact h32))
         have HW : Hid (t.extract 0 k = ofL (wordOf t.data.toList)) := ext_ofL (by rw [ext_listF, hw1]; rfl)
         have HR : Hid (t.extract (k + 1) t.size = ofL (restOf t.data.toList)) := ext_ofL (by rw [ext_listF, hw2, List.take_of_length_le (by omega)])
         clear h32 hw1 hw2
         go_wp2_with (at_builtin; refine wpList_append_own _ rfl _ _ 22 rfl w.heap.size 9 i0 (.string ⟨#[]⟩) 1 16 Tryz.underlying22 hi hz0 hz1 hz2 rfl (by decide) _ _ _ rfl (hown.alloc _) ⟨wr.heap.size, 0, none⟩ 1 1 [_] rfl rfl (cell_one_new _ _ _) (by intro u hu; simp at hu; subst hu; rfl) (by unfold maxLen; omega) (by omega) (by simp; omega) ?_; intro v' w2 hown' hgrow _)
         go_roundw
         case rel =>
          have hB2 : Below w.heap.size w w2 := (hb.alloc hb.size _).grown hgrow (by simp; omega) (fun j hj => (hown.lt j hj).1)
          refine ⟨m + 1, _, wordsN s.data.toList (m + 1), by omega, by go_num, rfl, ?_, ⟨by rw [HR.out, HTL.out]; rfl, rfl⟩, hB2, by have := hgrow.size; simp at this; omega⟩
          rw [wordsN_succ, strL_snoc, ← HTL.out, ← HW.out]
          exact hown'
         case measure => simp [intOf]; omega
       · have e1 : ((t[k].toNat : Int) != 32) = true := by
          simp only [bne_iff_ne]
          intro e
          exact h32 (UInt8.toNat_inj.1 (by have : t[k].toNat = 32 := by omega
                                           rw [this]; rfl))
         have HA : Hid ((t.data.toList.take (k + 1)).all (· != 32) = true) := by
          rw [take_snoc t k hkt, List.all_append, ha.out]
          simp [Hid, h32]
         clear h32
         go_wp2
         go_round
         case rel => exact ⟨k + 1, by omega, by go_num, HA⟩
         case measure => simp [intOf]; omega
     · obtain ⟨hw1, hw2⟩ := word_at (l := t.data.toList) ha.out (by omega) (.inl (by omega))
       have HW : Hid (t.extract 0 k = ofL (wordOf t.data.toList)) := ext_ofL (by rw [ext_listF, hw1]; rfl)
       have HR : Hid (t.extract k t.size = ofL (restOf t.data.toList)) := ext_ofL (by rw [ext_listF, hw2, List.take_of_length_le (by omega), List.drop_of_length_le (by omega), List.drop_of_length_le (by omega)])
       clear hw1 hw2
       go_wp2_with (at_builtin; refine wpList_append_own _ rfl _ _ 22 rfl w.heap.size 9 i0 (.string ⟨#[]⟩) 1 16 Tryz.underlying22 hi hz0 hz1 hz2 rfl (by decide) _ _ _ rfl (hown.alloc _) ⟨wr.heap.size, 0, none⟩ 1 1 [_] rfl rfl (cell_one_new _ _ _) (by intro u hu; simp at hu; subst hu; rfl) (by unfold maxLen; omega) (by omega) (by simp; omega) ?_; intro v' w2 hown' hgrow _)
       go_roundw
       case rel =>
        have hB2 : Below w.heap.size w w2 := (hb.alloc hb.size _).grown hgrow (by simp; omega) (fun j hj => (hown.lt j hj).1)
        refine ⟨m + 1, _, wordsN s.data.toList (m + 1), by omega, by go_num, rfl, ?_, ⟨by rw [HR.out, HTL.out]; rfl, rfl⟩, hB2, by have := hgrow.size; simp at this; omega⟩
        rw [wordsN_succ, strL_snoc, ← HTL.out, ← HW.out]
        exact hown'
       case measure => simp [intOf]; omega
  · obtain rfl : m = 3 := by omega
    obtain ⟨rfl, rfl⟩ := hrel.out
    clear hrel
    obtain ⟨g, cp, hvv⟩ := own_formF hown (by omega)
    subst hvv
    go_wp2
    go_ret2
    exact ⟨⟨g, cp, rfl, (hown.lt g rfl).1, lines_of_owns hown rfl⟩, hb⟩
end Go.Proofs.YtboojefodbjbcaaGreatDoor.G
namespace Go.Proofs.YtboojefodbjbcaaGreatDoor.G
open Go.RowKit
theorem plain_iff (c : UInt8) : plainB c = true ↔ 32 ≤ c.toNat ∧ c.toNat ≤ 126 ∧ c.toNat ≠ 34 ∧ c.toNat ≠ 92 := by
 unfold plainB
 simp only [Bool.and_eq_true, decide_eq_true_eq, Bool.not_eq_true', beq_eq_false_iff_ne]
 omega
theorem hexL_inj : ∀ a b : Fin 16, hexL.getD a.val 0 = hexL.getD b.val 0 → a = b := by decide
theorem hexL_eq {a b : Nat} (ha : a < 16) (hb : b < 16) (h : hexL.getD a 0 = hexL.getD b 0) : a = b := by
 have := hexL_inj ⟨a, ha⟩ ⟨b, hb⟩ h
 exact Fin.mk.inj this
theorem u8_lt (c : UInt8) : c.toNat < 256 := c.toNat_lt
theorem qb_plain {c : UInt8} (h : plainB c = true) : qb c = [c] := by unfold qb; rw [if_pos h]
theorem qb_not {c : UInt8} (h : plainB c = false) : qb c = [92, hexL.getD (c.toNat / 16) 0, hexL.getD (c.toNat % 16) 0] := by unfold qb; rw [if_neg (by simp [h])]
theorem plain_92 : plainB 92 = false := by decide
theorem qb_ne (c : UInt8) : qb c ≠ [] := by
 cases h : plainB c
 · rw [qb_not h]; simp
 · rw [qb_plain h]; simp
theorem qb_pre {c d : UInt8} {r q : List UInt8} (h : qb c ++ r = qb d ++ q) : c = d ∧ r = q := by
 cases hc : plainB c <;> cases hd : plainB d
 · rw [qb_not hc, qb_not hd] at h
   simp only [List.cons_append, List.nil_append, List.cons.injEq, true_and] at h
   obtain ⟨h1, h2, h3⟩ := h
   have lc := u8_lt c
   have ld := u8_lt d
   have e1 := hexL_eq (by omega) (by omega) h1
   have e2 := hexL_eq (by omega) (by omega) h2
   exact ⟨UInt8.toNat_inj.1 (by omega), h3⟩
 · rw [qb_not hc, qb_plain hd] at h
   simp only [List.cons_append, List.nil_append, List.cons.injEq] at h
   rw [← h.1, plain_92] at hd; cases hd
 · rw [qb_plain hc, qb_not hd] at h
   simp only [List.cons_append, List.nil_append, List.cons.injEq] at h
   rw [h.1, plain_92] at hc; cases hc
 · rw [qb_plain hc, qb_plain hd] at h
   simpa using h
theorem flat_pre {t l R : List UInt8} (h : t.flatMap qb ++ R = l.flatMap qb) : ∃ r, R = r.flatMap qb ∧ l = t ++ r := by
 induction t generalizing l with
 | nil => exact ⟨l, by simpa using h, rfl⟩
 | cons c t ih =>
  cases l with
  | nil =>
   have := qb_ne c
   simp at h
   exact absurd h.1 this
  | cons d l =>
   simp only [List.flatMap_cons, List.append_assoc] at h
   obtain ⟨rfl, h2⟩ := qb_pre h
   obtain ⟨r, hr, hl⟩ := ih h2
   exact ⟨r, hr, by rw [hl]; rfl⟩
theorem flat_inj {t l : List UInt8} (h : t.flatMap qb = l.flatMap qb) : t = l := by
 obtain ⟨r, hr, hl⟩ := flat_pre (t := t) (l := l) (R := []) (by simpa using h)
 cases r with
 | nil => simpa using hl.symm
 | cons c r =>
  have := qb_ne c
  simp at hr
  exact absurd hr.1 this
theorem quoteL_inj {t l : List UInt8} (h : quoteL t = quoteL l) : t = l := by
 unfold quoteL at h
 simp only [List.cons.injEq, true_and, List.append_cancel_right_eq] at h
 exact flat_inj h
theorem flat_ge (l : List UInt8) : l.length ≤ (l.flatMap qb).length := by
 induction l with
 | nil => simp
 | cons c l ih =>
  have : 1 ≤ (qb c).length := List.length_pos_iff.2 (qb_ne c)
  simp only [List.flatMap_cons, List.length_append, List.length_cons]; omega
theorem quote_ge (l : List UInt8) : l.length + 2 ≤ (quoteL l).length := by
 have := flat_ge l
 unfold quoteL; simp only [List.length_cons, List.length_append, List.length_nil]; omega
theorem hexL_no10 : ∀ a : Fin 16, hexL.getD a.val 0 ≠ 10 ∧ hexL.getD a.val 0 ≠ 32 := by decide
theorem qb_no10 (c : UInt8) : (10 : UInt8) ∉ qb c := by
 cases h : plainB c
 · rw [qb_not h]
   have lc := u8_lt c
   have h1 := (hexL_no10 ⟨c.toNat / 16, by omega⟩).1
   have h2 := (hexL_no10 ⟨c.toNat % 16, by omega⟩).1
   simp only [List.mem_cons, List.not_mem_nil, or_false, not_or]
   exact ⟨by decide, fun e => h1 e.symm, fun e => h2 e.symm⟩
 · rw [qb_plain h]
   have := (plain_iff c).1 h
   simp only [List.mem_cons, List.not_mem_nil, or_false]
   intro e; rw [← e] at this; simp at this
theorem quote_no10 (l : List UInt8) : (10 : UInt8) ∉ quoteL l := by
 unfold quoteL
 simp only [List.mem_cons, List.mem_append, List.mem_flatMap, List.not_mem_nil, or_false, not_or]
 refine ⟨by decide, fun ⟨c, _, h⟩ => qb_no10 c h, by decide⟩
end Go.Proofs.YtboojefodbjbcaaGreatDoor.G

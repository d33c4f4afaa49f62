import Derived.Test.YtejlfpolnddfdaaDoorR1
import Derived.Test.YtejlfpolnddfdaaDoorRS
namespace Go.Proofs.YtejlfpolnddfdaaDoor
open Go.RowKit

theorem cst_fold_no {b : UInt8} {l : List UInt8} (h : b ∉ l) (P : List (List UInt8)) (q : List UInt8) : l.foldl (cst b) (P, q) = (P, q ++ l) := by
  induction l generalizing q with
  | nil => simp
  | cons c l ih =>
    have hc : c ≠ b := fun e => h (by simp [e])
    rw [List.foldl_cons]
    have : cst b (P, q) c = (P, q ++ [c]) := by unfold cst; rw [if_neg hc]
    rw [this, ih (fun hm => h (List.mem_cons_of_mem _ hm)), List.append_assoc]; rfl
theorem cst_fold_pre (b : UInt8) (l : List UInt8) (P Q : List (List UInt8)) (q : List UInt8) : l.foldl (cst b) (P ++ Q, q) = (P ++ (l.foldl (cst b) (Q, q)).1, (l.foldl (cst b) (Q, q)).2) := by
  induction l generalizing Q q with
  | nil => rfl
  | cons c l ih =>
    rw [List.foldl_cons, List.foldl_cons]
    by_cases hc : c = b
    · have e1 : cst b (P ++ Q, q) c = (P ++ (Q ++ [q]), []) := by unfold cst; rw [if_pos hc, List.append_assoc]
      have e2 : cst b (Q, q) c = (Q ++ [q], []) := by unfold cst; rw [if_pos hc]
      rw [e1, e2, ih]
    · have e1 : cst b (P ++ Q, q) c = (P ++ Q, q ++ [c]) := by unfold cst; rw [if_neg hc]
      have e2 : cst b (Q, q) c = (Q, q ++ [c]) := by unfold cst; rw [if_neg hc]
      rw [e1, e2, ih]
theorem cut_no {b : UInt8} {l : List UInt8} (h : b ∉ l) : cutS b l = [l] := by
  unfold cutS cstate
  rw [cst_fold_no h]; rfl
theorem cut_hit {b : UInt8} {a r : List UInt8} (h : b ∉ a) : cutS b (a ++ b :: r) = a :: cutS b r := by
  unfold cutS cstate
  rw [List.foldl_append, cst_fold_no h, List.foldl_cons]
  have e : cst b ([], [] ++ a) b = ([a] ++ [], []) := by unfold cst; rw [if_pos rfl]; simp
  rw [e, cst_fold_pre]
  simp
theorem idx_b (b : UInt8) (l : List UInt8) : (Lib.index l [b] = -1 ∧ b ∉ l) ∨ (∃ i : Nat, Lib.index l [b] = i ∧ i < l.length ∧ l = l.take i ++ b :: l.drop (i + 1) ∧ b ∉ l.take i) := by
  rw [Lib.index_one]
  have hge := Lib.indexByte_ge l b
  by_cases h : Lib.indexByte l b = -1
  · refine .inl ⟨h, fun hm => ?_⟩
    obtain ⟨k, hk, e⟩ := List.getElem_of_mem hm
    exact Lib.indexByte_none h k (by rw [List.getElem?_eq_getElem hk, e])
  · obtain ⟨o, ho⟩ : ∃ o : Nat, Lib.indexByte l b = o := ⟨(Lib.indexByte l b).toNat, by omega⟩
    obtain ⟨h1, h2⟩ := Lib.indexByte_some ho
    have hl : o < l.length := by
      rcases Nat.lt_or_ge o l.length with h | h
      · exact h
      · rw [List.getElem?_eq_none h] at h1; cases h1
    refine .inr ⟨o, ho, hl, ?_, fun hm => ?_⟩
    · have hx : l[o] = b := by rw [List.getElem?_eq_getElem hl] at h1; exact Option.some.inj h1
      conv => lhs; rw [← List.take_append_drop o l, List.drop_eq_getElem_cons hl, hx]
    · obtain ⟨k, hk, e⟩ := List.getElem_of_mem hm
      rw [List.length_take] at hk
      rw [List.getElem_take] at e
      exact h2 k (by omega) (by rw [List.getElem?_eq_getElem (by omega), e])
theorem split_b (b : UInt8) (f : Nat) : ∀ l : List UInt8, l.length < f → Lib.splitK [b] 0 (Lib.countFrom [b] f l) l = cutS b l ∧ (cutS b l).length = Lib.countFrom [b] f l + 1 := by
  induction f with
  | zero => intro l h; omega
  | succ f ih =>
    intro l h
    rcases idx_b b l with ⟨hi, hn⟩ | ⟨i, hi, hl, he, hn⟩
    · have hc : Lib.countFrom [b] (f + 1) l = 0 := by rw [Lib.countFrom, hi]; rfl
      rw [hc, cut_no hn]
      exact ⟨rfl, rfl⟩
    · have hne : ¬ ((i : Int) == -1) = true := fun e => by have := beq_iff_eq.1 e; omega
      obtain ⟨h1, h2⟩ := ih (l.drop (i + 1)) (by rw [List.length_drop]; omega)
      have hc : Lib.countFrom [b] (f + 1) l = Lib.countFrom [b] f (l.drop (i + 1)) + 1 := by
        rw [Lib.countFrom, hi, if_neg hne, Nat.add_comm]; rfl
      have hcut : cutS b l = l.take i :: cutS b (l.drop (i + 1)) := by
        conv => lhs; rw [he]
        exact cut_hit hn
      rw [hc, hcut]
      refine ⟨?_, by rw [List.length_cons, h2]⟩
      rw [Lib.splitK, hi, if_neg hne, ← h1]
      rfl
theorem c42 (b : UInt8) (s : ByteArray) (w : World) (hs : s.size ≤ 1048700) (hm : MaxAt w) :
    Calls Tryd.prog 42 #[.string s, .string ⟨#[b]⟩] w fun e w' => (e = .returned (.slice (some ⟨w.heap.size, 0, none⟩) (cutS b s.data.toList).length (cutS b s.data.toList).length) ∧ LinesAt w' w.heap.size (cutS b s.data.toList)) ∧ Below w.heap.size w w' := by
  obtain ⟨_, m, hm⟩ := hm
  obtain ⟨h1, h2⟩ := split_b b (s.data.toList.length + 1) s.data.toList (by omega)
  have hd : Lib.splitB ⟨#[b]⟩ 0 (Lib.countB s ⟨#[b]⟩) s = (cutS b s.data.toList).map ofL := toL_inj ((Lib.splitB_data ⟨#[b]⟩ 0 (Lib.countB s ⟨#[b]⟩) s).trans h1)
  have hc : Lib.countB s ⟨#[b]⟩ + 1 = (cutS b s.data.toList).length := h2.symm
  refine (Tryd.strings_Split s ⟨#[b]⟩ m w (by omega) hm (Nat.le_refl 1)).mono ?_
  rintro e w' ⟨rfl, rfl⟩
  rw [hd, hc]
  refine ⟨⟨rfl, by simp, fun i hi => ?_⟩, (Below.refl _ _).alloc (Nat.le_refl _) _⟩
  simp [hi]
/-- A text with a newline at its end. -/
def endN (l : List UInt8) : Bool := decide (l.getLastD 0 = 10)
theorem endN_yes {l : List UInt8} (h : endN l = true) : l = l.dropLast ++ [10] := by
  unfold endN at h
  rw [decide_eq_true_eq] at h
  rcases List.eq_nil_or_concat l with e | ⟨r, c, e⟩
  · subst e; cases h
  · rw [List.concat_eq_append] at e
    subst e
    rw [List.getLastD_concat] at h
    rw [List.dropLast_concat, h]
theorem endN_of (l : List UInt8) : endN (l ++ [10]) = true := by unfold endN; rw [List.getLastD_concat]; rfl
theorem last_one (s : ByteArray) (h : 1 ≤ s.size) : s.extract (s.size - 1) s.size = ofL [s.data.toList.getLastD 0] := by
  refine ext_ofL ?_
  rw [ext_list, List.take_of_length_le (by simp)]
  obtain ⟨r, c, e⟩ : ∃ r c, s.data.toList = r ++ [c] := by
    rcases List.eq_nil_or_concat s.data.toList with e | ⟨r, c, e⟩
    · have : s.data.toList.length = s.size := by simp
      rw [e] at this; simp at this; omega
    · exact ⟨r, c, by rw [e, List.concat_eq_append]⟩
  have hl : s.data.toList.length = s.size := by simp
  rw [e] at hl ⊢
  rw [List.length_append, List.length_singleton] at hl
  rw [List.getLastD_concat, show s.size - 1 = r.length by omega, List.drop_left]
theorem head_all (s : ByteArray) : s.extract 0 (s.size - 1) = ofL s.data.toList.dropLast := by
  refine ext_ofL ?_
  rw [ext_list, List.drop_zero, List.dropLast_eq_take]
  simp
set_option maxHeartbeats 1000000 in
theorem c58 (s : ByteArray) (w : World) (hs : s.size ≤ 1048700) :
    Calls Tryd.prog 58 #[.string s, .string ⟨#[10]⟩] w fun e w' => e = .returned (.bool (endN s.data.toList)) ∧ w' = w := by
  by_cases h : 1 ≤ s.size
  · have HX := last_one s h
    have HE : ((ofL [s.data.toList.getLastD 0]).toList == [10]) = endN s.data.toList := by
      rw [ByteArray.toList_eq, ofL_list]
      unfold endN
      by_cases hc : s.data.toList.getLastD 0 = 10
      · rw [hc]; rfl
      · rw [decide_eq_false hc]
        exact beq_eq_false_iff_ne.2 fun e => hc (List.cons.inj e).1
    generalize endN s.data.toList = bb at *
    generalize s.data.toList.getLastD 0 = c at *
    go_enter Tryd.func58, Tryd.ntmps58
    go_wp2
    go_ret
    exact ⟨rfl, rfl⟩
  · have HE : endN s.data.toList = false := by
      have hl : s.data.toList.length = s.size := by simp
      have : s.data.toList = [] := List.length_eq_zero_iff.1 (by omega)
      rw [this]; rfl
    generalize endN s.data.toList = bb at *
    subst HE
    go_enter Tryd.func58, Tryd.ntmps58
    go_wp2
    go_ret
    exact ⟨rfl, rfl⟩
/-- A text without its last newline. -/
def preN (l : List UInt8) : List UInt8 := if endN l = true then l.dropLast else l
set_option maxHeartbeats 1000000 in
theorem c48 (s : ByteArray) (w : World) (hs : s.size ≤ 1048700) :
    Calls Tryd.prog 48 #[.string s, .string ⟨#[10]⟩] w fun e w' => e = .returned (.tuple #[.string (ofL (preN s.data.toList)), .bool (endN s.data.toList)]) ∧ w' = w := by
  have hX := head_all s
  have hP : (endN s.data.toList = true → ofL (preN s.data.toList) = ofL s.data.toList.dropLast ∧ 1 ≤ s.size) ∧ (endN s.data.toList = false → ofL (preN s.data.toList) = s) := by
    unfold preN
    constructor
    · intro h
      rw [if_pos h]
      refine ⟨rfl, ?_⟩
      have e := endN_yes h
      have hl : s.data.toList.length = s.size := by simp
      rw [e] at hl
      rw [List.length_append, List.length_singleton] at hl
      omega
    · intro h
      rw [if_neg (by rw [h]; decide)]
      rfl
  have hc := c58 s
  generalize ofL (preN s.data.toList) = p at *
  generalize ofL s.data.toList.dropLast = q at *
  generalize endN s.data.toList = b at *
  go_enter Tryd.func48, Tryd.ntmps48
  go_wp2_with fail
  refine (hc _ hs).mono ?_
  rintro e w1 ⟨rfl, rfl⟩
  cases b
  · have e := hP.2 rfl
    subst e
    go_wp2
    go_ret2
    exact ⟨rfl, rfl⟩
  · obtain ⟨e, h1⟩ := hP.1 rfl
    subst e
    go_wp2
    go_ret2
    exact ⟨rfl, rfl⟩
set_option maxHeartbeats 1000000 in
theorem c41 (s : ByteArray) (w : World) (hs : s.size ≤ 1048700) :
    Calls Tryd.prog 41 #[.string s, .string ⟨#[10]⟩] w fun e w' => e = .returned (.tuple #[.string (ofL (preN s.data.toList)), .bool (endN s.data.toList)]) ∧ w' = w := by
  have hc := c48 s
  generalize ofL (preN s.data.toList) = p at *
  generalize endN s.data.toList = b at *
  go_enter Tryd.func41, Tryd.ntmps41
  go_wp2_with fail
  refine (hc _ hs).mono ?_
  rintro e w1 ⟨rfl, rfl⟩
  go_wp2
  go_ret2
  exact ⟨rfl, rfl⟩
/-- Lines cut. -/
def Is89 (w w' : World) (l : List UInt8) (e : Ending) : Prop := (endN l = false ∧ e = .returned (.tuple #[.slice none 0 0, .bool false])) ∨ (endN l = true ∧ ∃ g, e = .returned (.tuple #[.slice (some ⟨g, 0, none⟩) (cutS 10 l.dropLast).length (cutS 10 l.dropLast).length, .bool true]) ∧ w.heap.size ≤ g ∧ LinesAt w' g (cutS 10 l.dropLast))
set_option maxHeartbeats 1000000 in
theorem c34 (s : ByteArray) (w : World) (hs : s.size ≤ 1048700) (hmx : MaxAt w) :
    Calls Tryd.prog 34 #[.string s] w fun e w' => Is89 w w' s.data.toList e ∧ Below w.heap.size w w' := by
  have hc := c41 s
  have hpn : (ofL (preN s.data.toList)).size ≤ 1048700 := by
    rw [ofL_size]; unfold preN; split
    · rw [List.length_dropLast]; simp; omega
    · simp; omega
  have hy : endN s.data.toList = true → preN s.data.toList = s.data.toList.dropLast := fun h => by unfold preN; rw [if_pos h]
  generalize s.data.toList = l at *
  go_enter Tryd.func34, Tryd.ntmps34
  go_wp2_with fail
  refine (hc _ hs).mono ?_
  rintro e w1 ⟨rfl, rfl⟩
  cases hb : endN l
  · go_wp2
    go_ret2
    exact ⟨.inl ⟨hb, rfl⟩, Below.refl _ _⟩
  · rw [hy hb] at hpn ⊢
    clear hc hy
    go_wp2_with fail
    refine (c42 10 (ofL l.dropLast) _ hpn hmx).mono ?_
    rintro e w2 ⟨⟨rfl, hln⟩, hb2⟩
    rw [ofL_list] at hln ⊢
    have hln2 := hln
    clear hln
    go_wp2
    go_ret2
    exact ⟨.inr ⟨hb, _, rfl, Nat.le_refl _, hln2⟩, hb2⟩
end Go.Proofs.YtejlfpolnddfdaaDoor

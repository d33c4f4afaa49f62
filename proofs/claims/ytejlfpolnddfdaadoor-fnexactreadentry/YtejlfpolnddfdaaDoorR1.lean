import Derived.Test.YtejlfpolnddfdaaDoorY9
import Derived.Test.YtejlfpolnddfdaaDoorYG
import Derived.Test.YtejlfpolnddfdaaDoorYI
import Derived.Test.YtejlfpolnddfdaaDoorQN
namespace Go.Proofs.YtejlfpolnddfdaaDoor
open Go.RowKit
/-- A decimal read back. -/
theorem dec_back (f : Nat) (n : Int) (h0 : 0 ≤ n) (hf : n.toNat < f) : (dec n).all isDig = true ∧ val (dec n) = n := by
  induction f generalizing n with
  | zero => omega
  | succ f ih =>
    by_cases h : n < 10
    · rw [dec_lt n h]
      obtain rfl | rfl | rfl | rfl | rfl | rfl | rfl | rfl | rfl | rfl : n = 0 ∨ n = 1 ∨ n = 2 ∨ n = 3 ∨ n = 4 ∨ n = 5 ∨ n = 6 ∨ n = 7 ∨ n = 8 ∨ n = 9 := by omega
      all_goals decide
    · obtain ⟨h1, h2⟩ := ih (n / 10) (by omega) (by omega)
      rw [dec_ge n (by omega), val_snoc, h2, List.all_append, h1]
      have hd : 0 ≤ n % 10 ∧ n % 10 < 10 := by omega
      have hn : n = n / 10 * 10 + n % 10 := by omega
      generalize n % 10 = d at *
      generalize n / 10 = q at *
      obtain rfl | rfl | rfl | rfl | rfl | rfl | rfl | rfl | rfl | rfl : d = 0 ∨ d = 1 ∨ d = 2 ∨ d = 3 ∨ d = 4 ∨ d = 5 ∨ d = 6 ∨ d = 7 ∨ d = 8 ∨ d = 9 := by omega
      all_goals exact ⟨by decide, by rw [hn]; rfl⟩
theorem dec_backs (n : Int) (h0 : 0 ≤ n) : (dec n).all isDig = true ∧ val (dec n) = n := dec_back (n.toNat + 1) n h0 (by omega)
theorem dec_lean1 (n : Int) (h0 : 0 ≤ n) : lean1 (dec n) = true := (dec_lean (n.toNat + 1) n h0 (by omega)).1
theorem numM_dec {M n : Int} (h0 : 0 ≤ n) (h1 : n ≤ M) : numM M (dec n) = true ∧ rnM M (dec n) = n := by
  obtain ⟨a, b⟩ := dec_backs n h0
  have : numM M (dec n) = true := nM_yes (dec_lean1 n h0) a (by rw [b]; exact h1)
  exact ⟨this, by rw [rnM_yes this, b]⟩
theorem numM_of {M : Int} {l : List UInt8} (h : numM M l = true) : l = dec (rnM M l) ∧ 0 ≤ rnM M l ∧ rnM M l ≤ M := by
  rw [rnM_yes h]
  simp only [numM, Bool.and_eq_true, decide_eq_true_eq] at h
  obtain ⟨⟨h1, h2⟩, h3⟩ := h
  exact ⟨(dec_val l h2 h1).1.symm, val_nonneg l h2, h3⟩
theorem n29_back {n : Int} (h0 : 0 ≤ n) (h1 : n ≤ 1000) : n29 (dec n) = n := by
  obtain ⟨a, b⟩ := dec_backs n h0
  have := dec_small n h0 h1
  have hne := List.length_pos_iff.2 (dec_ne n)
  rw [n29_yes ⟨by omega, by omega⟩ a (by rw [b]), b]
theorem dig_no {l : List UInt8} (h : l.all isDig = true) : (32 : UInt8) ∉ l ∧ (10 : UInt8) ∉ l := by
  rw [List.all_eq_true] at h
  constructor
  · intro hm; have := h _ hm; revert this; decide
  · intro hm; have := h _ hm; revert this; decide
theorem dec_no {n : Int} (h0 : 0 ≤ n) : (32 : UInt8) ∉ dec n ∧ (10 : UInt8) ∉ dec n := dig_no (dec_backs n h0).1
theorem quote_ne (l : List UInt8) : quoteL l ≠ [] := by intro h; have := quote_ge l; rw [h] at this; simp at this
theorem rest_ne {l : List UInt8} (h : restOf l ≠ []) : (32 : UInt8) ∈ l := by
  by_cases hm : (32 : UInt8) ∈ l
  · exact hm
  · exact absurd (word_none hm).2 h
/-- A line parted where something stands behind its first blank. -/
theorem word_both {l : List UInt8} (h : restOf l ≠ []) : l = wordOf l ++ 32 :: restOf l := (word_parts (rest_ne h)).1
theorem ofL_list (l : List UInt8) : (ofL l).data.toList = l := rfl
theorem ofL_self (s : ByteArray) : ofL s.data.toList = s := rfl

/-- What a text is read as: a result. -/
def RdRes (l : List UInt8) (c : Int) (t : ByteArray) (ok : Bool) : Prop := (∀ c' t', 0 ≤ c' → c' ≤ 7 → l = resL c' t' → ok = true ∧ c = c' ∧ t = t') ∧ (ok = true → l = resL c t)
theorem resL_form (c : Int) (t : ByteArray) : resL c t = dec c ++ 32 :: quoteL t.data.toList := by simp [resL]
theorem resL_ne (c : Int) (t : ByteArray) : resL c t ≠ [] := by rw [resL_form]; simp
theorem res_parts {c : Int} (t : ByteArray) (h : 0 ≤ c) : wordOf (resL c t) = dec c ∧ restOf (resL c t) = quoteL t.data.toList := by
  rw [resL_form]; exact word_split (dec_no h).1
theorem rdRes_yes {l t : List UInt8} (hu : Unq (restOf l) t true) (hn : numM 7 (wordOf l) = true) : RdRes l (rnM 7 (wordOf l)) (ofL t) true := by
  have hq := hu.1 rfl
  obtain ⟨d1, d2, d3⟩ := numM_of hn
  constructor
  · intro c' t' h0 h7 e
    obtain ⟨e1, e2⟩ := res_parts t' h0
    rw [← e] at e1 e2
    refine ⟨rfl, ?_, ?_⟩
    · rw [e1]; exact (numM_dec h0 h7).2
    · have : t = t'.data.toList := quoteL_inj (hq.symm.trans e2)
      rw [this]; rfl
  · intro _
    rw [resL_form, ← d1, ofL_list, ← hq]
    exact word_both (by rw [hq]; exact quote_ne _)
theorem rdRes_no {l t : List UInt8} {oku : Bool} (hu : Unq (restOf l) t oku) (h : numM 7 (wordOf l) = false ∨ oku = false) (c : Int) (x : ByteArray) : RdRes l c x false := by
  refine ⟨fun c' t' h0 h7 e => ?_, fun h => by cases h⟩
  obtain ⟨e1, e2⟩ := res_parts t' h0
  rw [← e] at e1 e2
  rcases h with h | h
  · rw [e1, (numM_dec h0 h7).1] at h; cases h
  · subst h; exact absurd e2 (hu.2 rfl _)

/-- The line of a look, without its end. -/
def lookB (x : L4) : List UInt8 := (lookW x.has).data.toList ++ 32 :: (x.nm.data.toList ++ 32 :: resL x.cd x.tx)
theorem lookL_B (x : L4) : lookL x = lookB x ++ [10] := by
  unfold lookL lookB wordA lookW
  cases x.has <;> simp
theorem lookW_no (b : Bool) : (32 : UInt8) ∉ (lookW b).data.toList ∧ (10 : UInt8) ∉ (lookW b).data.toList := by cases b <;> decide
theorem look_no10 {x : L4} (h : LkOk x) : (10 : UInt8) ∉ lookB x := by
  unfold lookB
  rw [resL_form]
  simp only [List.mem_append, List.mem_cons, not_or]
  exact ⟨(lookW_no _).2, by decide, (name_no h.1).2, by decide, (dec_no (lk_code h).1).2, by decide, quote_no10 _⟩
theorem look_parts {x : L4} (h : nameOk x.nm.data.toList = true) : wordOf (lookB x) = (lookW x.has).data.toList ∧ wordOf (restOf (lookB x)) = x.nm.data.toList ∧ restOf (restOf (lookB x)) = resL x.cd x.tx := by
  obtain ⟨a, b⟩ := word_split (r := x.nm.data.toList ++ 32 :: resL x.cd x.tx) (lookW_no x.has).1
  obtain ⟨c, d⟩ := word_split (r := resL x.cd x.tx) (name_no h).1
  unfold lookB
  rw [a, b, c, d]
  exact ⟨rfl, rfl, rfl⟩
/-- What a line is read as: a look. -/
def RdLook (l : List UInt8) (x : L4) (ok : Bool) : Prop := (∀ y, LkOk y → l = lookB y → ok = true ∧ x = y) ∧ (ok = true → LkOk x → l = lookB x)
def hasW (l : List UInt8) : Bool := decide (wordOf l = [104, 97, 115])
def isW (l : List UInt8) : Bool := hasW l || decide (wordOf l = [97, 115, 107])
theorem isW_word {l : List UInt8} (h : isW l = true) : wordOf l = (lookW (hasW l)).data.toList := by
  unfold isW at h
  cases hh : hasW l
  · rw [hh] at h
    simp only [Bool.false_or, decide_eq_true_eq] at h
    rw [h]; rfl
  · unfold hasW at hh
    rw [decide_eq_true_eq] at hh
    rw [hh]; rfl
theorem word_isW {l : List UInt8} {b : Bool} (h : wordOf l = (lookW b).data.toList) : isW l = true ∧ hasW l = b := by
  unfold isW hasW
  rw [h]
  cases b <;> decide
theorem rdLook_yes {l : List UInt8} {c : Int} {t : ByteArray} (hw : isW l = true) (hr : RdRes (restOf (restOf l)) c t true) : RdLook l ⟨hasW l, ofL (wordOf (restOf l)), c, t⟩ true := by
  constructor
  · intro y hy e
    obtain ⟨a, b, d⟩ := look_parts hy.1
    rw [← e] at a b d
    obtain ⟨_, h1, h2⟩ := hr.1 _ _ (lk_code hy).1 (lk_code hy).2 d
    refine ⟨rfl, ?_⟩
    rw [(word_isW a).2, b, h1, h2]
    rfl
  · intro _ _
    have e := hr.2 rfl
    have h2 : restOf (restOf l) ≠ [] := by rw [e]; exact resL_ne _ _
    have h1 : restOf l ≠ [] := fun h => by rw [h] at h2; exact h2 rfl
    unfold lookB
    rw [ofL_list, ← isW_word hw, ← e, ← word_both h2, ← word_both h1]
theorem rdLook_no {l : List UInt8} {c : Int} {t : ByteArray} {ok : Bool} (hr : RdRes (restOf (restOf l)) c t ok) (h : isW l = false ∨ ok = false) (x : L4) : RdLook l x false := by
  refine ⟨fun y hy e => ?_, fun h => by cases h⟩
  obtain ⟨a, b, d⟩ := look_parts hy.1
  rw [← e] at a b d
  rcases h with h | h
  · rw [(word_isW a).1] at h; cases h
  · have := (hr.1 _ _ (lk_code hy).1 (lk_code hy).2 d).1
    rw [h] at this; cases this
/-- What lines are read as: looks. -/
def RdLooks (ls : List (List UInt8)) (xs : List L4) (ok : Bool) : Prop := (∀ ys, (∀ i, i < ys.length → LkOk (ys.getD i l4z)) → ls = ys.map lookB → ok = true ∧ xs = ys) ∧ (ok = true → (∀ i, i < xs.length → LkOk (xs.getD i l4z)) → ls = xs.map lookB)
theorem lookB_getD (ys : List L4) (i : Nat) (h : i < ys.length) : (ys.map lookB).getD i [] = lookB (ys.getD i l4z) := by
  simp [List.getD, h]
theorem getD_ext {α : Type} {a b : List α} {d : α} (hl : a.length = b.length) (h : ∀ i, i < a.length → a.getD i d = b.getD i d) : a = b := by
  refine List.ext_getElem hl fun i h1 h2 => ?_
  have := h i h1
  simpa [List.getD, h1, h2] using this
theorem rdLooks_yes {ls : List (List UInt8)} {xs : List L4} (hl : xs.length = ls.length) (h : ∀ i, i < ls.length → RdLook (ls.getD i []) (xs.getD i l4z) true) : RdLooks ls xs true := by
  constructor
  · intro ys hy e
    subst e
    rw [List.length_map] at hl h
    refine ⟨rfl, getD_ext (d := l4z) hl fun i hi => ?_⟩
    exact ((h i (by omega)).1 _ (hy i (by omega)) (lookB_getD ys i (by omega))).2
  · intro _ hx
    refine getD_ext (d := []) (by rw [List.length_map, hl]) fun i hi => ?_
    rw [lookB_getD xs i (by omega)]
    exact (h i hi).2 rfl (hx i (by omega))
theorem rdLooks_no {ls : List (List UInt8)} {k : Nat} {x : L4} (hk : k < ls.length) (h : RdLook (ls.getD k []) x false) (xs : List L4) : RdLooks ls xs false := by
  refine ⟨fun ys hy e => ?_, fun h => by cases h⟩
  subst e
  rw [List.length_map] at hk
  have := (h.1 _ (hy k hk) (lookB_getD ys k hk)).1
  cases this
end Go.Proofs.YtejlfpolnddfdaaDoor

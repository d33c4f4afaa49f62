import Derived.Test.YtdcgjdgpiogdaaaGreatDoorY9
import Derived.Test.YtdcgjdgpiogdaaaGreatDoorG13
import Derived.Test.YtdcgjdgpiogdaaaGreatDoorG14
import Derived.Test.YtdcgjdgpiogdaaaGreatDoorG09
import Derived.Test.YtdcgjdgpiogdaaaGreatDoorG26
import Derived.Test.YtdcgjdgpiogdaaaGreatDoorG23
import Derived.Shelf.Strings.Split
import Derived.Shelf.Small.Strs
import Derived.Test.YtdcgjdgpiogdaaaGreatDoorProg
namespace Go.Proofs.YtdcgjdgpiogdaaaGreatDoor
open Go.RowKit
/-- A decimal read back. -/
theorem dec_back (f : Nat) (n : Int) (h0 : 0 ≤ n) (hf : n.toNat < f) : (dec n).all isDig = true ∧ val (dec n) = n := by
  induction f generalizing n with
  | zero => omega
  | succ f ih =>
    by_cases h : n < 10
    · rw [dec_lt n h]
      obtain rfl | rfl | rfl | rfl | rfl | rfl | rfl | rfl | rfl | rfl : n = 0 ∨ n = 1 ∨ n = 2 ∨ n = 3 ∨ n = 4 ∨ n = 5 ∨ n = 6 ∨ n = 7 ∨ n = 8 ∨ n = 9 := by omega
      all_goals decide
    · obtain ⟨h1, h2⟩ := ih (n / 10) (by omega) (by omega)
      rw [dec_ge n (by omega), val_snoc, h2, List.all_append, h1]
      have hd : 0 ≤ n % 10 ∧ n % 10 < 10 := by omega
      have hn : n = n / 10 * 10 + n % 10 := by omega
      generalize n % 10 = d at *
      generalize n / 10 = q at *
      obtain rfl | rfl | rfl | rfl | rfl | rfl | rfl | rfl | rfl | rfl : d = 0 ∨ d = 1 ∨ d = 2 ∨ d = 3 ∨ d = 4 ∨ d = 5 ∨ d = 6 ∨ d = 7 ∨ d = 8 ∨ d = 9 := by omega
      all_goals exact ⟨by decide, by rw [hn]; rfl⟩
theorem dec_backs (n : Int) (h0 : 0 ≤ n) : (dec n).all isDig = true ∧ val (dec n) = n := dec_back (n.toNat + 1) n h0 (by omega)
theorem dec_lean1 (n : Int) (h0 : 0 ≤ n) : lean1 (dec n) = true := (dec_lean (n.toNat + 1) n h0 (by omega)).1
theorem numM_dec {M n : Int} (h0 : 0 ≤ n) (h1 : n ≤ M) : numM M (dec n) = true ∧ rnM M (dec n) = n := by
  obtain ⟨a, b⟩ := dec_backs n h0
  have : numM M (dec n) = true := nM_yes (dec_lean1 n h0) a (by rw [b]; exact h1)
  exact ⟨this, by rw [rnM_yes this, b]⟩
theorem numM_of {M : Int} {l : List UInt8} (h : numM M l = true) : l = dec (rnM M l) ∧ 0 ≤ rnM M l ∧ rnM M l ≤ M := by
  rw [rnM_yes h]
  simp only [numM, Bool.and_eq_true, decide_eq_true_eq] at h
  obtain ⟨⟨h1, h2⟩, h3⟩ := h
  exact ⟨(dec_val l h2 h1).1.symm, val_nonneg l h2, h3⟩
theorem n29_back {n : Int} (h0 : 0 ≤ n) (h1 : n ≤ 1000) : n29 (dec n) = n := by
  obtain ⟨a, b⟩ := dec_backs n h0
  have := dec_small n h0 h1
  have hne := List.length_pos_iff.2 (dec_ne n)
  rw [n29_yes ⟨by omega, by omega⟩ a (by rw [b]), b]
theorem dig_no {l : List UInt8} (h : l.all isDig = true) : (32 : UInt8) ∉ l ∧ (10 : UInt8) ∉ l := by
  rw [List.all_eq_true] at h
  constructor
  · intro hm; have := h _ hm; revert this; decide
  · intro hm; have := h _ hm; revert this; decide
theorem dec_no {n : Int} (h0 : 0 ≤ n) : (32 : UInt8) ∉ dec n ∧ (10 : UInt8) ∉ dec n := dig_no (dec_backs n h0).1
theorem quote_ne (l : List UInt8) : quoteL l ≠ [] := by intro h; have := quote_ge l; rw [h] at this; simp at this
theorem rest_ne {l : List UInt8} (h : restOf l ≠ []) : (32 : UInt8) ∈ l := by
  by_cases hm : (32 : UInt8) ∈ l
  · exact hm
  · exact absurd (word_none hm).2 h
/-- A line parted where something stands behind its first blank. -/
theorem word_both {l : List UInt8} (h : restOf l ≠ []) : l = wordOf l ++ 32 :: restOf l := (word_parts (rest_ne h)).1
theorem ofL_list (l : List UInt8) : (ofL l).data.toList = l := rfl
theorem ofL_self (s : ByteArray) : ofL s.data.toList = s := rfl

/-- What a text is read as: a result. -/
def RdRes (l : List UInt8) (c : Int) (t : ByteArray) (ok : Bool) : Prop := (∀ c' t', 0 ≤ c' → c' ≤ 7 → l = resL c' t' → ok = true ∧ c = c' ∧ t = t') ∧ (ok = true → l = resL c t)
theorem resL_form (c : Int) (t : ByteArray) : resL c t = dec c ++ 32 :: quoteL t.data.toList := by simp [resL]
theorem resL_ne (c : Int) (t : ByteArray) : resL c t ≠ [] := by rw [resL_form]; simp
theorem res_parts {c : Int} (t : ByteArray) (h : 0 ≤ c) : wordOf (resL c t) = dec c ∧ restOf (resL c t) = quoteL t.data.toList := by
  rw [resL_form]; exact word_split (dec_no h).1
theorem rdRes_yes {l t : List UInt8} (hu : Unq (restOf l) t true) (hn : numM 7 (wordOf l) = true) : RdRes l (rnM 7 (wordOf l)) (ofL t) true := by
  have hq := hu.1 rfl
  obtain ⟨d1, d2, d3⟩ := numM_of hn
  constructor
  · intro c' t' h0 h7 e
    obtain ⟨e1, e2⟩ := res_parts t' h0
    rw [← e] at e1 e2
    refine ⟨rfl, ?_, ?_⟩
    · rw [e1]; exact (numM_dec h0 h7).2
    · have : t = t'.data.toList := quoteL_inj (hq.symm.trans e2)
      rw [this]; rfl
  · intro _
    rw [resL_form, ← d1, ofL_list, ← hq]
    exact word_both (by rw [hq]; exact quote_ne _)
theorem rdRes_no {l t : List UInt8} {oku : Bool} (hu : Unq (restOf l) t oku) (h : numM 7 (wordOf l) = false ∨ oku = false) (c : Int) (x : ByteArray) : RdRes l c x false := by
  refine ⟨fun c' t' h0 h7 e => ?_, fun h => by cases h⟩
  obtain ⟨e1, e2⟩ := res_parts t' h0
  rw [← e] at e1 e2
  rcases h with h | h
  · rw [e1, (numM_dec h0 h7).1] at h; cases h
  · subst h; exact absurd e2 (hu.2 rfl _)

/-- The line of a look, without its end. -/
def lookB (x : L4) : List UInt8 := (lookW x.has).data.toList ++ 32 :: (x.nm.data.toList ++ 32 :: resL x.cd x.tx)
theorem lookL_B (x : L4) : lookL x = lookB x ++ [10] := by
  unfold lookL lookB wordA lookW
  cases x.has <;> simp
theorem lookW_no (b : Bool) : (32 : UInt8) ∉ (lookW b).data.toList ∧ (10 : UInt8) ∉ (lookW b).data.toList := by cases b <;> decide
theorem look_no10 {x : L4} (h : LkOk x) : (10 : UInt8) ∉ lookB x := by
  unfold lookB
  rw [resL_form]
  simp only [List.mem_append, List.mem_cons, not_or]
  exact ⟨(lookW_no _).2, by decide, (name_no h.1).2, by decide, (dec_no (lk_code h).1).2, by decide, quote_no10 _⟩
theorem look_parts {x : L4} (h : nameOk x.nm.data.toList = true) : wordOf (lookB x) = (lookW x.has).data.toList ∧ wordOf (restOf (lookB x)) = x.nm.data.toList ∧ restOf (restOf (lookB x)) = resL x.cd x.tx := by
  obtain ⟨a, b⟩ := word_split (r := x.nm.data.toList ++ 32 :: resL x.cd x.tx) (lookW_no x.has).1
  obtain ⟨c, d⟩ := word_split (r := resL x.cd x.tx) (name_no h).1
  unfold lookB
  rw [a, b, c, d]
  exact ⟨rfl, rfl, rfl⟩
/-- What a line is read as: a look. -/
def RdLook (l : List UInt8) (x : L4) (ok : Bool) : Prop := (∀ y, LkOk y → l = lookB y → ok = true ∧ x = y) ∧ (ok = true → LkOk x → l = lookB x)
def hasW (l : List UInt8) : Bool := decide (wordOf l = [104, 97, 115])
def isW (l : List UInt8) : Bool := hasW l || decide (wordOf l = [97, 115, 107])
theorem isW_word {l : List UInt8} (h : isW l = true) : wordOf l = (lookW (hasW l)).data.toList := by
  unfold isW at h
  cases hh : hasW l
  · rw [hh] at h
    simp only [Bool.false_or, decide_eq_true_eq] at h
    rw [h]; rfl
  · unfold hasW at hh
    rw [decide_eq_true_eq] at hh
    rw [hh]; rfl
theorem word_isW {l : List UInt8} {b : Bool} (h : wordOf l = (lookW b).data.toList) : isW l = true ∧ hasW l = b := by
  unfold isW hasW
  rw [h]
  cases b <;> decide
theorem rdLook_yes {l : List UInt8} {c : Int} {t : ByteArray} (hw : isW l = true) (hr : RdRes (restOf (restOf l)) c t true) : RdLook l ⟨hasW l, ofL (wordOf (restOf l)), c, t⟩ true := by
  constructor
  · intro y hy e
    obtain ⟨a, b, d⟩ := look_parts hy.1
    rw [← e] at a b d
    obtain ⟨_, h1, h2⟩ := hr.1 _ _ (lk_code hy).1 (lk_code hy).2 d
    refine ⟨rfl, ?_⟩
    rw [(word_isW a).2, b, h1, h2]
    rfl
  · intro _ _
    have e := hr.2 rfl
    have h2 : restOf (restOf l) ≠ [] := by rw [e]; exact resL_ne _ _
    have h1 : restOf l ≠ [] := fun h => by rw [h] at h2; exact h2 rfl
    unfold lookB
    rw [ofL_list, ← isW_word hw, ← e, ← word_both h2, ← word_both h1]
theorem rdLook_no {l : List UInt8} {c : Int} {t : ByteArray} {ok : Bool} (hr : RdRes (restOf (restOf l)) c t ok) (h : isW l = false ∨ ok = false) (x : L4) : RdLook l x false := by
  refine ⟨fun y hy e => ?_, fun h => by cases h⟩
  obtain ⟨a, b, d⟩ := look_parts hy.1
  rw [← e] at a b d
  rcases h with h | h
  · rw [(word_isW a).1] at h; cases h
  · have := (hr.1 _ _ (lk_code hy).1 (lk_code hy).2 d).1
    rw [h] at this; cases this
/-- What lines are read as: looks. -/
def RdLooks (ls : List (List UInt8)) (xs : List L4) (ok : Bool) : Prop := (∀ ys, (∀ i, i < ys.length → LkOk (ys.getD i l4z)) → ls = ys.map lookB → ok = true ∧ xs = ys) ∧ (ok = true → (∀ i, i < xs.length → LkOk (xs.getD i l4z)) → ls = xs.map lookB)
theorem lookB_getD (ys : List L4) (i : Nat) (h : i < ys.length) : (ys.map lookB).getD i [] = lookB (ys.getD i l4z) := by
  simp [List.getD, h]
theorem getD_ext {α : Type} {a b : List α} {d : α} (hl : a.length = b.length) (h : ∀ i, i < a.length → a.getD i d = b.getD i d) : a = b := by
  refine List.ext_getElem hl fun i h1 h2 => ?_
  have := h i h1
  simpa [List.getD, h1, h2] using this
theorem rdLooks_yes {ls : List (List UInt8)} {xs : List L4} (hl : xs.length = ls.length) (h : ∀ i, i < ls.length → RdLook (ls.getD i []) (xs.getD i l4z) true) : RdLooks ls xs true := by
  constructor
  · intro ys hy e
    subst e
    rw [List.length_map] at hl h
    refine ⟨rfl, getD_ext (d := l4z) hl fun i hi => ?_⟩
    exact ((h i (by omega)).1 _ (hy i (by omega)) (lookB_getD ys i (by omega))).2
  · intro _ hx
    refine getD_ext (d := []) (by rw [List.length_map, hl]) fun i hi => ?_
    rw [lookB_getD xs i (by omega)]
    exact (h i hi).2 rfl (hx i (by omega))
theorem rdLooks_no {ls : List (List UInt8)} {k : Nat} {x : L4} (hk : k < ls.length) (h : RdLook (ls.getD k []) x false) (xs : List L4) : RdLooks ls xs false := by
  refine ⟨fun ys hy e => ?_, fun h => by cases h⟩
  subst e
  rw [List.length_map] at hk
  have := (h.1 _ (hy k hk) (lookB_getD ys k hk)).1
  cases this
/-- The line of a turn. -/
def tnL (x : T6) : List UInt8 := if x.over = true then [111, 118, 101, 114] ++ 32 :: resL x.cd x.tx else (lookW x.has).data.toList ++ 32 :: x.nm.data.toList
def TnW (x : T6) : Prop := TnOk x.over x.cd x.tx x.has x.nm x.st
/-- What a line is read as: how a turn ends, but for its steps. -/
def RdTn (l : List UInt8) (x : T6) (ok : Bool) : Prop := (∀ y, TnW y → l = tnL y → ok = true ∧ ∃ s, y = ⟨x.over, x.cd, x.tx, x.has, x.nm, s⟩) ∧ (ok = true → ∀ s, TnW ⟨x.over, x.cd, x.tx, x.has, x.nm, s⟩ → l = tnL ⟨x.over, x.cd, x.tx, x.has, x.nm, s⟩)
theorem tnl_over {y : T6} (h : y.over = true) : wordOf (tnL y) = [111, 118, 101, 114] ∧ restOf (tnL y) = resL y.cd y.tx := by
  unfold tnL; rw [if_pos h]; exact word_split (by decide)
theorem tnl_look {y : T6} (h : y.over = false) : wordOf (tnL y) = (lookW y.has).data.toList ∧ restOf (tnL y) = y.nm.data.toList := by
  unfold tnL; rw [if_neg (by rw [h]; decide)]; exact word_split (lookW_no _).1
theorem lookW_over (b : Bool) : (lookW b).data.toList ≠ [111, 118, 101, 114] := by cases b <;> decide
theorem rdTn_over {l : List UInt8} {c : Int} {t : ByteArray} {ok : Bool} (hw : wordOf l = [111, 118, 101, 114]) (hr : RdRes (restOf l) c t ok) (s0 : Int) : RdTn l ⟨true, c, t, false, ⟨#[]⟩, s0⟩ ok := by
  constructor
  · intro y hy e
    cases ho : y.over
    · obtain ⟨a, _⟩ := tnl_look ho
      rw [← e, hw] at a
      exact absurd a.symm (lookW_over _)
    · obtain ⟨_, b⟩ := tnl_over ho
      rw [← e] at b
      rcases hy.2 with ⟨_, hv, hh, hn⟩ | ⟨h, _⟩
      · obtain ⟨h1, h2, h3⟩ := hr.1 _ _ (vr_code hv).1 (vr_code hv).2 b
        refine ⟨h1, y.st, ?_⟩
        obtain ⟨o, cd, tx, hs, nm, st⟩ := y
        simp only at ho h2 h3 hh hn
        rw [ho, h2, h3, hh, hn]
      · rw [ho] at h; cases h
  · intro h s _
    have e := hr.2 h
    unfold tnL
    rw [if_pos rfl]
    show l = [111, 118, 101, 114] ++ 32 :: resL c t
    rw [← hw, ← e]
    exact word_both (by rw [e]; exact resL_ne _ _)
theorem rdTn_look {l : List UInt8} (hw : wordOf l ≠ [111, 118, 101, 114]) (s0 : Int) : RdTn l ⟨false, 0, ⟨#[]⟩, hasW l, ofL (restOf l), s0⟩ (isW l) := by
  constructor
  · intro y hy e
    cases ho : y.over
    · obtain ⟨a, b⟩ := tnl_look ho
      rw [← e] at a b
      rcases hy.2 with ⟨h, _⟩ | ⟨_, hc, ht, hn⟩
      · rw [ho] at h; cases h
      · refine ⟨(word_isW a).1, y.st, ?_⟩
        obtain ⟨o, cd, tx, hs, nm, st⟩ := y
        simp only at ho hc ht b a
        rw [ho, hc, ht, (word_isW a).2, b]
        rfl
    · obtain ⟨a, _⟩ := tnl_over ho
      rw [← e] at a
      exact absurd a hw
  · intro h s hn
    rcases hn.2 with ⟨h, _⟩ | ⟨_, _, _, hn⟩
    · cases h
    · unfold tnL
      rw [if_neg (fun h => by cases h)]
      show l = (lookW (hasW l)).data.toList ++ 32 :: restOf l
      rw [← isW_word h]
      refine word_both fun e => ?_
      have : nameOk (restOf l) = true := hn
      rw [e] at this
      cases this
end Go.Proofs.YtdcgjdgpiogdaaaGreatDoor
namespace Go.Proofs.YtdcgjdgpiogdaaaGreatDoor
open Go.RowKit
/-- The parts of a message's lines. -/
def wrdP (k : Int) : List UInt8 := if k = 1 then [111, 102, 102, 101, 114] else if k = 2 then [116, 117, 114, 110] else [104, 101, 114, 101]
def fstP (x : G16) : List UInt8 := if x.kd = 1 then dec x.to ++ 32 :: (dec x.ep ++ 32 :: (dec x.ed ++ 32 :: bodyL x.km)) else if x.kd = 2 then dec x.fr ++ 32 :: (dec x.ep ++ 32 :: (dec x.ed ++ 32 :: (x.km.nm.data.toList ++ 32 :: (dec x.ct ++ 32 :: dec x.tn.st)))) else dec x.fr
def behP (x : G16) : List (List UInt8) := if x.kd = 1 then x.ls.map lookB else if x.kd = 2 then [tnL x.tn] else []
def linesP (x : G16) : List (List UInt8) := (wrdP x.kd ++ 32 :: fstP x) :: behP x
def joinN (ls : List (List UInt8)) : List UInt8 := ls.flatMap (· ++ [10])
theorem looksL_join (ls : List L4) : looksL ls = joinN (ls.map lookB) := by
  unfold looksL joinN
  induction ls with
  | nil => rfl
  | cons x r ih => simp only [List.flatMap_cons, List.map_cons, ih, lookL_B]
theorem msg_lines {x : G16} (h : MsgOk x) : msgL x = joinN (linesP x) := by
  unfold msgL linesP behP fstP wrdP
  rcases h with ⟨k, _⟩ | ⟨k, _⟩ | ⟨k, _⟩
  · rw [if_pos k, if_pos k, if_pos k, if_pos k]
    unfold offerL whenL
    rw [looksL_join, body_form]
    simp [joinN]
  · rw [if_neg (by omega), if_pos k, if_neg (by omega), if_pos k, if_neg (by omega), if_pos k, if_neg (by omega), if_pos k]
    unfold turnL turnW firstL num3 num2 tnL
    cases x.tn.over <;> simp [joinN]
  · rw [if_neg (by omega), if_neg (by omega), if_neg (by omega), if_neg (by omega), if_neg (by omega), if_neg (by omega), if_neg (by omega), if_neg (by omega)]
    unfold hereL hereW
    simp [joinN]
theorem lines_no {x : G16} (h : MsgOk x) : ∀ l ∈ linesP x, (10 : UInt8) ∉ l := by
  unfold linesP behP fstP wrdP
  rcases h with ⟨k, h⟩ | ⟨k, h⟩ | ⟨k, h⟩
  · rw [if_pos k, if_pos k, if_pos k]
    obtain ⟨_, q1, q2, q3, q4⟩ := h
    have m := mom_le q2
    obtain ⟨n1, n2, _⟩ := okM_facts q3
    intro l hl
    rcases List.mem_cons.1 hl with rfl | hl
    · rw [body_form]
      simp only [List.mem_append, List.mem_cons, not_or]
      exact ⟨by decide, by decide, (dec_no (by omega)).2, by decide, (dec_no (by omega)).2, by decide, (dec_no (by omega)).2, by decide, (name_no n1).2, by decide, (name_no n2).2, by decide, quote_no10 _⟩
    · obtain ⟨y, hy, rfl⟩ := List.mem_map.1 hl
      obtain ⟨i, hi, e⟩ := List.getElem_of_mem hy
      have := q4.2 i hi
      rw [List.getD, List.getElem?_eq_getElem hi, e] at this
      exact look_no10 this
  · rw [if_neg (by omega), if_pos k, if_neg (by omega), if_pos k, if_neg (by omega), if_pos k]
    obtain ⟨_, q1, q2, q3, q4, q5, q6⟩ := h
    have m := mom_le q2
    intro l hl
    rcases List.mem_cons.1 hl with rfl | hl
    · simp only [List.mem_append, List.mem_cons, not_or]
      exact ⟨by decide, by decide, (dec_no (by omega)).2, by decide, (dec_no (by omega)).2, by decide, (dec_no (by omega)).2, by decide, (name_no q3).2, by decide, (dec_no (by omega)).2, by decide, (dec_no (by omega)).2⟩
    · rw [List.mem_singleton] at hl
      subst hl
      unfold tnL
      rcases q6 with ⟨ho, hv, _, _⟩ | ⟨ho, _, _, hn⟩
      · rw [if_pos ho, resL_form]
        simp only [List.mem_append, List.mem_cons, not_or]
        exact ⟨by decide, by decide, (dec_no (vr_code hv).1).2, by decide, quote_no10 _⟩
      · rw [if_neg (by rw [ho]; decide)]
        simp only [List.mem_append, List.mem_cons, not_or]
        exact ⟨(lookW_no _).2, by decide, (name_no hn).2⟩
  · rw [if_neg (by omega), if_neg (by omega), if_neg (by omega), if_neg (by omega), if_neg (by omega), if_neg (by omega)]
    intro l hl
    rw [List.mem_singleton] at hl
    subst hl
    have := h.2
    simp only [List.mem_append, List.mem_cons, not_or]
    exact ⟨by decide, by decide, (dec_no (by omega)).2⟩
theorem cut_join (ls : List (List UInt8)) (h : ∀ l ∈ ls, (10 : UInt8) ∉ l) : cutS 10 (joinN ls) = ls ++ [[]] := by
  have : ∀ (ls P : List (List UInt8)), (∀ l ∈ ls, (10 : UInt8) ∉ l) → (joinN ls).foldl (cst 10) (P, []) = (P ++ ls, []) := by
    intro ls
    induction ls with
    | nil => intro P _; simp [joinN]
    | cons a r ih =>
      intro P h
      have e : joinN (a :: r) = (a ++ [10]) ++ joinN r := rfl
      rw [e, List.foldl_append, cst_line _ _ (h a (by simp)), ih _ (fun l hl => h l (by simp [hl]))]
      simp
  unfold cutS cstate
  rw [this ls [] h]
  rfl
/-- What the lines of a kind are read as. -/
def RdMsg (k : Int) (f : List UInt8) (b : List (List UInt8)) (x : G16) (ok : Bool) : Prop := (∀ y, MsgOk y → y.kd = k → f = fstP y → b = behP y → ok = true ∧ x = y) ∧ (ok = true → MsgOk x → x.kd = k ∧ f = fstP x ∧ b = behP x)
end Go.Proofs.YtdcgjdgpiogdaaaGreatDoor
namespace Go.Proofs
open Go.Shelf
def Tryz.lays146_ren : Go.Shelf.Ren := ⟨fun | 146 => 110 | 221 => 123 | 268 => 138 | 138 => 139 | 143 => 140 | 195 => 150 | 197 => 151 | 218 => 152 | 219 => 132 | 260 => 161 | 217 => 143 | 225 => 144 | 224 => 145 | 267 => 146 | 266 => 154 | 314 => 155 | n => n, fun | 9 => 9 | 3 => 3 | 31 => 80 | 4 => 4 | 0 => 0 | 105 => 181 | 21 => 21 | 5 => 5 | 46 => 167 | 119 => 196 | 139 => 199 | 138 => 198 | 146 => 184 | 51 => 183 | n => n, fun | 1 => 0 | 3 => 2 | 4 => 3 | n => n⟩
theorem Tryz.lays146 : Go.Proofs.Lays.n146 Tryz.prog Tryz.lays146_ren := {
  mixed := by kernel_rfl
  f138 := Tryz.func139.trans (congrArg some (by kernel_rfl))
  f143 := Tryz.func140.trans (congrArg some (by kernel_rfl))
  f146 := Tryz.func110.trans (congrArg some (by kernel_rfl))
  f195 := Tryz.func150.trans (congrArg some (by kernel_rfl))
  f197 := Tryz.func151.trans (congrArg some (by kernel_rfl))
  f217 := Tryz.func143.trans (congrArg some (by kernel_rfl))
  f218 := Tryz.func152.trans (congrArg some (by kernel_rfl))
  f219 := Tryz.func132.trans (congrArg some (by kernel_rfl))
  f221 := Tryz.func123.trans (congrArg some (by kernel_rfl))
  f224 := Tryz.func145.trans (congrArg some (by kernel_rfl))
  f225 := Tryz.func144.trans (congrArg some (by kernel_rfl))
  f260 := Tryz.func161.trans (congrArg some (by kernel_rfl))
  f266 := Tryz.func154.trans (congrArg some (by kernel_rfl))
  f267 := Tryz.func146.trans (congrArg some (by kernel_rfl))
  f268 := Tryz.func138.trans (congrArg some (by kernel_rfl))
  f314 := Tryz.func155.trans (congrArg some (by kernel_rfl))
  t0 := Tryz.underlying0
  a0 := Tryz.isAgg0
  z0 := Tryz.sizeOf0
  v0 := Tryz.zeroValue0
  t3 := Tryz.underlying3
  a3 := Tryz.isAgg3
  z3 := Tryz.sizeOf3
  v3 := Tryz.zeroValue3
  t4 := Tryz.underlying4
  a4 := Tryz.isAgg4
  z4 := Tryz.sizeOf4
  v4 := Tryz.zeroValue4
  t5 := Tryz.underlying5
  a5 := Tryz.isAgg5
  z5 := Tryz.sizeOf5
  v5 := Tryz.zeroValue5
  t9 := Tryz.underlying9
  a9 := Tryz.isAgg9
  z9 := Tryz.sizeOf9
  v9 := Tryz.zeroValue9
  t21 := Tryz.underlying21
  a21 := Tryz.isAgg21
  z21 := Tryz.sizeOf21
  v21 := Tryz.zeroValue21
  t31 := Tryz.underlying80
  a31 := Tryz.isAgg80
  z31 := Tryz.sizeOf80
  v31 := Tryz.zeroValue80
  t46 := Tryz.underlying167
  a46 := Tryz.isAgg167
  z46 := Tryz.sizeOf167
  v46 := Tryz.zeroValue167
  t51 := Tryz.underlying183
  a51 := Tryz.isAgg183
  z51 := Tryz.sizeOf183
  v51 := Tryz.zeroValue183
  t105 := Tryz.underlying181
  a105 := Tryz.isAgg181
  z105 := Tryz.sizeOf181
  v105 := Tryz.zeroValue181
  t119 := Tryz.underlying196
  a119 := Tryz.isAgg196
  z119 := Tryz.sizeOf196
  t138 := Tryz.underlying198
  a138 := Tryz.isAgg198
  z138 := Tryz.sizeOf198
  v138 := Tryz.zeroValue198
  t139 := Tryz.underlying199
  a139 := Tryz.isAgg199
  z139 := Tryz.sizeOf199
  v139 := Tryz.zeroValue199
  t146 := Tryz.underlying184
  a146 := Tryz.isAgg184
  z146 := Tryz.sizeOf184
  v146 := Tryz.zeroValue184
  g1 := by kernel_rfl
  g3 := by kernel_rfl
  g4 := by kernel_rfl }
theorem Tryz.strings_Split (s sep : ByteArray) (m : Int) (w : World) (hs : s.size < 4294967281) (hm : w.cell? ⟨0, 0, none⟩ = some (.int .i64 m)) (h1 : 1 ≤ sep.size) :
    Calls Tryz.prog 110 #[.string s, .string sep] w fun e w' =>
      e = .returned (.slice (some ⟨w.heap.size, 0, none⟩) (Lib.countB s sep + 1) (Lib.countB s sep + 1)) ∧ w' = w.alloc (.cells ((Lib.splitB sep 0 (Lib.countB s sep) s).map Value.string).toArray 9) := Any.strings_Split Tryz.lays146 (by kernel_rfl) s sep m w hs hm h1
end Go.Proofs

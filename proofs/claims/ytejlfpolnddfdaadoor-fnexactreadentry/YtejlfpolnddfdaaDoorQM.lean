import Derived.Test.YtejlfpolnddfdaaDoorQW
import Derived.Test.YtejlfpolnddfdaaDoorQQ
import Derived.Test.YtejlfpolnddfdaaDoorP6
import Derived.Test.YtejlfpolnddfdaaDoorJ7
import Derived.Lib.IndexBytes
import Derived.Lib.IndexLaws
import Derived.Lib.Split
namespace Go.Proofs.YtejlfpolnddfdaaDoor
open Go.RowKit

/-- The first blank parts a line. -/
theorem word_none {l : List UInt8} (h : (32 : UInt8) ∉ l) : wordOf l = l ∧ restOf l = [] := by
  have := word_at (l := l) (k := l.length) (by rw [List.take_length, List.all_eq_true]; intro a ha; simp only [bne_iff_ne]; intro e; exact h (e ▸ ha)) (Nat.le_refl _) (.inl rfl)
  rw [List.take_length, List.drop_of_length_le (by omega)] at this
  exact this
theorem word_split {a r : List UInt8} (h : (32 : UInt8) ∉ a) : wordOf (a ++ 32 :: r) = a ∧ restOf (a ++ 32 :: r) = r := by
  have := word_at (l := a ++ 32 :: r) (k := a.length) (by rw [List.take_left, List.all_eq_true]; intro x ha; simp only [bne_iff_ne]; intro e; exact h (e ▸ ha)) (by simp) (.inr (by simp))
  rw [List.take_left] at this
  refine ⟨this.1, this.2.trans ?_⟩
  rw [← List.drop_drop, List.drop_left]
  rfl
theorem word_parts {l : List UInt8} (h : (32 : UInt8) ∈ l) : l = wordOf l ++ 32 :: restOf l ∧ (32 : UInt8) ∉ wordOf l := by
  obtain ⟨a, r, rfl, ha⟩ := List.eq_append_cons_of_mem h
  obtain ⟨h1, h2⟩ := word_split (r := r) ha
  rw [h1, h2]
  exact ⟨rfl, ha⟩
theorem idx_one (l : List UInt8) : (Lib.index l [32] = -1 ∧ (32 : UInt8) ∉ l) ∨ (∃ i : Nat, Lib.index l [32] = i ∧ (32 : UInt8) ∈ l ∧ l.take i = wordOf l ∧ l.drop (i + 1) = restOf l) := by
  rw [Lib.index_one]
  have hge := Lib.indexByte_ge l 32
  by_cases h : Lib.indexByte l 32 = -1
  · refine .inl ⟨h, fun hm => ?_⟩
    obtain ⟨k, hk, e⟩ := List.getElem_of_mem hm
    exact Lib.indexByte_none h k (by rw [List.getElem?_eq_getElem hk, e])
  · obtain ⟨o, ho⟩ : ∃ o : Nat, Lib.indexByte l 32 = o := ⟨(Lib.indexByte l 32).toNat, by omega⟩
    obtain ⟨h1, h2⟩ := Lib.indexByte_some ho
    have hl : o < l.length := by
      rcases Nat.lt_or_ge o l.length with h | h
      · exact h
      · rw [List.getElem?_eq_none h] at h1; cases h1
    have hm : (32 : UInt8) ∈ l := List.mem_of_getElem? h1
    have := word_at (l := l) (k := o) (by
      rw [List.all_eq_true]
      intro x hx
      simp only [bne_iff_ne]
      rintro rfl
      obtain ⟨k, hk, e⟩ := List.getElem_of_mem hx
      rw [List.length_take] at hk
      rw [List.getElem_take] at e
      exact h2 k (by omega) (by rw [List.getElem?_eq_getElem (by omega), e])) (by omega) (.inr (by simp [List.getD, h1]))
    exact .inr ⟨o, ho, hm, this.1.symm, this.2.symm⟩
theorem cut_32 (l : List UInt8) : (Lib.cut l [32]).1 = wordOf l := by
  unfold Lib.cut
  rcases idx_one l with ⟨h, hn⟩ | ⟨i, h, _, h1, _⟩
  · rw [h, if_neg (by omega), (word_none hn).1]
  · rw [h, if_pos (by omega)]; exact h1
/-- The parts of a line. -/
def parts1 (l : List UInt8) (n : Nat) : List (List UInt8) := Lib.splitK [32] 0 n l
theorem parts_zero (l : List UInt8) : parts1 l 0 = [l] := rfl
theorem parts_no {l : List UInt8} (n : Nat) (h : (32 : UInt8) ∉ l) : parts1 l n = [l] := by
  cases n with
  | zero => rfl
  | succ n =>
    unfold parts1 Lib.splitK
    rcases idx_one l with ⟨h', _⟩ | ⟨i, _, hm, _⟩
    · rw [h']; rfl
    · exact absurd hm h
theorem parts_yes {l : List UInt8} (n : Nat) (h : (32 : UInt8) ∈ l) : parts1 l (n + 1) = wordOf l :: parts1 (restOf l) n := by
  unfold parts1
  rw [Lib.splitK]
  rcases idx_one l with ⟨_, hn⟩ | ⟨i, hi, _, h1, h2⟩
  · exact absurd h hn
  · rw [hi, if_neg (by simp)]
    simp only [Int.toNat_natCast, Nat.add_zero, List.length_singleton, h1, h2]

theorem cut_32b (l : List UInt8) : (Lib.cut l [32]).2.1 = restOf l := by
  unfold Lib.cut
  rcases idx_one l with ⟨h, hn⟩ | ⟨i, h, _, _, h2⟩
  · rw [h, if_neg (by omega), (word_none hn).2]
  · rw [h, if_pos (by omega)]; exact h2
theorem parts_min (l : List UInt8) : parts1 l (min 3 (l.length + 1) - 1) = parts1 l 2 := by
  rcases Nat.lt_or_ge l.length 2 with h | h
  · cases l with
    | nil => rw [parts_no _ (by simp), parts_no _ (by simp)]
    | cons c r =>
      cases r with
      | cons d r => simp at h; omega
      | nil =>
        by_cases h32 : (32 : UInt8) ∈ [c]
        · have e : restOf [c] = [] := by
            simp only [List.mem_singleton] at h32
            subst h32; rfl
          have e1 : min 3 ([c].length + 1) - 1 = 0 + 1 := rfl
          rw [e1, parts_yes 0 h32, parts_yes 1 h32, e, parts_no _ (by simp), parts_no _ (by simp)]
        · rw [parts_no _ h32, parts_no _ h32]
  · have : min 3 (l.length + 1) = 3 := by omega
    rw [this]
theorem split10 {a b r q : List UInt8} (ha : (10 : UInt8) ∉ a) (hb : (10 : UInt8) ∉ b) (h : a ++ 10 :: r = b ++ 10 :: q) : a = b ∧ r = q := by
  induction a generalizing b with
  | nil =>
    cases b with
    | nil => simpa using h
    | cons c b => simp at h; exact absurd (by rw [h.1]; simp) hb
  | cons d a ih =>
    cases b with
    | nil => simp at h; exact absurd (by rw [h.1]; simp) ha
    | cons c b =>
      simp only [List.cons_append, List.cons.injEq] at h
      obtain ⟨h1, h2⟩ := ih (fun h => ha (List.mem_cons_of_mem _ h)) (fun h => hb (List.mem_cons_of_mem _ h)) h.2
      exact ⟨by rw [h.1, h1], h2⟩
theorem split32 {a b r q : List UInt8} (ha : (32 : UInt8) ∉ a) (hb : (32 : UInt8) ∉ b) (h : a ++ 32 :: r = b ++ 32 :: q) : a = b ∧ r = q := by
  induction a generalizing b with
  | nil =>
    cases b with
    | nil => simpa using h
    | cons c b => simp at h; exact absurd (by rw [h.1]; simp) hb
  | cons d a ih =>
    cases b with
    | nil => simp at h; exact absurd (by rw [h.1]; simp) ha
    | cons c b =>
      simp only [List.cons_append, List.cons.injEq] at h
      obtain ⟨h1, h2⟩ := ih (fun h => ha (List.mem_cons_of_mem _ h)) (fun h => hb (List.mem_cons_of_mem _ h)) h.2
      exact ⟨by rw [h.1, h1], h2⟩
theorem tx_inj {a b : ByteArray} (h : a.data.toList = b.data.toList) : a = b := ByteArray.ext (Array.toList_inj.1 h)
theorem name_no {l : List UInt8} (h : nameOk l = true) : (32 : UInt8) ∉ l ∧ (10 : UInt8) ∉ l := by
  simp only [nameOk, Bool.and_eq_true, List.all_eq_true] at h
  constructor
  · intro hm
    have := h.2 _ hm
    revert this; decide
  · intro hm
    have := h.2 _ hm
    revert this; decide
theorem okM_facts {x : M3} (h : okM x = true) : nameOk x.nm.data.toList = true ∧ nameOk x.tl.data.toList = true ∧ (x.ar.size : Int) ≤ 300 := by
  simp only [okM, Bool.and_eq_true, decide_eq_true_eq] at h
  exact ⟨h.1.1, h.1.2, h.2⟩
theorem body_form (x : M3) : bodyL x = x.nm.data.toList ++ 32 :: (x.tl.data.toList ++ 32 :: quoteL x.ar.data.toList) := by simp [bodyL]
theorem body_ne (x : M3) : bodyL x ≠ [] := by rw [body_form]; simp
/-- A line without its end. -/
def mkBody (x : M3) : List UInt8 := [109, 97, 107, 101] ++ 32 :: bodyL x
theorem line_body (x : M3) : makeL x = mkBody x ++ [10] := rfl
theorem body_no10 {x : M3} (h : okM x = true) : (10 : UInt8) ∉ mkBody x := by
  obtain ⟨h1, h2, _⟩ := okM_facts h
  unfold mkBody
  rw [body_form]
  simp only [List.mem_append, List.mem_cons, not_or]
  refine ⟨by decide, by decide, (name_no h1).2, by decide, (name_no h2).2, by decide, quote_no10 _⟩
theorem bodyL_inj {x y : M3} (hx : okM x = true) (hy : okM y = true) (h : bodyL x = bodyL y) : x = y := by
  obtain ⟨a1, a2, _⟩ := okM_facts hx
  obtain ⟨b1, b2, _⟩ := okM_facts hy
  rw [body_form, body_form] at h
  obtain ⟨e1, h⟩ := split32 (name_no a1).1 (name_no b1).1 h
  obtain ⟨e2, h⟩ := split32 (name_no a2).1 (name_no b2).1 h
  have e3 := quoteL_inj h
  cases x; cases y
  simp only [M3.mk.injEq]
  exact ⟨tx_inj e1, tx_inj e2, tx_inj e3⟩
theorem body_inj {x y : M3} (hx : okM x = true) (hy : okM y = true) (h : mkBody x = mkBody y) : x = y := by
  unfold mkBody at h
  exact bodyL_inj hx hy (by simpa using h)
/-- What a line is. -/
theorem line_is {l : List UInt8} {y : M3} (_hy : okM y = true) : l = mkBody y ↔ wordOf l = [109, 97, 107, 101] ∧ restOf l = bodyL y := by
  constructor
  · rintro rfl
    exact word_split (by decide)
  · rintro ⟨h1, h2⟩
    by_cases hm : (32 : UInt8) ∈ l
    · have := (word_parts hm).1
      rw [h1, h2] at this
      exact this
    · rw [(word_none hm).2] at h2
      exact absurd h2.symm (body_ne y)
theorem line_ne (x : M3) : makeL x ≠ [] := by rw [line_body]; simp
/-- A text cut at its first newline. -/
theorem cut_10 (l : List UInt8) : ((Lib.cut l [10]).2.2 = true ∧ l = (Lib.cut l [10]).1 ++ 10 :: (Lib.cut l [10]).2.1 ∧ (10 : UInt8) ∉ (Lib.cut l [10]).1) ∨ ((Lib.cut l [10]).2.2 = false ∧ (Lib.cut l [10]).1 = l ∧ (10 : UInt8) ∉ l) := by
  unfold Lib.cut
  rw [Lib.index_one]
  have hge := Lib.indexByte_ge l 10
  by_cases h : Lib.indexByte l 10 = -1
  · rw [h, if_neg (by omega)]
    refine .inr ⟨rfl, rfl, fun hm => ?_⟩
    obtain ⟨k, hk, e⟩ := List.getElem_of_mem hm
    exact Lib.indexByte_none h k (by rw [List.getElem?_eq_getElem hk, e])
  · obtain ⟨o, ho⟩ : ∃ o : Nat, Lib.indexByte l 10 = o := ⟨(Lib.indexByte l 10).toNat, by omega⟩
    obtain ⟨h1, h2⟩ := Lib.indexByte_some ho
    have hl : o < l.length := by
      rcases Nat.lt_or_ge o l.length with h | h
      · exact h
      · rw [List.getElem?_eq_none h] at h1; cases h1
    rw [ho, if_pos (by omega)]
    refine .inl ⟨rfl, ?_, fun hm => ?_⟩
    · simp only [Int.toNat_natCast, List.length_singleton]
      have hx : l[o] = 10 := by rw [List.getElem?_eq_getElem hl] at h1; exact Option.some.inj h1
      conv => lhs; rw [← List.take_append_drop o l, List.drop_eq_getElem_cons hl, hx]
    · simp only [Int.toNat_natCast] at hm
      obtain ⟨k, hk, e⟩ := List.getElem_of_mem hm
      rw [List.length_take] at hk
      rw [List.getElem_take] at e
      exact h2 k (by omega) (by rw [List.getElem?_eq_getElem (by omega), e])

/-- The cells of makes. -/
def mkCells (is : List M3) : List Value := is.flatMap fun x => [.string x.nm, .string x.tl, .string x.ar]
theorem mkCells_len (is : List M3) : (mkCells is).length = is.length * 3 := by
  induction is with
  | nil => rfl
  | cons x r ih => unfold mkCells at *; simp only [List.flatMap_cons, List.length_append, List.length_cons, List.length_nil, ih]; omega
theorem mkCells_snoc (is : List M3) (x : M3) : mkCells (is ++ [x]) = mkCells is ++ [.string x.nm, .string x.tl, .string x.ar] := by simp [mkCells]
theorem mkCells_get (is : List M3) (i : Nat) (h : i < is.length) : (mkCells is)[i * 3]? = some (.string (is.getD i m3z).nm) ∧ (mkCells is)[i * 3 + 1]? = some (.string (is.getD i m3z).tl) ∧ (mkCells is)[i * 3 + 2]? = some (.string (is.getD i m3z).ar) := by
  induction is generalizing i with
  | nil => simp at h
  | cons x r ih =>
    cases i with
    | zero => exact ⟨rfl, rfl, rfl⟩
    | succ i =>
      have := ih i (by simpa using h)
      have e : ∀ j, (mkCells (x :: r))[(i + 1) * 3 + j]? = (mkCells r)[i * 3 + j]? := fun j => by
        show ([Value.string x.nm, .string x.tl, .string x.ar] ++ mkCells r)[(i + 1) * 3 + j]? = _
        rw [List.getElem?_append_right (by simp; omega)]
        congr 1
        simp; omega
      have e0 := e 0
      simp only [Nat.add_zero] at e0
      rw [e0, e 1, e 2]
      exact this
/-- The lines of a form. -/
theorem cst_line (p : List (List UInt8) × List UInt8) (a : List UInt8) (h : (10 : UInt8) ∉ a) : (a ++ [10]).foldl (cst 10) p = (p.1 ++ [p.2 ++ a], []) := by
  induction a generalizing p with
  | nil => simp [cst]
  | cons c a ih =>
    have hc : c ≠ 10 := fun e => h (by rw [e]; simp)
    rw [List.cons_append, List.foldl_cons, ih _ (fun h' => h (List.mem_cons_of_mem _ h'))]
    simp [cst, hc]
/-- What a line is read as. -/
def Parsed (l : List UInt8) (x : M3) : Prop := ∀ y, okM y = true → l = mkBody y → x = y
theorem parsed {l t : List UInt8} (ht : ∀ q, restN l 3 = quoteL q → t = q) : Parsed l ⟨ofL (wordOf (restN l 1)), ofL (wordOf (restN l 2)), ofL t⟩ := by
  intro y hy e
  obtain ⟨h1, h2, _⟩ := okM_facts hy
  have r1 : restN l 1 = bodyL y := ((line_is hy).1 e).2
  rw [body_form] at r1
  have w1 := word_split (r := y.tl.data.toList ++ 32 :: quoteL y.ar.data.toList) (name_no h1).1
  have r2 : restN l 2 = y.tl.data.toList ++ 32 :: quoteL y.ar.data.toList := by show restOf (restN l 1) = _; rw [r1]; exact w1.2
  have w2 := word_split (r := quoteL y.ar.data.toList) (name_no h2).1
  have r3 : restN l 3 = quoteL y.ar.data.toList := by show restOf (restN l 2) = _; rw [r2]; exact w2.2
  have := ht _ r3
  subst this
  rw [r1, r2, w1.1, w2.1]
  rfl
theorem cut_piece (b : UInt8) (l : List UInt8) (p : List (List UInt8) × List UInt8) (N : Nat) (h1 : ∀ x ∈ p.1, x.length ≤ N) (h2 : p.2.length + l.length ≤ N) : (∀ x ∈ (l.foldl (cst b) p).1, x.length ≤ N) ∧ (l.foldl (cst b) p).2.length ≤ N := by
  induction l generalizing p with
  | nil => exact ⟨h1, by simpa using h2⟩
  | cons c l ih =>
    rw [List.foldl_cons]
    apply ih
    · unfold cst; split
      · intro x hx
        rcases List.mem_append.1 hx with h | h
        · exact h1 x h
        · simp at h; subst h; simp at h2; omega
      · exact h1
    · simp only [List.length_cons] at h2
      unfold cst; split
      · simp; omega
      · simp; omega
theorem cut_small (b : UInt8) (l : List UInt8) (k : Nat) : ((cutS b l).getD k []).length ≤ l.length := by
  obtain ⟨h1, h2⟩ := cut_piece b l ([], []) l.length (by simp) (by simp)
  have h : ∀ x ∈ cutS b l, x.length ≤ l.length := by
    intro x hx
    unfold cutS cstate at hx
    rcases List.mem_append.1 hx with h | h
    · exact h1 x h
    · simp at h; subst h; exact h2
  rcases Nat.lt_or_ge k (cutS b l).length with hk | hk
  · rw [List.getD, List.getElem?_eq_getElem hk]; exact h _ (List.getElem_mem hk)
  · rw [List.getD, List.getElem?_eq_none hk]; simp
theorem cut_len (b : UInt8) (l : List UInt8) : 1 ≤ (cutS b l).length ∧ (cutS b l).length ≤ l.length + 1 := by
  have := cstate_le b l
  unfold cutS
  rw [List.length_append, List.length_singleton]; omega


/-- What the text behind the word make is read as. -/
def IsBodyM (l : List UInt8) (x : M3) (ok : Bool) : Prop := (ok = true → okM x = true ∧ l = bodyL x) ∧ (ok = false → ∀ y, okM y = true → l ≠ bodyL y)
theorem bodyM_no {l : List UInt8} {x : M3} (h : ∀ y, okM y = true → l ≠ bodyL y) : IsBodyM l x false := ⟨(fun h => by cases h), fun _ => h⟩
theorem bodyM_two {l : List UInt8} {y : M3} (hy : okM y = true) (h : l = bodyL y) : ((32 : UInt8) ∈ l ∧ (32 : UInt8) ∈ restOf l) ∧ wordOf l = y.nm.data.toList ∧ wordOf (restOf l) = y.tl.data.toList ∧ restOf (restOf l) = quoteL y.ar.data.toList := by
  obtain ⟨h1, h2, _⟩ := okM_facts hy
  rw [body_form] at h
  have w1 := word_split (r := y.tl.data.toList ++ 32 :: quoteL y.ar.data.toList) (name_no h1).1
  have w2 := word_split (r := quoteL y.ar.data.toList) (name_no h2).1
  rw [h, w1.1, w1.2, w2.1, w2.2]
  exact ⟨⟨by simp, by simp⟩, rfl, rfl, rfl⟩
theorem bodyM_parts {l t : List UInt8} {ok : Bool} (hm : (32 : UInt8) ∈ l) (hm2 : (32 : UInt8) ∈ restOf l) (hu : (ok = true → restOf (restOf l) = quoteL t) ∧ (ok = false → ∀ q, restOf (restOf l) ≠ quoteL q)) :
    (ok = true → okM ⟨ofL (wordOf l), ofL (wordOf (restOf l)), ofL t⟩ = true → IsBodyM l ⟨ofL (wordOf l), ofL (wordOf (restOf l)), ofL t⟩ true) ∧ (¬ (ok = true ∧ okM ⟨ofL (wordOf l), ofL (wordOf (restOf l)), ofL t⟩ = true) → ∀ y, okM y = true → l ≠ bodyL y) := by
  constructor
  · intro h1 h2
    refine ⟨fun _ => ⟨h2, ?_⟩, (fun h => by cases h)⟩
    rw [body_form]
    show l = wordOf l ++ 32 :: (wordOf (restOf l) ++ 32 :: quoteL t)
    rw [← hu.1 h1, ← (word_parts hm2).1, ← (word_parts hm).1]
  · intro hn y hy e
    obtain ⟨_, e1, e2, e3⟩ := bodyM_two hy e
    apply hn
    cases ok
    · exact absurd e3 (hu.2 rfl _)
    · refine ⟨rfl, ?_⟩
      have : t = y.ar.data.toList := quoteL_inj ((hu.1 rfl).symm.trans e3)
      rw [this, e1, e2]
      exact hy
end Go.Proofs.YtejlfpolnddfdaaDoor

import Derived.Test.YtpjpckmfehfniaaGreatDoorRM
namespace Go.Proofs.YtpjpckmfehfniaaGreatDoor
open Go.RowKit

theorem body_no10 (x : I3) : (10 : UInt8) ∉ body x := by
  unfold body
  simp only [List.mem_append, not_or]
  refine ⟨⟨(word_no32 _).2, ?_⟩, ?_⟩
  · unfold toL; split
    · simp only [List.mem_cons, not_or]; exact ⟨by decide, (decD_no32 _).2⟩
    · simp
  · unfold txL; split
    · simp only [List.mem_cons, not_or]; exact ⟨by decide, quote_no10 _⟩
    · simp
theorem split10 {a b r q : List UInt8} (ha : (10 : UInt8) ∉ a) (hb : (10 : UInt8) ∉ b) (h : a ++ 10 :: r = b ++ 10 :: q) : a = b ∧ r = q := by
  induction a generalizing b with
  | nil =>
    cases b with
    | nil => simpa using h
    | cons c b => simp at h; exact absurd (by rw [h.1]; simp) hb
  | cons d a ih =>
    cases b with
    | nil => simp at h; exact absurd (by rw [h.1]; simp) ha
    | cons c b =>
      simp only [List.cons_append, List.cons.injEq] at h
      obtain ⟨h1, h2⟩ := ih (fun h => ha (List.mem_cons_of_mem _ h)) (fun h => hb (List.mem_cons_of_mem _ h)) h.2
      exact ⟨by rw [h.1, h1], h2⟩
theorem decD_inj {a b : Nat} (h : Lib.decDigits a = Lib.decDigits b) : a = b := by
  have h1 := (decD_ok a).2
  have h2 := (decD_ok b).2
  rw [h] at h1
  omega
theorem tx_inj {a b : ByteArray} (h : a.data.toList = b.data.toList) : a = b := ByteArray.ext (Array.toList_inj.1 h)
theorem tx_empty {a b : ByteArray} (ha : a.toList.isEmpty = true) (hb : b.toList.isEmpty = true) : a = b := by
  apply tx_inj
  rw [ByteArray.toList_eq] at ha hb
  rw [List.isEmpty_iff] at ha hb
  rw [ha, hb]
theorem body_inj {x y : I3} (hx : okI x = true) (hy : okI y = true) (h : body x = body y) : x = y := by
  obtain ⟨x1, x2, x3, x4, x5, x6⟩ := okI_bad hx
  obtain ⟨y1, y2, y3, y4, y5, y6⟩ := okI_bad hy
  have ho : x.op = y.op := word_inj x1 y1 (by rw [← body_word hx, ← body_word hy, h])
  obtain ⟨op, tx, to⟩ := x
  obtain ⟨op', tx', to'⟩ := y
  simp only at ho
  subst ho
  simp only at x2 x3 x4 x5 x6 y2 y3 y4 y5 y6
  unfold body toL txL at h
  simp only [List.append_assoc, List.append_cancel_left_eq] at h
  cases hO : usesTo op <;> cases hX : usesTx op
  · simp only [hO, Bool.false_eq_true, false_or] at x2 y2
    simp only [hX, Bool.false_eq_true, false_or] at x3 y3
    rw [x2, y2, tx_empty x3 y3]
  · simp only [hO, Bool.false_eq_true, false_or] at x2 y2
    simp only [hO, hX, Bool.false_eq_true, if_false, if_true, List.nil_append, List.cons.injEq, true_and] at h
    rw [x2, y2, tx_inj (quoteL_inj h)]
  · simp only [hX, Bool.false_eq_true, false_or] at x3 y3
    simp only [hO, hX, Bool.false_eq_true, if_false, if_true, List.append_nil, List.cons.injEq, true_and] at h
    have := decD_inj h
    rw [tx_empty x3 y3, show to = to' by omega]
  · simp only [hO, hX, if_true, List.cons_append, List.cons.injEq, true_and] at h
    have h1 := (word_split (r := quoteL tx.data.toList) (decD_no32 to.toNat).1)
    have h2 := (word_split (r := quoteL tx'.data.toList) (decD_no32 to'.toNat).1)
    rw [h] at h1
    have e1 := decD_inj (h1.1.symm.trans h2.1)
    have e2 := quoteL_inj (h1.2.symm.trans h2.2)
    rw [tx_inj e2, show to = to' by omega]
theorem line_pre {x y : I3} {r q : List UInt8} (hx : okI x = true) (hy : okI y = true) (h : lineL x ++ r = lineL y ++ q) : x = y ∧ r = q := by
  rw [line_body, line_body, List.append_assoc, List.append_assoc] at h
  obtain ⟨h1, h2⟩ := split10 (body_no10 x) (body_no10 y) h
  exact ⟨body_inj hx hy h1, h2⟩
theorem line_ne (x : I3) : lineL x ≠ [] := by rw [line_body]; simp
theorem lines_pre {is js : List I3} {R : List UInt8} (hi : is.all okI = true) (hj : js.all okI = true) (h : is.flatMap lineL ++ R = js.flatMap lineL) : ∃ r, R = r.flatMap lineL ∧ js = is ++ r := by
  induction is generalizing js with
  | nil => exact ⟨js, by simpa using h, rfl⟩
  | cons x is ih =>
    simp only [List.all_cons, Bool.and_eq_true] at hi
    cases js with
    | nil =>
      have := line_ne x
      simp at h
      exact absurd h.1 this
    | cons y js =>
      simp only [List.all_cons, Bool.and_eq_true] at hj
      simp only [List.flatMap_cons, List.append_assoc] at h
      obtain ⟨rfl, h2⟩ := line_pre hi.1 hj.1 h
      obtain ⟨r, hr, hl⟩ := ih hi.2 hj.2 h2
      exact ⟨r, hr, by rw [hl]; rfl⟩
theorem lines_inj {is js : List I3} (hi : is.all okI = true) (hj : js.all okI = true) (h : is.flatMap lineL = js.flatMap lineL) : is = js := by
  obtain ⟨r, hr, hl⟩ := lines_pre (R := []) hi hj (by simpa using h)
  cases r with
  | nil => simpa using hl.symm
  | cons y r =>
    have := line_ne y
    simp at hr
    exact absurd hr.1 this
theorem lines_ge (is : List I3) : is.length ≤ (is.flatMap lineL).length := by
  induction is with
  | nil => simp
  | cons x r ih =>
    have : 1 ≤ (lineL x).length := List.length_pos_iff.2 (line_ne x)
    simp only [List.flatMap_cons, List.length_append, List.length_cons]; omega

/-- What ReadTool comes to. -/
def IsRead (l : List UInt8) (is : List I3) (ok : Bool) : Prop := (ok = true → okT is = true ∧ is.flatMap lineL = l ∧ l.length ≤ 300) ∧ (ok = false → is = [] ∧ ∀ js, okT js = true → js.flatMap lineL = l → 300 < l.length)
theorem isRead_one {l : List UInt8} {is js : List I3} {a b : Bool} (h : IsRead l is a) (k : IsRead l js b) : is = js ∧ a = b := by
  cases a <;> cases b
  · exact ⟨(h.2 rfl).1.trans (k.2 rfl).1.symm, rfl⟩
  · obtain ⟨k1, k2, k3⟩ := k.1 rfl
    have := (h.2 rfl).2 js k1 k2; omega
  · obtain ⟨k1, k2, k3⟩ := h.1 rfl
    have := (k.2 rfl).2 is k1 k2; omega
  · obtain ⟨k1, k2, k3⟩ := k.1 rfl
    obtain ⟨h1, h2, h3⟩ := h.1 rfl
    exact ⟨lines_inj (okT_facts h1).2 (okT_facts k1).2 (h2.trans k2.symm), rfl⟩
/-- The way through the lines. -/
def Way (l : List UInt8) (is : List I3) (r : List UInt8) : Prop := l = is.flatMap lineL ++ r ∧ is.all okI = true
theorem way_start (l : List UInt8) : Way l [] l := ⟨rfl, rfl⟩
theorem way_step {l : List UInt8} {is : List I3} {a r : List UInt8} {x : I3} (h : Way l is (a ++ 10 :: r)) (hx : okI x = true ∧ a = body x) : Way l (is ++ [x]) r := by
  refine ⟨?_, by rw [List.all_append, h.2]; simp [hx.1]⟩
  rw [h.1, List.flatMap_append, hx.2]
  simp [line_body]
theorem way_stuck {l : List UInt8} {is : List I3} {r : List UInt8} (h : Way l is r) (hr : r ≠ []) (hn : ∀ y q, okI y = true → r ≠ body y ++ 10 :: q) : IsRead l [] false := by
  refine ⟨(fun h => by cases h), fun _ => ⟨rfl, fun js hj e => ?_⟩⟩
  exfalso
  obtain ⟨q, hq, hl⟩ := lines_pre h.2 (okT_facts hj).2 (h.1.symm.trans e.symm)
  cases q with
  | nil => exact hr hq
  | cons y q =>
    have hy : okI y = true := by
      have := (okT_facts hj).2
      rw [hl, List.all_append, List.all_cons] at this
      simp only [Bool.and_eq_true] at this
      exact this.2.1
    apply hn y (q.flatMap lineL) hy
    rw [hq, List.flatMap_cons, line_body, List.append_assoc]
    rfl
theorem way_end {l : List UInt8} {is : List I3} (h : Way l is []) (h300 : l.length ≤ 300) : (okT is = true → IsRead l is true) ∧ (okT is = false → IsRead l [] false) := by
  have e : l = is.flatMap lineL := by simpa using h.1
  refine ⟨fun hk => ⟨fun _ => ⟨hk, e.symm, h300⟩, (fun h => by cases h)⟩, fun hk => ⟨(fun h => by cases h), fun _ => ⟨rfl, fun js hj ej => ?_⟩⟩⟩
  have := lines_inj (okT_facts hj).2 h.2 (ej.trans e)
  rw [this, hk] at hj
  cases hj
theorem read_long {l : List UInt8} (h : 300 < l.length) : IsRead l [] false := ⟨(fun h => by cases h), fun _ => ⟨rfl, fun _ _ _ => h⟩⟩
theorem way_len {l : List UInt8} {is : List I3} {r : List UInt8} (h : Way l is r) : is.length + r.length ≤ l.length ∧ ∀ i, (is.getD i i3z).tx.size ≤ 300 := by
  have h1 := lines_ge is
  have h2 := congrArg List.length h.1
  rw [List.length_append] at h2
  refine ⟨by omega, getD_small3 fun i hi => ?_⟩
  have := (okI_bad (get_ok h.2 hi)).2.2.2.2.2
  omega

/-- A text cut at its first newline. -/
theorem cut_10 (l : List UInt8) : ((Lib.cut l [10]).2.2 = true ∧ l = (Lib.cut l [10]).1 ++ 10 :: (Lib.cut l [10]).2.1 ∧ (10 : UInt8) ∉ (Lib.cut l [10]).1) ∨ ((Lib.cut l [10]).2.2 = false ∧ (Lib.cut l [10]).1 = l ∧ (10 : UInt8) ∉ l) := by
  unfold Lib.cut
  rw [Lib.index_one]
  have hge := Lib.indexByte_ge l 10
  by_cases h : Lib.indexByte l 10 = -1
  · rw [h, if_neg (by omega)]
    refine .inr ⟨rfl, rfl, fun hm => ?_⟩
    obtain ⟨k, hk, e⟩ := List.getElem_of_mem hm
    exact Lib.indexByte_none h k (by rw [List.getElem?_eq_getElem hk, e])
  · obtain ⟨o, ho⟩ : ∃ o : Nat, Lib.indexByte l 10 = o := ⟨(Lib.indexByte l 10).toNat, by omega⟩
    obtain ⟨h1, h2⟩ := Lib.indexByte_some ho
    have hl : o < l.length := by
      rcases Nat.lt_or_ge o l.length with h | h
      · exact h
      · rw [List.getElem?_eq_none h] at h1; cases h1
    rw [ho, if_pos (by omega)]
    refine .inl ⟨rfl, ?_, fun hm => ?_⟩
    · simp only [Int.toNat_natCast, List.length_singleton]
      have hx : l[o] = 10 := by rw [List.getElem?_eq_getElem hl] at h1; exact Option.some.inj h1
      conv => lhs; rw [← List.take_append_drop o l, List.drop_eq_getElem_cons hl, hx]
    · simp only [Int.toNat_natCast] at hm
      obtain ⟨k, hk, e⟩ := List.getElem_of_mem hm
      rw [List.length_take] at hk
      rw [List.getElem_take] at e
      exact h2 k (by omega) (by rw [List.getElem?_eq_getElem (by omega), e])

/-- The cells of instructions. -/
def insCells (is : List I3) : List Value := is.flatMap fun x => [.int .i64 x.op, .string x.tx, .int .i64 x.to]
theorem insCells_len (is : List I3) : (insCells is).length = is.length * 3 := by
  induction is with
  | nil => rfl
  | cons x r ih => unfold insCells at *; simp only [List.flatMap_cons, List.length_append, List.length_cons, List.length_nil, ih]; omega
theorem insCells_snoc (is : List I3) (x : I3) : insCells (is ++ [x]) = insCells is ++ [.int .i64 x.op, .string x.tx, .int .i64 x.to] := by simp [insCells]
theorem insCells_get (is : List I3) (i : Nat) (h : i < is.length) : (insCells is)[i * 3]? = some (.int .i64 (is.getD i i3z).op) ∧ (insCells is)[i * 3 + 1]? = some (.string (is.getD i i3z).tx) ∧ (insCells is)[i * 3 + 2]? = some (.int .i64 (is.getD i i3z).to) := by
  induction is generalizing i with
  | nil => simp at h
  | cons x r ih =>
    cases i with
    | zero => exact ⟨rfl, rfl, rfl⟩
    | succ i =>
      have := ih i (by simpa using h)
      have e : ∀ j, (insCells (x :: r))[(i + 1) * 3 + j]? = (insCells r)[i * 3 + j]? := fun j => by
        show ([Value.int .i64 x.op, .string x.tx, .int .i64 x.to] ++ insCells r)[(i + 1) * 3 + j]? = _
        rw [List.getElem?_append_right (by simp; omega)]
        congr 1
        simp; omega
      have e0 := e 0
      simp only [Nat.add_zero] at e0
      rw [e0, e 1, e 2]
      exact this
theorem own3_form {w : World} {base : Nat} {v : Value} {is : List I3} (h : w.ownsRow base 122 3 v is.length (insCells is)) : ∃ a cap, v = .slice a is.length cap ∧ InsAt w a is := by
  have h' := h
  rcases h.2 with ⟨hv, h0⟩ | ⟨g, cap, cur, hv, hg, hh, _⟩
  · exact ⟨none, 0, by rw [hv, h0], .inl (List.length_eq_zero_iff.1 h0)⟩
  · refine ⟨some ⟨g, 0, none⟩, cap, hv, ?_⟩
    subst hv
    refine .inr ⟨g, 0, rfl, blk_lt hh, fun i hi => ?_⟩
    obtain ⟨e0, e1, e2⟩ := insCells_get is i hi
    rw [Nat.zero_add, h'.cellAt _ (by omega), h'.cellAt _ (by omega), h'.cellAt _ (by omega)]
    exact ⟨e0, e1, e2⟩
end Go.Proofs.YtpjpckmfehfniaaGreatDoor

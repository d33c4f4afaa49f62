import Derived.Test.YtejlfpolnddfdaaDoorP6
namespace Go.Proofs.YtejlfpolnddfdaaDoor
open Go.RowKit

theorem plain_iff (c : UInt8) : plainB c = true ↔ 32 ≤ c.toNat ∧ c.toNat ≤ 126 ∧ c.toNat ≠ 34 ∧ c.toNat ≠ 92 := by
  unfold plainB
  simp only [Bool.and_eq_true, decide_eq_true_eq, Bool.not_eq_true', beq_eq_false_iff_ne]
  omega
theorem hexL_inj : ∀ a b : Fin 16, hexL.getD a.val 0 = hexL.getD b.val 0 → a = b := by decide
theorem hexL_eq {a b : Nat} (ha : a < 16) (hb : b < 16) (h : hexL.getD a 0 = hexL.getD b 0) : a = b := by
  have := hexL_inj ⟨a, ha⟩ ⟨b, hb⟩ h
  exact Fin.mk.inj this
theorem u8_lt (c : UInt8) : c.toNat < 256 := c.toNat_lt
theorem qb_plain {c : UInt8} (h : plainB c = true) : qb c = [c] := by unfold qb; rw [if_pos h]
theorem qb_not {c : UInt8} (h : plainB c = false) : qb c = [92, hexL.getD (c.toNat / 16) 0, hexL.getD (c.toNat % 16) 0] := by unfold qb; rw [if_neg (by simp [h])]
theorem plain_92 : plainB 92 = false := by decide
theorem plain_34 : plainB 34 = false := by decide
theorem qb_ne (c : UInt8) : qb c ≠ [] := by
  cases h : plainB c
  · rw [qb_not h]; simp
  · rw [qb_plain h]; simp
/-- No two bytes' forms begin alike. -/
theorem qb_pre {c d : UInt8} {r q : List UInt8} (h : qb c ++ r = qb d ++ q) : c = d ∧ r = q := by
  cases hc : plainB c <;> cases hd : plainB d
  · rw [qb_not hc, qb_not hd] at h
    simp only [List.cons_append, List.nil_append, List.cons.injEq, true_and] at h
    obtain ⟨h1, h2, h3⟩ := h
    have lc := u8_lt c
    have ld := u8_lt d
    have e1 := hexL_eq (by omega) (by omega) h1
    have e2 := hexL_eq (by omega) (by omega) h2
    exact ⟨UInt8.toNat_inj.1 (by omega), h3⟩
  · rw [qb_not hc, qb_plain hd] at h
    simp only [List.cons_append, List.nil_append, List.cons.injEq] at h
    rw [← h.1, plain_92] at hd; cases hd
  · rw [qb_plain hc, qb_not hd] at h
    simp only [List.cons_append, List.nil_append, List.cons.injEq] at h
    rw [h.1, plain_92] at hc; cases hc
  · rw [qb_plain hc, qb_plain hd] at h
    simpa using h
theorem qb_34 {c : UInt8} {r q : List UInt8} (h : qb c ++ r = 34 :: q) : False := by
  cases hc : plainB c
  · rw [qb_not hc] at h; simp at h
  · rw [qb_plain hc] at h
    simp only [List.cons_append, List.nil_append, List.cons.injEq] at h
    rw [h.1, plain_34] at hc; cases hc
theorem flat_pre {t l R : List UInt8} (h : t.flatMap qb ++ R = l.flatMap qb) : ∃ r, R = r.flatMap qb ∧ l = t ++ r := by
  induction t generalizing l with
  | nil => exact ⟨l, by simpa using h, rfl⟩
  | cons c t ih =>
    cases l with
    | nil =>
      have := qb_ne c
      simp at h
      exact absurd h.1 this
    | cons d l =>
      simp only [List.flatMap_cons, List.append_assoc] at h
      obtain ⟨rfl, h2⟩ := qb_pre h
      obtain ⟨r, hr, hl⟩ := ih h2
      exact ⟨r, hr, by rw [hl]; rfl⟩
theorem flat_inj {t l : List UInt8} (h : t.flatMap qb = l.flatMap qb) : t = l := by
  obtain ⟨r, hr, hl⟩ := flat_pre (t := t) (l := l) (R := []) (by simpa using h)
  cases r with
  | nil => simpa using hl.symm
  | cons c r =>
    have := qb_ne c
    simp at hr
    exact absurd hr.1 this
theorem quoteL_inj {t l : List UInt8} (h : quoteL t = quoteL l) : t = l := by
  unfold quoteL at h
  simp only [List.cons.injEq, true_and, List.append_cancel_right_eq] at h
  exact flat_inj h
theorem flat_ge (l : List UInt8) : l.length ≤ (l.flatMap qb).length := by
  induction l with
  | nil => simp
  | cons c l ih =>
    have : 1 ≤ (qb c).length := List.length_pos_iff.2 (qb_ne c)
    simp only [List.flatMap_cons, List.length_append, List.length_cons]; omega
theorem quote_ge (l : List UInt8) : l.length + 2 ≤ (quoteL l).length := by
  have := flat_ge l
  unfold quoteL; simp only [List.length_cons, List.length_append, List.length_nil]; omega
/-- The inner part of a text in quotes. -/
theorem quote_inner {q l : List UInt8} (h : q = quoteL l) : q = 34 :: (l.flatMap qb ++ [34]) := h
theorem hexL_no10 : ∀ a : Fin 16, hexL.getD a.val 0 ≠ 10 ∧ hexL.getD a.val 0 ≠ 32 := by decide
theorem qb_no10 (c : UInt8) : (10 : UInt8) ∉ qb c := by
  cases h : plainB c
  · rw [qb_not h]
    have lc := u8_lt c
    have h1 := (hexL_no10 ⟨c.toNat / 16, by omega⟩).1
    have h2 := (hexL_no10 ⟨c.toNat % 16, by omega⟩).1
    simp only [List.mem_cons, List.not_mem_nil, or_false, not_or]
    exact ⟨by decide, fun e => h1 e.symm, fun e => h2 e.symm⟩
  · rw [qb_plain h]
    have := (plain_iff c).1 h
    simp only [List.mem_cons, List.not_mem_nil, or_false]
    intro e; rw [← e] at this; simp at this
theorem quote_no10 (l : List UInt8) : (10 : UInt8) ∉ quoteL l := by
  unfold quoteL
  simp only [List.mem_cons, List.mem_append, List.mem_flatMap, List.not_mem_nil, or_false, not_or]
  refine ⟨by decide, fun ⟨c, _, h⟩ => qb_no10 c h, by decide⟩
end Go.Proofs.YtejlfpolnddfdaaDoor

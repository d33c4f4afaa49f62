import Derived.Test.YtejlfpolnddfdaaDoorY9
namespace Go.Proofs.YtejlfpolnddfdaaDoor
open Go.RowKit
theorem dec_small (n : Int) (h0 : 0 ≤ n) (h1 : n ≤ 1000) : (dec n).length ≤ 4 := by
  by_cases a : n < 10
  · rw [dec_lt n a]; simp
  · rw [dec_ge n (by omega), List.length_append]
    by_cases b : n / 10 < 10
    · rw [dec_lt _ b]; simp
    · rw [dec_ge (n / 10) (by omega), List.length_append]
      by_cases c : n / 10 / 10 < 10
      · rw [dec_lt _ c]; simp
      · rw [dec_ge (n / 10 / 10) (by omega), List.length_append]
        have d : n / 10 / 10 / 10 < 10 := by omega
        rw [dec_lt _ d]; simp
theorem dec_one (n : Int) (h1 : n < 10) : (dec n).length = 1 := by rw [dec_lt n h1]; rfl
theorem name_len {l : List UInt8} (h : nameOk l = true) : 1 ≤ l.length ∧ l.length ≤ 20 := by
  unfold nameOk at h
  rw [Bool.and_eq_true, decide_eq_true_eq] at h
  exact h.1
theorem vr_len {c : Int} {l : List UInt8} (h : vr c l = true) : l.length ≤ 300 := by
  rcases Nat.lt_or_ge 300 l.length with h1 | h1
  · rw [vr_long h1] at h; cases h
  · exact h1
theorem quote_len2 (l : List UInt8) : (quoteL l).length ≤ 3 * l.length + 2 := by
  have := flat_len l
  unfold quoteL
  simp only [List.length_cons, List.length_append, List.length_nil]
  omega
theorem lk_text {x : L4} (h : LkOk x) : x.nm.data.toList.length ≤ 20 ∧ x.tx.data.toList.length ≤ 300 := by
  have hn := name_len h.1
  refine ⟨hn.2, ?_⟩
  rcases h.2 with ⟨_, ⟨_, h⟩ | ⟨_, h⟩⟩ | ⟨_, h⟩
  · rw [h]; exact Nat.zero_le _
  · rw [h]; omega
  · exact vr_len h
theorem res_len {c : Int} {t : ByteArray} (h0 : 0 ≤ c) (h1 : c ≤ 7) (ht : t.data.toList.length ≤ 300) : (resL c t).length ≤ 904 := by
  have a := dec_one c (by omega)
  have b := quote_len2 t.data.toList
  unfold resL
  simp only [List.length_append, List.length_cons, List.length_nil]
  omega
theorem look_len {x : L4} (h : LkOk x) : (lookL x).length ≤ 930 := by
  obtain ⟨a, b⟩ := lk_text h
  have hc := lk_code h
  have r := res_len hc.1 hc.2 b
  have w4 : (wordA x.has).data.toList.length = 4 := by cases x.has <;> rfl
  unfold lookL
  simp only [List.length_append, List.length_cons, List.length_nil]
  omega
theorem looks_len' {ls : List L4} (h : LksOk ls) : ∀ k, k ≤ ls.length → (looksL (ls.take k)).length ≤ k * 930 := by
  intro k
  induction k with
  | zero => intro _; simp [looksL]
  | succ k ih =>
    intro hk
    rw [looks_snoc ls k (by omega), List.length_append]
    have := look_len (h.2 k (by omega))
    have := ih (by omega)
    omega
theorem looks_small {ls : List L4} (h : LksOk ls) : (looksL ls).length ≤ 13950 := by
  have := looks_len' h ls.length (Nat.le_refl _)
  rw [List.take_of_length_le (Nat.le_refl _)] at this
  have := h.1
  omega
theorem okM_len {x : M3} (h : okM x = true) : x.nm.data.toList.length ≤ 20 ∧ x.tl.data.toList.length ≤ 20 ∧ x.ar.data.toList.length ≤ 300 := by
  unfold okM at h
  simp only [Bool.and_eq_true, decide_eq_true_eq] at h
  have e : x.ar.data.toList.length = x.ar.size := by simp
  exact ⟨(name_len h.1.1).2, (name_len h.1.2).2, by omega⟩
theorem mom_le {a b : Int} (h : momOk a b = true) : (1 ≤ a ∧ a ≤ 200) ∧ (0 ≤ b ∧ b ≤ 1000) := by
  unfold momOk at h
  rw [Bool.and_eq_true, decide_eq_true_eq, decide_eq_true_eq] at h
  exact h
end Go.Proofs.YtejlfpolnddfdaaDoor

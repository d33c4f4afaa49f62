/-
  The plain mathematics of clashes.
-/
import Derived.Test.YtckbjbnmlmhihaaA4
import Derived.Maps.Views
namespace Go.Proofs.Ytckbjbnmlmhihaa
open Go.RowKit

/-- Two places clash. -/
def Cl (ss : List ByteArray) (n : Int) (i j : Nat) : Prop := sumS (ss.getD i ByteArray.empty) n = sumS (ss.getD j ByteArray.empty) n ∧ ss.getD i ByteArray.empty ≠ ss.getD j ByteArray.empty
/-- What Clash comes to. -/
def IsClash (ss : List ByteArray) (n : Int) (x y : ByteArray) (f : Bool) : Prop :=
  (f = false ∧ x = ⟨#[]⟩ ∧ y = ⟨#[]⟩ ∧ ((1 ≤ n ∧ n ≤ 8) ∧ ss.length ≤ 2000 → ∀ j, j < ss.length → ∀ i, i < j → ¬ Cl ss n i j)) ∨
  (f = true ∧ ((1 ≤ n ∧ n ≤ 8) ∧ ss.length ≤ 2000) ∧ ∃ i j, i < j ∧ j < ss.length ∧ x = ss.getD i ByteArray.empty ∧ y = ss.getD j ByteArray.empty ∧ Cl ss n i j ∧ (∀ i', i' < i → ¬ Cl ss n i' j) ∧ (∀ j', j' < j → ∀ i', i' < j' → ¬ Cl ss n i' j'))
theorem isClash_one {ss : List ByteArray} {n : Int} {x y x' y' : ByteArray} {f f' : Bool} (h : IsClash ss n x y f) (h' : IsClash ss n x' y' f') : x = x' ∧ y = y' ∧ f = f' := by
  rcases h with ⟨rfl, rfl, rfl, h⟩ | ⟨rfl, hv, i, j, hij, hj, rfl, rfl, hc, hi, hm⟩ <;> rcases h' with ⟨rfl, rfl, rfl, h'⟩ | ⟨rfl, hv', i', j', hij', hj', rfl, rfl, hc', hi', hm'⟩
  · exact ⟨rfl, rfl, rfl⟩
  · exact absurd hc' (h hv' j' hj' i' hij')
  · exact absurd hc (h' hv j hj i hij)
  · have ej : j = j' := by
      rcases Nat.lt_trichotomy j j' with h | h | h
      · exact absurd hc (hm' j h i hij)
      · exact h
      · exact absurd hc' (hm j' h i' hij')
    subst ej
    have ei : i = i' := by
      rcases Nat.lt_trichotomy i i' with h | h | h
      · exact absurd hc (hi' i h)
      · exact h
      · exact absurd hc' (hi i' h)
    subst ei
    exact ⟨rfl, rfl, rfl⟩

/-- Lists of bytes as numbers: the string tells the list. -/
theorem str_inj {l r : List Int} (hl : ∀ x ∈ l, 0 ≤ x ∧ x ≤ 255) (hr : ∀ x ∈ r, 0 ≤ x ∧ x ≤ 255) (h : strOfNums l = strOfNums r) : l = r := by
  have h1 : l.map (fun n => UInt8.ofNat n.toNat) = r.map (fun n => UInt8.ofNat n.toNat) := by
    rw [← strOfNums_data, ← strOfNums_data, h]
  clear h
  induction l generalizing r with
  | nil => cases r with
    | nil => rfl
    | cons a r => simp at h1
  | cons a l ih =>
    cases r with
    | nil => simp at h1
    | cons b r =>
      simp only [List.map_cons, List.cons.injEq] at h1
      have ha := hl a (by simp)
      have hb := hr b (by simp)
      have e : a = b := by
        have := congrArg UInt8.toNat h1.1
        simp only [UInt8.toNat_ofNat'] at this
        omega
      rw [e, ih (fun x hx => hl x (by simp [hx])) (fun x hx => hr x (by simp [hx])) h1.2]
/-- The key tells the sum, and the sum the key. -/
theorem kc_of_outs {X Y : Int} {n : Nat} (hn : n ≤ 8) (h : outs X n = outs Y n) (j : Nat) (hj : j < 8) : kc X n j = kc Y n j := by
  by_cases hk : 8 ≤ j + n
  · have e : j = 8 - n + (j + n - 8) := by omega
    rw [e, kc_outs X n _ hn (by omega), kc_outs Y n _ hn (by omega), h]
  · unfold kc; rw [if_neg hk, if_neg hk]
theorem outs_of_kc {X Y : Int} {n : Nat} (hn : n ≤ 8) (h : ∀ j, j < 8 → kc X n j = kc Y n j) : outs X n = outs Y n := by
  apply List.ext_getElem (by rw [outs_length, outs_length])
  intro i h1 h2
  rw [outs_length] at h1
  have a := kc_outs X n i hn h1
  have b := kc_outs Y n i hn h1
  have := h (8 - n + i) (by omega)
  rw [a, b] at this
  simpa [List.getD, List.getElem?_eq_getElem, outs_length, h1] using this

/-- What a map of first places holds: K i is the key of place i. -/
def MapRel {H : Type} (D : DataW H) (K : Nat → Lit) (j : Nat) : Prop :=
  Maps.IsMap D ∧ ∀ kl, WideAt.IsKeyLit kl → (Maps.has D kl = true ↔ ∃ i, i < j ∧ K i = kl) ∧ ∀ i, i < j → K i = kl → (∀ i', i' < i → K i' ≠ kl) → D.atKey kl (.lit (.int .i64 0)) = .lit (.int .i64 i)
theorem mapRel_start {H : Type} (K : Nat → Lit) : MapRel (.map [] : DataW H) K 0 :=
  ⟨Maps.isMap_empty, fun kl _ => ⟨⟨fun h => by simp [Maps.has] at h, fun ⟨i, h, _⟩ => by omega⟩, fun i h => by omega⟩⟩
theorem mapRel_put {H : Type} {D : DataW H} {K : Nat → Lit} {j : Nat} (h : MapRel D K j) (hk : WideAt.IsKeyLit (K j)) (hno : Maps.has D (K j) = false) : MapRel (D.put (K j) (.lit (.int .i64 j))) K (j + 1) := by
  obtain ⟨hm, hr⟩ := h
  have hnew : ∀ i, i < j → K i ≠ K j := fun i hi e => by
    have := ((hr (K j) hk).1).2 ⟨i, hi, e⟩
    rw [hno] at this; cases this
  refine ⟨hm.put _ _, fun kl hkl => ?_⟩
  by_cases e : kl = K j
  · subst e
    refine ⟨⟨fun _ => ⟨j, by omega, rfl⟩, fun _ => Maps.has_put_same hm hk _⟩, fun i hi hKi _ => ?_⟩
    have : i = j := by
      rcases Nat.lt_or_ge i j with h | h
      · exact absurd hKi (hnew i h)
      · omega
    subst this
    exact Maps.atKey_put_same hm hk _ _
  · obtain ⟨r1, r2⟩ := hr kl hkl
    rw [Maps.has_put_other e, Maps.atKey_put_other e]
    refine ⟨⟨fun h => ?_, fun ⟨i, hi, hKi⟩ => ?_⟩, fun i hi hKi hf => ?_⟩
    · obtain ⟨i, hi, hKi⟩ := r1.1 h; exact ⟨i, by omega, hKi⟩
    · have : i ≠ j := fun x => e (by rw [← hKi, x])
      exact r1.2 ⟨i, by omega, hKi⟩
    · have : i ≠ j := fun x => e (by rw [← hKi, x])
      exact r2 i (by omega) hKi hf
theorem mapRel_keep {H : Type} {D : DataW H} {K : Nat → Lit} {j : Nat} (h : MapRel D K j) (hk : WideAt.IsKeyLit (K j)) (hyes : Maps.has D (K j) = true) : MapRel D K (j + 1) := by
  obtain ⟨hm, hr⟩ := h
  obtain ⟨i0, hi0, hK0⟩ := ((hr (K j) hk).1).1 hyes
  refine ⟨hm, fun kl hkl => ?_⟩
  obtain ⟨r1, r2⟩ := hr kl hkl
  refine ⟨⟨fun h => ?_, fun ⟨i, hi, hKi⟩ => ?_⟩, fun i hi hKi hf => ?_⟩
  · obtain ⟨i, hi, hKi⟩ := r1.1 h; exact ⟨i, by omega, hKi⟩
  · rcases Nat.lt_or_ge i j with h | h
    · exact r1.2 ⟨i, h, hKi⟩
    · have : i = j := by omega
      subst this
      exact r1.2 ⟨i0, hi0, hK0.trans hKi⟩
  · have : i ≠ j := fun x => hf i0 (by omega) (by rw [hK0, ← x, hKi])
    exact r2 i (by omega) hKi hf
/-- the first place of a key that is there -/
theorem mapRel_first {H : Type} {D : DataW H} {K : Nat → Lit} {j : Nat} (h : MapRel D K j) (kl : Lit) (hk : WideAt.IsKeyLit kl) (hyes : Maps.has D kl = true) :
    ∃ i, i < j ∧ K i = kl ∧ (∀ i', i' < i → K i' ≠ kl) ∧ D.atKey kl (.lit (.int .i64 0)) = .lit (.int .i64 i) := by
  obtain ⟨i, hi, hKi⟩ := ((h.2 kl hk).1).1 hyes
  have : ∀ m, ∀ i, i ≤ m → i < j → K i = kl → ∃ i, i < j ∧ K i = kl ∧ (∀ i', i' < i → K i' ≠ kl) := by
    intro m
    induction m with
    | zero => intro i h0 hi hKi; exact ⟨i, hi, hKi, fun i' h => by omega⟩
    | succ m ih =>
      intro i h0 hi hKi
      by_cases hex : ∃ i', i' < i ∧ K i' = kl
      · obtain ⟨i', h1, h2⟩ := hex
        exact ih i' (by omega) (by omega) h2
      · exact ⟨i, hi, hKi, fun i' h1 h2 => hex ⟨i', h1, h2⟩⟩
  obtain ⟨i, hi, hKi, hf⟩ := this i i (Nat.le_refl _) hi hKi
  exact ⟨i, hi, hKi, hf, (h.2 kl hk).2 i hi hKi hf⟩
end Go.Proofs.Ytckbjbnmlmhihaa

import Derived.Test.YtpjpckmfehfniaaGreatDoorRA
import Derived.Test.YtpjpckmfehfniaaGreatDoorZC05
import Derived.Test.YtpjpckmfehfniaaGreatDoorRF
import Derived.Lib.IndexBytes
import Derived.Lib.IndexLaws
import Derived.Lib.Split
namespace Go.Proofs.YtpjpckmfehfniaaGreatDoor
open Go.RowKit

/-- A line without its end. -/
def body (x : I3) : List UInt8 := word x.op ++ toL x ++ txL x
theorem line_body (x : I3) : lineL x = body x ++ [10] := rfl

/-- The first blank parts a line. -/
theorem word_none {l : List UInt8} (h : (32 : UInt8) ∉ l) : wordOf l = l ∧ restOf l = [] := by
  have := word_at (l := l) (k := l.length) (by rw [List.take_length, List.all_eq_true]; intro a ha; simp only [bne_iff_ne]; intro e; exact h (e ▸ ha)) (Nat.le_refl _) (.inl rfl)
  rw [List.take_length, List.drop_of_length_le (by omega)] at this
  exact this
theorem word_split {a r : List UInt8} (h : (32 : UInt8) ∉ a) : wordOf (a ++ 32 :: r) = a ∧ restOf (a ++ 32 :: r) = r := by
  have := word_at (l := a ++ 32 :: r) (k := a.length) (by rw [List.take_left, List.all_eq_true]; intro x ha; simp only [bne_iff_ne]; intro e; exact h (e ▸ ha)) (by simp) (.inr (by simp))
  rw [List.take_left] at this
  refine ⟨this.1, this.2.trans ?_⟩
  rw [← List.drop_drop, List.drop_left]
  rfl
theorem word_parts {l : List UInt8} (h : (32 : UInt8) ∈ l) : l = wordOf l ++ 32 :: restOf l ∧ (32 : UInt8) ∉ wordOf l := by
  obtain ⟨a, r, rfl, ha⟩ := List.eq_append_cons_of_mem h
  obtain ⟨h1, h2⟩ := word_split (r := r) ha
  rw [h1, h2]
  exact ⟨rfl, ha⟩
theorem idx_one (l : List UInt8) : (Lib.index l [32] = -1 ∧ (32 : UInt8) ∉ l) ∨ (∃ i : Nat, Lib.index l [32] = i ∧ (32 : UInt8) ∈ l ∧ l.take i = wordOf l ∧ l.drop (i + 1) = restOf l) := by
  rw [Lib.index_one]
  have hge := Lib.indexByte_ge l 32
  by_cases h : Lib.indexByte l 32 = -1
  · refine .inl ⟨h, fun hm => ?_⟩
    obtain ⟨k, hk, e⟩ := List.getElem_of_mem hm
    exact Lib.indexByte_none h k (by rw [List.getElem?_eq_getElem hk, e])
  · obtain ⟨o, ho⟩ : ∃ o : Nat, Lib.indexByte l 32 = o := ⟨(Lib.indexByte l 32).toNat, by omega⟩
    obtain ⟨h1, h2⟩ := Lib.indexByte_some ho
    have hl : o < l.length := by
      rcases Nat.lt_or_ge o l.length with h | h
      · exact h
      · rw [List.getElem?_eq_none h] at h1; cases h1
    have hm : (32 : UInt8) ∈ l := List.mem_of_getElem? h1
    have := word_at (l := l) (k := o) (by
      rw [List.all_eq_true]
      intro x hx
      simp only [bne_iff_ne]
      rintro rfl
      obtain ⟨k, hk, e⟩ := List.getElem_of_mem hx
      rw [List.length_take] at hk
      rw [List.getElem_take] at e
      exact h2 k (by omega) (by rw [List.getElem?_eq_getElem (by omega), e])) (by omega) (.inr (by simp [List.getD, h1]))
    exact .inr ⟨o, ho, hm, this.1.symm, this.2.symm⟩
theorem cut_32 (l : List UInt8) : (Lib.cut l [32]).1 = wordOf l := by
  unfold Lib.cut
  rcases idx_one l with ⟨h, hn⟩ | ⟨i, h, _, h1, _⟩
  · rw [h, if_neg (by omega), (word_none hn).1]
  · rw [h, if_pos (by omega)]; exact h1
/-- The parts of a line. -/
def parts1 (l : List UInt8) (n : Nat) : List (List UInt8) := Lib.splitK [32] 0 n l
theorem parts_zero (l : List UInt8) : parts1 l 0 = [l] := rfl
theorem parts_no {l : List UInt8} (n : Nat) (h : (32 : UInt8) ∉ l) : parts1 l n = [l] := by
  cases n with
  | zero => rfl
  | succ n =>
    unfold parts1 Lib.splitK
    rcases idx_one l with ⟨h', _⟩ | ⟨i, _, hm, _⟩
    · rw [h']; rfl
    · exact absurd hm h
theorem parts_yes {l : List UInt8} (n : Nat) (h : (32 : UInt8) ∈ l) : parts1 l (n + 1) = wordOf l :: parts1 (restOf l) n := by
  unfold parts1
  rw [Lib.splitK]
  rcases idx_one l with ⟨_, hn⟩ | ⟨i, hi, _, h1, h2⟩
  · exact absurd h hn
  · rw [hi, if_neg (by simp)]
    simp only [Int.toNat_natCast, Nat.add_zero, List.length_singleton, h1, h2]

theorem words_no32 : ∀ i : Fin 12, (32 : UInt8) ∉ word ((i.val : Nat) : Int) ∧ (10 : UInt8) ∉ word ((i.val : Nat) : Int) := by decide
theorem word_no32 (op : Int) : (32 : UInt8) ∉ word op ∧ (10 : UInt8) ∉ word op := by
  by_cases h : 1 ≤ op ∧ op ≤ 11
  · obtain ⟨n, rfl⟩ := Int.eq_ofNat_of_zero_le (show 0 ≤ op by omega)
    exact words_no32 ⟨n, by omega⟩
  · rw [word_out op h]; simp
theorem words_inj : ∀ i j : Fin 12, 1 ≤ i.val → 1 ≤ j.val → word ((i.val : Nat) : Int) = word ((j.val : Nat) : Int) → i = j := by decide
theorem word_inj {a b : Int} (ha : 1 ≤ a ∧ a ≤ 11) (hb : 1 ≤ b ∧ b ≤ 11) (h : word a = word b) : a = b := by
  obtain ⟨n, rfl⟩ := Int.eq_ofNat_of_zero_le (show 0 ≤ a by omega)
  obtain ⟨m, rfl⟩ := Int.eq_ofNat_of_zero_le (show 0 ≤ b by omega)
  have := words_inj ⟨n, by omega⟩ ⟨m, by omega⟩ (by show 1 ≤ n; omega) (by show 1 ≤ m; omega) h
  have := Fin.mk.inj this
  rw [this]

/-- Decimals. -/
theorem dec_eq (n : Nat) : dec (n : Int) = Lib.decDigits n := by
  induction n using Nat.strongRecOn with
  | _ n ih =>
    by_cases h : n < 10
    · rw [dec_lt _ (by omega), dec_small n h, show (48 + (n : Int)).toNat = 48 + n by omega]
    · rw [dec_ge _ (by omega), dec_two n h, show (n : Int) / 10 = ((n / 10 : Nat) : Int) by omega, ih (n / 10) (by omega), show (48 + (n : Int) % 10).toNat = 48 + n % 10 by omega]
theorem digs (n : Nat) (h : n < 10) : isDig (UInt8.ofNat (48 + n)) = true ∧ ((UInt8.ofNat (48 + n)).toNat : Int) - 48 = n := by
  have e : (UInt8.ofNat (48 + n)).toNat = 48 + n := by simp; omega
  rw [dig_iff, e]; omega
theorem decD_ok (n : Nat) : (Lib.decDigits n).all isDig = true ∧ val (Lib.decDigits n) = n := by
  induction n using Nat.strongRecOn with
  | _ n ih =>
    by_cases h : n < 10
    · rw [dec_small n h]
      obtain ⟨h1, h2⟩ := digs n h
      refine ⟨by rw [List.all_cons, h1]; rfl, ?_⟩
      have := val_snoc [] (UInt8.ofNat (48 + n))
      rw [List.nil_append] at this
      rw [this, h2]
      simp [val]
    · obtain ⟨h1, h2⟩ := digs (n % 10) (by omega)
      obtain ⟨i1, i2⟩ := ih (n / 10) (by omega)
      rw [dec_two n h, List.all_append, i1, val_snoc, i2, h2]
      refine ⟨by rw [List.all_cons, h1]; rfl, by omega⟩
theorem decD_no32 (n : Nat) : (32 : UInt8) ∉ Lib.decDigits n ∧ (10 : UInt8) ∉ Lib.decDigits n := by
  have := (decD_ok n).1
  rw [List.all_eq_true] at this
  constructor
  · intro h; have := this _ h; revert this; decide
  · intro h; have := this _ h; revert this; decide
theorem num40_dec (n : Nat) (h : n ≤ 40) : num40 (Lib.decDigits n) = true := by
  obtain ⟨h1, h2⟩ := decD_ok n
  refine n40_yes ?_ h1 (by rw [h2]; omega)
  have := (dec_lean (n + 1) (n : Int) (by omega) (by omega)).1
  rwa [dec_eq] at this
theorem num40_of {l : List UInt8} (h : num40 l = true) : 0 ≤ val l ∧ val l ≤ 40 ∧ l = Lib.decDigits (val l).toNat := by
  simp only [num40, Bool.and_eq_true, decide_eq_true_eq] at h
  obtain ⟨⟨h1, h2⟩, h3⟩ := h
  have h0 := val_nonneg l h2
  refine ⟨h0, h3, ?_⟩
  have h4 := (dec_val l h2 h1).1
  have e : val l = ((val l).toNat : Int) := by omega
  rw [← dec_eq, ← e, h4]
theorem n29_dec0 (n : Nat) (h : n ≤ 40) : n29 (Lib.decDigits n) = n := by
  have h40 := num40_dec n h
  obtain ⟨h1, h2⟩ := decD_ok n
  have hl := decLen n (by omega)
  have hne : Lib.decDigits n ≠ [] := by rw [← dec_eq]; exact dec_ne _
  rw [n29_yes ⟨List.length_pos_iff.2 hne, by omega⟩ h1 (by rw [h2, dec_eq]), h2]

/-- What a line is the body of. -/
def IsBody (l : List UInt8) (x : I3) (ok : Bool) : Prop := (ok = true → okI x = true ∧ l = body x) ∧ (ok = false → ∀ y, okI y = true → l ≠ body y)
theorem body_word {y : I3} (_hy : okI y = true) : wordOf (body y) = word y.op := by
  have hw := (word_no32 y.op).1
  unfold body
  cases hO : usesTo y.op <;> cases hX : usesTx y.op
  · rw [toL, txL, hO, hX]; simp; exact (word_none hw).1
  · rw [toL, txL, hO, hX]; simp; exact (word_split hw).1
  · rw [toL, txL, hO, hX]; simp; exact (word_split hw).1
  · rw [toL, txL, hO, hX]; simp; exact (word_split hw).1
theorem body_op {l : List UInt8} {y : I3} {op : Int} (hy : okI y = true) (h : l = body y) (ho : 1 ≤ op ∧ op ≤ 11) (hw : word op = wordOf l) : y.op = op := by
  rw [h, body_word hy] at hw
  exact (word_inj ho (okI_bad hy).1 hw).symm
theorem noBody_op {l : List UInt8} (h : ∀ op : Nat, 1 ≤ op → op ≤ 11 → word op ≠ wordOf l) (y : I3) (hy : okI y = true) : l ≠ body y := by
  intro e
  obtain ⟨h1, _⟩ := okI_bad hy
  obtain ⟨n, hn⟩ := Int.eq_ofNat_of_zero_le (show 0 ≤ y.op by omega)
  apply h n (by omega) (by omega)
  rw [e, body_word hy, hn]
theorem tx0 : (⟨#[]⟩ : ByteArray).toList.isEmpty = true := by rw [ByteArray.toList_eq]; rfl
theorem isBody_no (l : List UInt8) (x : I3) (h : ∀ y, okI y = true → l ≠ body y) : IsBody l x false := ⟨(fun h => by cases h), fun _ => h⟩
section
variable {l : List UInt8} {op : Nat} (h1 : 1 ≤ op) (h2 : op ≤ 11) (hw : word op = wordOf l)
include h1 h2 hw
theorem isBody_00 (hO : usesTo op = false) (hX : usesTx op = false) : (l = wordOf l → IsBody l ⟨op, ⟨#[]⟩, 0⟩ true) ∧ (l ≠ wordOf l → ∀ y, okI y = true → l ≠ body y) := by
  constructor
  · intro e
    refine ⟨fun _ => ⟨okI_mk ⟨by show (1 : Int) ≤ op; omega, by show (op : Int) ≤ 11; omega⟩ (.inr rfl) (.inr tx0) (Int.le_refl _) (by show (0 : Int) ≤ 40; omega) (by show ((0 : Nat) : Int) ≤ 300; omega), ?_⟩, fun h => by cases h⟩
    unfold body
    rw [toL, txL]
    simp only [hO, hX, Bool.false_eq_true, if_false, List.append_nil]
    rw [hw]; exact e
  · intro hne y hy e
    have ho := body_op hy e ⟨by omega, by omega⟩ hw
    apply hne
    rw [← hw, ← ho]
    rw [e]
    unfold body
    rw [toL, txL, ho, hO, hX]
    simp
theorem no_blank (hu : usesTo op = true ∨ usesTx op = true) (hn : (32 : UInt8) ∉ l) (y : I3) (hy : okI y = true) : l ≠ body y := by
  intro e
  have ho := body_op hy e ⟨by omega, by omega⟩ hw
  apply hn
  rw [e]
  unfold body
  rw [toL, txL, ho]
  rcases hu with hu | hu
  · rw [hu]; simp
  · rw [hu]; cases usesTo (op : Int) <;> simp
theorem isBody_10 (hO : usesTo op = true) (hX : usesTx op = false) (hm : (32 : UInt8) ∈ l) : IsBody l ⟨op, ⟨#[]⟩, rn40 (restOf l)⟩ (num40 (restOf l)) := by
  obtain ⟨hp, _⟩ := word_parts hm
  constructor
  · intro hn
    obtain ⟨n0, n40, nd⟩ := num40_of hn
    rw [rn_yes hn]
    refine ⟨okI_mk ⟨by show (1 : Int) ≤ op; omega, by show (op : Int) ≤ 11; omega⟩ (.inl hO) (.inr tx0) n0 n40 (by show ((0 : Nat) : Int) ≤ 300; omega), ?_⟩
    unfold body
    rw [toL, txL]
    simp only [hO, hX, if_true, Bool.false_eq_true, if_false, List.append_nil]
    rw [← nd, hw]; exact hp
  · intro hn y hy e
    have ho := body_op hy e ⟨by omega, by omega⟩ hw
    obtain ⟨_, _, _, y0, y40, _⟩ := okI_bad hy
    have : restOf l = Lib.decDigits y.to.toNat := by
      rw [e]
      unfold body
      rw [toL, txL, ho, hO, hX]
      simp only [if_true, Bool.false_eq_true, if_false, List.append_nil]
      exact (word_split (word_no32 _).1).2
    rw [this, num40_dec _ (by omega)] at hn
    cases hn
theorem isBody_01 (hO : usesTo op = false) (hX : usesTx op = true) (hm : (32 : UInt8) ∈ l) (h300 : l.length ≤ 300) {t : List UInt8} {ok : Bool} (hu : (ok = true → restOf l = quoteL t) ∧ (ok = false → ∀ q, restOf l ≠ quoteL q)) : IsBody l ⟨op, ofL t, 0⟩ ok := by
  obtain ⟨hp, _⟩ := word_parts hm
  constructor
  · intro hk
    have hq := hu.1 hk
    have hlen : t.length ≤ 300 := by
      have := quote_ge t
      have h3 := congrArg List.length hp
      rw [hq] at h3
      simp only [List.length_append, List.length_cons] at h3
      omega
    refine ⟨okI_mk ⟨by show (1 : Int) ≤ op; omega, by show (op : Int) ≤ 11; omega⟩ (.inr rfl) (.inl hX) (Int.le_refl _) (by show (0 : Int) ≤ 40; omega) (by show ((ofL t).size : Int) ≤ 300; rw [ofL_size]; omega), ?_⟩
    unfold body
    rw [toL, txL]
    simp only [hO, hX, if_true, Bool.false_eq_true, if_false, List.append_nil]
    have : (ofL t).data.toList = t := rfl
    rw [this, ← hq, hw]; exact hp
  · intro hk y hy e
    have ho := body_op hy e ⟨by omega, by omega⟩ hw
    apply hu.2 hk y.tx.data.toList
    rw [e]
    unfold body
    rw [toL, txL, ho, hO, hX]
    simp only [if_true, Bool.false_eq_true, if_false, List.append_nil]
    exact (word_split (word_no32 _).1).2
theorem no_blank2 (hO : usesTo op = true) (hX : usesTx op = true) (hn : (32 : UInt8) ∉ restOf l) (y : I3) (hy : okI y = true) : l ≠ body y := by
  intro e
  have ho := body_op hy e ⟨by omega, by omega⟩ hw
  apply hn
  rw [e]
  unfold body
  rw [toL, txL, ho, hO, hX]
  simp only [if_true, List.append_assoc, List.cons_append]
  rw [(word_split (word_no32 _).1).2]
  simp
theorem isBody_11 (hO : usesTo op = true) (hX : usesTx op = true) (hm : (32 : UInt8) ∈ l) (hm2 : (32 : UInt8) ∈ restOf l) (h300 : l.length ≤ 300) (hn : num40 (wordOf (restOf l)) = true) {t : List UInt8} {ok : Bool} (hu : (ok = true → restOf (restOf l) = quoteL t) ∧ (ok = false → ∀ q, restOf (restOf l) ≠ quoteL q)) : IsBody l ⟨op, ofL t, rn40 (wordOf (restOf l))⟩ ok := by
  obtain ⟨hp, _⟩ := word_parts hm
  obtain ⟨hp2, _⟩ := word_parts hm2
  obtain ⟨n0, n40, nd⟩ := num40_of hn
  rw [rn_yes hn]
  constructor
  · intro hk
    have hq := hu.1 hk
    have hlen : t.length ≤ 300 := by
      have := quote_ge t
      have h3 := congrArg List.length hp
      have h4 := congrArg List.length hp2
      rw [hq] at h4
      simp only [List.length_append, List.length_cons] at h3 h4
      omega
    refine ⟨okI_mk ⟨by show (1 : Int) ≤ op; omega, by show (op : Int) ≤ 11; omega⟩ (.inl hO) (.inl hX) n0 n40 (by show ((ofL t).size : Int) ≤ 300; rw [ofL_size]; omega), ?_⟩
    unfold body
    rw [toL, txL]
    simp only [hO, hX, if_true, List.append_assoc, List.cons_append]
    have : (ofL t).data.toList = t := rfl
    rw [this, ← hq, ← nd, hw, ← hp2]; exact hp
  · intro hk y hy e
    have ho := body_op hy e ⟨by omega, by omega⟩ hw
    apply hu.2 hk y.tx.data.toList
    rw [e]
    unfold body
    rw [toL, txL, ho, hO, hX]
    simp only [if_true, List.append_assoc, List.cons_append]
    rw [(word_split (word_no32 _).1).2, (word_split (decD_no32 _).1).2]
theorem noBody_11 (hO : usesTo op = true) (hX : usesTx op = true) (hn : num40 (wordOf (restOf l)) = false) (y : I3) (hy : okI y = true) : l ≠ body y := by
  intro e
  have ho := body_op hy e ⟨by omega, by omega⟩ hw
  obtain ⟨_, _, _, y0, y40, _⟩ := okI_bad hy
  have : wordOf (restOf l) = Lib.decDigits y.to.toNat := by
    rw [e]
    unfold body
    rw [toL, txL, ho, hO, hX]
    simp only [if_true, List.append_assoc, List.cons_append]
    rw [(word_split (word_no32 _).1).2, (word_split (decD_no32 _).1).1]
  rw [this, num40_dec _ (by omega)] at hn
  cases hn
end
end Go.Proofs.YtpjpckmfehfniaaGreatDoor

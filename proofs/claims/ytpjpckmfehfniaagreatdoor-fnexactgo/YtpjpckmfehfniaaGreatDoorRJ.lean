import Derived.Test.YtpjpckmfehfniaaGreatDoorRN
import Derived.Test.YtpjpckmfehfniaaGreatDoorRE
import Derived.Test.YtpjpckmfehfniaaGreatDoorZC11
namespace Go.Proofs.YtpjpckmfehfniaaGreatDoor
open Go.RowKit

/-- The lines of a form. -/
theorem cst_line (p : List (List UInt8) × List UInt8) (a : List UInt8) (h : (10 : UInt8) ∉ a) : (a ++ [10]).foldl (cst 10) p = (p.1 ++ [p.2 ++ a], []) := by
  induction a generalizing p with
  | nil => simp [cst]
  | cons c a ih =>
    have hc : c ≠ 10 := fun e => h (by rw [e]; simp)
    rw [List.cons_append, List.foldl_cons, ih _ (fun h' => h (List.mem_cons_of_mem _ h'))]
    simp [cst, hc]
theorem cst_lines (js : List I3) (o : List (List UInt8)) : (js.flatMap lineL).foldl (cst 10) (o, []) = (o ++ js.map body, []) := by
  induction js generalizing o with
  | nil => simp
  | cons x r ih =>
    rw [List.flatMap_cons, List.foldl_append, line_body, cst_line _ _ (body_no10 x)]
    simp only [List.nil_append]
    rw [ih]
    simp
theorem cut_lines (js : List I3) : cutS 10 (js.flatMap lineL) = js.map body ++ [[]] := by
  unfold cutS cstate
  rw [cst_lines]
  simp

/-- What a line is read as. -/
def Parsed (l : List UInt8) (x : I3) : Prop := ∀ y, okI y = true → l = body y → x = y
def OpOf (l : List UInt8) (o : Int) : Prop := (o = 0 ∧ ∀ p : Nat, 1 ≤ p → p ≤ 11 → word p ≠ wordOf l) ∨ ((1 ≤ o ∧ o ≤ 11) ∧ word o = wordOf l)
theorem opOf_eq {l : List UInt8} {o : Int} {y : I3} (h : OpOf l o) (hy : okI y = true) (e : l = body y) : o = y.op := by
  rcases h with ⟨_, h⟩ | ⟨h1, h2⟩
  · exact absurd e (noBody_op h y hy)
  · exact (body_op hy e h1 h2).symm
theorem empty_tx {b : ByteArray} (h : b.toList.isEmpty = true) : (⟨#[]⟩ : ByteArray) = b := tx_empty tx0 h
theorem parsed_00 {l : List UInt8} {o : Int} (h : OpOf l o) (hO : usesTo o = false) (hX : usesTx o = false) : Parsed l ⟨o, ⟨#[]⟩, 0⟩ := by
  intro y hy e
  have ho := opOf_eq h hy e
  obtain ⟨_, h2, h3, _⟩ := okI_bad hy
  obtain ⟨op, tx, to⟩ := y
  simp only at ho h2 h3
  subst ho
  simp only [hO, Bool.false_eq_true, false_or] at h2
  simp only [hX, Bool.false_eq_true, false_or] at h3
  rw [h2, empty_tx h3]
theorem parsed_10 {l : List UInt8} {o : Int} (h : OpOf l o) (hO : usesTo o = true) (hX : usesTx o = false) : Parsed l ⟨o, ⟨#[]⟩, n29 (wordOf (restOf l))⟩ := by
  intro y hy e
  have ho := opOf_eq h hy e
  obtain ⟨_, h2, h3, h4, h5, _⟩ := okI_bad hy
  have hr : restOf l = Lib.decDigits y.to.toNat := by
    rw [e]
    unfold body
    rw [toL, txL, ← ho, hO, hX]
    simp only [if_true, Bool.false_eq_true, if_false, List.append_nil]
    exact (word_split (word_no32 _).1).2
  rw [hr, (word_none (decD_no32 _).1).1, n29_dec0 _ (by omega)]
  obtain ⟨op, tx, to⟩ := y
  simp only at ho h3 h4
  subst ho
  simp only [hX, Bool.false_eq_true, false_or] at h3
  rw [empty_tx h3]
  simp only [I3.mk.injEq, true_and]
  omega
theorem parsed_01 {l t : List UInt8} {o : Int} (h : OpOf l o) (hO : usesTo o = false) (hX : usesTx o = true) (ht : ∀ q, restOf l = quoteL q → t = q) : Parsed l ⟨o, ofL t, 0⟩ := by
  intro y hy e
  have ho := opOf_eq h hy e
  obtain ⟨_, h2, h3, h4, h5, _⟩ := okI_bad hy
  have hr : restOf l = quoteL y.tx.data.toList := by
    rw [e]
    unfold body
    rw [toL, txL, ← ho, hO, hX]
    simp only [if_true, Bool.false_eq_true, if_false, List.append_nil]
    exact (word_split (word_no32 _).1).2
  have := ht _ hr
  obtain ⟨op, tx, to⟩ := y
  simp only at ho h2 this
  subst ho
  simp only [hO, Bool.false_eq_true, false_or] at h2
  rw [h2, this, ← ext_ofL rfl]
theorem parsed_11 {l t : List UInt8} {o : Int} (h : OpOf l o) (hO : usesTo o = true) (hX : usesTx o = true) (ht : ∀ q, restOf (restOf l) = quoteL q → t = q) : Parsed l ⟨o, ofL t, n29 (wordOf (restOf l))⟩ := by
  intro y hy e
  have ho := opOf_eq h hy e
  obtain ⟨_, h2, h3, h4, h5, _⟩ := okI_bad hy
  have hr : restOf l = Lib.decDigits y.to.toNat ++ 32 :: quoteL y.tx.data.toList := by
    rw [e]
    unfold body
    rw [toL, txL, ← ho, hO, hX]
    simp only [if_true, List.append_assoc, List.cons_append]
    exact (word_split (word_no32 _).1).2
  obtain ⟨s1, s2⟩ := word_split (r := quoteL y.tx.data.toList) (decD_no32 y.to.toNat).1
  rw [← hr] at s1 s2
  have := ht _ s2
  rw [s1, n29_dec0 _ (by omega), this, ← ext_ofL rfl]
  obtain ⟨op, tx, to⟩ := y
  simp only at ho h4
  subst ho
  simp only [I3.mk.injEq, true_and]
  omega

/-- What has been read so far. -/
def Sofar (S : List UInt8) (is : List I3) (k : Nat) : Prop := ∀ js : List I3, js.all okI = true → js.flatMap lineL = S → is = js.take k
theorem sofar_start (S : List UInt8) : Sofar S [] 0 := fun _ _ _ => rfl
theorem sofar_step {S : List UInt8} {is : List I3} {k : Nat} {x : I3} (h : Sofar S is k) (hk : k + 1 < (cutS 10 S).length) (hp : Parsed ((cutS 10 S).getD k []) x) : Sofar S (is ++ [x]) (k + 1) := by
  intro js hj e
  have h1 := h js hj e
  have hc := cut_lines js
  rw [e] at hc
  rw [hc] at hk hp
  simp only [List.length_append, List.length_map, List.length_cons, List.length_nil] at hk
  have hkl : k < js.length := by omega
  have hg : (js.map body ++ [[]]).getD k [] = body js[k] := by
    simp only [List.getD, List.getElem?_append_left (show k < (js.map body).length by simpa using hkl), List.getElem?_map, List.getElem?_eq_getElem hkl]
    rfl
  rw [hg] at hp
  have hok : okI js[k] = true := (List.all_eq_true.1 hj) _ (List.getElem_mem hkl)
  rw [h1, hp js[k] hok rfl, ← List.take_succ_eq_append_getElem hkl]
theorem sofar_end {S : List UInt8} {is : List I3} {k : Nat} (h : Sofar S is k) (hk : k + 1 = (cutS 10 S).length) (h300 : S.length ≤ 300) : (S ≠ [] ∧ formL is = S → IsRead S is true) ∧ (¬ (S ≠ [] ∧ formL is = S) → IsRead S [] false) := by
  constructor
  · rintro ⟨h1, h2⟩
    unfold formL at h2
    by_cases hc : okT is = true ∧ (is.flatMap lineL).length ≤ 300
    · rw [if_pos hc] at h2
      exact ⟨fun _ => ⟨hc.1, h2, h300⟩, (fun h => by cases h)⟩
    · rw [if_neg hc] at h2
      exact absurd h2.symm h1
  · intro hn
    refine ⟨(fun h => by cases h), fun _ => ⟨rfl, fun js hj e => ?_⟩⟩
    exfalso
    apply hn
    obtain ⟨⟨hl1, hl2⟩, hall⟩ := okT_facts hj
    have h1 := h js hall e
    have hc := cut_lines js
    rw [e] at hc
    rw [hc] at hk
    simp only [List.length_append, List.length_map, List.length_cons, List.length_nil] at hk
    rw [List.take_of_length_le (by omega)] at h1
    subst h1
    refine ⟨fun e0 => ?_, ?_⟩
    · rw [e0] at e
      have := lines_ge is
      rw [e, List.length_nil] at this
      omega
    · unfold formL
      rw [if_pos ⟨hj, by rw [e]; exact h300⟩, e]

/-- A block of one instruction, all else kept. -/
structure Mid (X : Nat) (w1 wq : World) (o : Int) (tx : ByteArray) (to : Int) : Prop where
  but : But X w1 wq
  blk : wq.heap[X]? = some (.cells #[.int .i64 o, .string tx, .int .i64 to] 122 (0, 0))
theorem Mid.below {X : Nat} {w1 wq wp : World} {o to : Int} {tx : ByteArray} (h : Mid X w1 wq o tx to) (hb : Below wq.heap.size wq wp) : Mid X w1 wp o tx to :=
  ⟨h.but.trans (But.of_below hb), (hb.block X (blk_lt h.blk)).trans h.blk⟩
theorem Mid.set0 {X : Nat} {w1 wq : World} {o to : Int} {tx : ByteArray} (h : Mid X w1 wq o tx to) (o' : Int) : Mid X w1 (wq.setCell ⟨X, 0, none⟩ (.int .i64 o')) o' tx to :=
  ⟨h.but.setCell _ _, heap_setCell_same wq X 0 _ _ _ h.blk⟩
theorem Mid.set1 {X : Nat} {w1 wq : World} {o to : Int} {tx : ByteArray} (h : Mid X w1 wq o tx to) (t' : ByteArray) : Mid X w1 (wq.setCell ⟨X, 1, none⟩ (.string t')) o t' to :=
  ⟨h.but.setCell _ _, heap_setCell_same wq X 1 _ _ _ h.blk⟩
theorem Mid.set2 {X : Nat} {w1 wq : World} {o to : Int} {tx : ByteArray} (h : Mid X w1 wq o tx to) (n' : Int) : Mid X w1 (wq.setCell ⟨X, 2, none⟩ (.int .i64 n')) o tx n' :=
  ⟨h.but.setCell _ _, heap_setCell_same wq X 2 _ _ _ h.blk⟩
theorem Mid.cells {X : Nat} {w1 wq : World} {o to : Int} {tx : ByteArray} (h : Mid X w1 wq o tx to) :
    (wq.cell? ⟨X, 0, none⟩ = some (.int .i64 o) ∧ wq.cell? ⟨X, 1, none⟩ = some (.string tx) ∧ wq.cell? ⟨X, 2, none⟩ = some (.int .i64 to)) ∧ wq.frozen? ⟨X, 0, none⟩ = false ∧ wq.frozen? ⟨X, 1, none⟩ = false ∧ wq.frozen? ⟨X, 2, none⟩ = false := by
  refine ⟨⟨?_, ?_, ?_⟩, Lib.frozen_of_heap h.blk 0, Lib.frozen_of_heap h.blk 1, Lib.frozen_of_heap h.blk 2⟩
  · rw [Lib.cell_of_heap h.blk]; rfl
  · rw [Lib.cell_of_heap h.blk]; rfl
  · rw [Lib.cell_of_heap h.blk]; rfl
theorem owns_but {b : Nat} {w w' : World} {base : Nat} {e : TypeId} {size : Nat} {v : Value} {n : Nat} {xs : List Value} (h : w.ownsRow base e size v n xs) (hb : But b w w') (hne : v.ownBlock ≠ some b) : w'.ownsRow base e size v n xs := by
  refine ⟨h.1, ?_⟩
  rcases h.2 with h2 | ⟨g, cap, cur, hv, hg, hh, r⟩
  · exact .inl h2
  · refine .inr ⟨g, cap, cur, hv, hg, ?_, r⟩
    rw [hb.block g (blk_lt hh) (fun e => hne (by rw [hv, e]; rfl))]
    exact hh

def OpTo (l : List UInt8) (q : Nat) (o : Int) : Prop := (o = 0 ∧ ∀ p : Nat, 1 ≤ p → p < q → word p ≠ wordOf l) ∨ ((1 ≤ o ∧ o < q) ∧ word o = wordOf l)
theorem opTo_yes {l : List UInt8} {q : Nat} {o : Int} (_h : OpTo l q o) (hq : 1 ≤ q) (hw : word q = wordOf l) : OpTo l (q + 1) q := .inr ⟨by omega, hw⟩
theorem opTo_no {l : List UInt8} {q : Nat} {o : Int} (h : OpTo l q o) (hw : word q ≠ wordOf l) : OpTo l (q + 1) o := by
  rcases h with ⟨h1, h2⟩ | ⟨h1, h2⟩
  · refine .inl ⟨h1, fun p hp hq => ?_⟩
    by_cases e : p = q
    · subst e; exact hw
    · exact h2 p hp (by omega)
  · exact .inr ⟨by omega, h2⟩
theorem opTo_end {l : List UInt8} {o : Int} (h : OpTo l 12 o) : OpOf l o := by
  rcases h with ⟨h1, h2⟩ | ⟨h1, h2⟩
  · exact .inl ⟨h1, fun p hp hq => h2 p hp (by omega)⟩
  · exact .inr ⟨by omega, h2⟩
end Go.Proofs.YtpjpckmfehfniaaGreatDoor

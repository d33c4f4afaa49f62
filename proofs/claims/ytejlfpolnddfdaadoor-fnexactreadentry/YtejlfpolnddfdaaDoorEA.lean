import Derived.Test.YtejlfpolnddfdaaDoorR2
import Derived.Test.YtejlfpolnddfdaaDoorRQ
namespace Go.Proofs.YtejlfpolnddfdaaDoor
open Go.RowKit
/-- An entry. -/
structure N10 where
  kd : Int
  ep : Int
  fn : ByteArray
  ft : ByteArray
  km : M3
  ls : List L4
  cd : Int
  tx : ByteArray
def n10z : N10 := ⟨0, 0, ⟨#[]⟩, ⟨#[]⟩, m3z, [], 0, ⟨#[]⟩⟩
def N10.le (x : N10) (B : Nat) : Prop := x.fn.size ≤ B ∧ x.ft.size ≤ B ∧ x.km.le B ∧ (x.ls.length ≤ B ∧ ∀ i, (x.ls.getD i l4z).le B) ∧ x.tx.size ≤ B
def N10.c (x : N10) (ai : Option Addr) (ci : Nat) : List Value := [.int .i64 x.kd, .int .i64 x.ep, .string x.fn, .string x.ft, .string x.km.nm, .string x.km.tl, .string x.km.ar, .slice ai x.ls.length ci, .int .i64 x.cd, .string x.tx]
theorem N10.c_one (x : N10) (ai : Option Addr) (ci : Nat) : ∀ v ∈ x.c ai ci, v.oneCell' = true := by simp [N10.c, Value.oneCell']
def eEpoch (n : Int) : N10 := ⟨1, n, ⟨#[]⟩, ⟨#[]⟩, m3z, [], 0, ⟨#[]⟩⟩
def eFile (a b : ByteArray) : N10 := ⟨2, 0, a, b, m3z, [], 0, ⟨#[]⟩⟩
def eDrop (a : ByteArray) : N10 := ⟨3, 0, a, ⟨#[]⟩, m3z, [], 0, ⟨#[]⟩⟩
def eRan (m : M3) (ls : List L4) (c : Int) (t : ByteArray) : N10 := ⟨4, 0, ⟨#[]⟩, ⟨#[]⟩, m, ls, c, t⟩
def eClear : N10 := ⟨5, 0, ⟨#[]⟩, ⟨#[]⟩, m3z, [], 0, ⟨#[]⟩⟩
/-- An entry that has a form. -/
def EntOk (x : N10) : Prop := (∃ n, (1 ≤ n ∧ n ≤ 200) ∧ x = eEpoch n) ∨ (∃ a b, (nameOk a.data.toList = true ∧ b.size ≤ 300) ∧ x = eFile a b) ∨ (∃ a, nameOk a.data.toList = true ∧ x = eDrop a) ∨ (∃ m ls c t, (okM m = true ∧ LksOk ls ∧ vr c t.data.toList = true) ∧ x = eRan m ls c t) ∨ x = eClear
/-- Lines, each with its end. -/
def joinN (ls : List (List UInt8)) : List UInt8 := ls.flatMap (· ++ [10])
theorem looksL_join (ls : List L4) : looksL ls = joinN (ls.map lookB) := by
  unfold looksL joinN
  induction ls with
  | nil => rfl
  | cons x r ih => simp only [List.flatMap_cons, List.map_cons, ih, lookL_B]
theorem cut_join (ls : List (List UInt8)) (h : ∀ l ∈ ls, (10 : UInt8) ∉ l) : cutS 10 (joinN ls) = ls ++ [[]] := by
  have : ∀ (ls P : List (List UInt8)), (∀ l ∈ ls, (10 : UInt8) ∉ l) → (joinN ls).foldl (cst 10) (P, []) = (P ++ ls, []) := by
    intro ls
    induction ls with
    | nil => intro P _; simp [joinN]
    | cons a r ih =>
      intro P h
      have e : joinN (a :: r) = (a ++ [10]) ++ joinN r := rfl
      rw [e, List.foldl_append, cst_line _ _ (h a (by simp)), ih _ (fun l hl => h l (by simp [hl]))]
      simp
  unfold cutS cstate
  rw [this ls [] h]
  rfl
theorem join_cut (l : List UInt8) : joinN (cutS 10 l) = l ++ [10] := by
  have : ∀ n, ∀ l : List UInt8, l.length ≤ n → joinN (cutS 10 l) = l ++ [10] := by
    intro n
    induction n with
    | zero =>
      intro l hl
      obtain rfl : l = [] := List.length_eq_zero_iff.1 (by omega)
      rfl
    | succ n ih =>
      intro l hl
      by_cases hm : (10 : UInt8) ∈ l
      · obtain ⟨p, r, rfl, hp⟩ := List.eq_append_cons_of_mem hm
        rw [cut_hit hp]
        have := ih r (by simp at hl; omega)
        have e : joinN (p :: cutS 10 r) = (p ++ [10]) ++ joinN (cutS 10 r) := rfl
        rw [e, this]; simp
      · rw [cut_no hm]
        simp [joinN]
  exact this l.length l (Nat.le_refl _)
theorem cut_snoc (l : List UInt8) : cutS 10 (l ++ [10]) = cutS 10 l ++ [[]] := by
  unfold cutS
  rw [cstate_snoc]
  simp [cst]
def wEpoch : List UInt8 := [101, 112, 111, 99, 104]
def wFile : List UInt8 := [102, 105, 108, 101]
def wDrop : List UInt8 := [100, 114, 111, 112]
def wRan : List UInt8 := [114, 97, 110]
def wClear : List UInt8 := [99, 108, 101, 97, 114]
def wGave : List UInt8 := [103, 97, 118, 101]
/-- The lines of an entry. -/
def linesE (x : N10) : List (List UInt8) := if x.kd = 1 then [wEpoch ++ 32 :: dec x.ep] else if x.kd = 2 then [wFile ++ 32 :: (x.fn.data.toList ++ 32 :: quoteL x.ft.data.toList)] else if x.kd = 3 then [wDrop ++ 32 :: x.fn.data.toList] else if x.kd = 4 then (wRan ++ 32 :: bodyL x.km) :: (x.ls.map lookB ++ [wGave ++ 32 :: resL x.cd x.tx]) else [wClear]
def entL (x : N10) : List UInt8 := joinN (linesE x)
theorem lines_no {x : N10} (h : EntOk x) : ∀ l ∈ linesE x, (10 : UInt8) ∉ l := by
  rcases h with ⟨n, ⟨h1, h2⟩, rfl⟩ | ⟨a, b, ⟨h1, h2⟩, rfl⟩ | ⟨a, h1, rfl⟩ | ⟨m, ls, c, t, ⟨h1, h2, h3⟩, rfl⟩ | rfl
  · intro l hl
    obtain rfl : l = wEpoch ++ 32 :: dec n := by simpa [linesE, eEpoch] using hl
    simp only [List.mem_append, List.mem_cons, not_or]
    exact ⟨by decide, by decide, (dec_no (by omega)).2⟩
  · intro l hl
    obtain rfl : l = wFile ++ 32 :: (a.data.toList ++ 32 :: quoteL b.data.toList) := by simpa [linesE, eFile] using hl
    simp only [List.mem_append, List.mem_cons, not_or]
    exact ⟨by decide, by decide, (name_no h1).2, by decide, quote_no10 _⟩
  · intro l hl
    obtain rfl : l = wDrop ++ 32 :: a.data.toList := by simpa [linesE, eDrop] using hl
    simp only [List.mem_append, List.mem_cons, not_or]
    exact ⟨by decide, by decide, (name_no h1).2⟩
  · intro l hl
    obtain ⟨n1, n2, _⟩ := okM_facts h1
    have hl' : l = wRan ++ 32 :: bodyL m ∨ l ∈ ls.map lookB ∨ l = wGave ++ 32 :: resL c t := by simpa [linesE, eRan] using hl
    rcases hl' with rfl | hl | rfl
    · rw [body_form]
      simp only [List.mem_append, List.mem_cons, not_or]
      exact ⟨by decide, by decide, (name_no n1).2, by decide, (name_no n2).2, by decide, quote_no10 _⟩
    · obtain ⟨y, hy, rfl⟩ := List.mem_map.1 hl
      obtain ⟨i, hi, e⟩ := List.getElem_of_mem hy
      have := h2.2 i hi
      rw [List.getD, List.getElem?_eq_getElem hi, e] at this
      exact look_no10 this
    · rw [resL_form]
      simp only [List.mem_append, List.mem_cons, not_or]
      exact ⟨by decide, by decide, (dec_no (vr_code h3).1).2, by decide, quote_no10 _⟩
  · intro l hl
    obtain rfl : l = wClear := by simpa [linesE, eClear] using hl
    decide
theorem ent_len {x : N10} (h : EntOk x) : (entL x).length ≤ 16000 ∧ 1 ≤ (entL x).length := by
  rcases h with ⟨n, ⟨h1, h2⟩, rfl⟩ | ⟨a, b, ⟨h1, h2⟩, rfl⟩ | ⟨a, h1, rfl⟩ | ⟨m, ls, c, t, ⟨h1, h2, h3⟩, rfl⟩ | rfl
  · have a := dec_small n (by omega) (by omega)
    have e : entL (eEpoch n) = wEpoch ++ 32 :: dec n ++ [10] := by simp [entL, linesE, eEpoch, joinN]
    rw [e]
    simp [wEpoch]; omega
  · have q := quote_len2 b.data.toList
    have k := name_len h1
    have z : b.data.toList.length = b.size := by simp
    have e : entL (eFile a b) = wFile ++ 32 :: (a.data.toList ++ 32 :: quoteL b.data.toList) ++ [10] := by simp [entL, linesE, eFile, joinN]
    rw [e]
    simp only [List.length_append, List.length_cons, List.length_nil, wFile]; omega
  · have k := name_len h1
    have e : entL (eDrop a) = wDrop ++ 32 :: a.data.toList ++ [10] := by simp [entL, linesE, eDrop, joinN]
    rw [e]
    simp only [List.length_append, List.length_cons, List.length_nil, wDrop]; omega
  · have a := okM_len h1
    have q := quote_len2 m.ar.data.toList
    have l := looks_small h2
    have r := res_len (vr_code h3).1 (vr_code h3).2 (vr_len h3)
    have e : entL (eRan m ls c t) = wRan ++ 32 :: bodyL m ++ [10] ++ looksL ls ++ (wGave ++ 32 :: resL c t ++ [10]) := by
      rw [looksL_join]; simp [entL, linesE, eRan, joinN]
    rw [e, body_form]
    simp only [List.length_append, List.length_cons, List.length_nil, wRan, wGave]; omega
  · decide
/-- What lines are read as: an entry. -/
def RdE (L : List (List UInt8)) (x : N10) (ok : Bool) : Prop := (∀ y, EntOk y → L = linesE y → ok = true ∧ x = y) ∧ (ok = true → EntOk x → L = linesE x)
theorem rdE_no {L : List (List UInt8)} (h : ∀ y, EntOk y → L ≠ linesE y) (x : N10) : RdE L x false := ⟨fun y hy e => absurd e (h y hy), fun h => by cases h⟩
/-- The word of each kind. -/
def wrdE (x : N10) : List UInt8 := if x.kd = 1 then wEpoch else if x.kd = 2 then wFile else if x.kd = 3 then wDrop else if x.kd = 4 then wRan else wClear
theorem first_word {y : N10} (hy : EntOk y) {f : List UInt8} {b : List (List UInt8)} (e : f :: b = linesE y) : wordOf f = wrdE y ∧ (y.kd ≠ 4 → b = []) := by
  rcases hy with ⟨n, _, rfl⟩ | ⟨a, c, _, rfl⟩ | ⟨a, _, rfl⟩ | ⟨m, ls, c, t, _, rfl⟩ | rfl
  · obtain ⟨rfl, rfl⟩ := List.cons.inj e
    exact ⟨(word_split (by decide)).1, fun _ => rfl⟩
  · obtain ⟨rfl, rfl⟩ := List.cons.inj e
    exact ⟨(word_split (by decide)).1, fun _ => rfl⟩
  · obtain ⟨rfl, rfl⟩ := List.cons.inj e
    exact ⟨(word_split (by decide)).1, fun _ => rfl⟩
  · obtain ⟨rfl, rfl⟩ := List.cons.inj e
    exact ⟨(word_split (by decide)).1, fun h => absurd rfl h⟩
  · obtain ⟨rfl, rfl⟩ := List.cons.inj e
    exact ⟨(word_none (by decide)).1, fun _ => rfl⟩
theorem kd_cases {y : N10} (hy : EntOk y) : y.kd = 1 ∨ y.kd = 2 ∨ y.kd = 3 ∨ y.kd = 4 ∨ y.kd = 5 := by
  rcases hy with ⟨n, _, rfl⟩ | ⟨a, c, _, rfl⟩ | ⟨a, _, rfl⟩ | ⟨m, ls, c, t, _, rfl⟩ | rfl
  · exact .inl rfl
  · exact .inr (.inl rfl)
  · exact .inr (.inr (.inl rfl))
  · exact .inr (.inr (.inr (.inl rfl)))
  · exact .inr (.inr (.inr (.inr rfl)))
theorem of_word {y : N10} (hy : EntOk y) {w : List UInt8} {k : Int} (hk : k = 1 ∨ k = 2 ∨ k = 3 ∨ k = 4 ∨ k = 5) (h : w = wrdE y) (hw : w = wrdE ⟨k, 0, ⟨#[]⟩, ⟨#[]⟩, m3z, [], 0, ⟨#[]⟩⟩) : y.kd = k := by
  have hj := kd_cases hy
  have e : wrdE y = wrdE ⟨k, 0, ⟨#[]⟩, ⟨#[]⟩, m3z, [], 0, ⟨#[]⟩⟩ := by rw [← h, hw]
  clear hy h hw
  unfold wrdE at e
  rcases hk with rfl | rfl | rfl | rfl | rfl <;> rcases hj with h | h | h | h | h <;> rw [h] at e <;> first | exact h | (exfalso; revert e; decide)
theorem is_epoch {y : N10} (hy : EntOk y) (hk : y.kd = 1) : ∃ n, (1 ≤ n ∧ n ≤ 200) ∧ y = eEpoch n := by
  rcases hy with h | ⟨a, c, _, rfl⟩ | ⟨a, _, rfl⟩ | ⟨m, ls, c, t, _, rfl⟩ | rfl
  · exact h
  · cases hk
  · cases hk
  · cases hk
  · cases hk
theorem is_file {y : N10} (hy : EntOk y) (hk : y.kd = 2) : ∃ a b, (nameOk a.data.toList = true ∧ b.size ≤ 300) ∧ y = eFile a b := by
  rcases hy with ⟨n, _, rfl⟩ | h | ⟨a, _, rfl⟩ | ⟨m, ls, c, t, _, rfl⟩ | rfl
  · cases hk
  · exact h
  · cases hk
  · cases hk
  · cases hk
theorem is_drop {y : N10} (hy : EntOk y) (hk : y.kd = 3) : ∃ a, nameOk a.data.toList = true ∧ y = eDrop a := by
  rcases hy with ⟨n, _, rfl⟩ | ⟨a, c, _, rfl⟩ | h | ⟨m, ls, c, t, _, rfl⟩ | rfl
  · cases hk
  · cases hk
  · exact h
  · cases hk
  · cases hk
theorem is_ran {y : N10} (hy : EntOk y) (hk : y.kd = 4) : ∃ m ls c t, (okM m = true ∧ LksOk ls ∧ vr c t.data.toList = true) ∧ y = eRan m ls c t := by
  rcases hy with ⟨n, _, rfl⟩ | ⟨a, c, _, rfl⟩ | ⟨a, _, rfl⟩ | h | rfl
  · cases hk
  · cases hk
  · cases hk
  · exact h
  · cases hk
theorem is_clear {y : N10} (hy : EntOk y) (hk : y.kd = 5) : y = eClear := by
  rcases hy with ⟨n, _, rfl⟩ | ⟨a, c, _, rfl⟩ | ⟨a, _, rfl⟩ | ⟨m, ls, c, t, _, rfl⟩ | h
  · cases hk
  · cases hk
  · cases hk
  · cases hk
  · exact h
theorem rdE_many {f : List UInt8} {b : List (List UInt8)} (hw : wordOf f ≠ wRan) (hb : b ≠ []) (x : N10) : RdE (f :: b) x false := by
  refine rdE_no (fun y hy e => ?_) x
  obtain ⟨h1, h2⟩ := first_word hy e
  by_cases hk : y.kd = 4
  · apply hw; rw [h1]; unfold wrdE; rw [if_neg (by omega), if_neg (by omega), if_neg (by omega), if_pos hk]
  · exact hb (h2 hk)
theorem rdE_word {f : List UInt8} {b : List (List UInt8)} (h1 : wordOf f ≠ wRan) (h2 : wordOf f ≠ wEpoch) (h3 : wordOf f ≠ wFile) (h4 : wordOf f ≠ wDrop) (h5 : wordOf f ≠ wClear) (x : N10) : RdE (f :: b) x false := by
  refine rdE_no (fun y hy e => ?_) x
  obtain ⟨hw, _⟩ := first_word hy e
  unfold wrdE at hw
  split at hw
  · exact h2 hw
  · split at hw
    · exact h3 hw
    · split at hw
      · exact h4 hw
      · split at hw
        · exact h1 hw
        · exact h5 hw
theorem rdE_epoch {f : List UInt8} (hw : wordOf f = wEpoch) : RdE [f] (eEpoch (rnM 200 (restOf f))) (numM 200 (restOf f)) := by
  constructor
  · intro y hy e
    obtain ⟨h1, _⟩ := first_word hy e
    obtain ⟨n, hn, rfl⟩ := is_epoch hy (of_word hy (.inl rfl) h1 (by rw [hw]; rfl))
    have e' : f = wEpoch ++ 32 :: dec n := (List.cons.inj e).1
    have hr : restOf f = dec n := by rw [e']; exact (word_split (by decide)).2
    obtain ⟨a, b⟩ := numM_dec (M := 200) (n := n) (by omega) (by omega)
    rw [hr, a, b]; exact ⟨rfl, rfl⟩
  · intro h _
    have d := (numM_of h).1
    have hne : restOf f ≠ [] := by rw [d]; exact dec_ne _
    show [f] = [wEpoch ++ 32 :: dec (rnM 200 (restOf f))]
    rw [← d, ← hw, ← word_both hne]
theorem rdE_file {f t : List UInt8} {ok : Bool} (hw : wordOf f = wFile) (hu : Unq (restOf (restOf f)) t ok) : RdE [f] (eFile (ofL (wordOf (restOf f))) (ofL t)) ok := by
  constructor
  · intro y hy e
    obtain ⟨h1, _⟩ := first_word hy e
    obtain ⟨a, b, hn, rfl⟩ := is_file hy (of_word hy (.inr (.inl rfl)) h1 (by rw [hw]; rfl))
    have e' : f = wFile ++ 32 :: (a.data.toList ++ 32 :: quoteL b.data.toList) := (List.cons.inj e).1
    have hr : restOf f = a.data.toList ++ 32 :: quoteL b.data.toList := by rw [e']; exact (word_split (by decide)).2
    obtain ⟨w1, w2⟩ := word_split (r := quoteL b.data.toList) (name_no hn.1).1
    rw [← hr] at w1 w2
    cases ok
    · exact absurd w2 (hu.2 rfl _)
    · have : t = b.data.toList := quoteL_inj ((hu.1 rfl).symm.trans w2)
      rw [w1, this]; exact ⟨rfl, rfl⟩
  · intro h _
    have q := hu.1 h
    have h2 : restOf (restOf f) ≠ [] := by rw [q]; exact quote_ne _
    have h1 : restOf f ≠ [] := fun h => by rw [h] at h2; exact h2 rfl
    show [f] = [wFile ++ 32 :: (wordOf (restOf f) ++ 32 :: quoteL t)]
    rw [← q, ← word_both h2, ← hw, ← word_both h1]
theorem rdE_drop {f : List UInt8} (hw : wordOf f = wDrop) : RdE [f] (eDrop (ofL (restOf f))) true := by
  constructor
  · intro y hy e
    obtain ⟨h1, _⟩ := first_word hy e
    obtain ⟨a, hn, rfl⟩ := is_drop hy (of_word hy (.inr (.inr (.inl rfl))) h1 (by rw [hw]; rfl))
    have e' : f = wDrop ++ 32 :: a.data.toList := (List.cons.inj e).1
    have hr : restOf f = a.data.toList := by rw [e']; exact (word_split (by decide)).2
    rw [hr]; exact ⟨rfl, rfl⟩
  · intro _ hx
    obtain ⟨a, hn, e⟩ := is_drop hx rfl
    have ea : ofL (restOf f) = a := congrArg N10.fn e
    have hne : restOf f ≠ [] := fun h => by
      rw [← ea, ofL_list, h] at hn
      cases hn
    show [f] = [wDrop ++ 32 :: restOf f]
    rw [← hw, ← word_both hne]
theorem rdE_clear {f : List UInt8} (hw : wordOf f = wClear) : RdE [f] eClear (decide ((32 : UInt8) ∉ f)) := by
  constructor
  · intro y hy e
    obtain ⟨h1, _⟩ := first_word hy e
    have := is_clear hy (of_word hy (.inr (.inr (.inr (.inr rfl)))) h1 (by rw [hw]; rfl))
    subst this
    have e' : f = wClear := (List.cons.inj e).1
    subst e'
    exact ⟨by decide, rfl⟩
  · intro h _
    rw [decide_eq_true_eq] at h
    have := (word_none h).1
    show [f] = [wClear]
    rw [← this, hw]
theorem ran_of {f : List UInt8} {b : List (List UInt8)} {y : N10} (hy : EntOk y) (hw : wordOf f = wRan) (e : f :: b = linesE y) : ∃ m ls c t, (okM m = true ∧ LksOk ls ∧ vr c t.data.toList = true) ∧ y = eRan m ls c t ∧ restOf f = bodyL m ∧ b = ls.map lookB ++ [wGave ++ 32 :: resL c t] := by
  obtain ⟨h1, _⟩ := first_word hy e
  obtain ⟨m, ls, c, t, hn, rfl⟩ := is_ran hy (of_word hy (.inr (.inr (.inr (.inl rfl)))) h1 (by rw [hw]; rfl))
  obtain ⟨e1, e2⟩ := List.cons.inj e
  refine ⟨m, ls, c, t, hn, rfl, ?_, e2⟩
  rw [e1]; exact (word_split (by decide)).2
theorem rdE_ran0 {f : List UInt8} (hw : wordOf f = wRan) (x : N10) : RdE [f] x false := by
  refine rdE_no (fun y hy e => ?_) x
  obtain ⟨m, ls, c, t, _, _, _, e2⟩ := ran_of hy hw e
  have := congrArg List.length e2
  simp at this
theorem rdE_ran {f g : List UInt8} {b : List (List UInt8)} {m : M3} {ls : List L4} {c : Int} {t : ByteArray} {o1 o2 o3 : Bool} (hw : wordOf f = wRan) (hm : IsBodyM (restOf f) m o1) (hl : RdLooks b ls o2) (hr : RdRes (restOf g) c t o3) :
    (o1 = true → o2 = true → wordOf g = wGave → o3 = true → RdE (f :: (b ++ [g])) (eRan m ls c t) true) ∧ (¬ (o1 = true ∧ o2 = true ∧ wordOf g = wGave ∧ o3 = true) → ∀ x, RdE (f :: (b ++ [g])) x false) := by
  have comp : ∀ y, EntOk y → f :: (b ++ [g]) = linesE y → (o1 = true ∧ o2 = true ∧ wordOf g = wGave ∧ o3 = true) ∧ eRan m ls c t = y := by
    intro y hy e
    obtain ⟨m', ls', c', t', ⟨k1, k2, k3⟩, rfl, e1, e2⟩ := ran_of hy hw e
    obtain ⟨e3, e4⟩ := List.append_inj' e2 rfl
    have e4 := (List.cons.inj e4).1
    obtain ⟨w1, w2⟩ := word_split (r := resL c' t') (show (32 : UInt8) ∉ wGave by decide)
    rw [← e4] at w1 w2
    obtain ⟨a1, a2⟩ := hl.1 ls' k2.2 e3
    obtain ⟨b1, b2, b3⟩ := hr.1 c' t' (vr_code k3).1 (vr_code k3).2 w2
    have ho : o1 = true := by
      cases o1
      · exact absurd e1 (hm.2 rfl m' k1)
      · rfl
    have hme : m = m' := bodyL_inj (hm.1 ho).1 k1 (by rw [← (hm.1 ho).2, e1])
    exact ⟨⟨ho, a1, w1, b1⟩, by rw [hme, a2, b2, b3]⟩
  constructor
  · intro h1 h2 h3 h4
    refine ⟨fun y hy e => ⟨rfl, (comp y hy e).2⟩, fun _ hx => ?_⟩
    obtain ⟨m', ls', c', t', ⟨k1, k2, k3⟩, e⟩ := is_ran hx rfl
    have el : ls = ls' := congrArg N10.ls e
    have hq := hr.2 h4
    have hne : restOf g ≠ [] := by rw [hq]; exact resL_ne _ _
    have hb := (hm.1 h1).2
    have hne2 : restOf f ≠ [] := by rw [hb]; exact body_ne m
    show f :: (b ++ [g]) = (wRan ++ 32 :: bodyL m) :: (ls.map lookB ++ [wGave ++ 32 :: resL c t])
    rw [← hb, ← hq, ← hw, ← h3, ← word_both hne, ← word_both hne2, ← hl.2 h2 (by rw [el]; exact k2.2)]
  · intro hn x
    exact rdE_no (fun y hy e => hn (comp y hy e).1) x
/-- What a text is read as: an entry. -/
def RE (l : List UInt8) (x : N10) (ok : Bool) : Prop := (ok = true → EntOk x ∧ entL x = l) ∧ (ok = false → ∀ y, EntOk y → entL y ≠ l)
theorem re_lines {l : List UInt8} {y : N10} (hy : EntOk y) (e : entL y = l) : endN l = true ∧ cutS 10 l.dropLast = linesE y := by
  have hc := cut_join (linesE y) (lines_no hy)
  have hne : linesE y ≠ [] := by unfold linesE; (repeat' split) <;> simp
  have hend : endN l = true := by
    rw [← e]
    unfold entL
    rcases List.eq_nil_or_concat (linesE y) with h | ⟨r, c, h⟩
    · exact absurd h hne
    · rw [h, List.concat_eq_append]
      have : joinN (r ++ [c]) = (joinN r ++ c) ++ [10] := by simp [joinN]
      rw [this]; exact endN_of _
  refine ⟨hend, ?_⟩
  have h2 := endN_yes hend
  have : cutS 10 (l.dropLast ++ [10]) = linesE y ++ [[]] := by rw [← h2, ← e]; exact hc
  rw [cut_snoc] at this
  exact List.append_cancel_right this
theorem re_end {l : List UInt8} (h : endN l = false) (x : N10) : RE l x false := by
  refine ⟨(fun h => by cases h), fun _ y hy e => ?_⟩
  rw [(re_lines hy e).1] at h; cases h
theorem re_long {l : List UInt8} (h : 16000 < l.length) (x : N10) : RE l x false := by
  refine ⟨(fun h => by cases h), fun _ y hy e => ?_⟩
  have := ent_len hy
  rw [e] at this; omega
theorem re_read {l : List UInt8} {x : N10} {ok : Bool} (h : endN l = true) (hr : RdE (cutS 10 l.dropLast) x ok) : (ok = true → EntOk x → RE l x true) ∧ (¬ (ok = true ∧ EntOk x) → ∀ z, RE l z false) := by
  constructor
  · intro h1 h2
    refine ⟨fun _ => ⟨h2, ?_⟩, (fun h => by cases h)⟩
    unfold entL
    rw [← hr.2 h1 h2, join_cut]
    exact (endN_yes h).symm
  · intro hn z
    refine ⟨(fun h => by cases h), fun _ y hy e => ?_⟩
    obtain ⟨a, b⟩ := hr.1 y hy (re_lines hy e).2
    exact hn ⟨a, by rw [b]; exact hy⟩
end Go.Proofs.YtejlfpolnddfdaaDoor

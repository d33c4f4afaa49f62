import Derived.Test.YtdcgjdgpiogdaaaGreatDoorG27
import Derived.Test.YtdcgjdgpiogdaaaGreatDoorR2
namespace Go.Proofs.YtdcgjdgpiogdaaaGreatDoor
open Go.RowKit
theorem cut_cons {b : UInt8} {l a : List UInt8} {rest : List (List UInt8)} (h : cutS b l = a :: rest) : (rest = [] ∧ l = a ∧ b ∉ l) ∨ (∃ r, l = a ++ b :: r ∧ b ∉ a ∧ cutS b r = rest) := by
  by_cases hm : b ∈ l
  · obtain ⟨p, r, rfl, hp⟩ := List.eq_append_cons_of_mem hm
    rw [cut_hit hp] at h
    obtain ⟨h1, h2⟩ := List.cons.inj h
    subst h1
    exact .inr ⟨r, rfl, hp, h2⟩
  · rw [cut_no hm] at h
    obtain ⟨h1, h2⟩ := List.cons.inj h
    exact .inl ⟨h2.symm, h1, hm⟩
theorem cut_more {b : UInt8} {l a c : List UInt8} {rest : List (List UInt8)} (h : cutS b l = a :: c :: rest) : ∃ r, l = a ++ b :: r ∧ b ∉ a ∧ cutS b r = c :: rest := by
  rcases cut_cons h with ⟨h1, _⟩ | h
  · cases h1
  · exact h
theorem cut_last {b : UInt8} {l a : List UInt8} (h : cutS b l = [a]) : l = a ∧ b ∉ a := by
  rcases cut_cons h with ⟨_, h1, h2⟩ | ⟨r, _, _, h3⟩
  · subst h1; exact ⟨rfl, h2⟩
  · have := (cut_len b r).1
    rw [h3] at this; simp at this
theorem join_cut (l : List UInt8) : joinN (cutS 10 l) = l ++ [10] := by
  have : ∀ n, ∀ l : List UInt8, l.length ≤ n → joinN (cutS 10 l) = l ++ [10] := by
    intro n
    induction n with
    | zero =>
      intro l hl
      obtain rfl : l = [] := List.length_eq_zero_iff.1 (by omega)
      rfl
    | succ n ih =>
      intro l hl
      by_cases hm : (10 : UInt8) ∈ l
      · obtain ⟨p, r, rfl, hp⟩ := List.eq_append_cons_of_mem hm
        rw [cut_hit hp]
        have := ih r (by simp at hl; omega)
        have e : joinN (p :: cutS 10 r) = (p ++ [10]) ++ joinN (cutS 10 r) := rfl
        rw [e, this]; simp
      · rw [cut_no hm]
        simp [joinN]
  exact this l.length l (Nat.le_refl _)
theorem cut_snoc (l : List UInt8) : cutS 10 (l ++ [10]) = cutS 10 l ++ [[]] := by
  unfold cutS
  rw [cstate_snoc]
  simp [cst]
/-- A message that says that a worker is there. -/
def hereG (n : Int) : G16 := ⟨3, 0, n, 0, 0, m3z, [], 0, t6z⟩
theorem here_is {y : G16} (h : MsgOk y) (hk : y.kd = 3) : HereOk y ∧ y = hereG y.fr := by
  rcases h with ⟨k, _⟩ | ⟨k, _⟩ | ⟨_, h⟩
  · omega
  · omega
  · refine ⟨h, ?_⟩
    obtain ⟨⟨a1, a2, a3, a4, a5, a6, a7, a8, a9, b1, b2, b3, b4, b5⟩, _⟩ := h
    obtain ⟨kd, to, fr, ep, ed, ⟨nm, tl, ar⟩, ls, ct, ⟨o, cd, tx, hs, tn, st⟩⟩ := y
    simp only at *
    have : ls = [] := List.length_eq_zero_iff.1 a7
    subst hk a1 a2 a3 a4 a5 a6 this a8 a9 b1 b2 b3 b4 b5
    rfl
theorem here_fst {y : G16} (hk : y.kd = 3) : fstP y = dec y.fr ∧ behP y = [] := by
  unfold fstP behP
  rw [if_neg (by omega), if_neg (by omega), if_neg (by omega), if_neg (by omega)]
  exact ⟨rfl, rfl⟩
theorem rdHere_yes {f : List UInt8} (h : numM 1000 f = true) : RdMsg 3 f [] (hereG (rnM 1000 f)) true := by
  obtain ⟨d1, d2, d3⟩ := numM_of h
  constructor
  · intro y hy hk e _
    obtain ⟨h1, h2⟩ := here_is hy hk
    rw [(here_fst hk).1] at e
    have : rnM 1000 f = y.fr := by rw [e]; exact (numM_dec (by have := h1.2; omega) (by have := h1.2; omega)).2
    rw [this]; exact ⟨rfl, h2.symm⟩
  · intro _ _
    exact ⟨rfl, d1, rfl⟩
theorem rdHere_no {f : List UInt8} {b : List (List UInt8)} (h : numM 1000 f = false ∨ 0 < b.length) (x : G16) : RdMsg 3 f b x false := by
  refine ⟨fun y hy hk e eb => ?_, fun h => by cases h⟩
  obtain ⟨h1, h2⟩ := here_is hy hk
  rw [(here_fst hk).1] at e
  rw [(here_fst hk).2] at eb
  rcases h with h | h
  · rw [e, (numM_dec (by have := h1.2; omega) (by have := h1.2; omega)).1] at h; cases h
  · rw [eb] at h; cases h
/-- A message that tells a turn. -/
def turnG (a b c : Int) (n : ByteArray) (d e : Int) (t : T6) : G16 := ⟨2, 0, a, b, c, ⟨n, ⟨#[]⟩, ⟨#[]⟩⟩, [], d, ⟨t.over, t.cd, t.tx, t.has, t.nm, e⟩⟩
theorem turn_is {y : G16} (h : MsgOk y) (hk : y.kd = 2) : TurnOkM y ∧ y = turnG y.fr y.ep y.ed y.km.nm y.ct y.tn.st y.tn := by
  rcases h with ⟨k, _⟩ | ⟨_, h⟩ | ⟨k, _⟩
  · omega
  · refine ⟨h, ?_⟩
    obtain ⟨⟨a1, a2, a3, a4⟩, _⟩ := h
    obtain ⟨kd, to, fr, ep, ed, ⟨nm, tl, ar⟩, ls, ct, ⟨o, cd, tx, hs, tn, st⟩⟩ := y
    simp only at *
    have : ls = [] := List.length_eq_zero_iff.1 a4
    subst hk a1 a2 a3 this
    rfl
  · omega
theorem turn_fst {y : G16} (hk : y.kd = 2) : fstP y = dec y.fr ++ 32 :: (dec y.ep ++ 32 :: (dec y.ed ++ 32 :: (y.km.nm.data.toList ++ 32 :: (dec y.ct ++ 32 :: dec y.tn.st)))) ∧ behP y = [tnL y.tn] := by
  unfold fstP behP
  rw [if_neg (by omega), if_pos hk, if_neg (by omega), if_pos hk]
  exact ⟨rfl, rfl⟩
theorem turn_cut {y : G16} (h : TurnOkM y) (hk : y.kd = 2) : cutS 32 (fstP y) = [dec y.fr, dec y.ep, dec y.ed, y.km.nm.data.toList, dec y.ct, dec y.tn.st] := by
  obtain ⟨_, q1, q2, q3, q4, q5, q6⟩ := h
  have m := mom_le q2
  rw [(turn_fst hk).1, cut_hit (dec_no (by omega)).1, cut_hit (dec_no (by omega)).1, cut_hit (dec_no (by omega)).1, cut_hit (name_no q3).1, cut_hit (dec_no (by omega)).1, cut_no (dec_no (by omega)).1]
theorem rdTurn_yes {f b0 p0 p1 p2 p3 p4 p5 : List UInt8} {t : T6} (hc : cutS 32 f = [p0, p1, p2, p3, p4, p5]) (h0 : numM 1000 p0 = true) (h1 : numM 1000 p1 = true) (h2 : numM 1000 p2 = true) (h4 : numM 1000 p4 = true) (h5 : numM 1000 p5 = true) (ht : RdTn b0 t true) :
    RdMsg 2 f [b0] (turnG (rnM 1000 p0) (rnM 1000 p1) (rnM 1000 p2) (ofL p3) (rnM 1000 p4) (rnM 1000 p5) t) true := by
  constructor
  · intro y hy hk e eb
    obtain ⟨k1, k2⟩ := turn_is hy hk
    have hcy := turn_cut k1 hk
    rw [← e, hc] at hcy
    rw [(turn_fst hk).2] at eb
    obtain ⟨_, q1, q2, q3, q4, q5, q6⟩ := k1
    have m := mom_le q2
    simp only [List.cons.injEq, and_true] at hcy eb
    obtain ⟨e0, e1, e2, e3, e4, e5⟩ := hcy
    obtain ⟨_, s, hs⟩ := ht.1 y.tn ⟨q5, q6⟩ eb
    have f0 : rnM 1000 p0 = y.fr := by rw [e0]; exact (numM_dec (by omega) (by omega)).2
    have f1 : rnM 1000 p1 = y.ep := by rw [e1]; exact (numM_dec (by omega) (by omega)).2
    have f2 : rnM 1000 p2 = y.ed := by rw [e2]; exact (numM_dec (by omega) (by omega)).2
    have f4 : rnM 1000 p4 = y.ct := by rw [e4]; exact (numM_dec (by omega) (by omega)).2
    have f5 : rnM 1000 p5 = y.tn.st := by rw [e5]; exact (numM_dec (by omega) (by omega)).2
    refine ⟨rfl, ?_⟩
    rw [k2, f0, f1, f2, f4, f5, e3]
    rw [hs]
    rfl
  · intro _ hx
    obtain ⟨k1, _⟩ := turn_is hx rfl
    have hb := ht.2 rfl (rnM 1000 p5) ⟨k1.2.2.2.2.2.1, k1.2.2.2.2.2.2⟩
    refine ⟨rfl, ?_, ?_⟩
    · rw [(turn_fst (y := turnG _ _ _ _ _ _ _) rfl).1]
      obtain ⟨r0, a0, _, hc⟩ := cut_more hc
      obtain ⟨r1, a1, _, hc⟩ := cut_more hc
      obtain ⟨r2, a2, _, hc⟩ := cut_more hc
      obtain ⟨r3, a3, _, hc⟩ := cut_more hc
      obtain ⟨r4, a4, _, hc⟩ := cut_more hc
      obtain ⟨a5, _⟩ := cut_last hc
      show f = dec (rnM 1000 p0) ++ 32 :: (dec (rnM 1000 p1) ++ 32 :: (dec (rnM 1000 p2) ++ 32 :: (p3 ++ 32 :: (dec (rnM 1000 p4) ++ 32 :: dec (rnM 1000 p5)))))
      rw [← (numM_of h0).1, ← (numM_of h1).1, ← (numM_of h2).1, ← (numM_of h4).1, ← (numM_of h5).1, a0, a1, a2, a3, a4, a5]
    · rw [(turn_fst (y := turnG _ _ _ _ _ _ _) rfl).2, hb]
      rfl
theorem rdTurn_len {f : List UInt8} {b : List (List UInt8)} (h : (cutS 32 f).length ≠ 6 ∨ b.length ≠ 1) (x : G16) : RdMsg 2 f b x false := by
  refine ⟨fun y hy hk e eb => ?_, fun h => by cases h⟩
  obtain ⟨k1, k2⟩ := turn_is hy hk
  rcases h with h | h
  · rw [e, turn_cut k1 hk] at h; exact absurd rfl h
  · rw [eb, (turn_fst hk).2] at h; exact absurd rfl h
theorem rdTurn_no {f b0 p0 p1 p2 p3 p4 p5 : List UInt8} {t : T6} {ok : Bool} (hc : cutS 32 f = [p0, p1, p2, p3, p4, p5]) (ht : RdTn b0 t ok) (h : [p0, p1, p2].all (numM 1000) = false ∨ [p4, p5].all (numM 1000) = false ∨ ok = false) (x : G16) : RdMsg 2 f [b0] x false := by
  refine ⟨fun y hy hk e eb => ?_, fun h => by cases h⟩
  obtain ⟨k1, k2⟩ := turn_is hy hk
  have hcy := turn_cut k1 hk
  rw [← e, hc] at hcy
  rw [(turn_fst hk).2] at eb
  obtain ⟨_, q1, q2, q3, q4, q5, q6⟩ := k1
  have m := mom_le q2
  simp only [List.cons.injEq, and_true] at hcy eb
  obtain ⟨e0, e1, e2, e3, e4, e5⟩ := hcy
  rcases h with h | h | h
  · rw [e0, e1, e2] at h
    simp only [List.all_cons, List.all_nil, (numM_dec (M := 1000) (n := y.fr) (by omega) (by omega)).1, (numM_dec (M := 1000) (n := y.ep) (by omega) (by omega)).1, (numM_dec (M := 1000) (n := y.ed) (by omega) (by omega)).1, Bool.and_self] at h
    cases h
  · rw [e4, e5] at h
    simp only [List.all_cons, List.all_nil, (numM_dec (M := 1000) (n := y.ct) (by omega) (by omega)).1, (numM_dec (M := 1000) (n := y.tn.st) (by omega) (by omega)).1, Bool.and_self] at h
    cases h
  · have := (ht.1 y.tn ⟨q5, q6⟩ eb).1
    rw [h] at this; cases this
/-- An offer. -/
def offerG (a b c : Int) (m : M3) (ls : List L4) : G16 := ⟨1, a, 0, b, c, m, ls, 0, t6z⟩
theorem offer_is {y : G16} (h : MsgOk y) (hk : y.kd = 1) : OfferOk y ∧ y = offerG y.to y.ep y.ed y.km y.ls := by
  rcases h with ⟨_, h⟩ | ⟨k, _⟩ | ⟨k, _⟩
  · refine ⟨h, ?_⟩
    obtain ⟨⟨a1, a2, a3, a4, a5, a6, a7, a8⟩, _⟩ := h
    obtain ⟨kd, to, fr, ep, ed, km, ls, ct, ⟨o, cd, tx, hs, tn, st⟩⟩ := y
    simp only at *
    subst hk a1 a2 a3 a4 a5 a6 a7 a8
    rfl
  · omega
  · omega
theorem offer_fst {y : G16} (hk : y.kd = 1) : fstP y = dec y.to ++ 32 :: (dec y.ep ++ 32 :: (dec y.ed ++ 32 :: bodyL y.km)) ∧ behP y = y.ls.map lookB := by
  unfold fstP behP
  rw [if_pos hk, if_pos hk]
  exact ⟨rfl, rfl⟩
theorem three_rest {a b c r : List UInt8} (ha : (32 : UInt8) ∉ a) (hb : (32 : UInt8) ∉ b) (hc : (32 : UInt8) ∉ c) : wordOf (a ++ 32 :: (b ++ 32 :: (c ++ 32 :: r))) = a ∧ wordOf (restOf (a ++ 32 :: (b ++ 32 :: (c ++ 32 :: r)))) = b ∧ wordOf (restOf (restOf (a ++ 32 :: (b ++ 32 :: (c ++ 32 :: r))))) = c ∧ restOf (restOf (restOf (a ++ 32 :: (b ++ 32 :: (c ++ 32 :: r))))) = r := by
  obtain ⟨a1, a2⟩ := word_split (r := b ++ 32 :: (c ++ 32 :: r)) ha
  obtain ⟨b1, b2⟩ := word_split (r := c ++ 32 :: r) hb
  obtain ⟨c1, c2⟩ := word_split (r := r) hc
  rw [a1, a2, b1, b2, c1, c2]
  exact ⟨rfl, rfl, rfl, rfl⟩
theorem offer_parts {y : G16} (h : OfferOk y) (hk : y.kd = 1) {f : List UInt8} (e : f = fstP y) : wordOf f = dec y.to ∧ wordOf (restOf f) = dec y.ep ∧ wordOf (restOf (restOf f)) = dec y.ed ∧ restOf (restOf (restOf f)) = bodyL y.km := by
  obtain ⟨_, q1, q2, q3, q4⟩ := h
  have m := mom_le q2
  rw [e, (offer_fst hk).1]
  exact three_rest (dec_no (by omega)).1 (dec_no (by omega)).1 (dec_no (by omega)).1
/-- Four parts. -/
theorem four_parts {f : List UInt8} (h : (parts1 f 3).length = 4) : parts1 f 3 = [wordOf f, wordOf (restOf f), wordOf (restOf (restOf f)), restOf (restOf (restOf f))] ∧ f = wordOf f ++ 32 :: (wordOf (restOf f) ++ 32 :: (wordOf (restOf (restOf f)) ++ 32 :: restOf (restOf (restOf f)))) := by
  by_cases h1 : (32 : UInt8) ∈ f
  · rw [parts_yes 2 h1] at h ⊢
    by_cases h2 : (32 : UInt8) ∈ restOf f
    · rw [parts_yes 1 h2] at h ⊢
      by_cases h3 : (32 : UInt8) ∈ restOf (restOf f)
      · rw [parts_yes 0 h3, parts_zero]
        refine ⟨rfl, ?_⟩
        rw [← (word_parts h3).1, ← (word_parts h2).1, ← (word_parts h1).1]
      · rw [parts_no 1 h3] at h; simp at h
    · rw [parts_no 2 h2] at h; simp at h
  · rw [parts_no 3 h1] at h; simp at h
theorem parts_four {a b c r : List UInt8} (ha : (32 : UInt8) ∉ a) (hb : (32 : UInt8) ∉ b) (hc : (32 : UInt8) ∉ c) : (parts1 (a ++ 32 :: (b ++ 32 :: (c ++ 32 :: r))) 3).length = 4 := by
  rw [parts_yes 2 (by simp), (word_split ha).2, parts_yes 1 (by simp), (word_split hb).2, parts_yes 0 (by simp), (word_split hc).2, parts_zero]
  rfl
theorem rdOffer_yes {f : List UInt8} {b : List (List UInt8)} {km : M3} {ls : List L4} (h4 : (parts1 f 3).length = 4) (hn : [wordOf f, wordOf (restOf f), wordOf (restOf (restOf f))].all (numM 1000) = true) (hm : IsBodyM (restOf (restOf (restOf f))) km true) (hl : RdLooks b ls true) :
    RdMsg 1 f b (offerG (rnM 1000 (wordOf f)) (rnM 1000 (wordOf (restOf f))) (rnM 1000 (wordOf (restOf (restOf f)))) km ls) true := by
  simp only [List.all_cons, List.all_nil, Bool.and_true, Bool.and_eq_true] at hn
  obtain ⟨n0, n1, n2⟩ := hn
  constructor
  · intro y hy hk e eb
    obtain ⟨k1, k2⟩ := offer_is hy hk
    obtain ⟨p0, p1, p2, p3⟩ := offer_parts k1 hk e
    obtain ⟨_, q1, q2, q3, q4⟩ := k1
    have m := mom_le q2
    refine ⟨rfl, ?_⟩
    have hkm : km = y.km := bodyL_inj (hm.1 rfl).1 q3 (by rw [← (hm.1 rfl).2, p3])
    have hls : ls = y.ls := (hl.1 y.ls q4.2 (by rw [eb]; exact (offer_fst hk).2)).2
    rw [p0, p1, p2, (numM_dec (M := 1000) (n := y.to) (by omega) (by omega)).2, (numM_dec (M := 1000) (n := y.ep) (by omega) (by omega)).2, (numM_dec (M := 1000) (n := y.ed) (by omega) (by omega)).2, hkm, hls]
    exact k2.symm
  · intro _ hx
    obtain ⟨k1, _⟩ := offer_is hx rfl
    refine ⟨rfl, ?_, ?_⟩
    · rw [(offer_fst (y := offerG _ _ _ _ _) rfl).1]
      show f = dec (rnM 1000 (wordOf f)) ++ 32 :: (dec (rnM 1000 (wordOf (restOf f))) ++ 32 :: (dec (rnM 1000 (wordOf (restOf (restOf f)))) ++ 32 :: bodyL km))
      rw [← (numM_of n0).1, ← (numM_of n1).1, ← (numM_of n2).1, ← (hm.1 rfl).2]
      exact (four_parts h4).2
    · rw [(offer_fst (y := offerG _ _ _ _ _) rfl).2]
      exact hl.2 rfl k1.2.2.2.2.2
theorem rdOffer_len {f : List UInt8} {b : List (List UInt8)} (h : (parts1 f 3).length ≠ 4) (x : G16) : RdMsg 1 f b x false := by
  refine ⟨fun y hy hk e eb => ?_, fun h => by cases h⟩
  obtain ⟨k1, k2⟩ := offer_is hy hk
  obtain ⟨_, q1, q2, q3, q4⟩ := k1
  have m := mom_le q2
  rw [e, (offer_fst hk).1] at h
  exact absurd (parts_four (dec_no (by omega)).1 (dec_no (by omega)).1 (dec_no (by omega)).1) h
theorem rdOffer_no {f : List UInt8} {b : List (List UInt8)} {km : M3} {ls : List L4} {ok1 ok2 : Bool} (hm : IsBodyM (restOf (restOf (restOf f))) km ok1) (hl : RdLooks b ls ok2) (h : [wordOf f, wordOf (restOf f), wordOf (restOf (restOf f))].all (numM 1000) = false ∨ ok1 = false ∨ ok2 = false) (x : G16) : RdMsg 1 f b x false := by
  refine ⟨fun y hy hk e eb => ?_, fun h => by cases h⟩
  obtain ⟨k1, k2⟩ := offer_is hy hk
  obtain ⟨p0, p1, p2, p3⟩ := offer_parts k1 hk e
  obtain ⟨_, q1, q2, q3, q4⟩ := k1
  have m := mom_le q2
  rcases h with h | h | h
  · rw [p0, p1, p2] at h
    simp only [List.all_cons, List.all_nil, (numM_dec (M := 1000) (n := y.to) (by omega) (by omega)).1, (numM_dec (M := 1000) (n := y.ep) (by omega) (by omega)).1, (numM_dec (M := 1000) (n := y.ed) (by omega) (by omega)).1, Bool.and_self] at h
    cases h
  · exact absurd p3 (hm.2 h y.km q3)
  · have := (hl.1 y.ls q4.2 (by rw [eb]; exact (offer_fst hk).2)).1
    rw [h] at this; cases this
/-- What a text is read as. -/
def RdMail (l : List UInt8) (x : G16) (ok : Bool) : Prop := (∀ y, MsgOk y → l = msgL y → ok = true ∧ x = y) ∧ (ok = true → MsgOk x ∧ l = msgL x)
theorem wrdP_no (k : Int) : (32 : UInt8) ∉ wrdP k := by
  unfold wrdP; split
  · decide
  · split <;> decide
theorem wrdP_inj {k j : Int} (hk : k = 1 ∨ k = 2 ∨ k = 3) (hj : j = 1 ∨ j = 2 ∨ j = 3) (h : wrdP k = wrdP j) : k = j := by
  rcases hk with rfl | rfl | rfl <;> rcases hj with rfl | rfl | rfl <;> first | rfl | (revert h; decide)
theorem kd_of {y : G16} (h : MsgOk y) : y.kd = 1 ∨ y.kd = 2 ∨ y.kd = 3 := by
  rcases h with ⟨k, _⟩ | ⟨k, _⟩ | ⟨k, _⟩
  · exact .inl k
  · exact .inr (.inl k)
  · exact .inr (.inr k)
theorem fst_ne (y : G16) : fstP y ≠ [] := by
  unfold fstP
  split
  · simp
  · split
    · simp
    · exact dec_ne _
/-- The lines of a message's form. -/
theorem mail_lines {l t : List UInt8} {y : G16} (hy : MsgOk y) (hl : l = t ++ [10]) (e : l = msgL y) : cutS 10 t = linesP y := by
  have := cut_join (linesP y) (lines_no hy)
  rw [← msg_lines hy, ← e, hl, cut_snoc] at this
  exact List.append_cancel_right this
theorem mail_end {l : List UInt8} {y : G16} (hy : MsgOk y) (e : l = msgL y) : endN l = true := by
  rw [e, msg_lines hy]
  have : ∀ ls : List (List UInt8), ls ≠ [] → ∃ t, joinN ls = t ++ [10] := by
    intro ls h
    rcases List.eq_nil_or_concat ls with e | ⟨r, c, e⟩
    · exact absurd e h
    · rw [List.concat_eq_append] at e
      subst e
      exact ⟨joinN r ++ c, by simp [joinN]⟩
  obtain ⟨t, ht⟩ := this (linesP y) (by unfold linesP; simp)
  rw [ht]; exact endN_of t
theorem rdMail_end {l : List UInt8} (h : endN l = false) (x : G16) : RdMail l x false := by
  refine ⟨fun y hy e => ?_, fun h => by cases h⟩
  rw [mail_end hy e] at h; cases h
theorem rdMail_word {l f : List UInt8} {b : List (List UInt8)} (h : endN l = true) (hc : cutS 10 l.dropLast = f :: b) (hw : ∀ k, k = 1 ∨ k = 2 ∨ k = 3 → wordOf f ≠ wrdP k) (x : G16) : RdMail l x false := by
  refine ⟨fun y hy e => ?_, fun h => by cases h⟩
  have := mail_lines hy (endN_yes h) e
  rw [hc] at this
  unfold linesP at this
  obtain ⟨e1, e2⟩ := List.cons.inj this
  refine absurd ?_ (hw y.kd (kd_of hy))
  rw [e1]; exact (word_split (wrdP_no _)).1
theorem rdMail_kind {l f : List UInt8} {b : List (List UInt8)} {k : Int} {x : G16} {ok : Bool} (hk : k = 1 ∨ k = 2 ∨ k = 3) (h : endN l = true) (hc : cutS 10 l.dropLast = f :: b) (hw : wordOf f = wrdP k) (hr : RdMsg k (restOf f) b x ok) :
    (ok = true → MsgOk x → RdMail l x true) ∧ (¬ (ok = true ∧ MsgOk x) → ∀ z, RdMail l z false) := by
  have comp : ∀ y, MsgOk y → l = msgL y → ok = true ∧ x = y := by
    intro y hy e
    have := mail_lines hy (endN_yes h) e
    rw [hc] at this
    unfold linesP at this
    obtain ⟨e1, e2⟩ := List.cons.inj this
    obtain ⟨w1, w2⟩ := word_split (r := fstP y) (wrdP_no y.kd)
    rw [← e1] at w1 w2
    have : y.kd = k := wrdP_inj (kd_of hy) hk (by rw [← w1, hw])
    exact hr.1 y hy this w2 e2
  constructor
  · intro h1 h2
    refine ⟨fun y hy e => ⟨rfl, (comp y hy e).2⟩, fun _ => ⟨h2, ?_⟩⟩
    obtain ⟨a1, a2, a3⟩ := hr.2 h1 h2
    have hf : f = wrdP k ++ 32 :: fstP x := by
      rw [← hw, ← a2]
      exact word_both (by rw [a2]; exact fst_ne x)
    rw [msg_lines h2]
    have : linesP x = f :: b := by unfold linesP; rw [a1, ← hf, ← a3]
    rw [this, ← hc, join_cut]
    exact endN_yes h
  · intro hn z
    refine ⟨fun y hy e => ?_, fun h => by cases h⟩
    obtain ⟨c1, c2⟩ := comp y hy e
    exact absurd ⟨c1, by rw [c2]; exact hy⟩ hn
end Go.Proofs.YtdcgjdgpiogdaaaGreatDoor

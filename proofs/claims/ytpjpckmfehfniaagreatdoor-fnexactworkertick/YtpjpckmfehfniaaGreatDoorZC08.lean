import Derived.Test.YtpjpckmfehfniaaGreatDoorZC06
import Derived.Test.YtpjpckmfehfniaaGreatDoorZC07
namespace Go.Proofs.YtpjpckmfehfniaaGreatDoor
open Go.RowKit
theorem cst_line (p : List (List UInt8) × List UInt8) (a : List UInt8) (h : (10 : UInt8) ∉ a) : (a ++ [10]).foldl (cst 10) p = (p.1 ++ [p.2 ++ a], []) := by
 induction a generalizing p with
 | nil => simp [cst]
 | cons c a ih =>
   have hc : c ≠ 10 := fun e => h (by rw [e]; simp)
   rw [List.cons_append, List.foldl_cons, ih _ (fun h' => h (List.mem_cons_of_mem _ h'))]
   simp [cst, hc]
theorem cst_lines (js : List I3) (o : List (List UInt8)) : (js.flatMap lineL).foldl (cst 10) (o, []) = (o ++ js.map body, []) := by
 induction js generalizing o with
 | nil => simp
 | cons x r ih =>
   rw [List.flatMap_cons, List.foldl_append, line_body, cst_line _ _ (body_no10 x)]
   simp only [List.nil_append]
   rw [ih]
   simp
theorem cut_lines (js : List I3) : cutS 10 (js.flatMap lineL) = js.map body ++ [[]] := by
 unfold cutS cstate
 rw [cst_lines]
 simp
def Parsed (l : List UInt8) (x : I3) : Prop := ∀ y, okI y = true → l = body y → x = y
def OpOf (l : List UInt8) (o : Int) : Prop := (o = 0 ∧ ∀ p : Nat, 1 ≤ p → p ≤ 11 → word p ≠ wordOf l) ∨ ((1 ≤ o ∧ o ≤ 11) ∧ word o = wordOf l)
theorem opOf_eq {l : List UInt8} {o : Int} {y : I3} (h : OpOf l o) (hy : okI y = true) (e : l = body y) : o = y.op := by
 rcases h with ⟨_, h⟩ | ⟨h1, h2⟩
 · exact absurd e (noBody_op h y hy)
 · exact (body_op hy e h1 h2).symm
theorem empty_tx {b : ByteArray} (h : b.toList.isEmpty = true) : (⟨#[]⟩ : ByteArray) = b := tx_empty tx0 h
theorem parsed_00 {l : List UInt8} {o : Int} (h : OpOf l o) (hO : usesTo o = false) (hX : usesTx o = false) : Parsed l ⟨o, ⟨#[]⟩, 0⟩ := by
 intro y hy e
 have ho := opOf_eq h hy e
 obtain ⟨_, h2, h3, _⟩ := okI_bad hy
 obtain ⟨op, tx, to⟩ := y
 simp only at ho h2 h3
 subst ho
 simp only [hO, Bool.false_eq_true, false_or] at h2
 simp only [hX, Bool.false_eq_true, false_or] at h3
 rw [h2, empty_tx h3]
theorem parsed_10 {l : List UInt8} {o : Int} (h : OpOf l o) (hO : usesTo o = true) (hX : usesTx o = false) : Parsed l ⟨o, ⟨#[]⟩, n29 (wordOf (restOf l))⟩ := by
 intro y hy e
 have ho := opOf_eq h hy e
 obtain ⟨_, h2, h3, h4, h5, _⟩ := okI_bad hy
 have hr : restOf l = Lib.decDigits y.to.toNat := by
  rw [e]
  unfold body
  rw [toL, txL, ← ho, hO, hX]
  simp only [if_true, Bool.false_eq_true, if_false, List.append_nil]
  exact (word_split (word_no32 _).1).2
 rw [hr, (word_none (decD_no32 _).1).1, n29_dec0 _ (by omega)]
 obtain ⟨op, tx, to⟩ := y
 simp only at ho h3 h4
 subst ho
 simp only [hX, Bool.false_eq_true, false_or] at h3
 rw [empty_tx h3]
 simp only [I3.mk.injEq, true_and]
 omega
theorem parsed_01 {l t : List UInt8} {o : Int} (h : OpOf l o) (hO : usesTo o = false) (hX : usesTx o = true) (ht : ∀ q, restOf l = quoteL q → t = q) : Parsed l ⟨o, ofL t, 0⟩ := by
 intro y hy e
 have ho := opOf_eq h hy e
 obtain ⟨_, h2, h3, h4, h5, _⟩ := okI_bad hy
 have hr : restOf l = quoteL y.tx.data.toList := by
  rw [e]
  unfold body
  rw [toL, txL, ← ho, hO, hX]
  simp only [if_true, Bool.false_eq_true, if_false, List.append_nil]
  exact (word_split (word_no32 _).1).2
 have := ht _ hr
 obtain ⟨op, tx, to⟩ := y
 simp only at ho h2 this
 subst ho
 simp only [hO, Bool.false_eq_true, false_or] at h2
 rw [h2, this, ← ext_ofL rfl]
theorem parsed_11 {l t : List UInt8} {o : Int} (h : OpOf l o) (hO : usesTo o = true) (hX : usesTx o = true) (ht : ∀ q, restOf (restOf l) = quoteL q → t = q) : Parsed l ⟨o, ofL t, n29 (wordOf (restOf l))⟩ := by
 intro y hy e
 have ho := opOf_eq h hy e
 obtain ⟨_, h2, h3, h4, h5, _⟩ := okI_bad hy
 have hr : restOf l = Lib.decDigits y.to.toNat ++ 32 :: quoteL y.tx.data.toList := by
  rw [e]
  unfold body
  rw [toL, txL, ← ho, hO, hX]
  simp only [if_true, List.append_assoc, List.cons_append]
  exact (word_split (word_no32 _).1).2
 obtain ⟨s1, s2⟩ := word_split (r := quoteL y.tx.data.toList) (decD_no32 y.to.toNat).1
 rw [← hr] at s1 s2
 have := ht _ s2
 rw [s1, n29_dec0 _ (by omega), this, ← ext_ofL rfl]
 obtain ⟨op, tx, to⟩ := y
 simp only at ho h4
 subst ho
 simp only [I3.mk.injEq, true_and]
 omega
def Sofar (S : List UInt8) (is : List I3) (k : Nat) : Prop := ∀ js : List I3, js.all okI = true → js.flatMap lineL = S → is = js.take k
theorem sofar_start (S : List UInt8) : Sofar S [] 0 := fun _ _ _ => rfl
theorem sofar_step {S : List UInt8} {is : List I3} {k : Nat} {x : I3} (h : Sofar S is k) (hk : k + 1 < (cutS 10 S).length) (hp : Parsed ((cutS 10 S).getD k []) x) : Sofar S (is ++ [x]) (k + 1) := by
 intro js hj e
 have h1 := h js hj e
 have hc := cut_lines js
 rw [e] at hc
 rw [hc] at hk hp
 simp only [List.length_append, List.length_map, List.length_cons, List.length_nil] at hk
 have hkl : k < js.length := by omega
 have hg : (js.map body ++ [[]]).getD k [] = body js[k] := by
  simp only [List.getD, List.getElem?_append_left (show k < (js.map body).length by simpa using hkl), List.getElem?_map, List.getElem?_eq_getElem hkl]
  rfl
 rw [hg] at hp
 have hok : okI js[k] = true := (List.all_eq_true.1 hj) _ (List.getElem_mem hkl)
 rw [h1, hp js[k] hok rfl, ← List.take_succ_eq_append_getElem hkl]
theorem sofar_end {S : List UInt8} {is : List I3} {k : Nat} (h : Sofar S is k) (hk : k + 1 = (cutS 10 S).length) (h300 : S.length ≤ 300) : (S ≠ [] ∧ formL is = S → IsRead S is true) ∧ (¬ (S ≠ [] ∧ formL is = S) → IsRead S [] false) := by
 constructor
 · rintro ⟨h1, h2⟩
   unfold formL at h2
   by_cases hc : okT is = true ∧ (is.flatMap lineL).length ≤ 300
   · rw [if_pos hc] at h2
     exact ⟨fun _ => ⟨hc.1, h2, h300⟩, (fun h => by cases h)⟩
   · rw [if_neg hc] at h2
     exact absurd h2.symm h1
 · intro hn
   refine ⟨(fun h => by cases h), fun _ => ⟨rfl, fun js hj e => ?_⟩⟩
   exfalso
   apply hn
   obtain ⟨⟨hl1, hl2⟩, hall⟩ := okT_facts hj
   have h1 := h js hall e
   have hc := cut_lines js
   rw [e] at hc
   rw [hc] at hk
   simp only [List.length_append, List.length_map, List.length_cons, List.length_nil] at hk
   rw [List.take_of_length_le (by omega)] at h1
   subst h1
   refine ⟨fun e0 => ?_, ?_⟩
   · rw [e0] at e
     have := lines_ge is
     rw [e, List.length_nil] at this
     omega
   · unfold formL
     rw [if_pos ⟨hj, by rw [e]; exact h300⟩, e]
structure Mid (X : Nat) (w1 wq : World) (o : Int) (tx : ByteArray) (to : Int) : Prop where
 but : But X w1 wq
 blk : wq.heap[X]? = some (.cells #[.int .i64 o, .string tx, .int .i64 to] 122 (0, 0))
theorem Mid.below {X : Nat} {w1 wq wp : World} {o to : Int} {tx : ByteArray} (h : Mid X w1 wq o tx to) (hb : Below wq.heap.size wq wp) : Mid X w1 wp o tx to :=
 ⟨h.but.trans (But.of_below hb), (hb.block X (blk_lt h.blk)).trans h.blk⟩
theorem Mid.set0 {X : Nat} {w1 wq : World} {o to : Int} {tx : ByteArray} (h : Mid X w1 wq o tx to) (o' : Int) : Mid X w1 (wq.setCell ⟨X, 0, none⟩ (.int .i64 o')) o' tx to :=
 ⟨h.but.setCell _ _, heap_setCell_same wq X 0 _ _ _ h.blk⟩
theorem Mid.set1 {X : Nat} {w1 wq : World} {o to : Int} {tx : ByteArray} (h : Mid X w1 wq o tx to) (t' : ByteArray) : Mid X w1 (wq.setCell ⟨X, 1, none⟩ (.string t')) o t' to :=
 ⟨h.but.setCell _ _, heap_setCell_same wq X 1 _ _ _ h.blk⟩
theorem Mid.set2 {X : Nat} {w1 wq : World} {o to : Int} {tx : ByteArray} (h : Mid X w1 wq o tx to) (n' : Int) : Mid X w1 (wq.setCell ⟨X, 2, none⟩ (.int .i64 n')) o tx n' :=
 ⟨h.but.setCell _ _, heap_setCell_same wq X 2 _ _ _ h.blk⟩
theorem Mid.cells {X : Nat} {w1 wq : World} {o to : Int} {tx : ByteArray} (h : Mid X w1 wq o tx to) :
 (wq.cell? ⟨X, 0, none⟩ = some (.int .i64 o) ∧ wq.cell? ⟨X, 1, none⟩ = some (.string tx) ∧ wq.cell? ⟨X, 2, none⟩ = some (.int .i64 to)) ∧ wq.frozen? ⟨X, 0, none⟩ = false ∧ wq.frozen? ⟨X, 1, none⟩ = false ∧ wq.frozen? ⟨X, 2, none⟩ = false := by
 refine ⟨⟨?_, ?_, ?_⟩, Lib.frozen_of_heap h.blk 0, Lib.frozen_of_heap h.blk 1, Lib.frozen_of_heap h.blk 2⟩
 · rw [Lib.cell_of_heap h.blk]; rfl
 · rw [Lib.cell_of_heap h.blk]; rfl
 · rw [Lib.cell_of_heap h.blk]; rfl
theorem owns_but {b : Nat} {w w' : World} {base : Nat} {e : TypeId} {size : Nat} {v : Value} {n : Nat} {xs : List Value} (h : w.ownsRow base e size v n xs) (hb : But b w w') (hne : v.ownBlock ≠ some b) : w'.ownsRow base e size v n xs := by
 refine ⟨h.1, ?_⟩
 rcases h.2 with h2 | ⟨g, cap, cur, hv, hg, hh, r⟩
 · exact .inl h2
 · refine .inr ⟨g, cap, cur, hv, hg, ?_, r⟩
   rw [hb.block g (blk_lt hh) (fun e => hne (by rw [hv, e]; rfl))]
   exact hh
def OpTo (l : List UInt8) (q : Nat) (o : Int) : Prop := (o = 0 ∧ ∀ p : Nat, 1 ≤ p → p < q → word p ≠ wordOf l) ∨ ((1 ≤ o ∧ o < q) ∧ word o = wordOf l)
theorem opTo_yes {l : List UInt8} {q : Nat} {o : Int} (_h : OpTo l q o) (hq : 1 ≤ q) (hw : word q = wordOf l) : OpTo l (q + 1) q := .inr ⟨by omega, hw⟩
theorem opTo_no {l : List UInt8} {q : Nat} {o : Int} (h : OpTo l q o) (hw : word q ≠ wordOf l) : OpTo l (q + 1) o := by
 rcases h with ⟨h1, h2⟩ | ⟨h1, h2⟩
 · refine .inl ⟨h1, fun p hp hq => ?_⟩
   by_cases e : p = q
   · subst e; exact hw
   · exact h2 p hp (by omega)
 · exact .inr ⟨by omega, h2⟩
theorem opTo_end {l : List UInt8} {o : Int} (h : OpTo l 12 o) : OpOf l o := by
 rcases h with ⟨h1, h2⟩ | ⟨h1, h2⟩
 · exact .inl ⟨h1, fun p hp hq => h2 p hp (by omega)⟩
 · exact .inr ⟨by omega, h2⟩
end Go.Proofs.YtpjpckmfehfniaaGreatDoor
namespace Go.Proofs.YtpjpckmfehfniaaGreatDoor
open Go.RowKit
def Unq (q t : List UInt8) (ok : Bool) : Prop := (ok = true → q = quoteL t) ∧ (ok = false → ∀ l, q ≠ quoteL l)
def Is74 (q : List UInt8) (e : Ending) : Prop := ∃ t ok, e = .returned (.tuple #[.string (ofL t), .bool ok]) ∧ Unq q t ok
theorem ext_list (s : ByteArray) (a b : Nat) : (s.extract a b).data.toList = (s.data.toList.take b).drop a := by
 rw [ByteArray.data_extract, Array.toList_extract, List.extract_eq_take_drop, List.drop_take]
theorem drop_at (s : ByteArray) (k : Nat) (h : k < s.size) : s.data.toList.drop k = s[k] :: s.data.toList.drop (k + 1) := by
 rw [List.drop_eq_getElem_cons (by simpa using h)]
 rfl
theorem inner_of (q : ByteArray) (h2 : 2 ≤ q.size) (hf : (q[0].toNat : Int) = 34) (hl : (q[q.size - 1].toNat : Int) = 34) : q.data.toList = 34 :: ((q.extract 1 (q.size - 1)).data.toList ++ [34]) := by
 have e0 : q[0] = 34 := UInt8.toNat_inj.1 (by have : q[0].toNat = 34 := by omega
                                              rw [this]; rfl)
 have e1 : q[q.size - 1] = 34 := UInt8.toNat_inj.1 (by have : q[q.size - 1].toNat = 34 := by omega
                                                       rw [this]; rfl)
 have hlen : q.data.toList.length = q.size := by simp
 have t1 : q.data.toList = q.data.toList.take (q.size - 1) ++ q.data.toList.drop (q.size - 1) := (List.take_append_drop _ _).symm
 have d0 := drop_at q (q.size - 1) (by omega)
 rw [e1, List.drop_of_length_le (show q.data.toList.length ≤ q.size - 1 + 1 by omega)] at d0
 have d1 := drop_at q 0 (by omega)
 rw [e0] at d1
 simp only [List.drop_zero, Nat.zero_add] at d1
 rw [ext_list]
 have t2 : q.data.toList.take (q.size - 1) = 34 :: (q.data.toList.take (q.size - 1)).drop 1 := by
  obtain ⟨m, hm⟩ : ∃ m, q.size - 1 = m + 1 := ⟨q.size - 2, by omega⟩
  rw [hm]
  conv => lhs; rw [d1]
  rw [d1]
  simp
 rw [← List.cons_append, ← t2, ← d0]
 exact t1
theorem not_quote {q : List UInt8} (h : q.length < 2 ∨ q.headD 0 ≠ 34 ∨ q.getLastD 0 ≠ 34) : ∀ l, q ≠ quoteL l := by
 intro l e
 subst e
 rcases h with h | h | h
 · have := quote_ge l; omega
 · exact h rfl
 · apply h
   show (34 :: (l.flatMap qb ++ [34])).getLastD 0 = 34
   rw [← List.cons_append, List.getLastD_concat]
theorem take_ext (s : ByteArray) (k : Nat) (_ : k ≤ s.size) : s.data.toList = s.data.toList.take k ++ (s.extract k s.size).data.toList := by
 rw [ext_list, List.take_of_length_le (show s.data.toList.length ≤ s.size by simp), List.take_append_drop]
set_option maxHeartbeats 1000000 in
theorem c138_in (q : ByteArray) (w : World) (hs : q.size ≤ 1048700) (h2 : 2 ≤ q.size) (hf : (q[0].toNat : Int) = 34) (hl : (q[q.size - 1].toNat : Int) = 34) :
 Calls Tryz.prog 138 #[.string q] w fun e w' => Is74 q.data.toList e ∧ Below w.heap.size w w' := by
 have HF : Hid (Lib.IsBuilder 162 5 w.heap.size w.heap.size [] (w.alloc (.cells #[.pointer none, .slice none 0 0] 162))) := Lib.fresh_isBuilder 162 5 w
 have HI : Hid (q.data.toList = 34 :: ((q.extract 1 (q.size - 1)).data.toList ++ [34])) := inner_of q h2 hf hl
 have hz : (q.extract 1 (q.size - 1)).size ≤ 1048700 := by simp; omega
 go_enter Tryz.func138, Tryz.ntmps138
 go_wp2_with fail
 clear hf hl
 generalize q.extract 1 (q.size - 1) = I at *
 go_loopw [6] (fun i wr => ∃ (k : Nat) (t : List UInt8), k ≤ I.size ∧ i = .int .i64 k ∧ t.length ≤ k ∧ Hid (I.data.toList.take k = t.flatMap qb) ∧ Hid (Lib.IsBuilder 162 5 w.heap.size w.heap.size (Lib.byteCells t) wr) ∧ Below w.heap.size w wr ∧ w.heap.size + 1 ≤ wr.heap.size) (fun i _ => I.size - (intOf i).toNat)
 case atStart => exact ⟨0, [], Nat.zero_le _, rfl, Nat.le_refl _, rfl, HF, (Below.refl _ _).alloc (Nat.le_refl _) _, by simp⟩
 case round =>
  obtain ⟨k, t, hk, rfl, htk, htl, hbl, hb, hzr⟩ := hrel
  by_cases hlt : k < I.size
  · go_wp2_with fail
    refine (c168 I[k] _).mono ?_
    rintro e w1 ⟨rfl, hw1⟩
    obtain rfl := hw1.symm
    cases hp : plainB I[k]
    · have HP : Hid (plainB I[k] = false) := hp
      clear hp
      go_wp2_with fail
      refine (c170 _ _ (by simp; omega)).mono ?_
      rintro e w1 ⟨⟨c, ok, rfl, hun⟩, hw1⟩
      obtain rfl := hw1.symm
      have HD : Hid (I.data.toList = t.flatMap qb ++ (I.extract k I.size).data.toList) := by rw [← htl.out]; exact take_ext I k hk
      cases ok
      · have HU : Hid (Unq q.data.toList [] false) := by
         refine ⟨(fun h => by cases h), fun _ l e => ?_⟩
         rw [HI.out] at e
         unfold quoteL at e
         simp only [List.cons.injEq, true_and, List.append_cancel_right_eq] at e
         rw [HD.out] at e
         obtain ⟨r, hr, _⟩ := flat_pre e
         have hne : (I.extract k I.size).data.toList = I[k] :: I.data.toList.drop (k + 1) := by
          rw [ext_list, List.take_of_length_le (by simp), drop_at I k hlt]
         cases r with
         | nil => rw [hr] at hne; cases hne
         | cons d r =>
           rw [hr, List.flatMap_cons] at hne
           cases hd : plainB d
           · exact hun.2 rfl d _ hd hr
           · rw [qb_plain hd] at hne
             simp only [List.cons_append, List.nil_append, List.cons.injEq] at hne
             rw [hne.1, HP.out] at hd
             cases hd
        clear hun
        go_wp2
        go_ret2
        exact ⟨⟨[], false, rfl, HU.out⟩, hb⟩
      · have HQ : Hid (plainB c = false ∧ ∃ r, (I.extract k I.size).data.toList = qb c ++ r) := hun.1 rfl
        clear hun
        have hk3 : k + 3 ≤ I.size := by
         obtain ⟨h1, r, h2⟩ := HQ.out
         have := congrArg List.length h2
         rw [qb_not h1] at this
         simp at this
         omega
        have HT : Hid (I.data.toList.take (k + 3) = (t ++ [c]).flatMap qb) := by
         obtain ⟨h1, r, h2⟩ := HQ.out
         have hl : (t.flatMap qb).length = k := by rw [← htl.out]; simp; omega
         rw [HD.out, h2, ← List.append_assoc, List.take_append_of_le_length (by rw [List.length_append, hl, qb_not h1]; simp), List.take_of_length_le (by rw [List.length_append, hl, qb_not h1]; simp), List.flatMap_append]
         simp [Hid]
        go_wp2_with fail
        refine (c169 w.heap.size w.heap.size (Lib.byteCells t) c.toNat _ hbl.out (by rw [cells_len]; omega) (by omega)).mono ?_
        rintro e w3 ⟨rfl, h3, hb3⟩
        have H3 : Hid (Lib.IsBuilder 162 5 w.heap.size w.heap.size (Lib.byteCells (t ++ [c])) w3) := by rw [cells_snoc]; exact h3
        have hB3 : Below w.heap.size w w3 := hb.trans hb3
        have hz3 : w.heap.size + 1 ≤ w3.heap.size := Nat.le_trans hzr hb3.size
        clear h3 hb3
        go_wp2
        go_roundw
        case rel => exact ⟨k + 3, t ++ [c], hk3, by go_num, by simp; omega, HT, H3, hB3, hz3⟩
        case measure => simp [intOf]; omega
    · have HT : Hid (I.data.toList.take (k + 1) = (t ++ [I[k]]).flatMap qb) := by
       rw [take_snoc I k hlt, htl.out, List.flatMap_append]; simp [Hid, qb_plain hp]
      clear hp
      go_wp2_with fail
      refine (c169 w.heap.size w.heap.size (Lib.byteCells t) _ _ hbl.out (by rw [cells_len]; omega) (by omega)).mono ?_
      rintro e w3 ⟨rfl, h3, hb3⟩
      have H3 : Hid (Lib.IsBuilder 162 5 w.heap.size w.heap.size (Lib.byteCells (t ++ [I[k]])) w3) := by rw [cells_snoc]; exact h3
      have hB3 : Below w.heap.size w w3 := hb.trans hb3
      have hz3 : w.heap.size + 1 ≤ w3.heap.size := Nat.le_trans hzr hb3.size
      clear h3 hb3
      go_wp2
      go_roundw
      case rel => exact ⟨k + 1, t ++ [I[k]], by omega, by go_num, by simp; omega, HT, H3, hB3, hz3⟩
      case measure => simp [intOf]; omega
  · have HU : Hid (Unq q.data.toList t true) := by
     refine ⟨fun _ => ?_, (fun h => by cases h)⟩
     have := htl.out
     rw [List.take_of_length_le (by simp; omega)] at this
     rw [HI.out, this]; rfl
    go_wp2_with fail
    refine (Tryz.Builder_String_any w.heap.size w.heap.size t _ hbl.out (by omega)).mono ?_
    rintro e w4 ⟨rfl, hb4⟩
    go_wp2
    go_ret2
    exact ⟨⟨t, true, rfl, HU.out⟩, hb.trans hb4⟩
set_option maxHeartbeats 1000000 in
theorem c138 (q : ByteArray) (w : World) (hs : q.size ≤ 1048700) :
 Calls Tryz.prog 138 #[.string q] w fun e w' => Is74 q.data.toList e ∧ Below w.heap.size w w' := by
 by_cases h2 : 2 ≤ q.size
 · have hz0 : 0 < q.size := by omega
   have hz1 : q.size - 1 < q.size := by omega
   by_cases hf : (q[0].toNat : Int) = 34
   · by_cases hl : (q[q.size - 1].toNat : Int) = 34
     · exact c138_in q w hs h2 hf hl
     · have HU : Hid (Is74 q.data.toList (.returned (.tuple #[.string ⟨#[]⟩, .bool false]))) := by
        refine ⟨[], false, rfl, (fun h => by cases h), fun _ => not_quote (.inr (.inr fun e => hl ?_))⟩
        have d0 := drop_at q (q.size - 1) (by omega)
        rw [List.drop_of_length_le (show q.data.toList.length ≤ q.size - 1 + 1 by simp; omega)] at d0
        have : q.data.toList = q.data.toList.take (q.size - 1) ++ [q[q.size - 1]] := by rw [← d0]; exact (List.take_append_drop _ _).symm
        rw [this] at e
        simp at e
        rw [e]; rfl
       have e1 : ((q[q.size - 1].toNat : Int) != 34) = true := by simpa using hl
       clear hl
       go_enter Tryz.func138, Tryz.ntmps138
       go_wp2
       go_ret2
       exact ⟨HU.out, Below.refl _ _⟩
   · have HU : Hid (Is74 q.data.toList (.returned (.tuple #[.string ⟨#[]⟩, .bool false]))) := by
      refine ⟨[], false, rfl, (fun h => by cases h), fun _ => not_quote (.inr (.inl fun e => hf ?_))⟩
      have d1 := drop_at q 0 (by omega)
      simp only [List.drop_zero] at d1
      rw [d1] at e
      simp at e
      rw [e]; rfl
     have e1 : ((q[0].toNat : Int) != 34) = true := by simpa using hf
     clear hf
     go_enter Tryz.func138, Tryz.ntmps138
     go_wp2
     go_ret2
     exact ⟨HU.out, Below.refl _ _⟩
 · have HU : Hid (Is74 q.data.toList (.returned (.tuple #[.string ⟨#[]⟩, .bool false]))) := ⟨[], false, rfl, (fun h => by cases h), fun _ => not_quote (.inl (by simp; omega))⟩
   go_enter Tryz.func138, Tryz.ntmps138
   go_wp2
   go_ret2
   exact ⟨HU.out, Below.refl _ _⟩
end Go.Proofs.YtpjpckmfehfniaaGreatDoor

import Derived.Test.YtboojefodbjbcaaGreatDoorZR05
import Derived.Test.YtboojefodbjbcaaGreatDoorGP7
import Derived.Lib.IndexBytes
import Derived.Lib.IndexLaws
import Derived.Lib.Split
import Derived.Test.YtboojefodbjbcaaGreatDoorZR03
namespace Go.Proofs.YtboojefodbjbcaaGreatDoor.G
open Go.RowKit
theorem word_none {l : List UInt8} (h : (32 : UInt8) ∉ l) : wordOf l = l ∧ restOf l = [] := by
 have := word_at (l := l) (k := l.length) (by rw [List.take_length, List.all_eq_true]; intro a ha; simp only [bne_iff_ne]; intro e; exact h (e ▸ ha)) (Nat.le_refl _) (.inl rfl)
 rw [List.take_length, List.drop_of_length_le (by omega)] at this
 exact this
theorem word_split {a r : List UInt8} (h : (32 : UInt8) ∉ a) : wordOf (a ++ 32 :: r) = a ∧ restOf (a ++ 32 :: r) = r := by
 have := word_at (l := a ++ 32 :: r) (k := a.length) (by rw [List.take_left, List.all_eq_true]; intro x ha; simp only [bne_iff_ne]; intro e; exact h (e ▸ ha)) (by simp) (.inr (by simp))
 rw [List.take_left] at this
 refine ⟨this.1, this.2.trans ?_⟩
 rw [← List.drop_drop, List.drop_left]
 rfl
theorem word_parts {l : List UInt8} (h : (32 : UInt8) ∈ l) : l = wordOf l ++ 32 :: restOf l ∧ (32 : UInt8) ∉ wordOf l := by
 obtain ⟨a, r, rfl, ha⟩ := List.eq_append_cons_of_mem h
 obtain ⟨h1, h2⟩ := word_split (r := r) ha
 rw [h1, h2]
 exact ⟨rfl, ha⟩
theorem idx_one (l : List UInt8) : (Lib.index l [32] = -1 ∧ (32 : UInt8) ∉ l) ∨ (∃ i : Nat, Lib.index l [32] = i ∧ (32 : UInt8) ∈ l ∧ l.take i = wordOf l ∧ l.drop (i + 1) = restOf l) := by
 rw [Lib.index_one]
 have hge := Lib.indexByte_ge l 32
 by_cases h : Lib.indexByte l 32 = -1
 · refine .inl ⟨h, fun hm => ?_⟩
   obtain ⟨k, hk, e⟩ := List.getElem_of_mem hm
   exact Lib.indexByte_none h k (by rw [List.getElem?_eq_getElem hk, e])
 · obtain ⟨o, ho⟩ : ∃ o : Nat, Lib.indexByte l 32 = o := ⟨(Lib.indexByte l 32).toNat, by omega⟩
   obtain ⟨h1, h2⟩ := Lib.indexByte_some ho
   have hl : o < l.length := by
    rcases Nat.lt_or_ge o l.length with h | h
    · exact h
    · rw [List.getElem?_eq_none h] at h1; cases h1
   have hm : (32 : UInt8) ∈ l := List.mem_of_getElem? h1
   have := word_at (l := l) (k := o) (by
    rw [List.all_eq_true]
    intro x hx
    simp only [bne_iff_ne]
    rintro rfl
    obtain ⟨k, hk, e⟩ := List.getElem_of_mem hx
    rw [List.length_take] at hk
    rw [List.getElem_take] at e
    exact h2 k (by omega) (by rw [List.getElem?_eq_getElem (by omega), e])) (by omega) (.inr (by simp [List.getD, h1]))
   exact .inr ⟨o, ho, hm, this.1.symm, this.2.symm⟩
theorem cut_32 (l : List UInt8) : (Lib.cut l [32]).1 = wordOf l := by
 unfold Lib.cut
 rcases idx_one l with ⟨h, hn⟩ | ⟨i, h, _, h1, _⟩
 · rw [h, if_neg (by omega), (word_none hn).1]
 · rw [h, if_pos (by omega)]; exact h1
def parts1 (l : List UInt8) (n : Nat) : List (List UInt8) := Lib.splitK [32] 0 n l
theorem parts_zero (l : List UInt8) : parts1 l 0 = [l] := rfl
theorem parts_no {l : List UInt8} (n : Nat) (h : (32 : UInt8) ∉ l) : parts1 l n = [l] := by
 cases n with
 | zero => rfl
 | succ n =>
  unfold parts1 Lib.splitK
  rcases idx_one l with ⟨h', _⟩ | ⟨i, _, hm, _⟩
  · rw [h']; rfl
  · exact absurd hm h
theorem parts_yes {l : List UInt8} (n : Nat) (h : (32 : UInt8) ∈ l) : parts1 l (n + 1) = wordOf l :: parts1 (restOf l) n := by
 unfold parts1
 rw [Lib.splitK]
 rcases idx_one l with ⟨_, hn⟩ | ⟨i, hi, _, h1, h2⟩
 · exact absurd h hn
 · rw [hi, if_neg (by simp)]
   simp only [Int.toNat_natCast, Nat.add_zero, List.length_singleton, h1, h2]
theorem cut_32b (l : List UInt8) : (Lib.cut l [32]).2.1 = restOf l := by
 unfold Lib.cut
 rcases idx_one l with ⟨h, hn⟩ | ⟨i, h, _, _, h2⟩
 · rw [h, if_neg (by omega), (word_none hn).2]
 · rw [h, if_pos (by omega)]; exact h2
theorem parts_min (l : List UInt8) : parts1 l (min 3 (l.length + 1) - 1) = parts1 l 2 := by
 rcases Nat.lt_or_ge l.length 2 with h | h
 · cases l with
   | nil => rw [parts_no _ (by simp), parts_no _ (by simp)]
   | cons c r =>
    cases r with
    | cons d r => simp at h; omega
    | nil =>
     by_cases h32 : (32 : UInt8) ∈ [c]
     · have e : restOf [c] = [] := by
        simp only [List.mem_singleton] at h32
        subst h32; rfl
       have e1 : min 3 ([c].length + 1) - 1 = 0 + 1 := rfl
       rw [e1, parts_yes 0 h32, parts_yes 1 h32, e, parts_no _ (by simp), parts_no _ (by simp)]
     · rw [parts_no _ h32, parts_no _ h32]
 · have : min 3 (l.length + 1) = 3 := by omega
   rw [this]
theorem split10 {a b r q : List UInt8} (ha : (10 : UInt8) ∉ a) (hb : (10 : UInt8) ∉ b) (h : a ++ 10 :: r = b ++ 10 :: q) : a = b ∧ r = q := by
 induction a generalizing b with
 | nil =>
  cases b with
  | nil => simpa using h
  | cons c b => simp at h; exact absurd (by rw [h.1]; simp) hb
 | cons d a ih =>
  cases b with
  | nil => simp at h; exact absurd (by rw [h.1]; simp) ha
  | cons c b =>
   simp only [List.cons_append, List.cons.injEq] at h
   obtain ⟨h1, h2⟩ := ih (fun h => ha (List.mem_cons_of_mem _ h)) (fun h => hb (List.mem_cons_of_mem _ h)) h.2
   exact ⟨by rw [h.1, h1], h2⟩
theorem split32 {a b r q : List UInt8} (ha : (32 : UInt8) ∉ a) (hb : (32 : UInt8) ∉ b) (h : a ++ 32 :: r = b ++ 32 :: q) : a = b ∧ r = q := by
 induction a generalizing b with
 | nil =>
  cases b with
  | nil => simpa using h
  | cons c b => simp at h; exact absurd (by rw [h.1]; simp) hb
 | cons d a ih =>
  cases b with
  | nil => simp at h; exact absurd (by rw [h.1]; simp) ha
  | cons c b =>
   simp only [List.cons_append, List.cons.injEq] at h
   obtain ⟨h1, h2⟩ := ih (fun h => ha (List.mem_cons_of_mem _ h)) (fun h => hb (List.mem_cons_of_mem _ h)) h.2
   exact ⟨by rw [h.1, h1], h2⟩
theorem tx_inj {a b : ByteArray} (h : a.data.toList = b.data.toList) : a = b := ByteArray.ext (Array.toList_inj.1 h)
theorem name_no {l : List UInt8} (h : nameOk l = true) : (32 : UInt8) ∉ l ∧ (10 : UInt8) ∉ l := by
 simp only [nameOk, Bool.and_eq_true, List.all_eq_true] at h
 constructor
 · intro hm
   have := h.2 _ hm
   revert this; decide
 · intro hm
   have := h.2 _ hm
   revert this; decide
theorem okM_facts {x : M3} (h : okM x = true) : nameOk x.nm.data.toList = true ∧ nameOk x.tl.data.toList = true ∧ (x.ar.size : Int) ≤ 300 := by
 simp only [okM, Bool.and_eq_true, decide_eq_true_eq] at h
 exact ⟨h.1.1, h.1.2, h.2⟩
theorem body_form (x : M3) : bodyL x = x.nm.data.toList ++ 32 :: (x.tl.data.toList ++ 32 :: quoteL x.ar.data.toList) := by simp [bodyL]
theorem body_ne (x : M3) : bodyL x ≠ [] := by rw [body_form]; simp
def mkBody (x : M3) : List UInt8 := [109, 97, 107, 101] ++ 32 :: bodyL x
theorem line_body (x : M3) : makeL x = mkBody x ++ [10] := rfl
theorem body_no10 {x : M3} (h : okM x = true) : (10 : UInt8) ∉ mkBody x := by
 obtain ⟨h1, h2, _⟩ := okM_facts h
 unfold mkBody
 rw [body_form]
 simp only [List.mem_append, List.mem_cons, not_or]
 refine ⟨by decide, by decide, (name_no h1).2, by decide, (name_no h2).2, by decide, quote_no10 _⟩
theorem bodyL_inj {x y : M3} (hx : okM x = true) (hy : okM y = true) (h : bodyL x = bodyL y) : x = y := by
 obtain ⟨a1, a2, _⟩ := okM_facts hx
 obtain ⟨b1, b2, _⟩ := okM_facts hy
 rw [body_form, body_form] at h
 obtain ⟨e1, h⟩ := split32 (name_no a1).1 (name_no b1).1 h
 obtain ⟨e2, h⟩ := split32 (name_no a2).1 (name_no b2).1 h
 have e3 := quoteL_inj h
 cases x; cases y
 simp only [M3.mk.injEq]
 exact ⟨tx_inj e1, tx_inj e2, tx_inj e3⟩
theorem body_inj {x y : M3} (hx : okM x = true) (hy : okM y = true) (h : mkBody x = mkBody y) : x = y := by
 unfold mkBody at h
 exact bodyL_inj hx hy (by simpa using h)
theorem line_is {l : List UInt8} {y : M3} (_hy : okM y = true) : l = mkBody y ↔ wordOf l = [109, 97, 107, 101] ∧ restOf l = bodyL y := by
 constructor
 · rintro rfl
   exact word_split (by decide)
 · rintro ⟨h1, h2⟩
   by_cases hm : (32 : UInt8) ∈ l
   · have := (word_parts hm).1
     rw [h1, h2] at this
     exact this
   · rw [(word_none hm).2] at h2
     exact absurd h2.symm (body_ne y)
theorem line_pre {x y : M3} {r q : List UInt8} (hx : okM x = true) (hy : okM y = true) (h : makeL x ++ r = makeL y ++ q) : x = y ∧ r = q := by
 rw [line_body, line_body, List.append_assoc, List.append_assoc] at h
 obtain ⟨h1, h2⟩ := split10 (body_no10 hx) (body_no10 hy) h
 exact ⟨body_inj hx hy h1, h2⟩
theorem line_ne (x : M3) : makeL x ≠ [] := by rw [line_body]; simp
theorem lines_pre {is js : List M3} {R : List UInt8} (hi : is.all okM = true) (hj : js.all okM = true) (h : is.flatMap makeL ++ R = js.flatMap makeL) : ∃ r, R = r.flatMap makeL ∧ js = is ++ r := by
 induction is generalizing js with
 | nil => exact ⟨js, by simpa using h, rfl⟩
 | cons x is ih =>
  simp only [List.all_cons, Bool.and_eq_true] at hi
  cases js with
  | nil =>
   have := line_ne x
   simp at h
   exact absurd h.1 this
  | cons y js =>
   simp only [List.all_cons, Bool.and_eq_true] at hj
   simp only [List.flatMap_cons, List.append_assoc] at h
   obtain ⟨rfl, h2⟩ := line_pre hi.1 hj.1 h
   obtain ⟨r, hr, hl⟩ := ih hi.2 hj.2 h2
   exact ⟨r, hr, by rw [hl]; rfl⟩
theorem lines_inj {is js : List M3} (hi : is.all okM = true) (hj : js.all okM = true) (h : is.flatMap makeL = js.flatMap makeL) : is = js := by
 obtain ⟨r, hr, hl⟩ := lines_pre (R := []) hi hj (by simpa using h)
 cases r with
 | nil => simpa using hl.symm
 | cons y r =>
  have := line_ne y
  simp at hr
  exact absurd hr.1 this
theorem lines_ge (is : List M3) : is.length ≤ (is.flatMap makeL).length := by
 induction is with
 | nil => simp
 | cons x r ih =>
  have : 1 ≤ (makeL x).length := List.length_pos_iff.2 (line_ne x)
  simp only [List.flatMap_cons, List.length_append, List.length_cons]; omega
theorem plan_all {ms : List M3} (h : planOk ms = true) : ms.all okM = true := by
 rw [List.all_eq_true]
 intro x hx
 obtain ⟨k, hk, e⟩ := List.getElem_of_mem hx
 have := step_ok (((plan_iff ms).1 h).2 k hk)
 rw [List.getD, List.getElem?_eq_getElem hk] at this
 rw [← e]; exact this
def IsPlan (l : List UInt8) (is : List M3) (ok : Bool) : Prop := (ok = true → planOk is = true ∧ is.flatMap makeL = l ∧ l.length ≤ 300) ∧ (ok = false → is = [] ∧ ∀ js, planOk js = true → js.flatMap makeL = l → 300 < l.length)
theorem isPlan_one {l : List UInt8} {is js : List M3} {a b : Bool} (h : IsPlan l is a) (k : IsPlan l js b) : is = js ∧ a = b := by
 cases a <;> cases b
 · exact ⟨(h.2 rfl).1.trans (k.2 rfl).1.symm, rfl⟩
 · obtain ⟨k1, k2, k3⟩ := k.1 rfl
   have := (h.2 rfl).2 js k1 k2; omega
 · obtain ⟨k1, k2, k3⟩ := h.1 rfl
   have := (k.2 rfl).2 is k1 k2; omega
 · obtain ⟨k1, k2, k3⟩ := k.1 rfl
   obtain ⟨h1, h2, h3⟩ := h.1 rfl
   exact ⟨lines_inj (plan_all h1) (plan_all k1) (h2.trans k2.symm), rfl⟩
def Way (l : List UInt8) (is : List M3) (r : List UInt8) : Prop := l = is.flatMap makeL ++ r ∧ is.all okM = true
theorem way_start (l : List UInt8) : Way l [] l := ⟨rfl, rfl⟩
theorem way_step {l : List UInt8} {is : List M3} {a r : List UInt8} {x : M3} (h : Way l is (a ++ 10 :: r)) (hx : okM x = true ∧ a = mkBody x) : Way l (is ++ [x]) r := by
 refine ⟨?_, by rw [List.all_append, h.2]; simp [hx.1]⟩
 rw [h.1, List.flatMap_append, hx.2]
 simp [line_body]
theorem way_stuck {l : List UInt8} {is : List M3} {r : List UInt8} (h : Way l is r) (hr : r ≠ []) (hn : ∀ y q, okM y = true → r ≠ mkBody y ++ 10 :: q) : IsPlan l [] false := by
 refine ⟨(fun h => by cases h), fun _ => ⟨rfl, fun js hj e => ?_⟩⟩
 exfalso
 obtain ⟨q, hq, hl⟩ := lines_pre h.2 (plan_all hj) (h.1.symm.trans e.symm)
 cases q with
 | nil => exact hr hq
 | cons y q =>
  have hy : okM y = true := by
   have := (plan_all hj)
   rw [hl, List.all_append, List.all_cons] at this
   simp only [Bool.and_eq_true] at this
   exact this.2.1
  apply hn y (q.flatMap makeL) hy
  rw [hq, List.flatMap_cons, line_body, List.append_assoc]
  rfl
theorem way_end {l : List UInt8} {is : List M3} (h : Way l is []) (h300 : l.length ≤ 300) : (planOk is = true → IsPlan l is true) ∧ (planOk is = false → IsPlan l [] false) := by
 have e : l = is.flatMap makeL := by simpa using h.1
 refine ⟨fun hk => ⟨fun _ => ⟨hk, e.symm, h300⟩, (fun h => by cases h)⟩, fun hk => ⟨(fun h => by cases h), fun _ => ⟨rfl, fun js hj ej => ?_⟩⟩⟩
 have := lines_inj (plan_all hj) h.2 (ej.trans e)
 rw [this, hk] at hj
 cases hj
theorem read_long {l : List UInt8} (h : 300 < l.length) : IsPlan l [] false := ⟨(fun h => by cases h), fun _ => ⟨rfl, fun _ _ _ => h⟩⟩
theorem getM_ok {ms : List M3} (h : ms.all okM = true) {i : Nat} (hi : i < ms.length) : okM (ms.getD i m3z) = true := by
 rw [List.getD, List.getElem?_eq_getElem hi]; exact List.all_eq_true.1 h _ (List.getElem_mem hi)
theorem okM_le {x : M3} (h : okM x = true) : x.le 300 := by
 obtain ⟨h1, h2, h3⟩ := ok_sizes h
 exact ⟨by omega, by omega, h3⟩
theorem way_len {l : List UInt8} {is : List M3} {r : List UInt8} (h : Way l is r) : is.length + r.length ≤ l.length ∧ ∀ i, (is.getD i m3z).le 300 := by
 have h1 := lines_ge is
 have h2 := congrArg List.length h.1
 rw [List.length_append] at h2
 exact ⟨by omega, getD_smallM fun i hi => okM_le (getM_ok h.2 hi)⟩
theorem cut_10 (l : List UInt8) : ((Lib.cut l [10]).2.2 = true ∧ l = (Lib.cut l [10]).1 ++ 10 :: (Lib.cut l [10]).2.1 ∧ (10 : UInt8) ∉ (Lib.cut l [10]).1) ∨ ((Lib.cut l [10]).2.2 = false ∧ (Lib.cut l [10]).1 = l ∧ (10 : UInt8) ∉ l) := by
 unfold Lib.cut
 rw [Lib.index_one]
 have hge := Lib.indexByte_ge l 10
 by_cases h : Lib.indexByte l 10 = -1
 · rw [h, if_neg (by omega)]
   refine .inr ⟨rfl, rfl, fun hm => ?_⟩
   obtain ⟨k, hk, e⟩ := List.getElem_of_mem hm
   exact Lib.indexByte_none h k (by rw [List.getElem?_eq_getElem hk, e])
 · obtain ⟨o, ho⟩ : ∃ o : Nat, Lib.indexByte l 10 = o := ⟨(Lib.indexByte l 10).toNat, by omega⟩
   obtain ⟨h1, h2⟩ := Lib.indexByte_some ho
   have hl : o < l.length := by
    rcases Nat.lt_or_ge o l.length with h | h
    · exact h
    · rw [List.getElem?_eq_none h] at h1; cases h1
   rw [ho, if_pos (by omega)]
   refine .inl ⟨rfl, ?_, fun hm => ?_⟩
   · simp only [Int.toNat_natCast, List.length_singleton]
     have hx : l[o] = 10 := by rw [List.getElem?_eq_getElem hl] at h1; exact Option.some.inj h1
     conv => lhs; rw [← List.take_append_drop o l, List.drop_eq_getElem_cons hl, hx]
   · simp only [Int.toNat_natCast] at hm
     obtain ⟨k, hk, e⟩ := List.getElem_of_mem hm
     rw [List.length_take] at hk
     rw [List.getElem_take] at e
     exact h2 k (by omega) (by rw [List.getElem?_eq_getElem (by omega), e])
def mkCells (is : List M3) : List Value := is.flatMap fun x => [.string x.nm, .string x.tl, .string x.ar]
theorem mkCells_snoc (is : List M3) (x : M3) : mkCells (is ++ [x]) = mkCells is ++ [.string x.nm, .string x.tl, .string x.ar] := by simp [mkCells]
theorem mkCells_get (is : List M3) (i : Nat) (h : i < is.length) : (mkCells is)[i * 3]? = some (.string (is.getD i m3z).nm) ∧ (mkCells is)[i * 3 + 1]? = some (.string (is.getD i m3z).tl) ∧ (mkCells is)[i * 3 + 2]? = some (.string (is.getD i m3z).ar) := by
 induction is generalizing i with
 | nil => simp at h
 | cons x r ih =>
  cases i with
  | zero => exact ⟨rfl, rfl, rfl⟩
  | succ i =>
   have := ih i (by simpa using h)
   have e : ∀ j, (mkCells (x :: r))[(i + 1) * 3 + j]? = (mkCells r)[i * 3 + j]? := fun j => by
    show ([Value.string x.nm, .string x.tl, .string x.ar] ++ mkCells r)[(i + 1) * 3 + j]? = _
    rw [List.getElem?_append_right (by simp; omega)]
    congr 1
    simp; omega
   have e0 := e 0
   simp only [Nat.add_zero] at e0
   rw [e0, e 1, e 2]
   exact this
theorem own3_form {w : World} {base : Nat} {v : Value} {is : List M3} (h : w.ownsRow base 51 3 v is.length (mkCells is)) : ∃ a cap, v = .slice a is.length cap ∧ MksAt w a is := by
 have h' := h
 rcases h.2 with ⟨hv, h0⟩ | ⟨g, cap, cur, hv, hg, hh, _⟩
 · exact ⟨none, 0, by rw [hv, h0], .inl (List.length_eq_zero_iff.1 h0)⟩
 · refine ⟨some ⟨g, 0, none⟩, cap, hv, ?_⟩
   subst hv
   refine .inr ⟨g, 0, rfl, blk_lt hh, fun i hi => ?_⟩
   obtain ⟨e0, e1, e2⟩ := mkCells_get is i hi
   rw [Nat.zero_add, h'.cellAt _ (by omega), h'.cellAt _ (by omega), h'.cellAt _ (by omega)]
   exact ⟨e0, e1, e2⟩
theorem cst_line (p : List (List UInt8) × List UInt8) (a : List UInt8) (h : (10 : UInt8) ∉ a) : (a ++ [10]).foldl (cst 10) p = (p.1 ++ [p.2 ++ a], []) := by
 induction a generalizing p with
 | nil => simp [cst]
 | cons c a ih =>
  have hc : c ≠ 10 := fun e => h (by rw [e]; simp)
  rw [List.cons_append, List.foldl_cons, ih _ (fun h' => h (List.mem_cons_of_mem _ h'))]
  simp [cst, hc]
theorem cst_lines (js : List M3) (hj : js.all okM = true) (o : List (List UInt8)) : (js.flatMap makeL).foldl (cst 10) (o, []) = (o ++ js.map mkBody, []) := by
 induction js generalizing o with
 | nil => simp
 | cons x r ih =>
  simp only [List.all_cons, Bool.and_eq_true] at hj
  rw [List.flatMap_cons, List.foldl_append, line_body, cst_line _ _ (body_no10 hj.1)]
  simp only [List.nil_append]
  rw [ih hj.2]
  simp
theorem cut_lines (js : List M3) (hj : js.all okM = true) : cutS 10 (js.flatMap makeL) = js.map mkBody ++ [[]] := by
 unfold cutS cstate
 rw [cst_lines js hj]
 simp
def Parsed (l : List UInt8) (x : M3) : Prop := ∀ y, okM y = true → l = mkBody y → x = y
theorem parsed {l t : List UInt8} (ht : ∀ q, restN l 3 = quoteL q → t = q) : Parsed l ⟨ofL (wordOf (restN l 1)), ofL (wordOf (restN l 2)), ofL t⟩ := by
 intro y hy e
 obtain ⟨h1, h2, _⟩ := okM_facts hy
 have r1 : restN l 1 = bodyL y := ((line_is hy).1 e).2
 rw [body_form] at r1
 have w1 := word_split (r := y.tl.data.toList ++ 32 :: quoteL y.ar.data.toList) (name_no h1).1
 have r2 : restN l 2 = y.tl.data.toList ++ 32 :: quoteL y.ar.data.toList := by show restOf (restN l 1) = _; rw [r1]; exact w1.2
 have w2 := word_split (r := quoteL y.ar.data.toList) (name_no h2).1
 have r3 : restN l 3 = quoteL y.ar.data.toList := by show restOf (restN l 2) = _; rw [r2]; exact w2.2
 have := ht _ r3
 subst this
 rw [r1, r2, w1.1, w2.1]
 rfl
def Sofar (S : List UInt8) (is : List M3) (k : Nat) : Prop := ∀ js : List M3, js.all okM = true → js.flatMap makeL = S → is = js.take k
theorem sofar_start (S : List UInt8) : Sofar S [] 0 := fun _ _ _ => rfl
theorem sofar_step {S : List UInt8} {is : List M3} {k : Nat} {x : M3} (h : Sofar S is k) (hk : k + 1 < (cutS 10 S).length) (hp : Parsed ((cutS 10 S).getD k []) x) : Sofar S (is ++ [x]) (k + 1) := by
 intro js hj e
 have h1 := h js hj e
 have hc := cut_lines js hj
 rw [e] at hc
 rw [hc] at hk hp
 simp only [List.length_append, List.length_map, List.length_cons, List.length_nil] at hk
 have hkl : k < js.length := by omega
 have hg : (js.map mkBody ++ [[]]).getD k [] = mkBody js[k] := by
  simp only [List.getD, List.getElem?_append_left (show k < (js.map mkBody).length by simpa using hkl), List.getElem?_map, List.getElem?_eq_getElem hkl]
  rfl
 rw [hg] at hp
 have hok : okM js[k] = true := (List.all_eq_true.1 hj) _ (List.getElem_mem hkl)
 rw [h1, hp js[k] hok rfl, ← List.take_succ_eq_append_getElem hkl]
theorem sofar_end {S : List UInt8} {is : List M3} {k : Nat} (h : Sofar S is k) (hkl : is.length = k) (hk : k + 1 = (cutS 10 S).length) (h300 : S.length ≤ 300) : (formP is = S → IsPlan S is true) ∧ (formP is ≠ S → IsPlan S [] false) := by
 constructor
 · intro h2
   unfold formP at h2
   by_cases hc : planOk is = true ∧ (is.flatMap makeL).length ≤ 300
   · rw [if_pos hc] at h2
     exact ⟨fun _ => ⟨hc.1, h2, h300⟩, (fun h => by cases h)⟩
   · rw [if_neg hc] at h2
     subst h2
     have : k = 0 := by simpa [cutS, cstate] using hk
     have : is = [] := List.length_eq_zero_iff.1 (by omega)
     subst this
     exact absurd ⟨rfl, by simp⟩ hc
 · intro hn
   refine ⟨(fun h => by cases h), fun _ => ⟨rfl, fun js hj e => ?_⟩⟩
   exfalso
   apply hn
   have hall := plan_all hj
   have h1 := h js hall e
   have hc := cut_lines js hall
   rw [e] at hc
   rw [hc] at hk
   simp only [List.length_append, List.length_map, List.length_cons, List.length_nil] at hk
   rw [List.take_of_length_le (by omega)] at h1
   subst h1
   unfold formP
   rw [if_pos ⟨hj, by rw [e]; exact h300⟩, e]
theorem cut_piece (b : UInt8) (l : List UInt8) (p : List (List UInt8) × List UInt8) (N : Nat) (h1 : ∀ x ∈ p.1, x.length ≤ N) (h2 : p.2.length + l.length ≤ N) : (∀ x ∈ (l.foldl (cst b) p).1, x.length ≤ N) ∧ (l.foldl (cst b) p).2.length ≤ N := by
 induction l generalizing p with
 | nil => exact ⟨h1, by simpa using h2⟩
 | cons c l ih =>
  rw [List.foldl_cons]
  apply ih
  · unfold cst; split
    · intro x hx
      rcases List.mem_append.1 hx with h | h
      · exact h1 x h
      · simp at h; subst h; simp at h2; omega
    · exact h1
  · simp only [List.length_cons] at h2
    unfold cst; split
    · simp; omega
    · simp; omega
theorem cut_small (b : UInt8) (l : List UInt8) (k : Nat) : ((cutS b l).getD k []).length ≤ l.length := by
 obtain ⟨h1, h2⟩ := cut_piece b l ([], []) l.length (by simp) (by simp)
 have h : ∀ x ∈ cutS b l, x.length ≤ l.length := by
  intro x hx
  unfold cutS cstate at hx
  rcases List.mem_append.1 hx with h | h
  · exact h1 x h
  · simp at h; subst h; exact h2
 rcases Nat.lt_or_ge k (cutS b l).length with hk | hk
 · rw [List.getD, List.getElem?_eq_getElem hk]; exact h _ (List.getElem_mem hk)
 · rw [List.getD, List.getElem?_eq_none hk]; simp
theorem cut_len (b : UInt8) (l : List UInt8) : 1 ≤ (cutS b l).length ∧ (cutS b l).length ≤ l.length + 1 := by
 have := cstate_le b l
 unfold cutS
 rw [List.length_append, List.length_singleton]; omega
def IsBodyM (l : List UInt8) (x : M3) (ok : Bool) : Prop := (ok = true → okM x = true ∧ l = bodyL x) ∧ (ok = false → ∀ y, okM y = true → l ≠ bodyL y)
theorem bodyM_no {l : List UInt8} {x : M3} (h : ∀ y, okM y = true → l ≠ bodyL y) : IsBodyM l x false := ⟨(fun h => by cases h), fun _ => h⟩
theorem bodyM_two {l : List UInt8} {y : M3} (hy : okM y = true) (h : l = bodyL y) : ((32 : UInt8) ∈ l ∧ (32 : UInt8) ∈ restOf l) ∧ wordOf l = y.nm.data.toList ∧ wordOf (restOf l) = y.tl.data.toList ∧ restOf (restOf l) = quoteL y.ar.data.toList := by
 obtain ⟨h1, h2, _⟩ := okM_facts hy
 rw [body_form] at h
 have w1 := word_split (r := y.tl.data.toList ++ 32 :: quoteL y.ar.data.toList) (name_no h1).1
 have w2 := word_split (r := quoteL y.ar.data.toList) (name_no h2).1
 rw [h, w1.1, w1.2, w2.1, w2.2]
 exact ⟨⟨by simp, by simp⟩, rfl, rfl, rfl⟩
theorem bodyM_parts {l t : List UInt8} {ok : Bool} (hm : (32 : UInt8) ∈ l) (hm2 : (32 : UInt8) ∈ restOf l) (hu : (ok = true → restOf (restOf l) = quoteL t) ∧ (ok = false → ∀ q, restOf (restOf l) ≠ quoteL q)) :
 (ok = true → okM ⟨ofL (wordOf l), ofL (wordOf (restOf l)), ofL t⟩ = true → IsBodyM l ⟨ofL (wordOf l), ofL (wordOf (restOf l)), ofL t⟩ true) ∧ (¬ (ok = true ∧ okM ⟨ofL (wordOf l), ofL (wordOf (restOf l)), ofL t⟩ = true) → ∀ y, okM y = true → l ≠ bodyL y) := by
 constructor
 · intro h1 h2
   refine ⟨fun _ => ⟨h2, ?_⟩, (fun h => by cases h)⟩
   rw [body_form]
   show l = wordOf l ++ 32 :: (wordOf (restOf l) ++ 32 :: quoteL t)
   rw [← hu.1 h1, ← (word_parts hm2).1, ← (word_parts hm).1]
 · intro hn y hy e
   obtain ⟨_, e1, e2, e3⟩ := bodyM_two hy e
   apply hn
   cases ok
   · exact absurd e3 (hu.2 rfl _)
   · refine ⟨rfl, ?_⟩
     have : t = y.ar.data.toList := quoteL_inj ((hu.1 rfl).symm.trans e3)
     rw [this, e1, e2]
     exact hy
end Go.Proofs.YtboojefodbjbcaaGreatDoor.G
namespace Go.Proofs.YtboojefodbjbcaaGreatDoor.G
open Go.RowKit
open T (F2 f2z treeOk Asc)
def planA : ByteArray := ⟨#[112, 108, 97, 110]⟩
def Free (fs : List F2) (nm : ByteArray) : Prop := ∀ j, j < fs.length → (fs.getD j f2z).nm ≠ nm
def FreeAll (fs : List F2) (ms : List M3) : Prop := ∀ i, i < ms.length → Free fs (ms.getD i m3z).nm
def IsPT (fs : List F2) (ms : List M3) : Prop :=
 (¬ treeOk fs ∧ ms = []) ∨ (treeOk fs ∧ Free fs planA ∧ ms = []) ∨
 (treeOk fs ∧ ∃ i, i < fs.length ∧ (fs.getD i f2z).nm = planA ∧ ∃ ks ok, IsPlan (fs.getD i f2z).tx.data.toList ks ok ∧ ((ok = true ∧ FreeAll fs ks ∧ ms = ks) ∨ (¬ (ok = true ∧ FreeAll fs ks) ∧ ms = [])))
theorem name_once {fs : List F2} (h : treeOk fs) {i j : Nat} (hi : i < fs.length) (hj : j < fs.length) (e : (fs.getD i f2z).nm = (fs.getD j f2z).nm) : i = j := by
 have hm := T.asc_of h
 rcases Nat.lt_trichotomy i j with h1 | h1 | h1
 · have := hm i j h1 hj
   rw [e, T.lt_irrefl'] at this; cases this
 · exact h1
 · have := hm j i h1 hi
   rw [e, T.lt_irrefl'] at this; cases this
theorem isPT_one {fs : List F2} {ms ns : List M3} (h : IsPT fs ms) (k : IsPT fs ns) : ms = ns := by
 rcases h with ⟨h1, rfl⟩ | ⟨h1, h2, rfl⟩ | ⟨h1, i, hi, hn, ks, ok, hp, hr⟩
 · rcases k with ⟨_, rfl⟩ | ⟨k1, _⟩ | ⟨k1, _⟩
   · rfl
   · exact absurd k1 h1
   · exact absurd k1 h1
 · rcases k with ⟨k1, _⟩ | ⟨_, _, rfl⟩ | ⟨_, j, hj, hk, _⟩
   · exact absurd h1 k1
   · rfl
   · exact absurd hk (h2 j hj)
 · rcases k with ⟨k1, _⟩ | ⟨_, k2, _⟩ | ⟨_, j, hj, hk, ks', ok', hp', hr'⟩
   · exact absurd h1 k1
   · exact absurd hn (k2 i hi)
   · obtain rfl := name_once h1 hi hj (hn.trans hk.symm)
     obtain ⟨rfl, rfl⟩ := isPlan_one hp hp'
     rcases hr with ⟨a1, a2, rfl⟩ | ⟨a1, rfl⟩
     · rcases hr' with ⟨_, _, rfl⟩ | ⟨b1, _⟩
       · rfl
       · exact absurd ⟨a1, a2⟩ b1
     · rcases hr' with ⟨b1, b2, _⟩ | ⟨_, rfl⟩
       · exact absurd ⟨b1, b2⟩ a1
       · rfl
theorem isPlan_len {l : List UInt8} {ms : List M3} {ok : Bool} (h : IsPlan l ms ok) : ms.length ≤ 300 ∧ ∀ i, (ms.getD i m3z).le 300 := by
 cases ok
 · rw [(h.2 rfl).1]
   exact ⟨Nat.zero_le _, fun i => ⟨Nat.zero_le _, Nat.zero_le _, Nat.zero_le _⟩⟩
 · obtain ⟨h1, h2, h3⟩ := h.1 rfl
   have := lines_ge ms
   rw [h2] at this
   exact ⟨by omega, getD_smallM fun i hi => okM_le (getM_ok (plan_all h1) hi)⟩
theorem isPT_len {fs : List F2} {ms : List M3} (h : IsPT fs ms) : ms.length ≤ 300 := by
 rcases h with ⟨_, rfl⟩ | ⟨_, _, rfl⟩ | ⟨_, i, hi, hn, ks, ok, hp, hr⟩
 · exact Nat.zero_le _
 · exact Nat.zero_le _
 · rcases hr with ⟨_, _, rfl⟩ | ⟨_, rfl⟩
   · exact (isPlan_len hp).1
   · exact Nat.zero_le _
end Go.Proofs.YtboojefodbjbcaaGreatDoor.G

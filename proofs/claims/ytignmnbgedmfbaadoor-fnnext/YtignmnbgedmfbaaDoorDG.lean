import Derived.Test.YtignmnbgedmfbaaDoorDF
import Derived.Laws.OwnMore
import Derived.Deep.RegionHeld3

namespace Go.Proofs.YtignmnbgedmfbaaDoor
open Go.RowKit
theorem insCells_cons (x : I3) (T : List I3) : insCells (x :: T) = .int .i64 x.op :: .string x.tx :: .int .i64 x.to :: insCells T := rfl
theorem insCells_set0 (T : List I3) (k : Nat) (o : Int) (h : k < T.length) : (insCells T).set (k * 3) (.int .i64 o) = insCells (T.set k ⟨o, (T.getD k i3z).tx, (T.getD k i3z).to⟩) := by
  induction T generalizing k with
  | nil => simp at h
  | cons x T ih =>
    cases k with
    | zero => rfl
    | succ k =>
      have e : (k + 1) * 3 = k * 3 + 1 + 1 + 1 := by omega
      rw [insCells_cons, e, List.set_cons_succ, List.set_cons_succ, List.set_cons_succ, ih k (by simpa using h)]
      rfl
theorem insCells_set1 (T : List I3) (k : Nat) (t : ByteArray) (h : k < T.length) : (insCells T).set (k * 3 + 1) (.string t) = insCells (T.set k ⟨(T.getD k i3z).op, t, (T.getD k i3z).to⟩) := by
  induction T generalizing k with
  | nil => simp at h
  | cons x T ih =>
    cases k with
    | zero => rfl
    | succ k =>
      have e : (k + 1) * 3 + 1 = (k * 3 + 1) + 1 + 1 + 1 := by omega
      rw [insCells_cons, e, List.set_cons_succ, List.set_cons_succ, List.set_cons_succ, ih k (by simpa using h)]
      rfl
theorem insCells_set2 (T : List I3) (k : Nat) (o : Int) (h : k < T.length) : (insCells T).set (k * 3 + 2) (.int .i64 o) = insCells (T.set k ⟨(T.getD k i3z).op, (T.getD k i3z).tx, o⟩) := by
  induction T generalizing k with
  | nil => simp at h
  | cons x T ih =>
    cases k with
    | zero => rfl
    | succ k =>
      have e : (k + 1) * 3 + 2 = (k * 3 + 2) + 1 + 1 + 1 := by omega
      rw [insCells_cons, e, List.set_cons_succ, List.set_cons_succ, List.set_cons_succ, ih k (by simpa using h)]
      rfl
theorem small_set {T : List I3} {k : Nat} {x : I3} (h : SmallT T) (hx : x.tx.size ≤ 4000) : SmallT (T.set k x) := by
  intro i
  by_cases e : k = i
  · subst e
    by_cases hk : k < T.length
    · have : (T.set k x).getD k i3z = x := by simp [List.getD, hk]
      rw [this]; exact hx
    · have : (T.set k x).getD k i3z = i3z := by simp [List.getD, List.getElem?_eq_none (show (T.set k x).length ≤ k by simp; omega)]
      rw [this]; exact Nat.zero_le _
  · have : (T.set k x).getD i i3z = T.getD i i3z := by simp [List.getD, e]
    rw [this]; exact h i
theorem ins_news {w : World} {T : List I3} {b off : Nat} (hc : ∀ i, i < T.length → w.cell? ⟨b, off + i * 3, none⟩ = some (.int .i64 (T.getD i i3z).op) ∧ w.cell? ⟨b, off + i * 3 + 1, none⟩ = some (.string (T.getD i i3z).tx) ∧ w.cell? ⟨b, off + i * 3 + 2, none⟩ = some (.int .i64 (T.getD i i3z).to)) : ∀ j u, (insCells T)[j]? = some u → w.cell? ((⟨b, off, none⟩ : Addr).add j) = some u := by
  intro j u hj
  have hl : j < T.length * 3 := by
    rcases Nat.lt_or_ge j (insCells T).length with h | h
    · rw [insCells_len] at h; exact h
    · rw [List.getElem?_eq_none h] at hj; cases hj
  have ha : (⟨b, off, none⟩ : Addr).add j = ⟨b, off + j, none⟩ := by unfold Addr.add; split <;> simp_all
  rw [ha]
  have hi : j / 3 < T.length := by omega
  obtain ⟨g1, g2, g3⟩ := insCells_get T (j / 3) hi
  obtain ⟨c1, c2, c3⟩ := hc (j / 3) hi
  have h3 : j % 3 < 3 := Nat.mod_lt _ (by omega)
  obtain h | h | h : j = j / 3 * 3 ∨ j = j / 3 * 3 + 1 ∨ j = j / 3 * 3 + 2 := by omega
  · rw [h] at hj; rw [g1] at hj; rw [h, c1, ← hj]
  · rw [h] at hj; rw [g2] at hj; rw [h, ← Nat.add_assoc, c2, ← hj]
  · rw [h] at hj; rw [g3] at hj; rw [h, ← Nat.add_assoc, c3, ← hj]
theorem ins_one (T : List I3) : ∀ u ∈ insCells T, u.oneCell' = true := by
  intro u hu
  unfold insCells at hu
  rw [List.mem_flatMap] at hu
  obtain ⟨x, _, hx⟩ := hu
  simp at hx
  rcases hx with rfl | rfl | rfl <;> rfl
/-- As IsTool, but it may be empty. -/
def IsTool0 (e : Ending) (w' : World) (n B : Nat) : Prop := ∃ (T : List I3) (a : Option Addr) (cap : Nat), e = .returned (.agg #[.slice a T.length cap]) ∧ InsFrom B w' a T ∧ T.length ≤ n ∧ SmallT T
/-- A tool in a variable; its code in a row of its own; the block of the result. -/
structure TC (u : World) (base R X : Nat) (v : Value) (is : List I3) : Prop where
  r : u.heap[R]? = some (.cells #[.slice none 0 0] 29 (0, 0))
  x : u.heap[X]? = some (.cells #[v] 29 (0, 0))
  own : u.ownsRow base 56 3 v is.length (insCells is)
  lt : R < base ∧ R ≠ X ∧ base ≤ u.heap.size
theorem own_ne29 {u : World} {base X : Nat} {v : Value} {n : Nat} {xs : List Value} {cs : Array Value} (h : u.ownsRow base 56 3 v n xs) (hx : u.heap[X]? = some (.cells cs 29 (0, 0))) : v.ownBlock ≠ some X := by
  rcases h.2 with ⟨rfl, _⟩ | ⟨g, cap, cur, rfl, _, hh, _⟩
  · intro e; cases e
  · intro e
    have e' : g = X := by injection e
    subst e'
    rw [hh] at hx
    injection hx with hx
    injection hx with _ hx
    cases hx
theorem TC.but {u u' : World} {q base R X : Nat} {v : Value} {is : List I3} (h : TC u base R X v is) (hk : But q u u') (hq : q < base) (hR : R ≠ q) (hX : X ≠ q) : TC u' base R X v is :=
  ⟨(hk.block R (blk_lt h.r) hR).trans h.r, (hk.block X (blk_lt h.x) hX).trans h.x, own_but h.own hk hq, h.lt.1, h.lt.2.1, Nat.le_trans h.lt.2.2 hk.size⟩
theorem TC.below {u u' : World} {base R X : Nat} {v : Value} {is : List I3} (h : TC u base R X v is) (hb : Below u.heap.size u u') : TC u' base R X v is :=
  ⟨(hb.block R (blk_lt h.r)).trans h.r, (hb.block X (blk_lt h.x)).trans h.x, ownsRow_below h.own hb, h.lt.1, h.lt.2.1, Nat.le_trans h.lt.2.2 hb.size⟩
theorem TC.cells {u : World} {base R X : Nat} {v : Value} {is : List I3} (h : TC u base R X v is) : u.cell? ⟨X, 0, none⟩ = some v ∧ u.frozen? ⟨X, 0, none⟩ = false ∧ u.cell? ⟨R, 0, none⟩ = some (.slice none 0 0) ∧ u.frozen? ⟨R, 0, none⟩ = false :=
  ⟨by rw [Lib.cell_of_heap h.x]; rfl, Lib.frozen_of_heap h.x 0, by rw [Lib.cell_of_heap h.r]; rfl, Lib.frozen_of_heap h.r 0⟩
/-- An instruction is written in its place. -/
theorem TC.put {u : World} {base R X g cp j : Nat} {c : Value} {is is' : List I3} (h : TC u base R X (.slice (some ⟨g, 0, none⟩) is.length cp) is) (hs : (insCells is).set j c = insCells is') (hl : is'.length = is.length) : TC (u.setCell ⟨g, j, none⟩ c) base R X (.slice (some ⟨g, 0, none⟩) is'.length cp) is' ∧ base ≤ g := by
  have hg := h.own.lt g rfl
  have hX : X ≠ g := fun e => own_ne29 h.own h.x (by rw [e]; rfl)
  refine ⟨⟨?_, ?_, ?_, h.lt.1, h.lt.2.1, by simpa using h.lt.2.2⟩, hg.1⟩
  · rw [heap_setCell_other _ ⟨g, j, none⟩ R _ (by show R ≠ g; have := h.lt.1; omega)]; exact h.r
  · rw [heap_setCell_other _ ⟨g, j, none⟩ X _ hX, hl]; exact h.x
  · have := (h.own.stored j c).1
    rw [hs] at this
    rw [hl]; exact this
theorem pk3 (x y z : Int) (r : Int) (h0 : 0 ≤ r) (h : r < 3) : ∃ v : Int, (#[Value.int .i64 x, .int .i64 y, .int .i64 z] : Array Value)[r.toNat]? = some (.int .i64 v) := by
  obtain rfl | rfl | rfl : r = 0 ∨ r = 1 ∨ r = 2 := by omega
  all_goals exact ⟨_, rfl⟩
theorem TC.row {u : World} {base R X g cp k : Nat} {is : List I3} (h : TC u base R X (.slice (some ⟨g, 0, none⟩) is.length cp) is) (hk : k < is.length) :
    (u.cell? ⟨g, k * 3, none⟩ = some (.int .i64 (is.getD k i3z).op) ∧ u.cell? ⟨g, k * 3 + 1, none⟩ = some (.string (is.getD k i3z).tx) ∧ u.cell? ⟨g, k * 3 + 2, none⟩ = some (.int .i64 (is.getD k i3z).to)) ∧ (u.frozen? ⟨g, k * 3, none⟩ = false ∧ u.frozen? ⟨g, k * 3 + 1, none⟩ = false ∧ u.frozen? ⟨g, k * 3 + 2, none⟩ = false) ∧ (¬ X = g ∧ ¬ g = X ∧ ¬ R = g ∧ ¬ g = R) ∧ base ≤ g := by
  obtain ⟨i0c, i1c, i2c⟩ := insCells_get is k hk
  have hXg : ¬ X = g := fun e => own_ne29 h.own h.x (by rw [e]; rfl)
  have hgb := (h.own.lt g rfl).1
  have hRb := h.lt.1
  exact ⟨⟨(h.own.cellAt (k * 3) (by omega)).trans i0c, (h.own.cellAt (k * 3 + 1) (by omega)).trans i1c, (h.own.cellAt (k * 3 + 2) (by omega)).trans i2c⟩, ⟨h.own.frozenAt _, h.own.frozenAt _, h.own.frozenAt _⟩, ⟨hXg, fun e => hXg e.symm, by omega, by omega⟩, hgb⟩
theorem own_setNe {w : World} {base X j : Nat} {e : TypeId} {size : Nat} {v y : Value} {n : Nat} {xs : List Value} (h : w.ownsRow base e size v n xs) (hv : v.ownBlock ≠ some X) : (w.setCell ⟨X, j, none⟩ y).ownsRow base e size v n xs := by
  obtain ⟨h1, h2⟩ := h
  refine ⟨h1, ?_⟩
  rcases h2 with h | ⟨g, cap, cur, rfl, hg, hh, hr⟩
  · exact .inl h
  · exact .inr ⟨g, cap, cur, rfl, hg, by rw [heap_setCell_other w ⟨X, j, none⟩ g y (fun e => hv (by show some g = some X; rw [e]))]; exact hh, hr⟩
theorem TC.app {u w6 : World} {base R X : Nat} {v v' : Value} {is : List I3} {x : I3} {o : Obj} (h : TC u base R X v is) (hown : w6.ownsRow base 56 3 v' (is.length + 1) (insCells is ++ [.int .i64 x.op, .string x.tx, .int .i64 x.to])) (hg : (u.alloc o).grownBy w6 v.ownBlock) : TC (w6.setCell ⟨X, 0, none⟩ v') base R X v' (is ++ [x]) ∧ w6.heap[X]? = some (.cells #[v] 29 (0, 0)) ∧ Below base u w6 := by
  have hb : Below base u w6 := ((Below.refl base u).alloc h.lt.2.2 o).grown hg (by simp; have := h.lt.2.2; omega) (fun k hk => (h.own.lt k hk).1)
  have hXu := blk_lt h.x
  have hX : w6.heap[X]? = some (.cells #[v] 29 (0, 0)) := by
    rw [hg.block X (by simp; omega) (fun e => own_ne29 h.own h.x e.symm), Below.heap_alloc _ _ _ hXu]; exact h.x
  refine ⟨⟨?_, ?_, ?_, h.lt.1, h.lt.2.1, by simpa using Nat.le_trans h.lt.2.2 hb.size⟩, hX, hb⟩
  · rw [heap_setCell_other _ ⟨X, 0, none⟩ R _ h.lt.2.1, hb.block R h.lt.1]; exact h.r
  · exact heap_setCell_same w6 X 0 _ 29 v' hX
  · rw [List.length_append, List.length_singleton, insCells_snoc]
    exact own_setNe hown (own_ne29 hown hX)
def lenX (X : Nat) (w : World) : Nat := match w.cell? ⟨X, 0, none⟩ with
  | some (.slice _ n _) => n
  | _ => 0
theorem lenX_TC {u : World} {base R X : Nat} {v : Value} {is : List I3} (h : TC u base R X v is) : lenX X u = is.length := by
  obtain ⟨a, c, rfl⟩ := row_form3 h.own
  unfold lenX
  rw [h.cells.1]
set_option maxHeartbeats 8000000 in
set_option maxRecDepth 100000 in
theorem c47 (q P : Nat) (a : Option Addr) (cap : Nat) (T : List I3) (w : World) (hp : P ≤ 80000) (hr : RdTo w q P) (hat : InsAt w a T) (h1 : 1 ≤ T.length) (h12 : T.length ≤ 12) (hsm : SmallT T) :
    Calls Tryd.prog 47 #[.pointer (some ⟨q, 0, none⟩), .agg #[.slice a T.length cap]] w fun e w' => IsTool0 e w' 42 w.heap.size ∧ RdTo w' q (P + 60) ∧ But q w w' := by
  have hqw := hr.lt
  have HR : Hid (RdTo w q P) := hr
  have HSM : Hid (SmallT T) := hsm
  obtain ⟨j0, hi, hz0, hz1, hz2⟩ := info_parts info56
  rcases hat with h0 | ⟨b, off, rfl, hb, hc⟩
  · rw [h0] at h1; simp at h1
  have hA3 : Below w.heap.size w (((w.alloc (.cells #[.slice (some ⟨b, off, none⟩) T.length cap] 29)).alloc (.cells #[.slice none 0 0] 29)).alloc (.cells #[] 56)) := (((Below.refl _ _).alloc (Nat.le_refl _) _).alloc (by simp) _).alloc (by simp; omega) _
  have HC : Hid (∀ j u, (insCells T)[j]? = some u → (((w.alloc (.cells #[.slice (some ⟨b, off, none⟩) T.length cap] 29)).alloc (.cells #[.slice none 0 0] 29)).alloc (.cells #[] 56)).cell? ((⟨b, off, none⟩ : Addr).add j) = some u) := fun j u hj => by
    have h := ins_news hc j u hj
    rw [hA3.cell (by unfold Addr.add; split <;> exact hb)]
    exact h
  have hownL : (((w.alloc (.cells #[.slice (some ⟨b, off, none⟩) T.length cap] 29)).alloc (.cells #[.slice none 0 0] 29)).alloc (.cells #[] 56)).ownsRow (w.heap.size + 2) 56 3 (.slice (some ⟨w.heap.size + 1 + 1, 0, none⟩) 0 0) 0 [] := by
    have h := World.ownsRow_lit (base := w.heap.size + 2) (e := 56) (size := 3) ((w.alloc (.cells #[.slice (some ⟨b, off, none⟩) T.length cap] 29)).alloc (.cells #[.slice none 0 0] 29)) #[] 0 (by simp) (Nat.zero_le _) rfl
    simp at h
    exact h
  have HRL : Hid ((((w.alloc (.cells #[.slice (some ⟨b, off, none⟩) T.length cap] 29)).alloc (.cells #[.slice none 0 0] 29)).alloc (.cells #[] 56)).heap[w.heap.size + 1]? = some (.cells #[.slice none 0 0] 29 (0, 0))) := by
    rw [Hid, Below.heap_alloc _ _ _ (by simp)]
    exact alloc_new (by simp) _
  have HA3 : Hid (Below w.heap.size w (((w.alloc (.cells #[.slice (some ⟨b, off, none⟩) T.length cap] 29)).alloc (.cells #[.slice none 0 0] 29)).alloc (.cells #[] 56))) := hA3
  have hil := insCells_len T
  clear hc hr hA3 hsm
  go_enter Tryd.func47, Tryd.ntmps47
  go_wp2_with (at_builtin; refine wpList_append_own _ rfl _ _ 27 rfl (w.heap.size + 2) 56 j0 (.agg #[.int .i64 0, .string ⟨#[]⟩, .int .i64 0]) 3 32 Tryd.underlying27 hi hz0 hz1 hz2 rfl (by decide) _ _ _ rfl hownL ⟨b, off, none⟩ T.length cap (insCells T) rfl hil HC.out (ins_one T) (by unfold maxLen; omega) (by omega) (by first | (simp; done) | (simp; omega)) ?_; intro v1 w1 hown1 hgrow1 _; have HB1 : Hid (Below (w.heap.size + 2) _ w1) := (Below.refl (w.heap.size + 2) _).grown hgrow1 (by first | (simp; done) | (simp; omega)) (fun k hk => (hownL.lt k hk).1); have hown1' : w1.ownsRow (w.heap.size + 2) 56 3 v1 T.length (insCells T) := (by have h := hown1; simp at h; exact h); obtain ⟨g1, cp1, hv1⟩ := own_formF hown1' (by omega); subst hv1; clear hgrow1 hown1)
  have hz1w : w.heap.size + 2 ≤ w1.heap.size := by have := HB1.out.size; simp at this; omega
  have hA1 : Below w1.heap.size w1 (w1.alloc (.cells #[.slice (some ⟨g1, 0, none⟩) T.length cp1] 29)) := (Below.refl _ _).alloc (Nat.le_refl _) _
  have HTC1 : Hid (TC (w1.alloc (.cells #[.slice (some ⟨g1, 0, none⟩) T.length cp1] 29)) (w.heap.size + 2) (w.heap.size + 1) w1.heap.size (.slice (some ⟨g1, 0, none⟩) T.length cp1) T) := ⟨by rw [Below.heap_alloc _ _ _ (by omega), HB1.out.block _ (by omega)]; exact HRL.out, alloc_new rfl _, ownsRow_below hown1' hA1, by omega, by omega, by simp; omega⟩
  have HBW1 : Hid (Below w.heap.size w w1) := HA3.out.trans (HB1.out.mono (by omega))
  have HR1 : Hid (RdTo (w1.alloc (.cells #[.slice (some ⟨g1, 0, none⟩) T.length cp1] 29)) q P) := (HR.out.later HBW1.out).later hA1
  have HBU1 : Hid (But q w (w1.alloc (.cells #[.slice (some ⟨g1, 0, none⟩) T.length cp1] 29))) := (But.of_below HBW1.out).later hA1
  have vx1 : (w1.alloc (.cells #[.slice (some ⟨g1, 0, none⟩) T.length cp1] 29)).cell? ⟨w1.heap.size, 0, none⟩ = some (.slice (some ⟨g1, 0, none⟩) T.length cp1) := HTC1.out.cells.1
  have hXq : w1.heap.size ≠ q := by omega
  have hqX : q < w1.heap.size := by omega
  have hXw : w.heap.size ≤ w1.heap.size := by omega
  clear HB1 HBW1 HRL HA3 HC hownL hown1' hA1 HR
  go_wp2_with fail
  generalize (w1.alloc (.cells #[.slice (some ⟨g1, 0, none⟩) T.length cp1] 29)) = W1 at *
  generalize w1.heap.size = X at *
  refine (pickT W1 q P T.length (by omega) (by omega) (by omega) HR1.out).mono ?_
  rintro e w2 ⟨⟨rk, rfl, rk0, rkn⟩, h2, ho2⟩
  obtain ⟨k, rfl⟩ := Int.eq_ofNat_of_zero_le rk0
  have hkT : k < T.length := by omega
  have H2 : Hid (RdTo w2 q (P + 1)) := h2
  have HTC2 : Hid (TC w2 (w.heap.size + 2) (w.heap.size + 1) X (.slice (some ⟨g1, 0, none⟩) T.length cp1) T) := HTC1.out.but ho2.but (by omega) (by omega) (by omega)
  have HB2 : Hid (But q w w2) := HBU1.out.trans ho2.but
  obtain ⟨x2, _, _, _⟩ := HTC2.out.cells
  clear h2 ho2 HTC1 HBU1 HR1 vx1
  go_wp2_with fail
  refine (pickT w2 q (P + 1) 6 (by omega) (by omega) (by omega) H2.out).mono ?_
  rintro e w3 ⟨⟨r3, rfl, r30, r36⟩, h3, ho3⟩
  have H3 : Hid (RdTo w3 q (P + 2)) := h3
  have HTC3 : Hid (TC w3 (w.heap.size + 2) (w.heap.size + 1) X (.slice (some ⟨g1, 0, none⟩) T.length cp1) T) := HTC2.out.but ho3.but (by omega) (by omega) (by omega)
  have HB3 : Hid (But q w w3) := HB2.out.trans ho3.but
  clear h3 ho3 HTC2 HB2 H2 x2
  obtain rfl | rfl | rfl | rfl | rfl | rfl : r3 = 0 ∨ r3 = 1 ∨ r3 = 2 ∨ r3 = 3 ∨ r3 = 4 ∨ r3 = 5 := by omega
  · have x3p := HTC3.out.cells.1
    have hXz : X < w3.heap.size := blk_lt HTC3.out.x
    have hq3 : q < w3.heap.size := H3.out.lt
    go_wp2_with fail
    go_region_with (go_at_call 46; refine (pickT _ q (P + 2) 3 (by omega) (by omega) (by omega) ?_).mono ?_; exact H3.out.later (by first | exact (Below.refl _ _).drew | exact ((Below.refl _ _).drew).alloc (Nat.le_refl _) _ | exact ((Below.refl _ _).alloc (Nat.le_refl _) _).drew); rintro e w4 ⟨⟨r4, rfl, r40, r43⟩, h4, ho4⟩; obtain ⟨zz, hzz⟩ := pk3 0 12 (-1) r4 r40 r43; have kz : ∀ u : World, (u.alloc (.cells #[.int .i64 0, .int .i64 12, .int .i64 (-1)] 3)).cell? ⟨u.heap.size, r4.toNat, none⟩ = some (.int .i64 zz) := (fun u => by rw [← hzz]; simp); have H4 : Hid (RdTo w4 q (P + 3)) := h4; have HTC4 : Hid (TC w4 (w.heap.size + 2) (w.heap.size + 1) X (.slice (some ⟨g1, 0, none⟩) T.length cp1) T) := (by first | exact HTC3.out.but ((But.of_below ((Below.refl _ _).drew)).trans ho4.but) (by omega) (by omega) hXq | exact HTC3.out.but ((But.of_below (((Below.refl _ _).drew).alloc (Nat.le_refl _) _)).trans ho4.but) (by omega) (by omega) hXq | exact HTC3.out.but ((But.of_below (((Below.refl _ _).alloc (Nat.le_refl _) _).drew)).trans ho4.but) (by omega) (by omega) hXq); have HB4 : Hid (But q w w4) := (by first | exact HB3.out.trans ((But.of_below ((Below.refl _ _).drew)).trans ho4.but) | exact HB3.out.trans ((But.of_below (((Below.refl _ _).drew).alloc (Nat.le_refl _) _)).trans ho4.but) | exact HB3.out.trans ((But.of_below (((Below.refl _ _).alloc (Nat.le_refl _) _).drew)).trans ho4.but)); obtain ⟨x4, f4, rc4, rf4⟩ := HTC4.out.cells; have hX4 : X < w4.heap.size := (blk_lt HTC4.out.x); have hR4 : w.heap.size + 1 < w4.heap.size := (blk_lt HTC4.out.r); obtain ⟨⟨r0, r1, r2⟩, ⟨fr0, fr1, fr2⟩, ⟨hXg, hgX, hRg, hgR⟩, hgb⟩ := HTC4.out.row hkT; have hg4 : g1 < w4.heap.size := (HTC4.out.own.lt g1 rfl).2; (try (have kw : w4.cell? ⟨w3.heap.size, r4.toNat, none⟩ = some (.int .i64 zz) := (ho4.cell (Nat.ne_of_gt hq3)).trans (kz w3))))
    all_goals first
      | (
          have HTCf : Hid (TC (w4.setCell ⟨g1, k * 3, none⟩ (.int .i64 zz)) (w.heap.size + 2) (w.heap.size + 1) X (.slice (some ⟨g1, 0, none⟩) (T.set k ⟨zz, (T.getD k i3z).tx, (T.getD k i3z).to⟩).length cp1) (T.set k ⟨zz, (T.getD k i3z).tx, (T.getD k i3z).to⟩)) := (HTC4.out.put (insCells_set0 T k _ hkT) (by simp)).1
          have HRf : Hid (RdTo (w4.setCell ⟨g1, k * 3, none⟩ (.int .i64 zz)) q (P + 60)) := rd_set1 (H4.out.mono (by omega)) (by omega) _ _
          have HBf : Hid (But q w (w4.setCell ⟨g1, k * 3, none⟩ (.int .i64 zz))) := but_set1 HB4.out (by omega) _ _
          have xf3 := HTCf.out.cells.2.2.1
          have HFf : Hid (InsFrom (w.heap.size + 2) (w4.setCell ⟨g1, k * 3, none⟩ (.int .i64 zz)) (some ⟨g1, 0, none⟩) (T.set k ⟨zz, (T.getD k i3z).tx, (T.getD k i3z).to⟩)) := by
            obtain ⟨af, cf, hvf, hff⟩ := own3_from HTCf.out.own
            injection hvf with z1 z2 z3
            rw [Hid, z1]; exact hff
          go_wp2
          have er := World.cell?_setCell_same (w4.setCell ⟨g1, k * 3, none⟩ (.int .i64 zz)) ⟨w.heap.size + 1, 0, none⟩ (.slice (some ⟨g1, 0, none⟩) T.length cp1) xf3
          refine bodyPost_ret (v := .agg #[.slice (some ⟨g1, 0, none⟩) T.length cp1]) (by simp [results, Tryd.results47, go_sem, er]) rfl ⟨⟨T.set k ⟨zz, (T.getD k i3z).tx, (T.getD k i3z).to⟩, some ⟨g1, 0, none⟩, cp1, by simp, ?_, by simp; omega, small_set HSM.out (HSM.out k)⟩, ?_, ?_⟩
          · exact ((HFf.out.set (by omega))).mono (by omega)
          · exact (rd_set1 HRf.out (by omega) _ _)
          · exact (but_set1 HBf.out (by omega) _ _))
      | (
          have HTCf : Hid (TC (w4.setCell ⟨g1, k * 3, none⟩ (.int .i64 zz)) (w.heap.size + 2) (w.heap.size + 1) X (.slice (some ⟨g1, 0, none⟩) (T.set k ⟨zz, (T.getD k i3z).tx, (T.getD k i3z).to⟩).length cp1) (T.set k ⟨zz, (T.getD k i3z).tx, (T.getD k i3z).to⟩)) := (HTC4.out.put (insCells_set0 T k _ hkT) (by simp)).1
          have HRf : Hid (RdTo (w4.setCell ⟨g1, k * 3, none⟩ (.int .i64 zz)) q (P + 60)) := rd_set1 (H4.out.mono (by omega)) (by omega) _ _
          have HBf : Hid (But q w (w4.setCell ⟨g1, k * 3, none⟩ (.int .i64 zz))) := but_set1 HB4.out (by omega) _ _
          have xf3 := HTCf.out.cells.2.2.1
          have HFf : Hid (InsFrom (w.heap.size + 2) (w4.setCell ⟨g1, k * 3, none⟩ (.int .i64 zz)) (some ⟨g1, 0, none⟩) (T.set k ⟨zz, (T.getD k i3z).tx, (T.getD k i3z).to⟩)) := by
            obtain ⟨af, cf, hvf, hff⟩ := own3_from HTCf.out.own
            injection hvf with z1 z2 z3
            rw [Hid, z1]; exact hff
          go_wp2
          have er := fun o => past0 (by simpa using hR4) (World.cell?_setCell_same (w4.setCell ⟨g1, k * 3, none⟩ (.int .i64 zz)) ⟨w.heap.size + 1, 0, none⟩ (.slice (some ⟨g1, 0, none⟩) T.length cp1) xf3) o
          refine bodyPost_ret (v := .agg #[.slice (some ⟨g1, 0, none⟩) T.length cp1]) (by simp [results, Tryd.results47, go_sem, er]) rfl ⟨⟨T.set k ⟨zz, (T.getD k i3z).tx, (T.getD k i3z).to⟩, some ⟨g1, 0, none⟩, cp1, by simp, ?_, by simp; omega, small_set HSM.out (HSM.out k)⟩, ?_, ?_⟩
          · exact ((HFf.out.set (by omega)).but (But.of_below (b := q) ((Below.refl _ _).alloc (Nat.le_refl _) _)) (by omega)).mono (by omega)
          · exact (rd_set1 HRf.out (by omega) _ _).later ((Below.refl _ _).alloc (Nat.le_refl _) _)
          · exact (but_set1 HBf.out (by omega) _ _).later ((Below.refl _ _).alloc (Nat.le_refl _) _))
  · have x3p := HTC3.out.cells.1
    have hXz : X < w3.heap.size := blk_lt HTC3.out.x
    have hq3 : q < w3.heap.size := H3.out.lt
    go_wp2_with fail
    go_region_with (first | (go_at_call 46; refine (pickT _ q (P + 2) 2 (by omega) (by omega) (by omega) ?_).mono ?_; exact H3.out.later (by first | exact (Below.refl _ _).drew | exact ((Below.refl _ _).drew).alloc (Nat.le_refl _) _ | exact ((Below.refl _ _).alloc (Nat.le_refl _) _).drew); rintro e w4 ⟨⟨r4, rfl, r40, r43⟩, h4, ho4⟩; obtain ⟨n4, rfl⟩ := Int.eq_ofNat_of_zero_le r40; have hn4 : n4 ≤ 1 := (by omega); have hw4 : IntKind.i64.wrap (300 + (n4 : Int)) = ((300 + n4 : Nat) : Int) := (by simp [IntKind.wrap, IntKind.signed, IntKind.bits]; omega); have H4 : Hid (RdTo w4 q (P + 3)) := h4; have HTC4 : Hid (TC w4 (w.heap.size + 2) (w.heap.size + 1) X (.slice (some ⟨g1, 0, none⟩) T.length cp1) T) := (by first | exact HTC3.out.but ((But.of_below ((Below.refl _ _).drew)).trans ho4.but) (by omega) (by omega) hXq | exact HTC3.out.but ((But.of_below (((Below.refl _ _).drew).alloc (Nat.le_refl _) _)).trans ho4.but) (by omega) (by omega) hXq | exact HTC3.out.but ((But.of_below (((Below.refl _ _).alloc (Nat.le_refl _) _).drew)).trans ho4.but) (by omega) (by omega) hXq); have HB4 : Hid (But q w w4) := (by first | exact HB3.out.trans ((But.of_below ((Below.refl _ _).drew)).trans ho4.but) | exact HB3.out.trans ((But.of_below (((Below.refl _ _).drew).alloc (Nat.le_refl _) _)).trans ho4.but) | exact HB3.out.trans ((But.of_below (((Below.refl _ _).alloc (Nat.le_refl _) _).drew)).trans ho4.but)); obtain ⟨x4, f4, rc4, rf4⟩ := HTC4.out.cells; have hX4 : X < w4.heap.size := (blk_lt HTC4.out.x); have hR4 : w.heap.size + 1 < w4.heap.size := (blk_lt HTC4.out.r); obtain ⟨⟨r0, r1, r2⟩, ⟨fr0, fr1, fr2⟩, ⟨hXg, hgX, hRg, hgR⟩, hgb⟩ := HTC4.out.row hkT; have hg4 : g1 < w4.heap.size := (HTC4.out.own.lt g1 rfl).2) | (go_at_call 49; refine (c49 ⟨#[116]⟩ (300 + n4) _ (by decide) (by omega)).mono ?_; rintro e w5 ⟨⟨s5, rfl, hs5⟩, hw5⟩; obtain rfl := hw5.symm))
    all_goals
      have HTCf : Hid (TC (w4.setCell ⟨g1, k * 3 + 1, none⟩ (.string s5)) (w.heap.size + 2) (w.heap.size + 1) X (.slice (some ⟨g1, 0, none⟩) (T.set k ⟨(T.getD k i3z).op, s5, (T.getD k i3z).to⟩).length cp1) (T.set k ⟨(T.getD k i3z).op, s5, (T.getD k i3z).to⟩)) := (HTC4.out.put (insCells_set1 T k _ hkT) (by simp)).1
      have HRf : Hid (RdTo (w4.setCell ⟨g1, k * 3 + 1, none⟩ (.string s5)) q (P + 60)) := rd_set1 (H4.out.mono (by omega)) (by omega) _ _
      have HBf : Hid (But q w (w4.setCell ⟨g1, k * 3 + 1, none⟩ (.string s5))) := but_set1 HB4.out (by omega) _ _
      have xf3 := HTCf.out.cells.2.2.1
      have HFf : Hid (InsFrom (w.heap.size + 2) (w4.setCell ⟨g1, k * 3 + 1, none⟩ (.string s5)) (some ⟨g1, 0, none⟩) (T.set k ⟨(T.getD k i3z).op, s5, (T.getD k i3z).to⟩)) := by
        obtain ⟨af, cf, hvf, hff⟩ := own3_from HTCf.out.own
        injection hvf with z1 z2 z3
        rw [Hid, z1]; exact hff
      go_wp2
      have er := World.cell?_setCell_same (w4.setCell ⟨g1, k * 3 + 1, none⟩ (.string s5)) ⟨w.heap.size + 1, 0, none⟩ (.slice (some ⟨g1, 0, none⟩) T.length cp1) xf3
      refine bodyPost_ret (v := .agg #[.slice (some ⟨g1, 0, none⟩) T.length cp1]) (by simp [results, Tryd.results47, go_sem, er]) rfl ⟨⟨T.set k ⟨(T.getD k i3z).op, s5, (T.getD k i3z).to⟩, some ⟨g1, 0, none⟩, cp1, by simp, ?_, by simp; omega, small_set HSM.out (by show s5.size ≤ 4000; omega)⟩, ?_, ?_⟩
      · exact ((HFf.out.set (by omega))).mono (by omega)
      · exact (rd_set1 HRf.out (by omega) _ _)
      · exact (but_set1 HBf.out (by omega) _ _)
  · have x3p := HTC3.out.cells.1
    have hXz : X < w3.heap.size := blk_lt HTC3.out.x
    have hq3 : q < w3.heap.size := H3.out.lt
    go_wp2_with fail
    go_region_with (go_at_call 46; refine (pickT _ q (P + 2) 3 (by omega) (by omega) (by omega) ?_).mono ?_; exact H3.out.later (by first | exact (Below.refl _ _).drew | exact ((Below.refl _ _).drew).alloc (Nat.le_refl _) _ | exact ((Below.refl _ _).alloc (Nat.le_refl _) _).drew); rintro e w4 ⟨⟨r4, rfl, r40, r43⟩, h4, ho4⟩; obtain ⟨zz, hzz⟩ := pk3 (-1) 40 41 r4 r40 r43; have kz : ∀ u : World, (u.alloc (.cells #[.int .i64 (-1), .int .i64 40, .int .i64 41] 3)).cell? ⟨u.heap.size, r4.toNat, none⟩ = some (.int .i64 zz) := (fun u => by rw [← hzz]; simp); have H4 : Hid (RdTo w4 q (P + 3)) := h4; have HTC4 : Hid (TC w4 (w.heap.size + 2) (w.heap.size + 1) X (.slice (some ⟨g1, 0, none⟩) T.length cp1) T) := (by first | exact HTC3.out.but ((But.of_below ((Below.refl _ _).drew)).trans ho4.but) (by omega) (by omega) hXq | exact HTC3.out.but ((But.of_below (((Below.refl _ _).drew).alloc (Nat.le_refl _) _)).trans ho4.but) (by omega) (by omega) hXq | exact HTC3.out.but ((But.of_below (((Below.refl _ _).alloc (Nat.le_refl _) _).drew)).trans ho4.but) (by omega) (by omega) hXq); have HB4 : Hid (But q w w4) := (by first | exact HB3.out.trans ((But.of_below ((Below.refl _ _).drew)).trans ho4.but) | exact HB3.out.trans ((But.of_below (((Below.refl _ _).drew).alloc (Nat.le_refl _) _)).trans ho4.but) | exact HB3.out.trans ((But.of_below (((Below.refl _ _).alloc (Nat.le_refl _) _).drew)).trans ho4.but)); obtain ⟨x4, f4, rc4, rf4⟩ := HTC4.out.cells; have hX4 : X < w4.heap.size := (blk_lt HTC4.out.x); have hR4 : w.heap.size + 1 < w4.heap.size := (blk_lt HTC4.out.r); obtain ⟨⟨r0, r1, r2⟩, ⟨fr0, fr1, fr2⟩, ⟨hXg, hgX, hRg, hgR⟩, hgb⟩ := HTC4.out.row hkT; have hg4 : g1 < w4.heap.size := (HTC4.out.own.lt g1 rfl).2; (try (have kw : w4.cell? ⟨w3.heap.size, r4.toNat, none⟩ = some (.int .i64 zz) := (ho4.cell (Nat.ne_of_gt hq3)).trans (kz w3))))
    all_goals first
      | (
          have HTCf : Hid (TC (w4.setCell ⟨g1, k * 3 + 2, none⟩ (.int .i64 zz)) (w.heap.size + 2) (w.heap.size + 1) X (.slice (some ⟨g1, 0, none⟩) (T.set k ⟨(T.getD k i3z).op, (T.getD k i3z).tx, zz⟩).length cp1) (T.set k ⟨(T.getD k i3z).op, (T.getD k i3z).tx, zz⟩)) := (HTC4.out.put (insCells_set2 T k _ hkT) (by simp)).1
          have HRf : Hid (RdTo (w4.setCell ⟨g1, k * 3 + 2, none⟩ (.int .i64 zz)) q (P + 60)) := rd_set1 (H4.out.mono (by omega)) (by omega) _ _
          have HBf : Hid (But q w (w4.setCell ⟨g1, k * 3 + 2, none⟩ (.int .i64 zz))) := but_set1 HB4.out (by omega) _ _
          have xf3 := HTCf.out.cells.2.2.1
          have HFf : Hid (InsFrom (w.heap.size + 2) (w4.setCell ⟨g1, k * 3 + 2, none⟩ (.int .i64 zz)) (some ⟨g1, 0, none⟩) (T.set k ⟨(T.getD k i3z).op, (T.getD k i3z).tx, zz⟩)) := by
            obtain ⟨af, cf, hvf, hff⟩ := own3_from HTCf.out.own
            injection hvf with z1 z2 z3
            rw [Hid, z1]; exact hff
          go_wp2
          have er := World.cell?_setCell_same (w4.setCell ⟨g1, k * 3 + 2, none⟩ (.int .i64 zz)) ⟨w.heap.size + 1, 0, none⟩ (.slice (some ⟨g1, 0, none⟩) T.length cp1) xf3
          refine bodyPost_ret (v := .agg #[.slice (some ⟨g1, 0, none⟩) T.length cp1]) (by simp [results, Tryd.results47, go_sem, er]) rfl ⟨⟨T.set k ⟨(T.getD k i3z).op, (T.getD k i3z).tx, zz⟩, some ⟨g1, 0, none⟩, cp1, by simp, ?_, by simp; omega, small_set HSM.out (HSM.out k)⟩, ?_, ?_⟩
          · exact ((HFf.out.set (by omega))).mono (by omega)
          · exact (rd_set1 HRf.out (by omega) _ _)
          · exact (but_set1 HBf.out (by omega) _ _))
      | (
          have HTCf : Hid (TC (w4.setCell ⟨g1, k * 3 + 2, none⟩ (.int .i64 zz)) (w.heap.size + 2) (w.heap.size + 1) X (.slice (some ⟨g1, 0, none⟩) (T.set k ⟨(T.getD k i3z).op, (T.getD k i3z).tx, zz⟩).length cp1) (T.set k ⟨(T.getD k i3z).op, (T.getD k i3z).tx, zz⟩)) := (HTC4.out.put (insCells_set2 T k _ hkT) (by simp)).1
          have HRf : Hid (RdTo (w4.setCell ⟨g1, k * 3 + 2, none⟩ (.int .i64 zz)) q (P + 60)) := rd_set1 (H4.out.mono (by omega)) (by omega) _ _
          have HBf : Hid (But q w (w4.setCell ⟨g1, k * 3 + 2, none⟩ (.int .i64 zz))) := but_set1 HB4.out (by omega) _ _
          have xf3 := HTCf.out.cells.2.2.1
          have HFf : Hid (InsFrom (w.heap.size + 2) (w4.setCell ⟨g1, k * 3 + 2, none⟩ (.int .i64 zz)) (some ⟨g1, 0, none⟩) (T.set k ⟨(T.getD k i3z).op, (T.getD k i3z).tx, zz⟩)) := by
            obtain ⟨af, cf, hvf, hff⟩ := own3_from HTCf.out.own
            injection hvf with z1 z2 z3
            rw [Hid, z1]; exact hff
          go_wp2
          have er := fun o => past0 (by simpa using hR4) (World.cell?_setCell_same (w4.setCell ⟨g1, k * 3 + 2, none⟩ (.int .i64 zz)) ⟨w.heap.size + 1, 0, none⟩ (.slice (some ⟨g1, 0, none⟩) T.length cp1) xf3) o
          refine bodyPost_ret (v := .agg #[.slice (some ⟨g1, 0, none⟩) T.length cp1]) (by simp [results, Tryd.results47, go_sem, er]) rfl ⟨⟨T.set k ⟨(T.getD k i3z).op, (T.getD k i3z).tx, zz⟩, some ⟨g1, 0, none⟩, cp1, by simp, ?_, by simp; omega, small_set HSM.out (HSM.out k)⟩, ?_, ?_⟩
          · exact ((HFf.out.set (by omega)).but (But.of_below (b := q) ((Below.refl _ _).alloc (Nat.le_refl _) _)) (by omega)).mono (by omega)
          · exact (rd_set1 HRf.out (by omega) _ _).later ((Below.refl _ _).alloc (Nat.le_refl _) _)
          · exact (but_set1 HBf.out (by omega) _ _).later ((Below.refl _ _).alloc (Nat.le_refl _) _))
  · have x3p := HTC3.out.cells.1
    have hXz : X < w3.heap.size := blk_lt HTC3.out.x
    go_wp2_with fail
    refine (pickT w3 q (P + 2) 2 (by omega) (by omega) (by omega) H3.out).mono ?_
    rintro e w4 ⟨⟨r4, rfl, r40, r42⟩, h4, ho4⟩
    obtain ⟨n4, rfl⟩ := Int.eq_ofNat_of_zero_le r40
    have H4 : Hid (RdTo w4 q (P + 3)) := h4
    have HTC4 : Hid (TC w4 (w.heap.size + 2) (w.heap.size + 1) X (.slice (some ⟨g1, 0, none⟩) T.length cp1) T) := HTC3.out.but ho4.but (by omega) (by omega) hXq
    have HB4 : Hid (But q w w4) := HB3.out.trans ho4.but
    clear h4 ho4 HTC3 HB3 H3 x3p hXz
    go_wp2_with fail
    go_loopw [70] (fun _ wr => ∃ (is : List I3) (v : Value), is.length ≤ 41 ∧ Hid (SmallT is) ∧ Hid (TC wr (w.heap.size + 2) (w.heap.size + 1) X v is) ∧ Hid (RdTo wr q (P + 3)) ∧ Hid (But q w wr)) (fun _ wr => 41 - lenX X wr)
    case atStart => exact ⟨T, _, by omega, HSM, HTC4, H4, HB4⟩
    case round =>
      clear HTC4 H4 HB4
      obtain ⟨is, v, hil2, hsmi, htc, hrd, hbu⟩ := hrel
      have hM0 : Hid (lenX X wr = is.length) := lenX_TC htc.out
      obtain ⟨xv, xvf, rcv, rfv⟩ := htc.out.cells
      have hXz : X < wr.heap.size := blk_lt htc.out.x
      have hRz : w.heap.size + 1 < wr.heap.size := blk_lt htc.out.r
      have hRX : ¬ w.heap.size + 1 = X := htc.out.lt.2.1
      have hXR : ¬ X = w.heap.size + 1 := fun e => hRX e.symm
      have hownr := htc.out.own
      have hbz := htc.out.lt.2.2
      obtain ⟨av, cv, hvv⟩ := row_form3 hownr
      subst hvv
      by_cases hgo : (is.length : Int) < 40 + (n4 : Int)
      · go_wp2_with fail
        go_region_law (first | (refine step_app rfl (.tmp 76) (.tmp 78) 27 rfl (w.heap.size + 2) 56 j0 (.agg #[.int .i64 0, .string ⟨#[]⟩, .int .i64 0]) 3 32 Tryd.underlying27 hi hz0 hz1 hz2 rfl (by decide) _ _ _ rfl (hown5.alloc _) ⟨w5.heap.size, 0, none⟩ 1 1 [_, _, _] rfl rfl (row3g rfl _ _ _ _) (by intro u hu; simp at hu; rcases hu with rfl | rfl | rfl <;> rfl) (by unfold maxLen; omega) (by omega) (by simp; omega) ?_; intro v' w6 hown6 hgrow; have hAP := HTC5.out.app (x := ⟨5, ⟨#[]⟩, 0⟩) hown6 hgrow; have d1 : w6.cell? ⟨X, 0, none⟩ = some (.slice av is.length cv) := (by rw [Lib.cell_of_heap hAP.2.1]; rfl); have f1 : w6.frozen? ⟨X, 0, none⟩ = false := Lib.frozen_of_heap hAP.2.1 0; have HAP : Hid (TC (w6.setCell ⟨X, 0, none⟩ v') (w.heap.size + 2) (w.heap.size + 1) X v' (is ++ [⟨5, ⟨#[]⟩, 0⟩])) := hAP.1; have HBL : Hid (Below (w.heap.size + 2) w5 w6) := hAP.2.2; obtain ⟨ao, cpo, hvf⟩ := row_form3 hown6; subst hvf; clear hgrow hAP hown6) | (go_simp; go_wp2_with (go_at_call 77; refine (c77 5 _).mono ?_; rintro e w5 ⟨rfl, hb5⟩; have HB35 : Hid (Below wr.heap.size wr w5) := (Below.refl _ _).drew.trans hb5; have HTC5 : Hid (TC w5 (w.heap.size + 2) (w.heap.size + 1) X (.slice av is.length cv) is) := htc.out.below HB35.out; have hown5 := HTC5.out.own; have hz5 : w.heap.size + 2 ≤ w5.heap.size := HTC5.out.lt.2.2; have vc5 := HTC5.out.cells.1; have hX5 : X < w5.heap.size := (blk_lt HTC5.out.x); clear hb5)))
        all_goals
          go_wp2
          go_roundw
          case rel =>
            refine ⟨is ++ [⟨5, ⟨#[]⟩, 0⟩], _, by simp; omega, small_snocT hsmi.out (by show (⟨#[]⟩ : ByteArray).size ≤ 4000; decide), HAP, ?_, ?_⟩
            · exact rd_set1 ((hrd.out.later HB35.out).laterB HBL.out (by omega)) hqX _ _
            · exact but_set1 ((hbu.out.later HB35.out).laterB HBL.out (by omega)) hXw _ _
          case measure =>
            rw [hM0.out, lenX_TC HAP.out]
            simp; omega
      · obtain ⟨af, cf, hvf, hff⟩ := own3_from hownr
        injection hvf with z1 z2 z3
        subst z1
        subst z3
        have HFf : Hid (InsFrom (w.heap.size + 2) wr av is) := hff
        clear hff
        go_wp2
        have er := World.cell?_setCell_same wr ⟨w.heap.size + 1, 0, none⟩ (.slice av is.length cv) rcv
        refine bodyPost_ret (v := .agg #[.slice av is.length cv]) (by simp [results, Tryd.results47, go_sem, er]) rfl ⟨⟨is, av, cv, rfl, (HFf.out.set (by omega)).mono (by omega), by omega, hsmi.out⟩, ?_, ?_⟩
        · exact rd_set1 (hrd.out.mono (by omega)) (by omega) _ _
        · exact but_set1 hbu.out (by omega) _ _
  · obtain ⟨x3, f3, rc3, rf3⟩ := HTC3.out.cells
    have hRX : ¬ w.heap.size + 1 = X := HTC3.out.lt.2.1
    have hXR : ¬ X = w.heap.size + 1 := fun e => hRX e.symm
    have hXz : X < w3.heap.size := blk_lt HTC3.out.x
    have hRz : w.heap.size + 1 < w3.heap.size := blk_lt HTC3.out.r
    go_wp2
    have rc4 : (w3.setCell ⟨X, 0, none⟩ (.slice (some ⟨w3.heap.size, 0, none⟩) 0 0)).cell? ⟨w.heap.size + 1, 0, none⟩ = some (.slice none 0 0) := by rw [World.cell?_setCell_other _ _ _ _ (fun e => hXR (by injection e))]; exact rc3
    have er := fun o => past0 (by simpa using hRz) (World.cell?_setCell_same _ ⟨w.heap.size + 1, 0, none⟩ (.slice (some ⟨w3.heap.size, 0, none⟩) 0 0) rc4) o
    refine bodyPost_ret (v := .agg #[.slice (some ⟨w3.heap.size, 0, none⟩) 0 0]) (by simp [results, Tryd.results47, go_sem, er]) rfl ⟨⟨[], some ⟨w3.heap.size, 0, none⟩, 0, rfl, .inl rfl, by simp, small_lit rfl⟩, ?_, ?_⟩
    · exact (rd_set1 (rd_set1 (H3.out.mono (by omega)) hqX _ _) (by omega) _ _).later ((Below.refl _ _).alloc (Nat.le_refl _) _)
    · exact (but_set1 (but_set1 HB3.out hXw _ _) (by omega) _ _).later ((Below.refl _ _).alloc (Nat.le_refl _) _)
  · obtain ⟨i0c, i1c, i2c⟩ := insCells_get T k hkT
    have r0 := (HTC3.out.own.cellAt (k * 3) (by omega)).trans i0c
    have r1 := (HTC3.out.own.cellAt (k * 3 + 1) (by omega)).trans i1c
    have r2 := (HTC3.out.own.cellAt (k * 3 + 2) (by omega)).trans i2c
    have fr0 := HTC3.out.own.frozenAt (k * 3)
    have fr1 := HTC3.out.own.frozenAt (k * 3 + 1)
    have fr2 := HTC3.out.own.frozenAt (k * 3 + 2)
    have hXg : ¬ X = g1 := fun e => own_ne29 HTC3.out.own HTC3.out.x (by rw [e]; rfl)
    have hgX : ¬ g1 = X := fun e => hXg e.symm
    have hgb : w.heap.size + 2 ≤ g1 := (HTC3.out.own.lt g1 rfl).1
    have hRg : ¬ w.heap.size + 1 = g1 := by omega
    have hgR : ¬ g1 = w.heap.size + 1 := by omega
    obtain ⟨x3, f3, rc3, rf3⟩ := HTC3.out.cells
    have hRX : ¬ w.heap.size + 1 = X := HTC3.out.lt.2.1
    have hXR : ¬ X = w.heap.size + 1 := fun e => hRX e.symm
    clear i0c i1c i2c
    have HTCf : Hid (TC (w3.setCell ⟨g1, k * 3 + 1, none⟩ (.string ⟨#[120]⟩)) (w.heap.size + 2) (w.heap.size + 1) X (.slice (some ⟨g1, 0, none⟩) (T.set k ⟨(T.getD k i3z).op, ⟨#[120]⟩, (T.getD k i3z).to⟩).length cp1) (T.set k ⟨(T.getD k i3z).op, ⟨#[120]⟩, (T.getD k i3z).to⟩)) := (HTC3.out.put (insCells_set1 T k _ hkT) (by simp)).1
    have HRf : Hid (RdTo (w3.setCell ⟨g1, k * 3 + 1, none⟩ (.string ⟨#[120]⟩)) q (P + 60)) := rd_set1 (H3.out.mono (by omega)) (by omega) _ _
    have HBf : Hid (But q w (w3.setCell ⟨g1, k * 3 + 1, none⟩ (.string ⟨#[120]⟩))) := but_set1 (HB3.out) (by omega) _ _
    have xf3 := HTCf.out.cells.2.2.1
    have HFf : Hid (InsFrom (w.heap.size + 2) (w3.setCell ⟨g1, k * 3 + 1, none⟩ (.string ⟨#[120]⟩)) (some ⟨g1, 0, none⟩) (T.set k ⟨(T.getD k i3z).op, ⟨#[120]⟩, (T.getD k i3z).to⟩)) := by
      obtain ⟨af, cf, hvf, hff⟩ := own3_from HTCf.out.own
      injection hvf with z1 z2 z3
      rw [Hid, z1]; exact hff
    go_wp2
    have er := World.cell?_setCell_same (w3.setCell ⟨g1, k * 3 + 1, none⟩ (.string ⟨#[120]⟩)) ⟨w.heap.size + 1, 0, none⟩ (.slice (some ⟨g1, 0, none⟩) T.length cp1) xf3
    refine bodyPost_ret (v := .agg #[.slice (some ⟨g1, 0, none⟩) T.length cp1]) (by simp [results, Tryd.results47, go_sem, er]) rfl ⟨⟨T.set k ⟨(T.getD k i3z).op, ⟨#[120]⟩, (T.getD k i3z).to⟩, some ⟨g1, 0, none⟩, cp1, by simp, (HFf.out.set (by omega)).mono (by omega), by simp; omega, small_set HSM.out (by show ByteArray.size ⟨#[120]⟩ ≤ 4000; decide)⟩, ?_, ?_⟩
    · exact rd_set1 HRf.out (by omega) _ _
    · exact but_set1 HBf.out (by omega) _ _
end Go.Proofs.YtignmnbgedmfbaaDoor

import Derived.Test.YtignmnbgedmfbaaDoorDC
import Derived.Test.YtignmnbgedmfbaaDoorDD
import Derived.Test.YtignmnbgedmfbaaDoorRJ
import Derived.Test.YtignmnbgedmfbaaDoorRH
namespace Go.Proofs.YtignmnbgedmfbaaDoor
open Go.RowKit
/-- A tool in a variable, its code in a row of its own; and the block of the result. -/
structure TB (u : World) (base R X : Nat) (v : Value) (is : List I3) : Prop where
  r : u.heap[R]? = some (.cells #[.slice none 0 0] 29 (0, 0))
  x : u.heap[X]? = some (.cells #[v] 29 (0, 0))
  own : u.ownsRow base 56 3 v is.length (insCells is)
  lt : R < base ∧ X < base ∧ base ≤ u.heap.size ∧ R ≠ X
theorem own_but {u u' : World} {q base : Nat} {e : TypeId} {size : Nat} {v : Value} {n : Nat} {xs : List Value} (h : u.ownsRow base e size v n xs) (hk : But q u u') (hq : q < base) : u'.ownsRow base e size v n xs := by
  obtain ⟨h1, h2⟩ := h
  refine ⟨h1, ?_⟩
  rcases h2 with h | ⟨g, cap, cur, hv, hg, hh, hr⟩
  · exact .inl h
  · exact .inr ⟨g, cap, cur, hv, hg, by rw [hk.block g (blk_lt hh) (by omega)]; exact hh, hr⟩
theorem TB.but {u u' : World} {q base R X : Nat} {v : Value} {is : List I3} (h : TB u base R X v is) (hk : But q u u') (hq : q < base) (hR : R ≠ q) (hX : X ≠ q) : TB u' base R X v is := by
  obtain ⟨r, x, o, l1, l2, l3, l4⟩ := h
  exact ⟨by rw [hk.block R (by omega) hR]; exact r, by rw [hk.block X (by omega) hX]; exact x, own_but o hk hq, l1, l2, Nat.le_trans l3 hk.size, l4⟩
theorem TB.below {u u' : World} {base R X : Nat} {v : Value} {is : List I3} (h : TB u base R X v is) (hb : Below u.heap.size u u') : TB u' base R X v is := by
  obtain ⟨r, x, o, l1, l2, l3, l4⟩ := h
  exact ⟨by rw [hb.block R (by omega)]; exact r, by rw [hb.block X (by omega)]; exact x, ownsRow_below o hb, l1, l2, Nat.le_trans l3 hb.size, l4⟩
theorem TB.cells {u : World} {base R X : Nat} {v : Value} {is : List I3} (h : TB u base R X v is) : u.cell? ⟨X, 0, none⟩ = some v ∧ u.frozen? ⟨X, 0, none⟩ = false ∧ u.cell? ⟨R, 0, none⟩ = some (.slice none 0 0) ∧ u.frozen? ⟨R, 0, none⟩ = false :=
  ⟨by rw [Lib.cell_of_heap h.x]; rfl, Lib.frozen_of_heap h.x 0, by rw [Lib.cell_of_heap h.r]; rfl, Lib.frozen_of_heap h.r 0⟩
def ints16 : Array Value := #[.int .i64 0, .int .i64 0, .int .i64 0, .int .i64 1, .int .i64 1, .int .i64 2, .int .i64 3, .int .i64 4, .int .i64 5, .int .i64 6, .int .i64 7, .int .i64 8, .int .i64 4, .int .i64 3, .int .i64 1, .int .i64 0]
theorem pk16 (r : Int) (h0 : 0 ≤ r) (h : r < 16) : ∃ z : Int, ints16[r.toNat]? = some (.int .i64 z) := by
  obtain rfl | rfl | rfl | rfl | rfl | rfl | rfl | rfl | rfl | rfl | rfl | rfl | rfl | rfl | rfl | rfl : r = 0 ∨ r = 1 ∨ r = 2 ∨ r = 3 ∨ r = 4 ∨ r = 5 ∨ r = 6 ∨ r = 7 ∨ r = 8 ∨ r = 9 ∨ r = 10 ∨ r = 11 ∨ r = 12 ∨ r = 13 ∨ r = 14 ∨ r = 15 := by omega
  all_goals exact ⟨_, rfl⟩
def ints14 : Array Value := #[.int .i64 1, .int .i64 2, .int .i64 3, .int .i64 4, .int .i64 5, .int .i64 6, .int .i64 7, .int .i64 8, .int .i64 9, .int .i64 10, .int .i64 11, .int .i64 2, .int .i64 3, .int .i64 5]
theorem pk14 (r : Int) (h0 : 0 ≤ r) (h : r < 14) : ∃ z : Int, ints14[r.toNat]? = some (.int .i64 z) := by
  obtain rfl | rfl | rfl | rfl | rfl | rfl | rfl | rfl | rfl | rfl | rfl | rfl | rfl | rfl : r = 0 ∨ r = 1 ∨ r = 2 ∨ r = 3 ∨ r = 4 ∨ r = 5 ∨ r = 6 ∨ r = 7 ∨ r = 8 ∨ r = 9 ∨ r = 10 ∨ r = 11 ∨ r = 12 ∨ r = 13 := by omega
  all_goals exact ⟨_, rfl⟩
theorem but_set1 {q B : Nat} {w u : World} (h : But q w u) (hB : w.heap.size ≤ B) (j : Nat) (v0 : Value) : But q w (u.setCell ⟨B, j, none⟩ v0) :=
  ⟨h.os, h.tape, h.output, by simpa using h.size, fun k hk hne => by
    rw [heap_setCell_other _ ⟨B, j, none⟩ k _ (by show k ≠ B; omega)]
    exact h.block k hk hne⟩
theorem rd_set1 {q P B : Nat} {u : World} (h : RdTo u q P) (hB : q < B) (j : Nat) (v0 : Value) : RdTo (u.setCell ⟨B, j, none⟩ v0) q P := by
  obtain ⟨p, hp, hr⟩ := h
  exact ⟨p, hp, hr.later (B := B) ((Below.refl B u).setCell (by exact Nat.le_refl _) _) hB⟩

theorem small_snocG {is : List I3} {x : I3} {N : Nat} (h : ∀ j, (is.getD j i3z).tx.size ≤ N) (hx : x.tx.size ≤ N) (j : Nat) : ((is ++ [x]).getD j i3z).tx.size ≤ N := by
  rcases Nat.lt_trichotomy j is.length with hj | hj | hj
  · have : (is ++ [x]).getD j i3z = is.getD j i3z := by simp [List.getD, List.getElem?_append_left hj]
    rw [this]; exact h j
  · subst hj
    have : (is ++ [x]).getD is.length i3z = x := by simp [List.getD]
    rw [this]; exact hx
  · have : (is ++ [x]).getD j i3z = i3z := by simp [List.getD, List.getElem?_eq_none (show (is ++ [x]).length ≤ j by simp; omega)]
    rw [this]; exact Nat.zero_le _
theorem RdTo.laterB {u u' : World} {q P B : Nat} (h : RdTo u q P) (hb : Below B u u') (hq : q < B) : RdTo u' q P := by
  obtain ⟨p, h1, h2⟩ := h
  exact ⟨p, h1, h2.later hb hq⟩
theorem But.laterB {q B : Nat} {w u u' : World} (h : But q w u) (hb : Below B u u') (hB : w.heap.size ≤ B) : But q w u' :=
  ⟨hb.os.trans h.os, hb.tape.trans h.tape, hb.output.trans h.output, Nat.le_trans h.size hb.size, fun k hk hne => (hb.block k (by omega)).trans (h.block k hk hne)⟩
/-- A variable that holds an instruction. -/
def XI (u : World) (Xi : Nat) (z : Int) (t : ByteArray) (o : Int) : Prop := u.heap[Xi]? = some (.cells #[.int .i64 z, .string t, .int .i64 o] 56 (0, 0))
theorem XI.cells {u : World} {Xi : Nat} {z : Int} {t : ByteArray} {o : Int} (h : XI u Xi z t o) : (u.cell? ⟨Xi, 0, none⟩ = some (.int .i64 z) ∧ u.cell? ⟨Xi, 1, none⟩ = some (.string t) ∧ u.cell? ⟨Xi, 2, none⟩ = some (.int .i64 o)) ∧ u.frozen? ⟨Xi, 1, none⟩ = false ∧ u.frozen? ⟨Xi, 2, none⟩ = false :=
  ⟨⟨by rw [Lib.cell_of_heap h]; rfl, by rw [Lib.cell_of_heap h]; rfl, by rw [Lib.cell_of_heap h]; rfl⟩, Lib.frozen_of_heap h 1, Lib.frozen_of_heap h 2⟩
theorem XI.but {u u' : World} {q Xi : Nat} {z : Int} {t : ByteArray} {o : Int} (h : XI u Xi z t o) (hk : But q u u') (hX : Xi ≠ q) : XI u' Xi z t o := (hk.block Xi (blk_lt h) hX).trans h
theorem XI.set1 {u : World} {Xi : Nat} {z : Int} {t t' : ByteArray} {o : Int} (h : XI u Xi z t o) : XI (u.setCell ⟨Xi, 1, none⟩ (.string t')) Xi z t' o := heap_setCell_same u Xi 1 _ 56 _ h
theorem XI.set2 {u : World} {Xi : Nat} {z : Int} {t : ByteArray} {o o' : Int} (h : XI u Xi z t o) : XI (u.setCell ⟨Xi, 2, none⟩ (.int .i64 o')) Xi z t o' := heap_setCell_same u Xi 2 _ 56 _ h
theorem TB.setX {u : World} {base R X Xi j : Nat} {v v0 : Value} {is : List I3} (h : TB u base R X v is) (hR : R ≠ Xi) (hX : X ≠ Xi) (hv : ∀ g, v.ownBlock = some g → g ≠ Xi) : TB (u.setCell ⟨Xi, j, none⟩ v0) base R X v is := by
  obtain ⟨r, x, o, l⟩ := h
  refine ⟨by rw [heap_setCell_other _ ⟨Xi, j, none⟩ R _ hR]; exact r, by rw [heap_setCell_other _ ⟨Xi, j, none⟩ X _ hX]; exact x, ?_, by simpa using l⟩
  have o' := o
  obtain ⟨h1, h2⟩ := o
  refine ⟨h1, ?_⟩
  rcases h2 with h | ⟨g, cap, cur, rfl, hg, hh, hr⟩
  · exact .inl h
  · exact .inr ⟨g, cap, cur, rfl, hg, by rw [heap_setCell_other _ ⟨Xi, j, none⟩ g _ (hv g rfl)]; exact hh, hr⟩
/-- One instruction more. -/
theorem TB.app {u w6 : World} {base R X : Nat} {v v' : Value} {is : List I3} {x : I3} {o : Obj} (h : TB u base R X v is) (hown : w6.ownsRow base 56 3 v' (is.length + 1) (insCells is ++ [.int .i64 x.op, .string x.tx, .int .i64 x.to])) (hg : (u.alloc o).grownBy w6 v.ownBlock) : TB (w6.setCell ⟨X, 0, none⟩ v') base R X v' (is ++ [x]) ∧ w6.heap[X]? = some (.cells #[v] 29 (0, 0)) ∧ Below base u w6 := by
  obtain ⟨r, xx, ow, l1, l2, l3, l4⟩ := h
  have hb : Below base u w6 := ((Below.refl base u).alloc l3 o).grown hg (by simp; omega) (fun k hk => (ow.lt k hk).1)
  have hX : w6.heap[X]? = some (.cells #[v] 29 (0, 0)) := (hb.block X l2).trans xx
  refine ⟨⟨?_, ?_, ?_, l1, l2, by simpa using Nat.le_trans l3 hb.size, l4⟩, hX, hb⟩
  · rw [heap_setCell_other _ ⟨X, 0, none⟩ R _ l4, hb.block R l1]; exact r
  · exact heap_setCell_same w6 X 0 _ 29 v' hX
  · rw [List.length_append, List.length_singleton, insCells_snoc]
    exact own_set hown l2
theorem small_snocT {is : List I3} {x : I3} (h : SmallT is) (hx : x.tx.size ≤ 4000) : SmallT (is ++ [x]) := small_snocG h hx
theorem own3_from {w : World} {base : Nat} {v : Value} {is : List I3} (h : w.ownsRow base 56 3 v is.length (insCells is)) : ∃ a cap, v = .slice a is.length cap ∧ InsFrom base w a is := by
  obtain ⟨a, cap, rfl, hat⟩ := own3_form h
  refine ⟨a, cap, rfl, ?_⟩
  rcases hat with h0 | ⟨b, off, rfl, hlt, hc⟩
  · exact .inl h0
  · exact .inr ⟨b, off, rfl, (h.lt b rfl).1, hlt, hc⟩
set_option maxHeartbeats 16000000 in
set_option maxRecDepth 100000 in
theorem c45 (q P : Nat) (w : World) (hp : P ≤ 80000) (hr : RdTo w q P) :
    Calls Tryd.prog 45 #[.pointer (some ⟨q, 0, none⟩)] w fun e w' => IsTool e w' 12 w.heap.size ∧ RdTo w' q (P + 60) ∧ But q w w' := by
  have hqw := hr.lt
  have hA0 : Below w.heap.size w (w.alloc (.cells #[.slice none 0 0] 29)) := (Below.refl _ _).alloc (Nat.le_refl _) _
  have HR : Hid (RdTo (w.alloc (.cells #[.slice none 0 0] 29)) q P) := hr.later hA0
  clear hr
  go_enter Tryd.func45, Tryd.ntmps45
  go_wp2_with fail
  refine (pickT (w.alloc (.cells #[.slice none 0 0] 29)) q P 4 (by omega) (by omega) (by omega) HR.out).mono ?_
  rintro e w1 ⟨⟨r1, rfl, r10, r14⟩, h1, ho1⟩
  have H1 : Hid (RdTo w1 q (P + 1)) := h1
  have hs1 : w1.heap.size = w.heap.size + 1 := by rw [ho1.size]; simp
  have hz1 : w.heap.size + 1 ≤ w1.heap.size := by omega
  have HT1 : Hid (w1.heap[w.heap.size]? = some (.cells #[.slice none 0 0] 29 (0, 0))) := (ho1.block _ (by omega)).trans (alloc_new rfl _)
  have HB1 : Hid (But q w w1) := (But.of_below hA0).trans ho1.but
  clear h1 ho1 HR hs1
  by_cases hgo : 0 < r1
  · have hA1 : Below w1.heap.size w1 (w1.alloc (.cells ints16 3)) := (Below.refl _ _).alloc (Nat.le_refl _) _
    have hq1 : q < w1.heap.size := H1.out.lt
    go_wp2_with fail
    refine (pickT (w1.alloc (.cells ints16 3)) q (P + 1) 16 (by omega) (by omega) (by omega) (H1.out.later hA1)).mono ?_
    rintro e w2 ⟨⟨r2, rfl, r20, r216⟩, h2, ho2⟩
    obtain ⟨z, hz⟩ := pk16 r2 r20 r216
    have k2 : w2.cell? ⟨w1.heap.size, r2.toNat, none⟩ = some (.int .i64 z) := by rw [ho2.cell (by show w1.heap.size ≠ q; omega), ← hz]; simp
    have H2 : Hid (RdTo w2 q (P + 2)) := h2
    have HB2 : Hid (But q w w2) := (HB1.out.later hA1).trans ho2.but
    have HT2 : Hid (w2.heap[w.heap.size]? = some (.cells #[.slice none 0 0] 29 (0, 0))) := by
      rw [Hid, ho2.block _ (by omega), Below.heap_alloc _ _ _ (by omega)]; exact HT1.out
    clear h2 ho2 HB1 HT1 H1 hz hA1
    go_wp2_with fail
    refine (c76 z w2).mono ?_
    rintro e w3 ⟨⟨T, a, cap, rfl, hT, hTl, hTs⟩, hb3⟩
    have hz2 : w.heap.size < w2.heap.size := blk_lt HT2.out
    have HT3 : Hid (w3.heap[w.heap.size]? = some (.cells #[.slice none 0 0] 29 (0, 0))) := by rw [Hid, hb3.block _ hz2]; exact HT2.out
    have c3 : w3.cell? ⟨w.heap.size, 0, none⟩ = some (.slice none 0 0) := by rw [Lib.cell_of_heap HT3.out]; rfl
    have f3 : w3.frozen? ⟨w.heap.size, 0, none⟩ = false := Lib.frozen_of_heap HT3.out 0
    have H3 : Hid (RdTo w3 q (P + 2)) := H2.out.later hb3
    have HB3 : Hid (But q w w3) := HB2.out.later hb3
    have HI3 : Hid (InsFrom w.heap.size (w3.setCell ⟨w.heap.size, 0, none⟩ (.slice a T.length cap)) a T) := (hT.set hz2).mono (by omega)
    clear hb3 HB2 H2 HT2
    go_wp2
    have er := World.cell?_setCell_same w3 ⟨w.heap.size, 0, none⟩ (.slice a T.length cap) c3
    refine bodyPost_ret (v := .agg #[.slice a T.length cap]) (by simp [results, Tryd.results45, go_sem, er]) rfl ⟨⟨T, a, cap, rfl, HI3.out, ⟨hTl.1, by omega⟩, hTs⟩, ?_, ?_⟩
    · exact (rd_set1 (H3.out.mono (by omega)) hqw _ _)
    · exact but_set1 HB3.out (Nat.le_refl _) _ _
  · obtain rfl : r1 = 0 := by omega
    have hA1 : Below w1.heap.size w1 (w1.alloc (.cells #[.slice none 0 0] 29)) := (Below.refl _ _).alloc (Nat.le_refl _) _
    have hq1 : q < w1.heap.size := H1.out.lt
    have HTB1 : Hid (TB (w1.alloc (.cells #[.slice none 0 0] 29)) (w1.heap.size + 1) w.heap.size w1.heap.size (.slice none 0 0) []) := ⟨by rw [Below.heap_alloc _ _ _ (by omega)]; exact HT1.out, alloc_new rfl _, World.ownsRow_nil _ _ _ _, by omega, by omega, by simp, by omega⟩
    go_wp2_with fail
    refine (pickT (w1.alloc (.cells #[.slice none 0 0] 29)) q (P + 1) 10 (by omega) (by omega) (by omega) (H1.out.later hA1)).mono ?_
    rintro e w2 ⟨⟨r2, rfl, r20, r210⟩, h2, ho2⟩
    have H2 : Hid (RdTo w2 q (P + 2)) := h2
    have HB2 : Hid (But q w w2) := (HB1.out.later hA1).trans ho2.but
    have HTB2 : Hid (TB w2 (w1.heap.size + 1) w.heap.size w1.heap.size (.slice none 0 0) []) := HTB1.out.but ho2.but (by omega) (by omega) (by omega)
    clear h2 ho2 HTB1 hA1 HB1 HT1 H1
    generalize hX : w1.heap.size = X at *
    clear hX
    obtain ⟨n2, rfl⟩ := Int.eq_ofNat_of_zero_le r20
    go_wp2_with fail
    go_loopw [4] (fun i wr => ∃ (k : Nat) (is : List I3) (v : Value), i = .int .i64 k ∧ (1 ≤ k + is.length ∧ k + is.length ≤ 10) ∧ Hid (SmallT is) ∧ Hid (TB wr (X + 1) w.heap.size X v is) ∧ Hid (RdTo wr q (P + 2 + 4 * is.length)) ∧ Hid (But q w wr)) (fun i _ => (intOf i).toNat)
    case atStart => exact ⟨1 + n2, [], .slice none 0 0, by simp, ⟨by simp, by simp; omega⟩, small_lit rfl, HTB2, H2, HB2⟩
    case round =>
      clear HTB2 H2 HB2
      obtain ⟨k, is, v, rfl, hk, hsm, htb, hrd, hbu⟩ := hrel
      have hzr := htb.out.lt.2.2.1
      by_cases hk0 : k = 0
      · subst hk0
        go_wp2_with fail
        refine (pickT wr q (P + 2 + 4 * is.length) 3 (by omega) (by omega) (by omega) hrd.out).mono ?_
        rintro e w3 ⟨⟨r3, rfl, r30, r33⟩, h3, ho3⟩
        have H3 : Hid (RdTo w3 q (P + 2 + 4 * is.length + 1)) := h3
        have HB3 : Hid (But q w w3) := hbu.out.trans ho3.but
        have HTB3 : Hid (TB w3 (X + 1) w.heap.size X v is) := htb.out.but ho3.but (by omega) (by omega) (by omega)
        have hz3 := HTB3.out.lt.2.2.1
        clear h3 ho3 htb hrd hbu
        by_cases hr3 : 0 < r3
        · obtain ⟨j0, hi, hz0, hz1, hz2⟩ := info_parts info56
          obtain ⟨vc, vf, rc, rf⟩ := HTB3.out.cells
          have hR3 : w.heap.size < w3.heap.size := by omega
          have hX3 : X < w3.heap.size := by omega
          have hown3 := HTB3.out.own
          go_wp2_with fail
          go_region_law (first | (refine step_app rfl (.tmp 56) (.tmp 58) 27 rfl (X + 1) 56 j0 (.agg #[.int .i64 0, .string ⟨#[]⟩, .int .i64 0]) 3 32 Tryd.underlying27 hi hz0 hz1 hz2 rfl (by decide) _ _ _ rfl (hown4.alloc _) ⟨w4.heap.size, 0, none⟩ 1 1 [_, _, _] rfl rfl (row3g rfl _ _ _ _) (by intro u hu; simp at hu; rcases hu with rfl | rfl | rfl <;> rfl) (by unfold maxLen; omega) (by omega) (by simp; omega) ?_; intro v' w6 hown6 hgrow; have hAP := HTB4.out.app (x := ⟨10, ⟨#[]⟩, 0⟩) hown6 hgrow; have d1 : w6.cell? ⟨X, 0, none⟩ = some v := (by rw [Lib.cell_of_heap hAP.2.1]; rfl); have f1 : w6.frozen? ⟨X, 0, none⟩ = false := Lib.frozen_of_heap hAP.2.1 0; have HAP : Hid (TB (w6.setCell ⟨X, 0, none⟩ v') (X + 1) w.heap.size X v' (is ++ [⟨10, ⟨#[]⟩, 0⟩])) := hAP.1; have HBL : Hid (Below (X + 1) w4 w6) := hAP.2.2; obtain ⟨ao, cpo, hvf⟩ := row_form3 hown6; subst hvf; clear hgrow hAP hown6) | (go_simp; go_wp2_with (go_at_call 77; refine (c77 10 _).mono ?_; rintro e w4 ⟨rfl, hb4⟩; have HB34 : Hid (Below w3.heap.size w3 w4) := (Below.refl _ _).drew.trans hb4; have HTB4 : Hid (TB w4 (X + 1) w.heap.size X v is) := HTB3.out.below HB34.out; have hown4 := HTB4.out.own; have hz4 : X + 1 ≤ w4.heap.size := HTB4.out.lt.2.2.1; have vc4 := HTB4.out.cells.1; have hX4 : X < w4.heap.size := (by omega); clear hb4)))
          all_goals
            obtain ⟨xc, xf, rc6, rf6⟩ := HAP.out.cells
            obtain ⟨a', cap', hva, hfrom⟩ := own3_from HAP.out.own
            have hva' : ao = a' ∧ is.length + 1 = (is ++ [(⟨10, ⟨#[]⟩, 0⟩ : I3)]).length ∧ cpo = cap' := by injection hva with h1 h2 h3; exact ⟨h1, h2, h3⟩
            obtain ⟨rfl, hll, rfl⟩ := hva'
            clear hll
            have HF : Hid (InsFrom (X + 1) (w6.setCell ⟨X, 0, none⟩ (.slice ao (is.length + 1) cpo)) ao (is ++ [⟨10, ⟨#[]⟩, 0⟩])) := hfrom
            have HR7 : Hid (RdTo (w6.setCell ⟨X, 0, none⟩ (.slice ao (is.length + 1) cpo)) q (P + 60)) := rd_set1 (((H3.out.later HB34.out).laterB HBL.out (by omega)).mono (by omega)) (by omega) _ _
            have HB7 : Hid (But q w (w6.setCell ⟨X, 0, none⟩ (.slice ao (is.length + 1) cpo))) := but_set1 ((HB3.out.later HB34.out).laterB HBL.out (by omega)) (by omega) _ _
            clear hva hfrom vc vf d1 f1 HBL HB34 HTB4 HTB3 HAP hown3 hown4 vc4 H3 HB3 rc rf
            generalize w6.setCell ⟨X, 0, none⟩ (.slice ao (is.length + 1) cpo) = w7 at *
            go_wp2
            have er := World.cell?_setCell_same w7 ⟨w.heap.size, 0, none⟩ (.slice ao (is.length + 1) cpo) rc6
            refine bodyPost_ret (v := .agg #[.slice ao (is.length + 1) cpo]) (by simp [results, Tryd.results45, go_sem, er]) rfl ⟨⟨is ++ [⟨10, ⟨#[]⟩, 0⟩], ao, cpo, by simp, (HF.out.set (by omega)).mono (by omega), ⟨by simp, by simp; omega⟩, small_snocT hsm.out (by show (⟨#[]⟩ : ByteArray).size ≤ 4000; decide)⟩, ?_, ?_⟩
            · exact rd_set1 HR7.out (by omega) _ _
            · exact but_set1 HB7.out (Nat.le_refl _) _ _
        · obtain rfl : r3 = 0 := by omega
          obtain ⟨vc, vf, rc, rf⟩ := HTB3.out.cells
          obtain ⟨a', cap', hva, hfrom⟩ := own3_from HTB3.out.own
          subst hva
          have HF : Hid (InsFrom (X + 1) w3 a' is) := hfrom
          clear hfrom
          go_wp2
          have er := World.cell?_setCell_same w3 ⟨w.heap.size, 0, none⟩ (.slice a' is.length cap') rc
          refine bodyPost_ret (v := .agg #[.slice a' is.length cap']) (by simp [results, Tryd.results45, go_sem, er]) rfl ⟨⟨is, a', cap', rfl, (HF.out.set (by omega)).mono (by omega), ⟨by omega, by omega⟩, hsm.out⟩, ?_, ?_⟩
          · exact rd_set1 (H3.out.mono (by omega)) hqw _ _
          · exact but_set1 HB3.out (Nat.le_refl _) _ _
      · have hpos : (0 : Int) < (k : Int) := by omega
        have hAr : Below wr.heap.size wr (wr.alloc (.cells ints14 3)) := (Below.refl _ _).alloc (Nat.le_refl _) _
        have hqr : q < wr.heap.size := by omega
        go_wp2_with fail
        refine (pickT (wr.alloc (.cells ints14 3)) q (P + 2 + 4 * is.length) 14 (by omega) (by omega) (by omega) (hrd.out.later hAr)).mono ?_
        rintro e w3 ⟨⟨r3, rfl, r30, r314⟩, h3, ho3⟩
        obtain ⟨z, hz⟩ := pk14 r3 r30 r314
        have k3 : w3.cell? ⟨wr.heap.size, r3.toNat, none⟩ = some (.int .i64 z) := by rw [ho3.cell (by show wr.heap.size ≠ q; omega), ← hz]; simp
        have H3 : Hid (RdTo w3 q (P + 2 + 4 * is.length + 1)) := h3
        have HB3 : Hid (But q w w3) := (hbu.out.later hAr).trans ho3.but
        have HTB3 : Hid (TB w3 (X + 1) w.heap.size X v is) := (htb.out.below hAr).but ho3.but (by omega) (by omega) (by omega)
        clear h3 ho3 hAr htb hrd hbu hz
        go_wp2_with fail
        refine (c25 z _).mono ?_
        rintro e w4 ⟨rfl, hw4⟩
        obtain rfl := hw4.symm
        have hA3 : Below w3.heap.size w3 (w3.alloc (.cells #[.int .i64 z, .string ⟨#[]⟩, .int .i64 0] 56)) := (Below.refl _ _).alloc (Nat.le_refl _) _
        have HXI3 : Hid (XI (w3.alloc (.cells #[.int .i64 z, .string ⟨#[]⟩, .int .i64 0] 56)) w3.heap.size z ⟨#[]⟩ 0) := alloc_new rfl _
        have HTBx : Hid (TB (w3.alloc (.cells #[.int .i64 z, .string ⟨#[]⟩, .int .i64 0] 56)) (X + 1) w.heap.size X v is) := HTB3.out.below hA3
        have HRx : Hid (RdTo (w3.alloc (.cells #[.int .i64 z, .string ⟨#[]⟩, .int .i64 0] 56)) q (P + 2 + 4 * is.length + 1)) := H3.out.later hA3
        have HBx : Hid (But q w (w3.alloc (.cells #[.int .i64 z, .string ⟨#[]⟩, .int .i64 0] 56))) := HB3.out.later hA3
        have hz3 := HTB3.out.lt.2.2.1
        have HVB : Hid (∀ g, v.ownBlock = some g → g ≠ w3.heap.size) := fun g hg => by have := (HTB3.out.own.lt g hg).2; omega
        clear HTB3 H3 HB3 hA3
        obtain ⟨j0, hi, hz0, hz1, hz2⟩ := info_parts info56
        cases hux : usesTx z
        · cases hut : usesTo z
          · obtain ⟨⟨i0c, i1c, i2c⟩, _, _⟩ := (HXI3.out).cells
            obtain ⟨vc, vf, _, _⟩ := (HTBx.out).cells
            have HTBU : Hid (TB (w3.alloc (.cells #[.int .i64 z, .string ⟨#[]⟩, .int .i64 0] 56)) (X + 1) w.heap.size X v is) := HTBx.out
            have hownU := (HTBx.out).own
            have hzU := (HTBx.out).lt.2.2.1
            have HRU : Hid (RdTo (w3.alloc (.cells #[.int .i64 z, .string ⟨#[]⟩, .int .i64 0] 56)) q (P + 2 + 4 * is.length + 4)) := HRx.out.mono (by omega)
            have HBU : Hid (But q w (w3.alloc (.cells #[.int .i64 z, .string ⟨#[]⟩, .int .i64 0] 56))) := HBx.out
            go_wp2_with (at_builtin; refine wpList_append_own _ rfl _ _ 27 rfl (X + 1) 56 j0 (.agg #[.int .i64 0, .string ⟨#[]⟩, .int .i64 0]) 3 32 Tryd.underlying27 hi hz0 hz1 hz2 rfl (by decide) _ _ _ rfl (hownU.alloc _) ⟨w3.heap.size + 1, 0, none⟩ 1 1 [_, _, _] rfl rfl (row3g (by simp) _ _ _ _) (by intro u hu; simp at hu; rcases hu with rfl | rfl | rfl <;> rfl) (by unfold maxLen; omega) (by omega) (by simp at hzU ⊢; omega) ?_; intro v' w6 hown6 hgrow _; have hAP := HTBU.out.app (x := ⟨z, ⟨#[]⟩, 0⟩) hown6 hgrow; have d1 : w6.cell? ⟨X, 0, none⟩ = some v := (by rw [Lib.cell_of_heap hAP.2.1]; rfl); have f1 : w6.frozen? ⟨X, 0, none⟩ = false := Lib.frozen_of_heap hAP.2.1 0; have HAP : Hid (TB (w6.setCell ⟨X, 0, none⟩ v') (X + 1) w.heap.size X v' (is ++ [⟨z, ⟨#[]⟩, 0⟩])) := hAP.1; have HBL : Hid (Below (X + 1) (w3.alloc (.cells #[.int .i64 z, .string ⟨#[]⟩, .int .i64 0] 56)) w6) := hAP.2.2; obtain ⟨ao, cpo, hvf⟩ := row_form3 hown6; subst hvf; clear hgrow hAP hown6)
            go_roundw
            case rel =>
              refine ⟨k - 1, is ++ [⟨z, ⟨#[]⟩, 0⟩], _, by go_num, ⟨by simp; omega, by simp; omega⟩, small_snocT hsm.out (by show (⟨#[]⟩ : ByteArray).size ≤ 4000; decide), HAP, ?_, ?_⟩
              · have h := rd_set1 (HRU.out.laterB HBL.out (by omega)) (by show q < X; omega) 0 (.slice ao (is.length + 1) cpo)
                have e : P + 2 + 4 * (is ++ [(⟨z, ⟨#[]⟩, 0⟩ : I3)]).length = P + 2 + 4 * is.length + 4 := by simp; omega
                rw [Hid, e]; exact h
              · exact but_set1 (HBU.out.laterB HBL.out (by omega)) (by omega) _ _
            case measure => simp [intOf]; omega
          · go_wp2_with fail
            refine (pickT (w3.alloc (.cells #[.int .i64 z, .string ⟨#[]⟩, .int .i64 0] 56)) q (P + 2 + 4 * is.length + 1) 8 (by omega) (by omega) (by omega) HRx.out).mono ?_
            rintro e w5 ⟨⟨r5, rfl, r50, r58⟩, h5, ho5⟩
            have H5 : Hid (RdTo w5 q (P + 2 + 4 * is.length + 1 + 1)) := h5
            have HB5' : Hid (But q w w5) := HBx.out.trans ho5.but
            have HXI5' : Hid (XI w5 w3.heap.size z ⟨#[]⟩ 0) := HXI3.out.but ho5.but (by omega)
            have HTB5' : Hid (TB w5 (X + 1) w.heap.size X v is) := HTBx.out.but ho5.but (by omega) (by omega) (by omega)
            have HXI6 : Hid (XI (w5.setCell ⟨w3.heap.size, 2, none⟩ (.int .i64 r5)) w3.heap.size z ⟨#[]⟩ r5) := HXI5'.out.set2
            have HTB6 : Hid (TB (w5.setCell ⟨w3.heap.size, 2, none⟩ (.int .i64 r5)) (X + 1) w.heap.size X v is) := HTB5'.out.setX (by omega) (by omega) HVB.out
            have HR6 : Hid (RdTo (w5.setCell ⟨w3.heap.size, 2, none⟩ (.int .i64 r5)) q (P + 2 + 4 * is.length + 1 + 1)) := rd_set1 H5.out (by omega) _ _
            have HB6 : Hid (But q w (w5.setCell ⟨w3.heap.size, 2, none⟩ (.int .i64 r5))) := but_set1 HB5'.out (by omega) _ _
            obtain ⟨⟨a50, a51, a52⟩, fb1, fb2⟩ := HXI5'.out.cells
            obtain ⟨vc5, vf5, _, _⟩ := HTB5'.out.cells
            clear h5 ho5
            obtain ⟨⟨i0c, i1c, i2c⟩, _, _⟩ := (HXI6.out).cells
            obtain ⟨vc, vf, _, _⟩ := (HTB6.out).cells
            have HTBU : Hid (TB (w5.setCell ⟨w3.heap.size, 2, none⟩ (.int .i64 r5)) (X + 1) w.heap.size X v is) := HTB6.out
            have hownU := (HTB6.out).own
            have hzU := (HTB6.out).lt.2.2.1
            have HRU : Hid (RdTo (w5.setCell ⟨w3.heap.size, 2, none⟩ (.int .i64 r5)) q (P + 2 + 4 * is.length + 4)) := HR6.out.mono (by omega)
            have HBU : Hid (But q w (w5.setCell ⟨w3.heap.size, 2, none⟩ (.int .i64 r5))) := HB6.out
            go_wp2_with (at_builtin; refine wpList_append_own _ rfl _ _ 27 rfl (X + 1) 56 j0 (.agg #[.int .i64 0, .string ⟨#[]⟩, .int .i64 0]) 3 32 Tryd.underlying27 hi hz0 hz1 hz2 rfl (by decide) _ _ _ rfl (hownU.alloc _) ⟨w5.heap.size, 0, none⟩ 1 1 [_, _, _] rfl rfl (row3g (by simp) _ _ _ _) (by intro u hu; simp at hu; rcases hu with rfl | rfl | rfl <;> rfl) (by unfold maxLen; omega) (by omega) (by simp at hzU ⊢; omega) ?_; intro v' w6 hown6 hgrow _; have hAP := HTBU.out.app (x := ⟨z, ⟨#[]⟩, r5⟩) hown6 hgrow; have d1 : w6.cell? ⟨X, 0, none⟩ = some v := (by rw [Lib.cell_of_heap hAP.2.1]; rfl); have f1 : w6.frozen? ⟨X, 0, none⟩ = false := Lib.frozen_of_heap hAP.2.1 0; have HAP : Hid (TB (w6.setCell ⟨X, 0, none⟩ v') (X + 1) w.heap.size X v' (is ++ [⟨z, ⟨#[]⟩, r5⟩])) := hAP.1; have HBL : Hid (Below (X + 1) (w5.setCell ⟨w3.heap.size, 2, none⟩ (.int .i64 r5)) w6) := hAP.2.2; obtain ⟨ao, cpo, hvf⟩ := row_form3 hown6; subst hvf; clear hgrow hAP hown6)
            go_roundw
            case rel =>
              refine ⟨k - 1, is ++ [⟨z, ⟨#[]⟩, r5⟩], _, by go_num, ⟨by simp; omega, by simp; omega⟩, small_snocT hsm.out (by show (⟨#[]⟩ : ByteArray).size ≤ 4000; decide), HAP, ?_, ?_⟩
              · have h := rd_set1 (HRU.out.laterB HBL.out (by omega)) (by show q < X; omega) 0 (.slice ao (is.length + 1) cpo)
                have e : P + 2 + 4 * (is ++ [(⟨z, ⟨#[]⟩, r5⟩ : I3)]).length = P + 2 + 4 * is.length + 4 := by simp; omega
                rw [Hid, e]; exact h
              · exact but_set1 (HBU.out.laterB HBL.out (by omega)) (by omega) _ _
            case measure => simp [intOf]; omega
        · cases hut : usesTo z
          · go_wp2_with fail
            refine (c48 q (P + 2 + 4 * is.length + 1) (w3.alloc (.cells #[.int .i64 z, .string ⟨#[]⟩, .int .i64 0] 56)) (by omega) HRx.out).mono ?_
            rintro e w4 ⟨⟨tx, rfl, htx⟩, h4, hb4⟩
            have H4 : Hid (RdTo w4 q (P + 2 + 4 * is.length + 3)) := h4
            have HB4 : Hid (But q w w4) := HBx.out.trans hb4
            have HXI4 : Hid (XI w4 w3.heap.size z ⟨#[]⟩ 0) := HXI3.out.but hb4 (by omega)
            have HTB4 : Hid (TB w4 (X + 1) w.heap.size X v is) := HTBx.out.but hb4 (by omega) (by omega) (by omega)
            have HXI5 : Hid (XI (w4.setCell ⟨w3.heap.size, 1, none⟩ (.string tx)) w3.heap.size z tx 0) := HXI4.out.set1
            have HTB5 : Hid (TB (w4.setCell ⟨w3.heap.size, 1, none⟩ (.string tx)) (X + 1) w.heap.size X v is) := HTB4.out.setX (by omega) (by omega) HVB.out
            have HR5 : Hid (RdTo (w4.setCell ⟨w3.heap.size, 1, none⟩ (.string tx)) q (P + 2 + 4 * is.length + 3)) := rd_set1 H4.out (by omega) _ _
            have HB5 : Hid (But q w (w4.setCell ⟨w3.heap.size, 1, none⟩ (.string tx))) := but_set1 HB4.out (by omega) _ _
            obtain ⟨⟨a40, a41, a42⟩, fa1, fa2⟩ := HXI4.out.cells
            clear h4 hb4 HXI3 HTBx HRx HBx
            obtain ⟨vc4, vf4, _, _⟩ := HTB4.out.cells
            obtain ⟨⟨i0c, i1c, i2c⟩, _, _⟩ := (HXI5.out).cells
            obtain ⟨vc, vf, _, _⟩ := (HTB5.out).cells
            have HTBU : Hid (TB (w4.setCell ⟨w3.heap.size, 1, none⟩ (.string tx)) (X + 1) w.heap.size X v is) := HTB5.out
            have hownU := (HTB5.out).own
            have hzU := (HTB5.out).lt.2.2.1
            have HRU : Hid (RdTo (w4.setCell ⟨w3.heap.size, 1, none⟩ (.string tx)) q (P + 2 + 4 * is.length + 4)) := HR5.out.mono (by omega)
            have HBU : Hid (But q w (w4.setCell ⟨w3.heap.size, 1, none⟩ (.string tx))) := HB5.out
            go_wp2_with (at_builtin; refine wpList_append_own _ rfl _ _ 27 rfl (X + 1) 56 j0 (.agg #[.int .i64 0, .string ⟨#[]⟩, .int .i64 0]) 3 32 Tryd.underlying27 hi hz0 hz1 hz2 rfl (by decide) _ _ _ rfl (hownU.alloc _) ⟨w4.heap.size, 0, none⟩ 1 1 [_, _, _] rfl rfl (row3g (by simp) _ _ _ _) (by intro u hu; simp at hu; rcases hu with rfl | rfl | rfl <;> rfl) (by unfold maxLen; omega) (by omega) (by simp at hzU ⊢; omega) ?_; intro v' w6 hown6 hgrow _; have hAP := HTBU.out.app (x := ⟨z, tx, 0⟩) hown6 hgrow; have d1 : w6.cell? ⟨X, 0, none⟩ = some v := (by rw [Lib.cell_of_heap hAP.2.1]; rfl); have f1 : w6.frozen? ⟨X, 0, none⟩ = false := Lib.frozen_of_heap hAP.2.1 0; have HAP : Hid (TB (w6.setCell ⟨X, 0, none⟩ v') (X + 1) w.heap.size X v' (is ++ [⟨z, tx, 0⟩])) := hAP.1; have HBL : Hid (Below (X + 1) (w4.setCell ⟨w3.heap.size, 1, none⟩ (.string tx)) w6) := hAP.2.2; obtain ⟨ao, cpo, hvf⟩ := row_form3 hown6; subst hvf; clear hgrow hAP hown6)
            go_roundw
            case rel =>
              refine ⟨k - 1, is ++ [⟨z, tx, 0⟩], _, by go_num, ⟨by simp; omega, by simp; omega⟩, small_snocT hsm.out (by show tx.size ≤ 4000; omega), HAP, ?_, ?_⟩
              · have h := rd_set1 (HRU.out.laterB HBL.out (by omega)) (by show q < X; omega) 0 (.slice ao (is.length + 1) cpo)
                have e : P + 2 + 4 * (is ++ [(⟨z, tx, 0⟩ : I3)]).length = P + 2 + 4 * is.length + 4 := by simp; omega
                rw [Hid, e]; exact h
              · exact but_set1 (HBU.out.laterB HBL.out (by omega)) (by omega) _ _
            case measure => simp [intOf]; omega
          · go_wp2_with fail
            refine (c48 q (P + 2 + 4 * is.length + 1) (w3.alloc (.cells #[.int .i64 z, .string ⟨#[]⟩, .int .i64 0] 56)) (by omega) HRx.out).mono ?_
            rintro e w4 ⟨⟨tx, rfl, htx⟩, h4, hb4⟩
            have H4 : Hid (RdTo w4 q (P + 2 + 4 * is.length + 3)) := h4
            have HB4 : Hid (But q w w4) := HBx.out.trans hb4
            have HXI4 : Hid (XI w4 w3.heap.size z ⟨#[]⟩ 0) := HXI3.out.but hb4 (by omega)
            have HTB4 : Hid (TB w4 (X + 1) w.heap.size X v is) := HTBx.out.but hb4 (by omega) (by omega) (by omega)
            have HXI5 : Hid (XI (w4.setCell ⟨w3.heap.size, 1, none⟩ (.string tx)) w3.heap.size z tx 0) := HXI4.out.set1
            have HTB5 : Hid (TB (w4.setCell ⟨w3.heap.size, 1, none⟩ (.string tx)) (X + 1) w.heap.size X v is) := HTB4.out.setX (by omega) (by omega) HVB.out
            have HR5 : Hid (RdTo (w4.setCell ⟨w3.heap.size, 1, none⟩ (.string tx)) q (P + 2 + 4 * is.length + 3)) := rd_set1 H4.out (by omega) _ _
            have HB5 : Hid (But q w (w4.setCell ⟨w3.heap.size, 1, none⟩ (.string tx))) := but_set1 HB4.out (by omega) _ _
            obtain ⟨⟨a40, a41, a42⟩, fa1, fa2⟩ := HXI4.out.cells
            clear h4 hb4 HXI3 HTBx HRx HBx
            go_wp2_with fail
            refine (pickT (w4.setCell ⟨w3.heap.size, 1, none⟩ (.string tx)) q (P + 2 + 4 * is.length + 3) 8 (by omega) (by omega) (by omega) HR5.out).mono ?_
            rintro e w5 ⟨⟨r5, rfl, r50, r58⟩, h5, ho5⟩
            have H5 : Hid (RdTo w5 q (P + 2 + 4 * is.length + 3 + 1)) := h5
            have HB5' : Hid (But q w w5) := HB5.out.trans ho5.but
            have HXI5' : Hid (XI w5 w3.heap.size z tx 0) := HXI5.out.but ho5.but (by omega)
            have HTB5' : Hid (TB w5 (X + 1) w.heap.size X v is) := HTB5.out.but ho5.but (by omega) (by omega) (by omega)
            have HXI6 : Hid (XI (w5.setCell ⟨w3.heap.size, 2, none⟩ (.int .i64 r5)) w3.heap.size z tx r5) := HXI5'.out.set2
            have HTB6 : Hid (TB (w5.setCell ⟨w3.heap.size, 2, none⟩ (.int .i64 r5)) (X + 1) w.heap.size X v is) := HTB5'.out.setX (by omega) (by omega) HVB.out
            have HR6 : Hid (RdTo (w5.setCell ⟨w3.heap.size, 2, none⟩ (.int .i64 r5)) q (P + 2 + 4 * is.length + 3 + 1)) := rd_set1 H5.out (by omega) _ _
            have HB6 : Hid (But q w (w5.setCell ⟨w3.heap.size, 2, none⟩ (.int .i64 r5))) := but_set1 HB5'.out (by omega) _ _
            obtain ⟨⟨a50, a51, a52⟩, fb1, fb2⟩ := HXI5'.out.cells
            obtain ⟨vc5, vf5, _, _⟩ := HTB5'.out.cells
            clear h5 ho5
            obtain ⟨⟨i0c, i1c, i2c⟩, _, _⟩ := (HXI6.out).cells
            obtain ⟨vc, vf, _, _⟩ := (HTB6.out).cells
            have HTBU : Hid (TB (w5.setCell ⟨w3.heap.size, 2, none⟩ (.int .i64 r5)) (X + 1) w.heap.size X v is) := HTB6.out
            have hownU := (HTB6.out).own
            have hzU := (HTB6.out).lt.2.2.1
            have HRU : Hid (RdTo (w5.setCell ⟨w3.heap.size, 2, none⟩ (.int .i64 r5)) q (P + 2 + 4 * is.length + 4)) := HR6.out.mono (by omega)
            have HBU : Hid (But q w (w5.setCell ⟨w3.heap.size, 2, none⟩ (.int .i64 r5))) := HB6.out
            go_wp2_with (at_builtin; refine wpList_append_own _ rfl _ _ 27 rfl (X + 1) 56 j0 (.agg #[.int .i64 0, .string ⟨#[]⟩, .int .i64 0]) 3 32 Tryd.underlying27 hi hz0 hz1 hz2 rfl (by decide) _ _ _ rfl (hownU.alloc _) ⟨w5.heap.size, 0, none⟩ 1 1 [_, _, _] rfl rfl (row3g (by simp) _ _ _ _) (by intro u hu; simp at hu; rcases hu with rfl | rfl | rfl <;> rfl) (by unfold maxLen; omega) (by omega) (by simp at hzU ⊢; omega) ?_; intro v' w6 hown6 hgrow _; have hAP := HTBU.out.app (x := ⟨z, tx, r5⟩) hown6 hgrow; have d1 : w6.cell? ⟨X, 0, none⟩ = some v := (by rw [Lib.cell_of_heap hAP.2.1]; rfl); have f1 : w6.frozen? ⟨X, 0, none⟩ = false := Lib.frozen_of_heap hAP.2.1 0; have HAP : Hid (TB (w6.setCell ⟨X, 0, none⟩ v') (X + 1) w.heap.size X v' (is ++ [⟨z, tx, r5⟩])) := hAP.1; have HBL : Hid (Below (X + 1) (w5.setCell ⟨w3.heap.size, 2, none⟩ (.int .i64 r5)) w6) := hAP.2.2; obtain ⟨ao, cpo, hvf⟩ := row_form3 hown6; subst hvf; clear hgrow hAP hown6)
            go_roundw
            case rel =>
              refine ⟨k - 1, is ++ [⟨z, tx, r5⟩], _, by go_num, ⟨by simp; omega, by simp; omega⟩, small_snocT hsm.out (by show tx.size ≤ 4000; omega), HAP, ?_, ?_⟩
              · have h := rd_set1 (HRU.out.laterB HBL.out (by omega)) (by show q < X; omega) 0 (.slice ao (is.length + 1) cpo)
                have e : P + 2 + 4 * (is ++ [(⟨z, tx, r5⟩ : I3)]).length = P + 2 + 4 * is.length + 4 := by simp; omega
                rw [Hid, e]; exact h
              · exact but_set1 (HBU.out.laterB HBL.out (by omega)) (by omega) _ _
            case measure => simp [intOf]; omega
end Go.Proofs.YtignmnbgedmfbaaDoor

import Derived.Test.YtboojefodbjbcaaGreatDoorZR00
import Derived.Test.YtboojefodbjbcaaGreatDoorZR11
import Derived.Test.YtboojefodbjbcaaGreatDoorGQE
namespace Go.Proofs.YtboojefodbjbcaaGreatDoor.G
open Go.RowKit
set_option maxHeartbeats 2000000 in
set_option maxRecDepth 100000 in
theorem c148o (s : ByteArray) (b : UInt8) (w : World) (hs : s.size ≤ 1048700) :
 Calls Tryz.prog 148 #[.string s, .int .u8 b.toNat] w fun e w' => (∃ g cp, e = .returned (.slice (some ⟨g, 0, none⟩) (cutS b s.data.toList).length cp) ∧ w'.ownsRow w.heap.size 9 1 (.slice (some ⟨g, 0, none⟩) (cutS b s.data.toList).length cp) (cutS b s.data.toList).length (strL (cutS b s.data.toList))) ∧ Below w.heap.size w w' := by
 obtain ⟨i0, hi, hz0, hz1, hz2⟩ := info_parts info9
 have hlen : s.data.toList.length = s.size := by simp
 go_enter Tryz.func148, Tryz.ntmps148
 go_wp2_with fail
 go_loopw [5, 6, 7] (fun v fr i wr => ∃ (k f : Nat), k ≤ s.size ∧ f ≤ k ∧ i = .int .i64 k ∧ fr = .int .i64 f ∧ wr.ownsRow w.heap.size 9 1 v (cstate b (s.data.toList.take k)).1.length (strL (cstate b (s.data.toList.take k)).1) ∧ Hid ((s.data.toList.take k).drop f = (cstate b (s.data.toList.take k)).2) ∧ Below w.heap.size w wr ∧ w.heap.size + 1 ≤ wr.heap.size) (fun _ _ i _ => s.size - (intOf i).toNat)
 case atStart => exact ⟨0, 0, Nat.zero_le _, Nat.le_refl _, rfl, rfl, World.ownsRow_lit _ #[] 0 (Nat.le_refl _) (Nat.zero_le _) rfl, rfl, (Below.refl _ _).alloc (Nat.le_refl _) _, by simp⟩
 case round =>
  obtain ⟨k, f, hk, hf, rfl, rfl, hown, hcur, hb, hz⟩ := hrel
  have hL : (cstate b (s.data.toList.take k)).1.length ≤ k := by
   have := cstate_le b (s.data.toList.take k)
   rw [List.length_take] at this; omega
  by_cases hlt : k < s.size
  · have HS : Hid (cstate b (s.data.toList.take (k + 1)) = cst b (cstate b (s.data.toList.take k)) s[k]) := by rw [take_snoc s k hlt, cstate_snoc]; rfl
    have HE : Hid (s.extract f k = ofL (cstate b (s.data.toList.take k)).2) := ext_ofL (by rw [ext_listF]; exact hcur.out)
    by_cases hc : s[k] = b
    · have e1 : ((s[k].toNat : Int) == (b.toNat : Int)) = true := by rw [hc]; simp
      have HC : Hid (cst b (cstate b (s.data.toList.take k)) s[k] = ((cstate b (s.data.toList.take k)).1 ++ [(cstate b (s.data.toList.take k)).2], [])) := by unfold cst; rw [if_pos hc]; rfl
      have HD : Hid ((s.data.toList.take (k + 1)).drop (k + 1) = []) := List.drop_of_length_le (by simp; omega)
      clear hc hcur
      generalize cstate b (s.data.toList.take k) = st at *
      go_wp2_with (at_builtin; refine wpList_append_own _ rfl _ _ 22 rfl w.heap.size 9 i0 (.string ⟨#[]⟩) 1 16 Tryz.underlying22 hi hz0 hz1 hz2 rfl (by decide) _ _ _ rfl (hown.alloc _) ⟨wr.heap.size, 0, none⟩ 1 1 [_] rfl rfl (cell_one_new _ _ _) (by intro u hu; simp at hu; subst hu; rfl) (by unfold maxLen; omega) (by omega) (by simp; omega) ?_; intro v' w2 hown' hgrow _)
      go_roundw
      case rel =>
       have hB2 : Below w.heap.size w w2 := (hb.alloc hb.size _).grown hgrow (by simp; omega) (fun j hj => (hown.lt j hj).1)
       refine ⟨k + 1, k + 1, by omega, Nat.le_refl _, by go_num, by go_num, ?_, ?_, hB2, by have := hgrow.size; simp at this; omega⟩
       · rw [HS.out, HC.out, List.length_append, strL_snoc, ← HE.out]
         exact hown'
       · rw [HS.out, HC.out]; exact HD.out
      case measure => simp [intOf]; omega
    · have e1 : ((s[k].toNat : Int) == (b.toNat : Int)) = false := by
       simp only [beq_eq_false_iff_ne]
       intro e
       exact hc (UInt8.toNat_inj.1 (by omega))
      have HC : Hid (cst b (cstate b (s.data.toList.take k)) s[k] = ((cstate b (s.data.toList.take k)).1, (cstate b (s.data.toList.take k)).2 ++ [s[k]])) := by unfold cst; rw [if_neg hc]; rfl
      have HD : Hid ((s.data.toList.take (k + 1)).drop f = (s.data.toList.take k).drop f ++ [s[k]]) := by rw [take_snoc s k hlt, List.drop_append_of_le_length (by simp; omega)]; rfl
      clear hc
      generalize cstate b (s.data.toList.take k) = st at *
      go_wp2
      go_roundw
      case rel =>
       refine ⟨k + 1, f, by omega, by omega, by go_num, rfl, ?_, ?_, hb, hz⟩
       · rw [HS.out, HC.out]; exact hown
       · rw [HS.out, HC.out, HD.out, hcur.out]; rfl
      case measure => simp [intOf]; omega
  · have HK : Hid (s.data.toList.take k = s.data.toList) := List.take_of_length_le (by omega)
    have HE : Hid (s.extract f s.size = ofL (cstate b (s.data.toList.take k)).2) := ext_ofL (by rw [ext_listF, ← show k = s.size by omega]; exact hcur.out)
    have HCU : Hid (cutS b s.data.toList = (cstate b (s.data.toList.take k)).1 ++ [(cstate b (s.data.toList.take k)).2]) := by rw [HK.out]; rfl
    clear hcur
    generalize cstate b (s.data.toList.take k) = st at *
    go_wp2_with (at_builtin; refine wpList_append_own _ rfl _ _ 22 rfl w.heap.size 9 i0 (.string ⟨#[]⟩) 1 16 Tryz.underlying22 hi hz0 hz1 hz2 rfl (by decide) _ _ _ rfl (hown.alloc _) ⟨wr.heap.size, 0, none⟩ 1 1 [_] rfl rfl (cell_one_new _ _ _) (by intro u hu; simp at hu; subst hu; rfl) (by unfold maxLen; omega) (by omega) (by simp; omega) ?_; intro v' w2 hown' hgrow _; obtain ⟨g, cp, hvv⟩ := own_formF hown' (by omega); subst hvv)
    go_ret
    have hB2 : Below w.heap.size w w2 := (hb.alloc hb.size _).grown hgrow (by simp; omega) (fun j hj => (hown.lt j hj).1)
    have ho2 : w2.ownsRow w.heap.size 9 1 (.slice (some ⟨g, 0, none⟩) (st.1.length + 1) cp) (st.1.length + 1) (strL (cutS b s.data.toList)) := by
     rw [HCU.out, strL_snoc, ← HE.out]; exact hown'
    have hlc : (cutS b s.data.toList).length = st.1.length + 1 := by rw [HCU.out]; simp
    refine ⟨⟨g, cp, by rw [hlc]; rfl, by rw [hlc]; exact ho2⟩, hB2⟩
theorem own_ne {w : World} {B B' e e' size size' n n' : Nat} {v v' : Value} {xs xs' : List Value} (h : w.ownsRow B e size v n xs) (h' : w.ownsRow B' e' size' v' n' xs') (hne : e ≠ e') : v.ownBlock = none ∨ v.ownBlock ≠ v'.ownBlock := by
 rcases h.2 with ⟨rfl, _⟩ | ⟨g, cap, cur, rfl, _, hgg, _⟩
 · exact .inl rfl
 · rcases h'.2 with ⟨rfl, _⟩ | ⟨g', cap', cur', rfl, _, hgg', _⟩
   · exact .inr (by simp [Value.ownBlock])
   · refine .inr fun he => ?_
     simp only [Value.ownBlock, Option.some.injEq] at he
     subst he
     rw [hgg] at hgg'
     simp only [Option.some.injEq, Obj.cells.injEq] at hgg'
     exact hne hgg'.2.1
theorem c150' (l : List UInt8) (w : World) (hs : l.length ≤ 1048700) :
 Calls Tryz.prog 150 #[.string (ofL l)] w fun e w' => (∃ t, e = .returned (.string (ofL t)) ∧ t.length ≤ l.length + 1 ∧ ∀ q, l = quoteL q → t = q) ∧ Below w.heap.size w w' := by
 have := c150 (ofL l) w (by rw [ofL_size]; exact hs)
 rw [ofL_size] at this
 exact this
theorem c149v (l : List UInt8) (w : World) (hs : l.length ≤ 1048700) :
 Calls Tryz.prog 149 #[.string (ofL l), .int .i64 3] w fun e w' => (∃ g cp, e = .returned (.tuple #[.slice (some ⟨g, 0, none⟩) 3 cp, .string (ofL (restN l 3))]) ∧ w.heap.size ≤ g ∧ LinesAt w' g (wordsN l 3)) ∧ Below w.heap.size w w' := c149w (ofL l) w (by rw [ofL_size]; exact hs)
theorem small_snoc {ms : List M3} {x : M3} {B : Nat} (h : ∀ j, (ms.getD j m3z).le B) (hx : x.le B) (j : Nat) : ((ms ++ [x]).getD j m3z).le B := by
 rcases Nat.lt_trichotomy j ms.length with hj | hj | hj
 · have : (ms ++ [x]).getD j m3z = ms.getD j m3z := by simp [List.getD, List.getElem?_append_left hj]
   rw [this]; exact h j
 · subst hj
   have : (ms ++ [x]).getD ms.length m3z = x := by simp [List.getD]
   rw [this]; exact hx
 · have : (ms ++ [x]).getD j m3z = m3z := by simp [List.getD, List.getElem?_eq_none (show (ms ++ [x]).length ≤ j by simp; omega)]
   rw [this]; exact ⟨Nat.zero_le _, Nat.zero_le _, Nat.zero_le _⟩
theorem cell_grown {w w' : World} {row : Option Nat} (hg : w.grownBy w' row) {p : Addr} (hp : p.block < w.heap.size) (hne : some p.block ≠ row) : w'.cell? p = w.cell? p := by
 unfold World.cell?
 rw [hg.block p.block hp hne]
def Is10 (l : List UInt8) (e : Ending) (w' : World) : Prop := ∃ (ms : List M3) (ok : Bool) (a : Option Addr) (cap : Nat), e = .returned (.tuple #[.slice a ms.length cap, .bool ok]) ∧ MksAt w' a ms ∧ IsPlan l ms ok
set_option maxHeartbeats 4000000 in
set_option maxRecDepth 100000 in
theorem c137 (s : ByteArray) (w : World) (hs : s.size ≤ 1048576) :
 Calls Tryz.prog 137 #[.string s] w fun e w' => Is10 s.data.toList e w' ∧ Below w.heap.size w w' := by
 have hlen : s.data.toList.length = s.size := by simp
 obtain ⟨i0, hi, hz0, hz1, hz2⟩ := info_parts info51
 by_cases h300 : 300 < s.size
 · have HR : Hid (IsPlan s.data.toList [] false) := read_long (by omega)
   go_enter Tryz.func137, Tryz.ntmps137
   go_wp2
   go_ret2
   exact ⟨⟨[], false, _, _, rfl, .inl rfl, HR.out⟩, (Below.refl _ _).alloc (Nat.le_refl _) _⟩
 · go_enter Tryz.func137, Tryz.ntmps137
   go_wp2_with fail
   refine (c148o s 10 _ (by omega)).mono ?_
   rintro e w1 ⟨⟨g, cp, rfl, hln⟩, hb1⟩
   have hx1 : Below w.heap.size w w1 := ((Below.refl _ _).alloc (Nat.le_refl _) _).trans (hb1.mono (by simp))
   have hz1' : w.heap.size + 1 ≤ w1.heap.size := by have := hb1.size; simpa using this
   have hrow0 : w1.ownsRow w.heap.size 51 3 (.slice (some ⟨w.heap.size, 0, none⟩) 0 0) 0 (mkCells []) := ownsRow_below (World.ownsRow_lit _ #[] 0 (Nat.le_refl _) (Nat.zero_le _) rfl) hb1
   have hln1 : w1.ownsRow w.heap.size 9 1 (.slice (some ⟨g, 0, none⟩) (cutS 10 s.data.toList).length cp) (cutS 10 s.data.toList).length (strL (cutS 10 s.data.toList)) := owns_mono hln (by simp)
   obtain ⟨hn1, hn2⟩ := cut_len 10 s.data.toList
   have HCS : Hid (∀ k, ((cutS 10 s.data.toList).getD k []).length ≤ s.data.toList.length) := cut_small 10 s.data.toList
   clear hb1 hln
   go_wp2_with fail
   generalize hLs : cutS 10 s.data.toList = Ls at *
   have HLs : Hid (cutS 10 s.data.toList = Ls) := hLs
   clear hLs
   go_loopw [4, 6] (fun v i wr => ∃ (k : Nat) (ms : List M3), k + 1 ≤ Ls.length ∧ i = .int .i64 k ∧ ms.length = k ∧ Hid (Sofar s.data.toList ms k) ∧ Hid (∀ j, (ms.getD j m3z).le 1048576) ∧ wr.ownsRow w.heap.size 51 3 v ms.length (mkCells ms) ∧ wr.ownsRow w.heap.size 9 1 (.slice (some ⟨g, 0, none⟩) Ls.length cp) Ls.length (strL Ls) ∧ Below w.heap.size w wr ∧ w.heap.size + 1 ≤ wr.heap.size) (fun _ i _ => Ls.length - (intOf i).toNat)
   case atStart => exact ⟨0, [], by omega, rfl, rfl, sofar_start _, (fun j => ⟨Nat.zero_le _, Nat.zero_le _, Nat.zero_le _⟩), hrow0, hln1, hx1, hz1'⟩
   case round =>
    obtain ⟨k, ms, hk, rfl, hisl, hso, htx, hown, hrow, hb, hzr⟩ := hrel
    subst hisl
    obtain ⟨ao, co, hv⟩ := row_form3 hown
    subst hv
    by_cases hlt : ms.length + 1 < Ls.length
    · have hlnr := lines_of_owns hrow rfl
      have l0 := hlnr.2 ms.length (by omega)
      have hLl := HCS.out ms.length
      have hPar := fun (t : List UInt8) ht => parsed (l := Ls.getD ms.length []) (t := t) ht
      generalize hL : Ls.getD ms.length [] = L at *
      have HL : Hid (Ls.getD ms.length [] = L) := hL
      clear hL
      have hiB : (ms.length : Int) < (Ls.length : Int) := by omega
      go_wp2_with fail
      refine (c149v L _ (by omega)).mono ?_
      rintro e w2 ⟨⟨g2, cp2, rfl, hg2, hln2⟩, hb2⟩
      have hB2 : Below w.heap.size w w2 := hb.trans (hb2.mono hb.size)
      have hown2 := ownsRow_below hown hb2
      have hrow2 := ownsRow_below hrow hb2
      have hz2' : w.heap.size + 1 ≤ w2.heap.size := Nat.le_trans hzr hb2.size
      have q1 : w2.cell? ⟨g2, 1, none⟩ = some (.string (ofL (wordOf (restN L 1)))) := hln2.2 1 (by simp [wordsN])
      have q2 : w2.cell? ⟨g2, 2, none⟩ = some (.string (ofL (wordOf (restN L 2)))) := hln2.2 2 (by simp [wordsN])
      have hg2l : g2 < w2.heap.size := hln2.1
      have r1 := restN_len L 1
      have r2 := restN_len L 2
      have r3 := restN_len L 3
      have r1' := (rest_small (restN L 1)).1
      have r2' := (rest_small (restN L 2)).1
      generalize hA : wordOf (restN L 1) = A at *
      generalize hBB : wordOf (restN L 2) = B at *
      generalize hQ : restN L 3 = Q at *
      clear hA hBB hQ hln2 hlnr l0
      go_wp2_with fail
      refine wp_region_held_drew (S := (fun u => u.cell? ⟨g2, 1, none⟩ = some (.string (ofL A)) ∧ u.cell? ⟨g2, 2, none⟩ = some (.string (ofL B)))) (by kernel_rfl) ?_ (fun hHeld => ?_)
      · ((try dsimp only); go_keep)
      refine tk (i := 0) (oi := ⟨some 31, .move (.tmp 4), 95, _, _, none⟩) (v := ?_) rfl (by kernel_rfl) rfl ?e hHeld ?_
      case e => intro wq hSw; (try dsimp only at hSw); go_simp; try with_reducible rfl
      try simp only [qq]
      refine tk (i := 1) (oi := ⟨some 32, .move (.tmp 7), 22, _, _, none⟩) (v := ?_) rfl (by kernel_rfl) rfl ?e hHeld ?_
      case e => intro wq hSw; (try dsimp only at hSw); go_simp; try with_reducible rfl
      try simp only [qq]
      refine tk (i := 2) (oi := ⟨some 33, .indexAddr 22 (.tmp 32) (.const (.int .i64 1)), 0, _, _, none⟩) (v := ?_) rfl (by kernel_rfl) rfl ?e hHeld ?_
      case e => intro wq hSw; (try dsimp only at hSw); go_simp; try with_reducible rfl
      try simp only [qq]
      refine tk (i := 3) (oi := ⟨some 34, .load 9 (.tmp 33), 9, _, _, none⟩) (v := ?_) rfl (by kernel_rfl) rfl ?e hHeld ?_
      case e => intro wq hSw; (try dsimp only at hSw); go_simp; try with_reducible rfl
      try simp only [qq]
      refine tk (i := 4) (oi := ⟨some 35, .move (.tmp 7), 22, _, _, none⟩) (v := ?_) rfl (by kernel_rfl) rfl ?e hHeld ?_
      case e => intro wq hSw; (try dsimp only at hSw); go_simp; try with_reducible rfl
      try simp only [qq]
      refine tk (i := 5) (oi := ⟨some 36, .indexAddr 22 (.tmp 35) (.const (.int .i64 2)), 0, _, _, none⟩) (v := ?_) rfl (by kernel_rfl) rfl ?e hHeld ?_
      case e => intro wq hSw; (try dsimp only at hSw); go_simp; try with_reducible rfl
      try simp only [qq]
      refine tk (i := 6) (oi := ⟨some 37, .load 9 (.tmp 36), 9, _, _, none⟩) (v := ?_) rfl (by kernel_rfl) rfl ?e hHeld ?_
      case e => intro wq hSw; (try dsimp only at hSw); go_simp; try with_reducible rfl
      try simp only [qq]
      refine tk (i := 7) (oi := ⟨some 38, .move (.tmp 8), 9, _, _, none⟩) (v := ?_) rfl (by kernel_rfl) rfl ?e hHeld ?_
      case e => intro wq hSw; (try dsimp only at hSw); go_simp; try with_reducible rfl
      try simp only [qq]
      refine rd (i := 8) (o := ⟨some 39, .call ⟨.value (.func 150), #[.tmp 38], #[9]⟩, 9, _, _, none⟩) rfl (by kernel_rfl) (fun K hK => ?_)
      go_simp
      refine (c150' Q _ (by omega)).mono ?_
      rintro e w3 ⟨⟨t, rfl, htl, htq⟩, hb3⟩
      have HB3 : Hid (Below w2.heap.size w2 w3) := (Below.refl _ _).drew.trans hb3
      have e1 := (HB3.out.cell (p := ⟨g2, 1, none⟩) (by exact hg2l)).trans q1
      have e2 := (HB3.out.cell (p := ⟨g2, 2, none⟩) (by exact hg2l)).trans q2
      have hown3 := ownsRow_below hown2 HB3.out
      have hrow3 := ownsRow_below hrow2 HB3.out
      have hz3' : w2.heap.size ≤ w3.heap.size := HB3.out.size
      have e1a := past (by show g2 < w3.heap.size; omega) e1
      have e2a := past (by show g2 < w3.heap.size; omega) e2
      go_wp2_with fail
      clear hHeld
      refine hK.out _ _ ?_ (fun hHeld => ?_)
      · ((try dsimp only); go_keep)
      clear hK K
      try simp only [qq]
      refine tk (i := 9) (oi := ⟨some 40, .build 51 #[(0, .tmp 34), (1, .tmp 37), (2, .tmp 39)], 51, _, _, none⟩) (v := ?_) rfl (by kernel_rfl) rfl ?e hHeld ?_
      case e => intro wq hSw; (try dsimp only at hSw); go_simp; try with_reducible rfl
      try simp only [qq]
      refine rd (i := 10) (o := ⟨some 41, .buildSlice 95 1 #[(0, .tmp 40)], 95, _, _, none⟩) rfl (by kernel_rfl) (fun K hK => ?_)
      go_simp
      clear hHeld
      refine hK.out _ _ ?_ (fun hHeld => ?_)
      · ((try dsimp only); go_keep)
      clear hK K
      try simp only [qq]
      refine rd (i := 11) (o := ⟨some 42, .call ⟨.builtin .append, #[.tmp 31, .tmp 41], #[95, 95]⟩, 95, _, _, none⟩) rfl (by kernel_rfl) (fun K hK => ?_)
      refine step_app rfl (.tmp 31) (.tmp 41) 95 rfl w.heap.size 51 i0 (.agg #[.string ⟨#[]⟩, .string ⟨#[]⟩, .string ⟨#[]⟩]) 3 48 Tryz.underlying95 hi hz0 hz1 hz2 rfl (by decide) _ _ _ rfl (hown3.alloc _) ⟨w3.heap.size, 0, none⟩ 1 1 [_, _, _] rfl rfl (row3g rfl _ _ _ _) (by intro u hu; simp at hu; rcases hu with rfl | rfl | rfl <;> rfl) (by unfold maxLen; omega) (by omega) (by simp; omega) ?_
      intro v' w4 hown4 hgrow
      have hB4 : Hid (Below w.heap.size w w4) := (((hB2.trans (HB3.out.mono hB2.size)).alloc (by omega) _).grown hgrow (by simp; omega) (fun j hj => (hown3.lt j hj).1))
      have hrow4 : Hid (w4.ownsRow w.heap.size 9 1 (.slice (some ⟨g, 0, none⟩) Ls.length cp) Ls.length (strL Ls)) := (hrow3.alloc _).kept hgrow (own_ne hrow3 hown3 (by decide))
      have f1 := (cell_grown hgrow (p := ⟨g2, 1, none⟩) (by simp; omega) (fun e => by have := (hown.lt _ e.symm).2; simp at this; omega)).trans (e1a _)
      have f2 := (cell_grown hgrow (p := ⟨g2, 2, none⟩) (by simp; omega) (fun e => by have := (hown.lt _ e.symm).2; simp at this; omega)).trans (e2a _)
      have hz4 : w3.heap.size + 1 ≤ w4.heap.size := by have := hgrow.size; simp at this; omega
      clear hgrow
      clear hHeld
      refine hK.out _ _ ?_ (fun hHeld => ?_)
      · ((try dsimp only); go_keep)
      clear hK K
      try simp only [qq]
      refine tk (i := 12) (oi := ⟨some 4, .assign (.tmp 42), 95, _, _, none⟩) (v := ?_) rfl (by kernel_rfl) rfl ?e hHeld ?_
      case e => intro wq hSw; (try dsimp only at hSw); go_simp; try with_reducible rfl
      try simp only [qq]
      refine wpAnyH_done (by kernel_rfl) ?_ _
      clear hHeld
      have HSO : Hid (Sofar s.data.toList (ms ++ [⟨ofL A, ofL B, ofL t⟩]) (ms.length + 1)) := sofar_step hso.out (by rw [HLs.out]; exact hlt) (by rw [HLs.out, HL.out]; exact hPar t htq)
      have HTX : Hid (∀ j, ((ms ++ [(⟨ofL A, ofL B, ofL t⟩ : M3)]).getD j m3z).le 1048576) := small_snoc htx.out ⟨by rw [ofL_size]; omega, by rw [ofL_size]; omega, by rw [ofL_size]; omega⟩
      go_wp2
      go_roundw
      case rel =>
       refine ⟨ms.length + 1, ms ++ [(⟨ofL A, ofL B, ofL t⟩ : M3)], by omega, by go_num, by simp, HSO, HTX, ?_, hrow4.out, hB4.out, by omega⟩
       rw [mkCells_snoc, List.length_append]
       exact hown4
      case measure => simp [intOf]; omega
    · obtain ⟨E1, E2⟩ := sofar_end hso.out rfl (by rw [HLs.out]; omega) (by omega)
      have HE1 : Hid (formP ms = s.data.toList → IsPlan s.data.toList ms true) := E1
      have HE2 : Hid (formP ms ≠ s.data.toList → IsPlan s.data.toList [] false) := E2
      clear E1 E2
      obtain ⟨ao', cap', hv', hat⟩ := own3_form hown
      injection hv' with h1 h2 h3
      subst h1 h3
      have HAT : Hid (MksAt wr ao ms) := hat
      have hmm : ms.length ≤ 1048576 := by omega
      have HC := c151 ao co ms wr htx.out hmm hat
      clear hat
      go_wp2_with fail
      refine HC.mono ?_
      rintro e w5 ⟨rfl, hb5⟩
      have hB5 : Below w.heap.size w w5 := hb.trans (hb5.mono hb.size)
      have HAT5 : Hid (MksAt w5 ao ms) := mks_below HAT.out hb5
      clear HC
      by_cases hf : formP ms = s.data.toList
      · have HR : Hid (IsPlan s.data.toList ms true) := HE1.out hf
        have e2 : (ofL (formP ms)).toList = s.toList := by rw [hf, ByteArray.toList_eq, ByteArray.toList_eq]; rfl
        have e1 : ((ofL (formP ms)).toList == s.toList) = true := by simpa using e2
        clear HE1 HE2 hf
        go_wp2
        go_ret2
        exact ⟨⟨ms, true, _, _, rfl, HAT5.out, HR.out⟩, hB5⟩
      · have HR : Hid (IsPlan s.data.toList [] false) := HE2.out hf
        have e2 : ¬ (ofL (formP ms)).toList = s.toList := by rw [ByteArray.toList_eq, ByteArray.toList_eq]; simpa [ofL] using hf
        have e1 : ((ofL (formP ms)).toList == s.toList) = false := by simpa using e2
        clear HE1 HE2 hf
        go_wp2
        go_ret2
        exact ⟨⟨[], false, _, _, rfl, .inl rfl, HR.out⟩, hB5.alloc hB5.size _⟩
end Go.Proofs.YtboojefodbjbcaaGreatDoor.G

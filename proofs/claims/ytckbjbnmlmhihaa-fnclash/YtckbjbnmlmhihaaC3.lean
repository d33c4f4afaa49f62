import Derived.Test.YtckbjbnmlmhihaaC1
import Derived.Deep.QuietTactic
import Derived.BigQuiet
namespace Go.Proofs.Ytckbjbnmlmhihaa
open Go.RowKit Go.Maps

theorem info9 : (Try.prog.info? 9).map (fun i => (i.zero, i.size, i.bytes)) = some (some (.string ⟨#[]⟩), 1, 16) := by kernel_rfl

theorem ownsRow_below {w w' : World} {base : Nat} {e : TypeId} {size : Nat} {v : Value} {n : Nat} {xs : List Value} (h : w.ownsRow base e size v n xs) (hb : Below w.heap.size w w') : w'.ownsRow base e size v n xs := by
  obtain ⟨h1, h2⟩ := h
  refine ⟨h1, ?_⟩
  rcases h2 with h | ⟨g, cap, cur, hv, hg, hh, hr⟩
  · exact .inl h
  · have hlt : g < w.heap.size := by
      rcases Nat.lt_or_ge g w.heap.size with h | h
      · exact h
      · rw [Array.getElem?_eq_none h] at hh; cases hh
    exact .inr ⟨g, cap, cur, hv, hg, by rw [hb.block g hlt]; exact hh, hr⟩
theorem ownsRow_at {w : World} {base : Nat} {v : Value} {k : Nat} {xs : List Value} (h : w.ownsRow base 9 1 v k xs) {q : Nat} (hq : q < k) :
    ∃ g cp, v = .slice (some ⟨g, 0, none⟩) k cp ∧ base ≤ g ∧ g < w.heap.size ∧ w.cell? ⟨g, q, none⟩ = xs[q]? := by
  have h' := h
  obtain ⟨h1, h2⟩ := h
  rcases h2 with ⟨_, h0⟩ | ⟨g, cp, cur, rfl, hg, hh, _⟩
  · omega
  · refine ⟨g, cp, rfl, hg, ?_, h'.cellAt q (by omega)⟩
    rcases Nat.lt_or_ge g w.heap.size with h | h
    · exact h
    · rw [Array.getElem?_eq_none h] at hh; cases hh
theorem sums_at (ss : List ByteArray) (m k q : Nat) (hq : q < k) (hk : k ≤ ss.length) : ((ss.take k).map fun s => Value.string (sumS s m))[q]? = some (.string (sumS (ss.getD q ByteArray.empty) m)) := by
  have : q < ss.length := by omega
  simp [hq, this]
theorem sums_snoc (ss : List ByteArray) (m k : Nat) (hk : k < ss.length) : ((ss.take (k + 1)).map fun s => Value.string (sumS s m)) = ((ss.take k).map fun s => Value.string (sumS s m)) ++ [.string (sumS (ss.getD k ByteArray.empty) m)] := by
  rw [List.take_succ_eq_append_getElem hk, List.map_append]
  have e : ss.getD k ByteArray.empty = ss[k] := by simp [hk]
  rw [e]; rfl
theorem neq_str {x y : ByteArray} (h : ¬ x = y) : (x.toList == y.toList) = false := by
  rw [ByteArray.toList_eq, ByteArray.toList_eq]; simp only [beq_eq_false_iff_ne, ne_eq]; intro e; exact h (ByteArray.ext (Array.toList_inj.1 e))
theorem noCl_step {ss : List ByteArray} {m k q : Nat} (h : ∀ i', i' < q → ¬ Cl ss m i' k) (hq : ¬ Cl ss m q k) : ∀ i', i' < q + 1 → ¬ Cl ss m i' k := by
  intro i' h'
  rcases Nat.lt_or_ge i' q with h1 | h1
  · exact h i' h1
  · obtain rfl : i' = q := by omega
    exact hq
theorem noCl_out {ss : List ByteArray} {m k : Nat} (h : NoCl ss m k) (hk : ∀ i', i' < k → ¬ Cl ss m i' k) : NoCl ss m (k + 1) := by
  intro j hj
  rcases Nat.lt_or_ge j k with h1 | h1
  · exact h j h1
  · obtain rfl : j = k := by omega
    exact hk

set_option maxHeartbeats 1000000 in
theorem c18_yes (a : Option Addr) (cap : Nat) (ss : List ByteArray) (m : Nat) (w : World) (hs : ∀ i, (ss.getD i ByteArray.empty).size ≤ 1048700) (hat : StrsAt w a ss) (hm1 : 1 ≤ m) (hm8 : m ≤ 8) (h2000 : ss.length ≤ 2000) :
    Calls Try.prog 18 #[.slice a ss.length cap, .int .i64 m] w fun e w' => (∃ x y f, e = .returned (.tuple #[.string x, .string y, .bool f]) ∧ IsClash ss m x y f) ∧ Below w.heap.size w w' := by
  have hd : decide ((1 : Int) ≤ (m : Int) ∧ (m : Int) ≤ 8) = true := by simp; omega
  obtain ⟨i0, hi, hz0, hz1, hz2⟩ := info_parts info9
  have hc : ∃ b off, (ss = [] ∨ (a = some ⟨b, off, none⟩ ∧ b < w.heap.size ∧ ∀ i, i < ss.length → w.cell? ⟨b, off + i, none⟩ = some (.string (ss.getD i ByteArray.empty)))) := by
    rcases hat with h | ⟨b, off, h⟩
    · exact ⟨0, 0, .inl h⟩
    · exact ⟨b, off, .inr h⟩
  obtain ⟨b, off, hc⟩ := hc
  have HC : Hid (ss = [] ∨ (a = some ⟨b, off, none⟩ ∧ b < w.heap.size ∧ ∀ i, i < ss.length → w.cell? ⟨b, off + i, none⟩ = some (.string (ss.getD i ByteArray.empty)))) := hc
  clear hc hat
  go_enter Try.func18, Try.ntmps18
  go_wp2_with fail
  refine (c25 _ _).mono ?_
  rintro e w' ⟨rfl, hw⟩
  obtain rfl := hw.symm
  rw [hd]
  go_wp2_with fail
  go_loopw [7, 8] (fun v j wr => ∃ (k : Nat), k ≤ ss.length ∧ j = .int .i64 k ∧ wr.ownsRow w.heap.size 9 1 v k ((ss.take k).map fun s => .string (sumS s m)) ∧ Below w.heap.size w wr ∧ Hid (NoCl ss m k)) (fun _ j _ => ss.length - (intOf j).toNat)
  case atStart => exact ⟨0, Nat.zero_le _, rfl, World.ownsRow_lit _ #[] 0 (Nat.le_refl _) (Nat.zero_le _) rfl, (Below.refl _ _).alloc (Nat.le_refl _) _, fun j h => absurd h (Nat.not_lt_zero _)⟩
  case round =>
    obtain ⟨k, hk, rfl, hown, hb, hno⟩ := hrel
    by_cases hlt : k < ss.length
    · rcases HC.out with hss | ⟨ha, hbw, hcell⟩
      · rw [hss] at hlt; exact absurd hlt (Nat.not_lt_zero _)
      subst ha
      have g0 : wr.cell? ⟨b, off + k, none⟩ = some (.string (ss.getD k ByteArray.empty)) := (hb.cell (by exact hbw)).trans (hcell k hlt)
      have hxs : (ss.getD k ByteArray.empty).size ≤ 1048700 := hs k
      generalize hx : ss.getD k ByteArray.empty = x at *
      have HX : Hid (ss.getD k ByteArray.empty = x) := hx
      clear hx
      go_wp2_with fail
      refine (c10 x m _ hxs).mono ?_
      rintro e w1 ⟨rfl, hb1⟩
      have hB1 : Below w.heap.size w w1 := hb.trans (hb1.mono hb.size)
      generalize hS : sumS x m = S at *
      have HS : Hid (sumS x m = S) := hS
      clear hS
      go_wp2_with fail
      go_loopw [10] (fun i wr2 => ∃ (q nq : Nat), q ≤ k ∧ i = .int .i64 q ∧ wr2 = w1.drewN nq ∧ Hid (∀ i', i' < q → ¬ Cl ss m i' k)) (fun i _ => k - (intOf i).toNat)
      case atStart => exact ⟨0, 0, Nat.zero_le _, rfl, rfl, fun i' h => absurd h (Nat.not_lt_zero _)⟩
      case round =>
        obtain ⟨q, nq, hq, rfl, rfl, hnq⟩ := hrel
        by_cases hqk : q < k
        · obtain ⟨g, cp, hv, hg1, hg2, hgc⟩ : ∃ g cp, u7 = .slice (some ⟨g, 0, none⟩) k cp ∧ w.heap.size ≤ g ∧ g < wr.heap.size ∧ wr.cell? ⟨g, q, none⟩ = some (.string (sumS (ss.getD q ByteArray.empty) m)) := by
            obtain ⟨g, cp, h1, h2, h3, h4⟩ := ownsRow_at hown hqk
            exact ⟨g, cp, h1, h2, h3, by rw [h4]; exact sums_at ss m k q hqk (by omega)⟩
          subst hv
          have e1 : w1.cell? ⟨g, q, none⟩ = some (.string (sumS (ss.getD q ByteArray.empty) m)) := by rw [hb1.cell (by exact hg2)]; exact hgc
          have e2 : w1.cell? ⟨b, off + q, none⟩ = some (.string (ss.getD q ByteArray.empty)) := by rw [hB1.cell (by exact hbw)]; exact hcell q (by omega)
          have e3 : w1.cell? ⟨b, off + k, none⟩ = some (.string x) := by rw [hb1.cell (by exact Nat.lt_of_lt_of_le hbw hb.size)]; exact g0
          have HC1 : Hid (Cl ss m q k ↔ sumS (ss.getD q ByteArray.empty) m = S ∧ ss.getD q ByteArray.empty ≠ x) := by unfold Cl; rw [HX.out, HS.out]; exact Iff.rfl
          generalize hy : ss.getD q ByteArray.empty = y at *
          have HY : Hid (ss.getD q ByteArray.empty = y) := hy
          clear hy
          generalize hT : sumS y m = T at *
          clear hT hgc
          by_cases hST : T = S
          · have t1 : (T.toList == S.toList) = true := by rw [hST]; simp
            by_cases hxy : y = x
            · have t2 : (y.toList == x.toList) = true := by rw [hxy]; simp
              have hnq' : Hid (∀ i', i' < q + 1 → ¬ Cl ss m i' k) := noCl_step hnq.out (fun h => (HC1.out.1 h).2 hxy)
              clear hST hxy
              go_wp2_with fail
              go_quiet (fail)
              all_goals go_wp2
              go_roundw
              case rel => exact ⟨q + 1, _, by omega, by go_num, rfl, hnq'⟩
              case measure => simp [intOf]; omega
            · have t2 : (y.toList == x.toList) = false := neq_str hxy
              have hN : Hid (IsClash ss m y x true) := .inr ⟨rfl, ⟨by omega, h2000⟩, q, k, hqk, hlt, HY.out.symm, HX.out.symm, HC1.out.2 ⟨hST, hxy⟩, hnq.out, hno.out⟩
              clear hST hxy
              go_wp2_with fail
              go_quiet (fail)
              all_goals go_wp2_with fail
              go_quiet (fail)
              all_goals go_wp2
              go_ret3
              exact ⟨⟨y, x, true, rfl, hN.out⟩, below_drewN (below_drewN (below_drewN hB1 _) _) _⟩
          · have t1 : (T.toList == S.toList) = false := neq_str hST
            have hnq' : Hid (∀ i', i' < q + 1 → ¬ Cl ss m i' k) := noCl_step hnq.out (fun h => hST (HC1.out.1 h).1)
            clear hST
            go_wp2_with fail
            go_quiet (fail)
            all_goals go_wp2
            go_roundw
            case rel => exact ⟨q + 1, _, by omega, by go_num, rfl, hnq'⟩
            case measure => simp [intOf]; omega
        · have hno' : Hid (NoCl ss m (k + 1)) := noCl_out hno.out (by have := hnq.out; rwa [show q = k by omega] at this)
          have hown2 : (w1.drewN nq).ownsRow w.heap.size 9 1 u7 k ((ss.take k).map fun s => .string (sumS s m)) := ownsRow_below hown (below_drewN hb1 nq)
          have hB2 : Below w.heap.size w (w1.drewN nq) := below_drewN hB1 nq
          have hSn : Hid (((ss.take (k + 1)).map fun s => Value.string (sumS s m)) = ((ss.take k).map fun s => Value.string (sumS s m)) ++ [.string S]) := by rw [sums_snoc ss m k hlt, HX.out, HS.out]; rfl
          go_wp2_with (at_builtin; refine wpList_append_own _ rfl _ _ 34 rfl w.heap.size 9 i0 (.string ⟨#[]⟩) 1 16 Try.underlying34 hi hz0 hz1 hz2 rfl (by decide) _ _ _ rfl (hown2.alloc _) ⟨(w1.drewN nq).heap.size, 0, none⟩ 1 1 [.string S] rfl rfl (cell_one_new _ _ _) (by intro u hu; simp at hu; subst hu; rfl) (by unfold maxLen; omega) (by omega) (by have := hB2.size; simp at this ⊢; omega) ?_; intro v' w2 hown' hgrow _)
          go_roundw
          case rel => exact ⟨k + 1, by omega, by go_num, by rw [hSn.out]; exact hown', (hB2.alloc hB2.size _).grown hgrow (by have := hB2.size; simp at this ⊢; omega) (fun j hj => (hown2.lt j hj).1), hno'⟩
          case measure => simp [intOf]; omega
    · have hno' : Hid (IsClash ss m ⟨#[]⟩ ⟨#[]⟩ false) := clash_none (by have := hno.out; rwa [show k = ss.length by omega] at this)
      go_wp2
      go_ret3
      exact ⟨⟨_, _, _, rfl, hno'.out⟩, hb⟩

set_option maxHeartbeats 400000 in
theorem c18_no (a : Option Addr) (cap : Nat) (ss : List ByteArray) (n : Int) (w : World) (hl : ss.length ≤ 1048700) (hv : ¬ ((1 ≤ n ∧ n ≤ 8) ∧ ss.length ≤ 2000)) :
    Calls Try.prog 18 #[.slice a ss.length cap, .int .i64 n] w fun e w' => (∃ x y f, e = .returned (.tuple #[.string x, .string y, .bool f]) ∧ IsClash ss n x y f) ∧ Below w.heap.size w w' := by
  have hC : Hid (IsClash ss n ⟨#[]⟩ ⟨#[]⟩ false) := .inl ⟨rfl, rfl, rfl, fun h => absurd h hv⟩
  by_cases hn : 1 ≤ n ∧ n ≤ 8
  · have hd : decide (1 ≤ n ∧ n ≤ 8) = true := by simpa using hn
    have h2000 : 2000 < ss.length := by omega
    clear hv
    go_enter Try.func18, Try.ntmps18
    go_wp2_with fail
    refine (c25 _ _).mono ?_
    rintro e w' ⟨rfl, rfl⟩
    rw [hd]
    go_wp2
    go_ret3
    exact ⟨⟨_, _, _, rfl, hC.out⟩, Below.refl _ _⟩
  · have hd : decide (1 ≤ n ∧ n ≤ 8) = false := by simpa using hn
    clear hv
    go_enter Try.func18, Try.ntmps18
    go_wp2_with fail
    refine (c25 _ _).mono ?_
    rintro e w' ⟨rfl, rfl⟩
    rw [hd]
    go_wp2
    go_ret3
    exact ⟨⟨_, _, _, rfl, hC.out⟩, Below.refl _ _⟩
theorem c18 (a : Option Addr) (cap : Nat) (ss : List ByteArray) (n : Int) (w : World) (hs : ∀ i, (ss.getD i ByteArray.empty).size ≤ 1048700) (hl : ss.length ≤ 1048700) (hat : StrsAt w a ss) :
    Calls Try.prog 18 #[.slice a ss.length cap, .int .i64 n] w fun e w' => (∃ x y f, e = .returned (.tuple #[.string x, .string y, .bool f]) ∧ IsClash ss n x y f) ∧ Below w.heap.size w w' := by
  by_cases hv : (1 ≤ n ∧ n ≤ 8) ∧ ss.length ≤ 2000
  · obtain ⟨m, rfl⟩ := Int.eq_ofNat_of_zero_le (show 0 ≤ n by omega)
    exact c18_yes a cap ss m w hs hat (by omega) (by omega) hv.2
  · exact c18_no a cap ss n w hl hv
end Go.Proofs.Ytckbjbnmlmhihaa

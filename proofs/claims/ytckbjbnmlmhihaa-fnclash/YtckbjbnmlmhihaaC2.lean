import Derived.Test.YtckbjbnmlmhihaaC1
namespace Go.Proofs.Ytckbjbnmlmhihaa
open Go.RowKit Go.Maps

set_option maxHeartbeats 1000000 in
theorem c17_yes (a : Option Addr) (cap : Nat) (ss : List ByteArray) (m : Nat) (w : World) (hs : ∀ i, (ss.getD i ByteArray.empty).size ≤ 1048700) (hat : StrsAt w a ss) (hm1 : 1 ≤ m) (hm8 : m ≤ 8) (h2000 : ss.length ≤ 2000) :
    Calls Try.prog 17 #[.slice a ss.length cap, .int .i64 m] w fun e w' => (∃ x y f, e = .returned (.tuple #[.string x, .string y, .bool f]) ∧ IsClash ss m x y f) ∧ Below w.heap.size w w' := by
  have hd : decide ((1 : Int) ≤ (m : Int) ∧ (m : Int) ≤ 8) = true := by simp; omega
  have hmm := @run_makeMap Try.prog
  have hc : ∃ b off, (ss = [] ∨ (a = some ⟨b, off, none⟩ ∧ b < w.heap.size ∧ ∀ i, i < ss.length → w.cell? ⟨b, off + i, none⟩ = some (.string (ss.getD i ByteArray.empty)))) := by
    rcases hat with h | ⟨b, off, h⟩
    · exact ⟨0, 0, .inl h⟩
    · exact ⟨b, off, .inr h⟩
  obtain ⟨b, off, hc⟩ := hc
  have HC : Hid (ss = [] ∨ (a = some ⟨b, off, none⟩ ∧ b < w.heap.size ∧ ∀ i, i < ss.length → w.cell? ⟨b, off + i, none⟩ = some (.string (ss.getD i ByteArray.empty)))) := hc
  clear hc hat
  go_enter Try.func17, Try.ntmps17
  go_wp2_with fail
  refine (c26 _ _).mono ?_
  rintro e w' ⟨rfl, hw⟩
  obtain rfl := hw.symm
  rw [hd]
  go_wp2_with fail
  go_loopw [24] (fun i wr => ∃ (k : Nat) (D : DataW Unit), k ≤ ss.length ∧ i = .int .i64 k ∧ wr.ownsMap Try.prog 50 (plainElem Try.prog 3) w.heap.size k D ∧ Hid (MapRel D (KK ss m) k) ∧ Below w.heap.size w wr ∧ w.heap.size + 1 ≤ wr.heap.size ∧ Hid (NoCl ss m k)) (fun i _ => ss.length - (intOf i).toNat)
  case atStart => exact ⟨0, .map [], Nat.zero_le _, rfl, World.ownsMap_made _ _ _ _, mapRel_start _, (Below.refl _ _).alloc (Nat.le_refl _) _, by simp, fun j h => absurd h (Nat.not_lt_zero _)⟩
  case round =>
    obtain ⟨k, D, hk, rfl, hown, hmr, hb, hz, hno⟩ := hrel
    by_cases hlt : k < ss.length
    · rcases HC.out with hss | ⟨ha, hbw, hcell⟩
      · rw [hss] at hlt; exact absurd hlt (Nat.not_lt_zero _)
      subst ha
      have g0 : wr.cell? ⟨b, off + k, none⟩ = some (.string (ss.getD k ByteArray.empty)) := (hb.cell (by exact hbw)).trans (hcell k hlt)
      have hxs : (ss.getD k ByteArray.empty).size ≤ 1048700 := hs k
      generalize hx : ss.getD k ByteArray.empty = x at *
      have HX : Hid (ss.getD k ByteArray.empty = x) := hx
      clear hx
      go_wp2_with fail
      refine (c27 x m _ (by omega) hxs).mono ?_
      rintro e w1 ⟨⟨X, hX, rfl⟩, hb1⟩
      have HK : Hid (keyL X m = KK ss m k) := by unfold KK; rw [HX.out, hX]; rfl
      clear hX
      have hown1 := (ownsMap_below hown hb1 (by omega)).alloc (.cells #[.int .u8 (kc X m 0), .int .u8 (kc X m 1), .int .u8 (kc X m 2), .int .u8 (kc X m 3), .int .u8 (kc X m 4), .int .u8 (kc X m 5), .int .u8 (kc X m 6), .int .u8 (kc X m 7)] 50)
      have hB1 : Below w.heap.size w w1 := hb.trans (hb1.mono hb.size)
      have hz1 : w.heap.size + 1 ≤ w1.heap.size := Nat.le_trans hz hb1.size
      by_cases hhas : has D (keyL X m) = true
      · obtain ⟨i0, hi0, hKi, hfirst, hat0⟩ := mapRel_first hmr.out (keyL X m) (keyL_lit _ _) hhas
        have hmr' : Hid (MapRel D (KK ss m) (k + 1)) := mapRel_keep hmr.out (keyL_lit _ _) (by rw [← HK.out]; exact hhas)
        have HF : Hid (KK ss m i0 = KK ss m k) := hKi.trans HK.out
        have HG : Hid (∀ i', i' < i0 → KK ss m i' ≠ KK ss m k) := fun i' h => by rw [← HK.out]; exact hfirst i' h
        have g1 : (w1.alloc (.cells #[.int .u8 (kc X m 0), .int .u8 (kc X m 1), .int .u8 (kc X m 2), .int .u8 (kc X m 3), .int .u8 (kc X m 4), .int .u8 (kc X m 5), .int .u8 (kc X m 6), .int .u8 (kc X m 7)] 50)).cell? ⟨b, off + i0, none⟩ = some (.string (ss.getD i0 ByteArray.empty)) := by
          rw [(hb1.alloc hb1.size _).cell (by simp; omega), hb.cell (by exact hbw)]
          exact hcell i0 (by omega)
        generalize hy : ss.getD i0 ByteArray.empty = y at *
        have HY : Hid (ss.getD i0 ByteArray.empty = y) := hy
        clear hy hKi hfirst
        by_cases hxy : y = x
        · have hxy' : (y.toList == x.toList) = true := by rw [hxy]; simp
          have hno' : Hid (NoCl ss m (k + 1)) := noCl_same hm1 hm8 hno.out HF.out HG.out (by rw [HX.out, HY.out]; exact hxy)
          clear hxy
          go_wp2_with (at_lookup; refine wpList_lookup_own_ok_int _ rfl _ _ 60 rfl 50 3 .i64 law Try.underlying60 Try.underlying3 (zero3 _) w.heap.size k D rfl hown1 _ _ rfl (hkey X m) ?_; intro c hat hwc; obtain rfl : c = i0 := (by rw [hat0] at hat; injection hat with hat; injection hat with _ hat; exact hat.symm))
          go_roundw
          case rel => exact ⟨k + 1, D, by omega, by go_num, ownsMap_mono hown1, hmr', hB1.alloc (by omega) _, by simp; omega, hno'⟩
          case measure => simp [intOf]; omega
        · have hxy' : (y.toList == x.toList) = false := by rw [ByteArray.toList_eq, ByteArray.toList_eq]; simp only [beq_eq_false_iff_ne, ne_eq]; intro e; exact hxy (ByteArray.ext (Array.toList_inj.1 e))
          have HN : Hid (IsClash ss m y x true) := by
            have := clash_here hm1 hm8 h2000 hlt hno.out hi0 HF.out HG.out (by rw [HX.out, HY.out]; exact hxy)
            rw [HX.out, HY.out] at this
            exact this
          clear hxy
          go_wp2_with (at_lookup; refine wpList_lookup_own_ok_int _ rfl _ _ 60 rfl 50 3 .i64 law Try.underlying60 Try.underlying3 (zero3 _) w.heap.size k D rfl hown1 _ _ rfl (hkey X m) ?_; intro c hat hwc; obtain rfl : c = i0 := (by rw [hat0] at hat; injection hat with hat; injection hat with _ hat; exact hat.symm))
          go_ret3
          exact ⟨⟨y, x, true, rfl, HN.out⟩, hB1.alloc (by omega) _⟩
      · have hf : has D (keyL X m) = false := by simpa using hhas
        have hmr' : Hid (MapRel (D.put (keyL X m) (.lit (.int .i64 k))) (KK ss m) (k + 1)) := by
          rw [HK.out]
          exact mapRel_put hmr.out (keyL_lit _ _) (by rw [← HK.out]; exact hf)
        have hno' : Hid (NoCl ss m (k + 1)) := noCl_new hm1 hm8 hmr.out hno.out (by rw [← HK.out]; exact hf)
        have hwf : (Lit.int .i64 (k : Int)).wf = true := by simp [Lit.wf, IntKind.min, IntKind.max, IntKind.signed, IntKind.bits]; omega
        clear hhas
        go_wp2_with (first | (at_lookup; refine wpList_lookup_own_ok_int _ rfl _ _ 60 rfl 50 3 .i64 law Try.underlying60 Try.underlying3 (zero3 _) w.heap.size k D rfl hown1 _ _ rfl (hkey X m) ?_; intro c hat hwc) | (at_mapUpdate; refine wpList_mapUpdate_own _ rfl _ _ _ 60 rfl 50 3 law Try.underlying60 _ w.heap.size k _ rfl hown1 (by unfold maxLen; omega) _ _ _ rfl rfl (hkey X m) _ [] (plainElem_int Try.underlying3 hwf) ?_; intro w2 hown2 hgrow2))
        go_roundw
        case rel => exact ⟨k + 1, _, by omega, by go_num, hown2, hmr', (hB1.alloc (by omega) _).grown hgrow2 (by simp; omega) (fun j hj => by cases hj; exact Nat.le_refl _), by have := hgrow2.size; simp at this; omega, hno'⟩
        case measure => simp [intOf]; omega
    · have hno' : Hid (IsClash ss m ⟨#[]⟩ ⟨#[]⟩ false) := clash_none (by have := hno.out; rwa [show k = ss.length by omega] at this)
      go_wp2
      go_ret3
      exact ⟨⟨_, _, _, rfl, hno'.out⟩, hb⟩

set_option maxHeartbeats 400000 in
theorem c17_no (a : Option Addr) (cap : Nat) (ss : List ByteArray) (n : Int) (w : World) (hl : ss.length ≤ 1048700) (hv : ¬ ((1 ≤ n ∧ n ≤ 8) ∧ ss.length ≤ 2000)) :
    Calls Try.prog 17 #[.slice a ss.length cap, .int .i64 n] w fun e w' => (∃ x y f, e = .returned (.tuple #[.string x, .string y, .bool f]) ∧ IsClash ss n x y f) ∧ Below w.heap.size w w' := by
  have hC : Hid (IsClash ss n ⟨#[]⟩ ⟨#[]⟩ false) := .inl ⟨rfl, rfl, rfl, fun h => absurd h hv⟩
  by_cases hn : 1 ≤ n ∧ n ≤ 8
  · have hd : decide (1 ≤ n ∧ n ≤ 8) = true := by simpa using hn
    have h2000 : 2000 < ss.length := by omega
    clear hv
    go_enter Try.func17, Try.ntmps17
    go_wp2_with fail
    refine (c26 _ _).mono ?_
    rintro e w' ⟨rfl, rfl⟩
    rw [hd]
    go_wp2
    go_ret3
    exact ⟨⟨_, _, _, rfl, hC.out⟩, Below.refl _ _⟩
  · have hd : decide (1 ≤ n ∧ n ≤ 8) = false := by simpa using hn
    clear hv
    go_enter Try.func17, Try.ntmps17
    go_wp2_with fail
    refine (c26 _ _).mono ?_
    rintro e w' ⟨rfl, rfl⟩
    rw [hd]
    go_wp2
    go_ret3
    exact ⟨⟨_, _, _, rfl, hC.out⟩, Below.refl _ _⟩
theorem c17 (a : Option Addr) (cap : Nat) (ss : List ByteArray) (n : Int) (w : World) (hs : ∀ i, (ss.getD i ByteArray.empty).size ≤ 1048700) (hl : ss.length ≤ 1048700) (hat : StrsAt w a ss) :
    Calls Try.prog 17 #[.slice a ss.length cap, .int .i64 n] w fun e w' => (∃ x y f, e = .returned (.tuple #[.string x, .string y, .bool f]) ∧ IsClash ss n x y f) ∧ Below w.heap.size w w' := by
  by_cases hv : (1 ≤ n ∧ n ≤ 8) ∧ ss.length ≤ 2000
  · obtain ⟨m, rfl⟩ := Int.eq_ofNat_of_zero_le (show 0 ≤ n by omega)
    exact c17_yes a cap ss m w hs hat (by omega) (by omega) hv.2
  · exact c17_no a cap ss n w hl hv
end Go.Proofs.Ytckbjbnmlmhihaa

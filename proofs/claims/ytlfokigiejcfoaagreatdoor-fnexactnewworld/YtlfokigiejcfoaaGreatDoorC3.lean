import Derived.Test.YtlfokigiejcfoaaGreatDoorC2
import Derived.Test.YtlfokigiejcfoaaGreatDoorA11
import Derived.Test.YtlfokigiejcfoaaGreatDoorA13
namespace Go.Proofs.YtlfokigiejcfoaaGreatDoor
open Go.RowKit
theorem step_app {P : Program} {ops : Array Oper} {o : Oper} {a : Act} {w : World} {K : Act → World → Prop} {Q : Exit → Act → World → Prop} {E : Prop}
    (hg : o.guard = none) (s x : Operand) (t : TypeId) (hop : o.op = Op.call { callee := Callee.builtin Builtin.append, args := #[s, x], argTypes := #[t, t] })
    (base : Nat) (e : TypeId) (i : TypeInfo) (z : Value) (size bytes : Nat) (h1 : P.underlying t = some (.slice e)) (h2 : P.info? e = some i) (h3 : i.zero = some z) (h4 : i.size = size) (h5 : i.bytes = bytes) (h6 : z.cells.size = size) (h7 : 0 < size)
    (v : Value) (n : Nat) (xs : List Value) (hs : a.eval s = v) (hown : w.ownsRow base e size v n xs)
    (ad : Addr) (m c : Nat) (news : List Value) (hx : a.eval x = .slice (some ad) m c) (hn : news.length = m * size) (hc : ∀ j u, news[j]? = some u → w.cell? (ad.add j) = some u) (h1c : ∀ u ∈ news, u.oneCell' = true)
    (b1 : n + m ≤ maxLen) (b2 : (n + m) * bytes ≤ 140737488355328) (hb : base ≤ w.heap.size)
    (hK : ∀ v' w', w'.ownsRow base e size v' (n + m) (xs ++ news) → w.grownBy w' v.ownBlock → K (a.put o.dst v') w') :
    if Region.wanted o (yielded ops a.tmps) = true then Oper.wp P o a w K Q else E := by
  have hw : Region.wanted o (yielded ops a.tmps) = true := by simp [Region.wanted, hg]
  rw [if_pos hw]
  obtain ⟨v', w', hrun, r1, r2, _⟩ := run_append_own (P := P) w base t o.type e i z size bytes h1 h2 h3 h4 h5 h6 h7 v n xs hown ad m c news hn hc h1c b1 b2 hb
  unfold Oper.wp
  simp [execOp, hop, resolve, invoke, builtin, hs, hx, hrun, Result.andThen]
  exact hK v' w' r1 r2
theorem info_parts {P : Program} {e : TypeId} {z : Value} {n m : Nat} (h : (P.info? e).map (fun i => (i.zero, i.size, i.bytes)) = some (some z, n, m)) : ∃ i, P.info? e = some i ∧ i.zero = some z ∧ i.size = n ∧ i.bytes = m := by
  cases hq : P.info? e with
  | none => simp [hq] at h
  | some i =>
    simp only [hq, Option.map_some, Option.some.injEq, Prod.mk.injEq] at h
    exact ⟨i, rfl, h.1, h.2.1, h.2.2⟩
theorem info9 : (Tryz.prog.info? 9).map (fun i => (i.zero, i.size, i.bytes)) = some (some (.string ⟨#[]⟩), 1, 16) := by kernel_rfl
theorem own_str {u : World} {base : Nat} {v s : Value} (h : u.ownsRow base 9 1 v (0 + 1) ([] ++ [s])) : ∃ g c, v = .slice (some ⟨g, 0, none⟩) 1 c ∧ base ≤ g ∧ g < u.heap.size ∧ u.cell? ⟨g, 0, none⟩ = some s ∧ u.frozen? ⟨g, 0, none⟩ = false := by
  have h' := h
  rcases h.2 with ⟨_, h0⟩ | ⟨g, cap, cur, hv, hg, hh, _⟩
  · omega
  · subst hv
    refine ⟨g, cap, rfl, hg, (Array.getElem?_eq_some_iff.1 hh).1, ?_, h'.frozenAt 0⟩
    rw [h'.cellAt 0 (by simp)]
    rfl
set_option maxHeartbeats 4000000 in
set_option maxRecDepth 100000 in
theorem c30 (d : Int) (n g hc : Nat) (w : World) (hd : btw d 1 8 = true) :
    Calls Tryz.prog 30 #[.agg #[.int .i64 d, .bool false, .int .i64 0, .int .i64 0, .int .i64 0, .slice none 0 0, .slice none 0 0, .slice none 0 0, .int .i64 0, .slice none 0 0, .slice none 0 0, .slice (some ⟨g, 0, none⟩) n hc, .slice none 0 0, .slice none 0 0, .slice none 0 0]] w fun e w' => (∃ b lc, e = .returned (.agg #[.int .i64 d, .bool true, .int .i64 0, .int .i64 1, .int .i64 0, .slice none 0 0, .slice (some ⟨b, 0, none⟩) 1 lc, .slice none 0 0, .int .i64 d, .slice none 0 0, .slice none 0 0, .slice (some ⟨g, 0, none⟩) n hc, .slice none 0 0, .slice none 0 0, .slice none 0 0]) ∧ w.heap.size ≤ b ∧ b < w'.heap.size ∧ w'.cell? ⟨b, 0, none⟩ = some (.string epL) ∧ w'.frozen? ⟨b, 0, none⟩ = false) ∧ Below w.heap.size w w' := by
  obtain ⟨i0, hi, hz0, hz1, hz2⟩ := info_parts info9
  have hzV : ((w.alloc (.cells #[.int .i64 d, .bool false, .int .i64 0, .int .i64 0, .int .i64 0, .slice none 0 0, .slice none 0 0, .slice none 0 0, .int .i64 0, .slice none 0 0, .slice none 0 0, .slice (some ⟨g, 0, none⟩) n hc, .slice none 0 0, .slice none 0 0, .slice none 0 0] 35)).alloc (.cells #[.int .i64 0, .bool false, .int .i64 0, .int .i64 0, .int .i64 0, .slice none 0 0, .slice none 0 0, .slice none 0 0, .int .i64 0, .slice none 0 0, .slice none 0 0, .slice none 0 0, .slice none 0 0, .slice none 0 0, .slice none 0 0] 35)).heap.size = w.heap.size + 2 := by simp
  have hBV : Below w.heap.size w ((w.alloc (.cells #[.int .i64 d, .bool false, .int .i64 0, .int .i64 0, .int .i64 0, .slice none 0 0, .slice none 0 0, .slice none 0 0, .int .i64 0, .slice none 0 0, .slice none 0 0, .slice (some ⟨g, 0, none⟩) n hc, .slice none 0 0, .slice none 0 0, .slice none 0 0] 35)).alloc (.cells #[.int .i64 0, .bool false, .int .i64 0, .int .i64 0, .int .i64 0, .slice none 0 0, .slice none 0 0, .slice none 0 0, .int .i64 0, .slice none 0 0, .slice none 0 0, .slice none 0 0, .slice none 0 0, .slice none 0 0, .slice none 0 0] 35)) := ((Below.refl _ _).alloc (Nat.le_refl _) _).alloc (by simp) _
  have X0 := hidI ((M.blk_new w [.int .i64 d, .bool false, .int .i64 0, .int .i64 0, .int .i64 0, .slice none 0 0, .slice none 0 0, .slice none 0 0, .int .i64 0, .slice none 0 0, .slice none 0 0, .slice (some ⟨g, 0, none⟩) n hc, .slice none 0 0, .slice none 0 0, .slice none 0 0] 35).below ((Below.refl _ _).alloc (Nat.le_refl _) (.cells #[.int .i64 0, .bool false, .int .i64 0, .int .i64 0, .int .i64 0, .slice none 0 0, .slice none 0 0, .slice none 0 0, .int .i64 0, .slice none 0 0, .slice none 0 0, .slice none 0 0, .slice none 0 0, .slice none 0 0, .slice none 0 0] 35)) (by simp))
  have F0 := hidI ((M.opn_new w ([.int .i64 d, .bool false, .int .i64 0, .int .i64 0, .int .i64 0, .slice none 0 0, .slice none 0 0, .slice none 0 0, .int .i64 0, .slice none 0 0, .slice none 0 0, .slice (some ⟨g, 0, none⟩) n hc, .slice none 0 0, .slice none 0 0, .slice none 0 0] : List Value).toArray 35).below ((Below.refl _ _).alloc (Nat.le_refl _) (.cells #[.int .i64 0, .bool false, .int .i64 0, .int .i64 0, .int .i64 0, .slice none 0 0, .slice none 0 0, .slice none 0 0, .int .i64 0, .slice none 0 0, .slice none 0 0, .slice none 0 0, .slice none 0 0, .slice none 0 0, .slice none 0 0] 35)) (by simp))
  have Z0 : Hid (M.BlkAt ((w.alloc (.cells #[.int .i64 d, .bool false, .int .i64 0, .int .i64 0, .int .i64 0, .slice none 0 0, .slice none 0 0, .slice none 0 0, .int .i64 0, .slice none 0 0, .slice none 0 0, .slice (some ⟨g, 0, none⟩) n hc, .slice none 0 0, .slice none 0 0, .slice none 0 0] 35)).alloc (.cells #[.int .i64 0, .bool false, .int .i64 0, .int .i64 0, .int .i64 0, .slice none 0 0, .slice none 0 0, .slice none 0 0, .int .i64 0, .slice none 0 0, .slice none 0 0, .slice none 0 0, .slice none 0 0, .slice none 0 0, .slice none 0 0] 35)) (w.heap.size + 1) [.int .i64 0, .bool false, .int .i64 0, .int .i64 0, .int .i64 0, .slice none 0 0, .slice none 0 0, .slice none 0 0, .int .i64 0, .slice none 0 0, .slice none 0 0, .slice none 0 0, .slice none 0 0, .slice none 0 0, .slice none 0 0]) := fun j x hx => by simp [go_sem, hx]
  have G0 : Hid (M.OpnAt ((w.alloc (.cells #[.int .i64 d, .bool false, .int .i64 0, .int .i64 0, .int .i64 0, .slice none 0 0, .slice none 0 0, .slice none 0 0, .int .i64 0, .slice none 0 0, .slice none 0 0, .slice (some ⟨g, 0, none⟩) n hc, .slice none 0 0, .slice none 0 0, .slice none 0 0] 35)).alloc (.cells #[.int .i64 0, .bool false, .int .i64 0, .int .i64 0, .int .i64 0, .slice none 0 0, .slice none 0 0, .slice none 0 0, .int .i64 0, .slice none 0 0, .slice none 0 0, .slice none 0 0, .slice none 0 0, .slice none 0 0, .slice none 0 0] 35)) (w.heap.size + 1)) := fun j => by simp [go_sem]
  go_enter Tryz.func30, Tryz.ntmps30
  go_wp2_with fail
  generalize ((w.alloc (.cells #[.int .i64 d, .bool false, .int .i64 0, .int .i64 0, .int .i64 0, .slice none 0 0, .slice none 0 0, .slice none 0 0, .int .i64 0, .slice none 0 0, .slice none 0 0, .slice (some ⟨g, 0, none⟩) n hc, .slice none 0 0, .slice none 0 0, .slice none 0 0] 35)).alloc (.cells #[.int .i64 0, .bool false, .int .i64 0, .int .i64 0, .int .i64 0, .slice none 0 0, .slice none 0 0, .slice none 0 0, .int .i64 0, .slice none 0 0, .slice none 0 0, .slice none 0 0, .slice none 0 0, .slice none 0 0, .slice none 0 0] 35)) = V at *
  rename_i K0 hK0
  have TAIL : ∀ (A : Nat) (E : World), Below V.heap.size V E → V.heap.size ≤ A → A < E.heap.size → M.BlkAt E A [.int .i64 0, .int .i64 0, .slice none 0 0, .int .i64 d, .slice none 0 0, .slice none 0 0] → K0 { tmps := #[.agg #[.int .i64 d, .bool false, .int .i64 0, .int .i64 0, .int .i64 0, .slice none 0 0, .slice none 0 0, .slice none 0 0, .int .i64 0, .slice none 0 0, .slice none 0 0, .slice (some ⟨g, 0, none⟩) n hc, .slice none 0 0, .slice none 0 0, .slice none 0 0], .pointer (some ⟨w.heap.size, 0, none⟩), .pointer (some ⟨w.heap.size + 1, 0, none⟩), .pointer (some ⟨A, 0, none⟩), undef, .pointer (some ⟨w.heap.size, 5, none⟩), .agg #[.slice none 0 0, .slice none 0 0], .slice none 0 0, .pointer (some ⟨w.heap.size, 0, none⟩), .int .i64 d, .agg #[.int .i64 0, .int .i64 0, .slice none 0 0, .int .i64 d, .slice none 0 0, .slice none 0 0], undef, undef, undef, undef, undef, undef, undef, undef, undef, undef, undef, undef, undef, undef, undef, undef, undef, undef, undef, undef, undef, undef, undef, undef, undef, undef, undef, undef, undef, undef, undef], defers := [] } E := by
    intro A E hE hA1 hA2 hM
    have hsE := hE.size
    have hBE := hBV.trans (hE.mono hBV.size)
    have HX := hidI (X0.out.below hE (by omega))
    have HF := hidI (F0.out.below hE (by omega))
    have HZ := hidI (Z0.out.below hE (by omega))
    have HG := hidI (G0.out.below hE (by omega))
    have m1 := hM 1 _ rfl
    have HM := hidI hM
    clear hM X0 F0 Z0 G0
    refine hK0 _ _ ?_
    clear hK0
    go_wp2_with fail
    refine (c73 E).mono ?_
    rintro e w1 ⟨rfl, hb1⟩
    have h1 := hb1.size
    have k5 := (HX.out.below hb1 (by omega)) 5 _ rfl
    have k6 := (HX.out.below hb1 (by omega)) 6 _ rfl
    go_wp2_with fail
    refine (c74 w1).mono ?_
    rintro e w2 ⟨rfl, hb2⟩
    have hb := hb1.trans (hb2.mono hb1.size)
    have h2 := hb.size
    have HX2 := hidI (HX.out.below hb (by omega))
    have HF2 := hidI (HF.out.below hb (by omega))
    have HZ2 := hidI (HZ.out.below hb (by omega))
    have HG2 := hidI (HG.out.below hb (by omega))
    have HM2 := hidI (HM.out.below hb (by omega))
    have hB2 := hBE.trans (hb.mono hBE.size)
    clear hb1 hb2 k5 k6 HX HF HZ HG HM
    have x1 := HX2.out 1 _ rfl
    have f1 := HF2.out 1
    have x3 := HX2.out 3 _ rfl
    have f3 := HF2.out 3
    have x6 := HX2.out 6 _ rfl
    have f6 := HF2.out 6
    have x7 := HX2.out 7 _ rfl
    have f7 := HF2.out 7
    have x8 := HX2.out 8 _ rfl
    have f8 := HF2.out 8
    have x9 := HX2.out 9 _ rfl
    have f9 := HF2.out 9
    have x10 := HX2.out 10 _ rfl
    have f10 := HF2.out 10
    have m12 := HM2.out 1 _ rfl
    have m22 := HM2.out 2 _ rfl
    have m32 := HM2.out 3 _ rfl
    have m42 := HM2.out 4 _ rfl
    have m52 := HM2.out 5 _ rfl
    have HX3 : Hid (M.BlkAt ((((((w2.setCell ⟨w.heap.size, 1, none⟩ (.bool true)).setCell ⟨w.heap.size, 3, none⟩ (.int .i64 1)).setCell ⟨w.heap.size, 7, none⟩ (.slice none 0 0)).setCell ⟨w.heap.size, 8, none⟩ (.int .i64 d)).setCell ⟨w.heap.size, 9, none⟩ (.slice none 0 0)).setCell ⟨w.heap.size, 10, none⟩ (.slice none 0 0)) w.heap.size [.int .i64 d, .bool true, .int .i64 0, .int .i64 1, .int .i64 0, .slice none 0 0, .slice none 0 0, .slice none 0 0, .int .i64 d, .slice none 0 0, .slice none 0 0, .slice (some ⟨g, 0, none⟩) n hc, .slice none 0 0, .slice none 0 0, .slice none 0 0]) := ((((((HX2.out.set 1 (.bool true) (by simp)).set 3 (.int .i64 1) (by simp)).set 7 (.slice none 0 0) (by simp)).set 8 (.int .i64 d) (by simp)).set 9 (.slice none 0 0) (by simp)).set 10 (.slice none 0 0) (by simp))
    have HF3 : Hid (M.OpnAt ((((((w2.setCell ⟨w.heap.size, 1, none⟩ (.bool true)).setCell ⟨w.heap.size, 3, none⟩ (.int .i64 1)).setCell ⟨w.heap.size, 7, none⟩ (.slice none 0 0)).setCell ⟨w.heap.size, 8, none⟩ (.int .i64 d)).setCell ⟨w.heap.size, 9, none⟩ (.slice none 0 0)).setCell ⟨w.heap.size, 10, none⟩ (.slice none 0 0)) w.heap.size) := ((((((HF2.out.set _ _).set _ _).set _ _).set _ _).set _ _).set _ _)
    have HZ3 : Hid (M.BlkAt ((((((w2.setCell ⟨w.heap.size, 1, none⟩ (.bool true)).setCell ⟨w.heap.size, 3, none⟩ (.int .i64 1)).setCell ⟨w.heap.size, 7, none⟩ (.slice none 0 0)).setCell ⟨w.heap.size, 8, none⟩ (.int .i64 d)).setCell ⟨w.heap.size, 9, none⟩ (.slice none 0 0)).setCell ⟨w.heap.size, 10, none⟩ (.slice none 0 0)) (w.heap.size + 1) [.int .i64 0, .bool false, .int .i64 0, .int .i64 0, .int .i64 0, .slice none 0 0, .slice none 0 0, .slice none 0 0, .int .i64 0, .slice none 0 0, .slice none 0 0, .slice none 0 0, .slice none 0 0, .slice none 0 0, .slice none 0 0]) := ((((((HZ2.out.other _ _ (by show w.heap.size ≠ w.heap.size + 1; omega)).other _ _ (by show w.heap.size ≠ w.heap.size + 1; omega)).other _ _ (by show w.heap.size ≠ w.heap.size + 1; omega)).other _ _ (by show w.heap.size ≠ w.heap.size + 1; omega)).other _ _ (by show w.heap.size ≠ w.heap.size + 1; omega)).other _ _ (by show w.heap.size ≠ w.heap.size + 1; omega))
    have HG3 : Hid (M.OpnAt ((((((w2.setCell ⟨w.heap.size, 1, none⟩ (.bool true)).setCell ⟨w.heap.size, 3, none⟩ (.int .i64 1)).setCell ⟨w.heap.size, 7, none⟩ (.slice none 0 0)).setCell ⟨w.heap.size, 8, none⟩ (.int .i64 d)).setCell ⟨w.heap.size, 9, none⟩ (.slice none 0 0)).setCell ⟨w.heap.size, 10, none⟩ (.slice none 0 0)) (w.heap.size + 1)) := ((((((HG2.out.set _ _).set _ _).set _ _).set _ _).set _ _).set _ _)
    have hB3 : Below w.heap.size w ((((((w2.setCell ⟨w.heap.size, 1, none⟩ (.bool true)).setCell ⟨w.heap.size, 3, none⟩ (.int .i64 1)).setCell ⟨w.heap.size, 7, none⟩ (.slice none 0 0)).setCell ⟨w.heap.size, 8, none⟩ (.int .i64 d)).setCell ⟨w.heap.size, 9, none⟩ (.slice none 0 0)).setCell ⟨w.heap.size, 10, none⟩ (.slice none 0 0)) := ((((((hB2.setCell (p := ⟨w.heap.size, 1, none⟩) (Nat.le_refl _) _).setCell (p := ⟨w.heap.size, 3, none⟩) (Nat.le_refl _) _).setCell (p := ⟨w.heap.size, 7, none⟩) (Nat.le_refl _) _).setCell (p := ⟨w.heap.size, 8, none⟩) (Nat.le_refl _) _).setCell (p := ⟨w.heap.size, 9, none⟩) (Nat.le_refl _) _).setCell (p := ⟨w.heap.size, 10, none⟩) (Nat.le_refl _) _)
    have hs3 : ((((((w2.setCell ⟨w.heap.size, 1, none⟩ (.bool true)).setCell ⟨w.heap.size, 3, none⟩ (.int .i64 1)).setCell ⟨w.heap.size, 7, none⟩ (.slice none 0 0)).setCell ⟨w.heap.size, 8, none⟩ (.int .i64 d)).setCell ⟨w.heap.size, 9, none⟩ (.slice none 0 0)).setCell ⟨w.heap.size, 10, none⟩ (.slice none 0 0)).heap.size = w2.heap.size := by simp
    go_wp2_with fail
    generalize ((((((w2.setCell ⟨w.heap.size, 1, none⟩ (.bool true)).setCell ⟨w.heap.size, 3, none⟩ (.int .i64 1)).setCell ⟨w.heap.size, 7, none⟩ (.slice none 0 0)).setCell ⟨w.heap.size, 8, none⟩ (.int .i64 d)).setCell ⟨w.heap.size, 9, none⟩ (.slice none 0 0)).setCell ⟨w.heap.size, 10, none⟩ (.slice none 0 0)) = w3 at *
    clear HX2 HF2 HZ2 HG2 HM2 x1 f1 x3 f3 x6 f6 x7 f7 x8 f8 x9 f9 x10 f10 m12 m22 m32 m42 m52
    have y6 := HX3.out 6 _ rfl
    have y6d : w3.drew.cell? ⟨w.heap.size, 6, none⟩ = some (.slice none 0 0) := y6
    refine wp_region_held_drew (S := (fun _ => True)) (by kernel_rfl) ?_ (fun hHeld => ?_)
    · trivial
    refine wpAnyH_take (i := 0) (oi := { dst := some 32, op := Op.fieldAddr 35 (Operand.tmp 1) 5, type := 0, pos := "l9_boss.go:177", after := #[], guard := none }) (v := ?_) rfl (by kernel_rfl) (by kernel_rfl) (by kernel_rfl) (fun _ _ _ h => h) (Or.inl ⟨by rfl, ?_⟩) (by assumption) ?_
    rotate_left
    · intro wq hSw
      (try dsimp only at hSw)
      go_simp
      try with_reducible rfl
    try simp only [Act.put, List.setIfInBounds_toArray, List.set_cons_zero, List.set_cons_succ]
    refine wpAnyH_take (i := 1) (oi := { dst := some 33, op := Op.fieldAddr 24 (Operand.tmp 32) 1, type := 0, pos := "l9_boss.go:177", after := #[{ on := 0, ground := Ground.data }], guard := none }) (v := ?_) rfl (by kernel_rfl) (by kernel_rfl) (by kernel_rfl) (fun _ _ _ h => h) (Or.inl ⟨by rfl, ?_⟩) (by assumption) ?_
    rotate_left
    · intro wq hSw
      (try dsimp only at hSw)
      go_simp
      try with_reducible rfl
    try simp only [Act.put, List.setIfInBounds_toArray, List.set_cons_zero, List.set_cons_succ]
    refine wpAnyH_take (i := 3) (oi := { dst := some 35, op := Op.move (Operand.tmp 4), type := 111, pos := "l9_boss.go:177", after := #[], guard := none }) (v := ?_) rfl (by kernel_rfl) (by kernel_rfl) (by kernel_rfl) (fun _ _ _ h => h) (Or.inl ⟨by rfl, ?_⟩) (by assumption) ?_
    rotate_left
    · intro wq hSw
      (try dsimp only at hSw)
      go_simp
      try with_reducible rfl
    try simp only [Act.put, List.setIfInBounds_toArray, List.set_cons_zero, List.set_cons_succ]
    refine wpAnyH_ready (rs := [2, 4]) (by kernel_rfl) (by simp) ?_
    refine AllReadyH.cons (o := { dst := some 34, op := Op.load 22 (Operand.tmp 33), type := 22, pos := "l9_boss.go:177", after := #[{ on := 1, ground := Ground.data }], guard := none }) rfl (fun K hK => ?_) (AllReadyH.cons (o := { dst := some 36, op := Op.call { callee := Callee.value (Operand.func 75), args := #[Operand.tmp 35], argTypes := #[111] }, type := 9, pos := "l9_boss.go:177", after := #[{ on := 3, ground := Ground.data }], guard := none }) rfl (fun K hK => ?_) AllReadyH.nil)
    · go_simp
      clear hHeld
      refine hK.out _ _ ?_ (fun hHeld => ?_)
      · trivial
      clear hK K
      try simp only [Act.put, List.setIfInBounds_toArray, List.set_cons_zero, List.set_cons_succ]
      refine wpAnyH_ready (rs := [4]) (by kernel_rfl) (by simp) ?_
      refine AllReadyH.cons (o := { dst := some 36, op := Op.call { callee := Callee.value (Operand.func 75), args := #[Operand.tmp 35], argTypes := #[111] }, type := 9, pos := "l9_boss.go:177", after := #[{ on := 3, ground := Ground.data }], guard := none }) rfl (fun K hK => ?_) AllReadyH.nil
      go_simp
      refine (c75 w3.drew).mono ?_
      rintro e w4 ⟨rfl, hb4'⟩
      have hb4 : Below w3.heap.size w3 w4 := (Below.refl _ _).drew.trans hb4'
      have hs4 := hb4.size
      have hB4 := hB3.trans (hb4.mono hB3.size)
      have HX4 := hidI (HX3.out.below hb4 (by omega))
      have HF4 := hidI (HF3.out.below hb4 (by omega))
      have HZ4 := hidI (HZ3.out.below hb4 (by omega))
      have HG4 := hidI (HG3.out.below hb4 (by omega))
      have y64 := HX4.out 6 _ rfl
      clear hb4' HX3 HF3 HZ3 HG3
      go_simp
      clear hHeld
      refine hK.out _ _ ?_ (fun hHeld => ?_)
      · trivial
      clear hK K
      try simp only [Act.put, List.setIfInBounds_toArray, List.set_cons_zero, List.set_cons_succ]
      refine wpAnyH_ready (rs := [5]) (by kernel_rfl) (by simp) ?_
      refine AllReadyH.cons (o := { dst := some 37, op := Op.buildSlice 22 1 #[(0, Operand.tmp 36)], type := 22, pos := "l9_boss.go:177", after := #[{ on := 4, ground := Ground.data }], guard := none }) rfl (fun K hK => ?_) AllReadyH.nil
      go_simp
      have hb5 : Below w4.heap.size w4 (w4.alloc (.cells #[.string epL] 9)) := (Below.refl _ _).alloc (Nat.le_refl _) _
      have hs5 : (w4.alloc (.cells #[.string epL] 9)).heap.size = w4.heap.size + 1 := by simp
      have hB5 := hB4.trans (hb5.mono hB4.size)
      have HX5 := hidI (HX4.out.below hb5 (by omega))
      have HF5 := hidI (HF4.out.below hb5 (by omega))
      have HZ5 := hidI (HZ4.out.below hb5 (by omega))
      have HG5 := hidI (HG4.out.below hb5 (by omega))
      have e5 : (w4.alloc (.cells #[.string epL] 9)).cell? ⟨w4.heap.size, 0, none⟩ = some (.string epL) := by simp [go_sem]
      have HE5 : Hid (∀ j u, ([.string epL] : List Value)[j]? = some u → (w4.alloc (.cells #[.string epL] 9)).cell? ((⟨w4.heap.size, 0, none⟩ : Addr).add j) = some u) := fun j u h => by
        match j with
        | 0 => obtain rfl := Option.some.inj h; exact e5
        | j + 1 => simp at h
      have y65 := HX5.out 6 _ rfl
      clear HX4 HF4 HZ4 HG4 e5
      clear hHeld
      refine hK.out _ _ ?_ (fun hHeld => ?_)
      · trivial
      clear hK K
      try simp only [Act.put, List.setIfInBounds_toArray, List.set_cons_zero, List.set_cons_succ]
      generalize (w4.alloc (.cells #[.string epL] 9)) = w5 at *
      refine wpAnyH_ready (rs := [6]) (by kernel_rfl) (by simp) ?_
      refine AllReadyH.cons (o := { dst := some 38, op := Op.call { callee := Callee.builtin Builtin.append, args := #[Operand.tmp 34, Operand.tmp 37], argTypes := #[22, 22] }, type := 22, pos := "l9_boss.go:177", after := #[{ on := 2, ground := Ground.data }, { on := 5, ground := Ground.data }, { on := 4, ground := Ground.chain }], guard := none }) rfl (fun K hK => ?_) AllReadyH.nil
      refine step_app rfl (.tmp 34) (.tmp 37) 22 rfl w5.heap.size 9 i0 (.string ⟨#[]⟩) 1 16 Tryz.underlying22 hi hz0 hz1 hz2 rfl (by decide) (.slice none 0 0) 0 [] rfl (World.ownsRow_nil _ _ _ _) ⟨w4.heap.size, 0, none⟩ 1 1 [.string epL] rfl rfl HE5.out (by simp [Value.oneCell']) (by unfold maxLen; omega) (by omega) (Nat.le_refl _) ?_
      intro v' w6 hown6 hgrow
      obtain ⟨b, lc, rfl, hb1, hb2, hbc, hbf⟩ := own_str hown6
      have hb6 : Below w5.heap.size w5 w6 := (Below.refl _ _).grown hgrow (Nat.le_refl _) (fun k hk => by simp [Value.ownBlock] at hk)
      have hs6 := hb6.size
      have hB6 := hB5.trans (hb6.mono hB5.size)
      have HX6 := hidI (HX5.out.below hb6 (by omega))
      have HF6 := hidI (HF5.out.below hb6 (by omega))
      have HZ6 := hidI (HZ5.out.below hb6 (by omega))
      have HG6 := hidI (HG5.out.below hb6 (by omega))
      have y66 := HX6.out 6 _ rfl
      have g66 := HF6.out 6
      clear hgrow hown6 HX5 HF5 HZ5 HG5 HE5
      clear hHeld
      refine hK.out _ _ ?_ (fun hHeld => ?_)
      · trivial
      clear hK K
      try simp only [Act.put, List.setIfInBounds_toArray, List.set_cons_zero, List.set_cons_succ]
      refine wpAnyH_take (i := 7) (oi := { dst := some 39, op := Op.fieldAddr 35 (Operand.tmp 1) 5, type := 0, pos := "l9_boss.go:177", after := #[{ on := 0, ground := Ground.phase }, { on := 1, ground := Ground.phase }, { on := 2, ground := Ground.phase }, { on := 3, ground := Ground.phase }, { on := 4, ground := Ground.phase }, { on := 5, ground := Ground.phase }, { on := 6, ground := Ground.phase }], guard := none }) (v := ?_) rfl (by kernel_rfl) (by kernel_rfl) (by kernel_rfl) (fun _ _ _ h => h) (Or.inl ⟨by rfl, ?_⟩) (by assumption) ?_
      rotate_left
      · intro wq hSw
        (try dsimp only at hSw)
        go_simp
        try with_reducible rfl
      try simp only [Act.put, List.setIfInBounds_toArray, List.set_cons_zero, List.set_cons_succ]
      refine wpAnyH_take (i := 8) (oi := { dst := some 40, op := Op.fieldAddr 24 (Operand.tmp 39) 1, type := 0, pos := "l9_boss.go:177", after := #[{ on := 7, ground := Ground.data }, { on := 0, ground := Ground.phase }, { on := 1, ground := Ground.phase }, { on := 2, ground := Ground.phase }, { on := 3, ground := Ground.phase }, { on := 4, ground := Ground.phase }, { on := 5, ground := Ground.phase }, { on := 6, ground := Ground.phase }], guard := none }) (v := ?_) rfl (by kernel_rfl) (by kernel_rfl) (by kernel_rfl) (fun _ _ _ h => h) (Or.inl ⟨by rfl, ?_⟩) (by assumption) ?_
      rotate_left
      · intro wq hSw
        (try dsimp only at hSw)
        go_simp
        try with_reducible rfl
      try simp only [Act.put, List.setIfInBounds_toArray, List.set_cons_zero, List.set_cons_succ]
      refine wpAnyH_ready (rs := [9]) (by kernel_rfl) (by simp) ?_
      refine AllReadyH.cons (o := { dst := none, op := Op.store 22 (Operand.tmp 40) (Operand.tmp 38), type := 0, pos := "l9_boss.go:177", after := #[{ on := 8, ground := Ground.data }, { on := 6, ground := Ground.data }, { on := 6, ground := Ground.chain }, { on := 0, ground := Ground.phase }, { on := 1, ground := Ground.phase }, { on := 2, ground := Ground.phase }, { on := 3, ground := Ground.phase }, { on := 4, ground := Ground.phase }, { on := 5, ground := Ground.phase }, { on := 6, ground := Ground.phase }], guard := none }) rfl (fun K hK => ?_) AllReadyH.nil
      go_simp
      have HX7 : Hid (M.BlkAt (w6.setCell ⟨w.heap.size, 6, none⟩ (.slice (some ⟨b, 0, none⟩) 1 lc)) w.heap.size [.int .i64 d, .bool true, .int .i64 0, .int .i64 1, .int .i64 0, .slice none 0 0, .slice (some ⟨b, 0, none⟩) 1 lc, .slice none 0 0, .int .i64 d, .slice none 0 0, .slice none 0 0, .slice (some ⟨g, 0, none⟩) n hc, .slice none 0 0, .slice none 0 0, .slice none 0 0]) := HX6.out.set 6 _ (by simp)
      have HZ7 : Hid (M.BlkAt (w6.setCell ⟨w.heap.size, 6, none⟩ (.slice (some ⟨b, 0, none⟩) 1 lc)) (w.heap.size + 1) [.int .i64 0, .bool false, .int .i64 0, .int .i64 0, .int .i64 0, .slice none 0 0, .slice none 0 0, .slice none 0 0, .int .i64 0, .slice none 0 0, .slice none 0 0, .slice none 0 0, .slice none 0 0, .slice none 0 0, .slice none 0 0]) := HZ6.out.other _ _ (by show w.heap.size ≠ w.heap.size + 1; omega)
      have HG7 : Hid (M.OpnAt (w6.setCell ⟨w.heap.size, 6, none⟩ (.slice (some ⟨b, 0, none⟩) 1 lc)) (w.heap.size + 1)) := HG6.out.set _ _
      have hB7 : Below w.heap.size w (w6.setCell ⟨w.heap.size, 6, none⟩ (.slice (some ⟨b, 0, none⟩) 1 lc)) := hB6.setCell (p := ⟨w.heap.size, 6, none⟩) (Nat.le_refl _) _
      have hs7 : (w6.setCell ⟨w.heap.size, 6, none⟩ (.slice (some ⟨b, 0, none⟩) 1 lc)).heap.size = w6.heap.size := by simp
      have bc7 : (w6.setCell ⟨w.heap.size, 6, none⟩ (.slice (some ⟨b, 0, none⟩) 1 lc)).cell? ⟨b, 0, none⟩ = some (.string epL) := by rw [World.cell?_setCell_other _ _ _ _ (fun h => by injection h; omega)]; exact hbc
      have bf7 : (w6.setCell ⟨w.heap.size, 6, none⟩ (.slice (some ⟨b, 0, none⟩) 1 lc)).frozen? ⟨b, 0, none⟩ = false := by simpa using hbf
      clear HX6 HF6 HZ6 HG6 y66 g66
      clear hHeld
      refine hK.out _ _ ?_ (fun hHeld => ?_)
      · trivial
      clear hK K
      try simp only [Act.put, List.setIfInBounds_toArray, List.set_cons_zero, List.set_cons_succ]
      generalize (w6.setCell ⟨w.heap.size, 6, none⟩ (.slice (some ⟨b, 0, none⟩) 1 lc)) = w7 at *
      refine wpAnyH_done (by kernel_rfl) ?_ _
      go_wp2_with (first | refine M.wpList_load_blk rfl 35 (.tmp 1) rfl w.heap.size rfl _ _ HX7.out Tryz.underlying35 rfl (by kernel_rfl) ?_ | (refine M.wpList_store_blk rfl 35 (.tmp 2) (.tmp 41) rfl (w.heap.size + 1) 0 rfl _ rfl (M.blk_some HZ7.out rfl) HG7.out (by simp [Value.oneCell']) (by kernel_rfl) rfl ?_))
      refine M.st_over (old := [.int .i64 0, .bool false, .int .i64 0, .int .i64 0, .int .i64 0, .slice none 0 0, .slice none 0 0, .slice none 0 0, .int .i64 0, .slice none 0 0, .slice none 0 0, .slice none 0 0, .slice none 0 0, .slice none 0 0, .slice none 0 0]) (N := w.heap.size + 1) rfl HZ7.out HG7.out (Nat.le_refl _) ?_
      intro E' hbE ZE FE hsE' hoE
      have bc8 := (World.cell?_of_block (a := ⟨b, 0, none⟩) (hoE b (by omega) (by omega))).trans bc7
      have bf8 := (World.frozen?_of_block (a := ⟨b, 0, none⟩) (hoE b (by omega) (by omega))).trans bf7
      refine bodyPost_ret (v := .agg ([.int .i64 d, .bool true, .int .i64 0, .int .i64 1, .int .i64 0, .slice none 0 0, .slice (some ⟨b, 0, none⟩) 1 lc, .slice none 0 0, .int .i64 d, .slice none 0 0, .slice none 0 0, .slice (some ⟨g, 0, none⟩) n hc, .slice none 0 0, .slice none 0 0, .slice none 0 0] : List Value).toArray) (M.results_blk (P := Tryz.prog) (ty := 35) rfl _ E' (w.heap.size + 1) [.int .i64 d, .bool true, .int .i64 0, .int .i64 1, .int .i64 0, .slice none 0 0, .slice (some ⟨b, 0, none⟩) 1 lc, .slice none 0 0, .int .i64 d, .slice none 0 0, .slice none 0 0, .slice (some ⟨g, 0, none⟩) n hc, .slice none 0 0, .slice none 0 0, .slice none 0 0] _ rfl ZE Tryz.underlying35 rfl (by kernel_rfl)) rfl ⟨⟨b, lc, rfl, by omega, by omega, bc8, bf8⟩, hB7.trans (hbE.mono (by omega))⟩
    · go_simp
      refine (c75 w3.drew).mono ?_
      rintro e w4 ⟨rfl, hb4'⟩
      have hb4 : Below w3.heap.size w3 w4 := (Below.refl _ _).drew.trans hb4'
      have hs4 := hb4.size
      have hB4 := hB3.trans (hb4.mono hB3.size)
      have HX4 := hidI (HX3.out.below hb4 (by omega))
      have HF4 := hidI (HF3.out.below hb4 (by omega))
      have HZ4 := hidI (HZ3.out.below hb4 (by omega))
      have HG4 := hidI (HG3.out.below hb4 (by omega))
      have y64 := HX4.out 6 _ rfl
      clear hb4' HX3 HF3 HZ3 HG3
      go_simp
      clear hHeld
      refine hK.out _ _ ?_ (fun hHeld => ?_)
      · trivial
      clear hK K
      try simp only [Act.put, List.setIfInBounds_toArray, List.set_cons_zero, List.set_cons_succ]
      refine wpAnyH_ready (rs := [2, 5]) (by kernel_rfl) (by simp) ?_
      refine AllReadyH.cons (o := { dst := some 34, op := Op.load 22 (Operand.tmp 33), type := 22, pos := "l9_boss.go:177", after := #[{ on := 1, ground := Ground.data }], guard := none }) rfl (fun K hK => ?_) (AllReadyH.cons (o := { dst := some 37, op := Op.buildSlice 22 1 #[(0, Operand.tmp 36)], type := 22, pos := "l9_boss.go:177", after := #[{ on := 4, ground := Ground.data }], guard := none }) rfl (fun K hK => ?_) AllReadyH.nil)
      · go_simp
        clear hHeld
        refine hK.out _ _ ?_ (fun hHeld => ?_)
        · trivial
        clear hK K
        try simp only [Act.put, List.setIfInBounds_toArray, List.set_cons_zero, List.set_cons_succ]
        refine wpAnyH_ready (rs := [5]) (by kernel_rfl) (by simp) ?_
        refine AllReadyH.cons (o := { dst := some 37, op := Op.buildSlice 22 1 #[(0, Operand.tmp 36)], type := 22, pos := "l9_boss.go:177", after := #[{ on := 4, ground := Ground.data }], guard := none }) rfl (fun K hK => ?_) AllReadyH.nil
        go_simp
        have hb5 : Below w4.heap.size w4 (w4.alloc (.cells #[.string epL] 9)) := (Below.refl _ _).alloc (Nat.le_refl _) _
        have hs5 : (w4.alloc (.cells #[.string epL] 9)).heap.size = w4.heap.size + 1 := by simp
        have hB5 := hB4.trans (hb5.mono hB4.size)
        have HX5 := hidI (HX4.out.below hb5 (by omega))
        have HF5 := hidI (HF4.out.below hb5 (by omega))
        have HZ5 := hidI (HZ4.out.below hb5 (by omega))
        have HG5 := hidI (HG4.out.below hb5 (by omega))
        have e5 : (w4.alloc (.cells #[.string epL] 9)).cell? ⟨w4.heap.size, 0, none⟩ = some (.string epL) := by simp [go_sem]
        have HE5 : Hid (∀ j u, ([.string epL] : List Value)[j]? = some u → (w4.alloc (.cells #[.string epL] 9)).cell? ((⟨w4.heap.size, 0, none⟩ : Addr).add j) = some u) := fun j u h => by
          match j with
          | 0 => obtain rfl := Option.some.inj h; exact e5
          | j + 1 => simp at h
        have y65 := HX5.out 6 _ rfl
        clear HX4 HF4 HZ4 HG4 e5
        clear hHeld
        refine hK.out _ _ ?_ (fun hHeld => ?_)
        · trivial
        clear hK K
        try simp only [Act.put, List.setIfInBounds_toArray, List.set_cons_zero, List.set_cons_succ]
        generalize (w4.alloc (.cells #[.string epL] 9)) = w5 at *
        refine wpAnyH_ready (rs := [6]) (by kernel_rfl) (by simp) ?_
        refine AllReadyH.cons (o := { dst := some 38, op := Op.call { callee := Callee.builtin Builtin.append, args := #[Operand.tmp 34, Operand.tmp 37], argTypes := #[22, 22] }, type := 22, pos := "l9_boss.go:177", after := #[{ on := 2, ground := Ground.data }, { on := 5, ground := Ground.data }, { on := 4, ground := Ground.chain }], guard := none }) rfl (fun K hK => ?_) AllReadyH.nil
        refine step_app rfl (.tmp 34) (.tmp 37) 22 rfl w5.heap.size 9 i0 (.string ⟨#[]⟩) 1 16 Tryz.underlying22 hi hz0 hz1 hz2 rfl (by decide) (.slice none 0 0) 0 [] rfl (World.ownsRow_nil _ _ _ _) ⟨w4.heap.size, 0, none⟩ 1 1 [.string epL] rfl rfl HE5.out (by simp [Value.oneCell']) (by unfold maxLen; omega) (by omega) (Nat.le_refl _) ?_
        intro v' w6 hown6 hgrow
        obtain ⟨b, lc, rfl, hb1, hb2, hbc, hbf⟩ := own_str hown6
        have hb6 : Below w5.heap.size w5 w6 := (Below.refl _ _).grown hgrow (Nat.le_refl _) (fun k hk => by simp [Value.ownBlock] at hk)
        have hs6 := hb6.size
        have hB6 := hB5.trans (hb6.mono hB5.size)
        have HX6 := hidI (HX5.out.below hb6 (by omega))
        have HF6 := hidI (HF5.out.below hb6 (by omega))
        have HZ6 := hidI (HZ5.out.below hb6 (by omega))
        have HG6 := hidI (HG5.out.below hb6 (by omega))
        have y66 := HX6.out 6 _ rfl
        have g66 := HF6.out 6
        clear hgrow hown6 HX5 HF5 HZ5 HG5 HE5
        clear hHeld
        refine hK.out _ _ ?_ (fun hHeld => ?_)
        · trivial
        clear hK K
        try simp only [Act.put, List.setIfInBounds_toArray, List.set_cons_zero, List.set_cons_succ]
        refine wpAnyH_take (i := 7) (oi := { dst := some 39, op := Op.fieldAddr 35 (Operand.tmp 1) 5, type := 0, pos := "l9_boss.go:177", after := #[{ on := 0, ground := Ground.phase }, { on := 1, ground := Ground.phase }, { on := 2, ground := Ground.phase }, { on := 3, ground := Ground.phase }, { on := 4, ground := Ground.phase }, { on := 5, ground := Ground.phase }, { on := 6, ground := Ground.phase }], guard := none }) (v := ?_) rfl (by kernel_rfl) (by kernel_rfl) (by kernel_rfl) (fun _ _ _ h => h) (Or.inl ⟨by rfl, ?_⟩) (by assumption) ?_
        rotate_left
        · intro wq hSw
          (try dsimp only at hSw)
          go_simp
          try with_reducible rfl
        try simp only [Act.put, List.setIfInBounds_toArray, List.set_cons_zero, List.set_cons_succ]
        refine wpAnyH_take (i := 8) (oi := { dst := some 40, op := Op.fieldAddr 24 (Operand.tmp 39) 1, type := 0, pos := "l9_boss.go:177", after := #[{ on := 7, ground := Ground.data }, { on := 0, ground := Ground.phase }, { on := 1, ground := Ground.phase }, { on := 2, ground := Ground.phase }, { on := 3, ground := Ground.phase }, { on := 4, ground := Ground.phase }, { on := 5, ground := Ground.phase }, { on := 6, ground := Ground.phase }], guard := none }) (v := ?_) rfl (by kernel_rfl) (by kernel_rfl) (by kernel_rfl) (fun _ _ _ h => h) (Or.inl ⟨by rfl, ?_⟩) (by assumption) ?_
        rotate_left
        · intro wq hSw
          (try dsimp only at hSw)
          go_simp
          try with_reducible rfl
        try simp only [Act.put, List.setIfInBounds_toArray, List.set_cons_zero, List.set_cons_succ]
        refine wpAnyH_ready (rs := [9]) (by kernel_rfl) (by simp) ?_
        refine AllReadyH.cons (o := { dst := none, op := Op.store 22 (Operand.tmp 40) (Operand.tmp 38), type := 0, pos := "l9_boss.go:177", after := #[{ on := 8, ground := Ground.data }, { on := 6, ground := Ground.data }, { on := 6, ground := Ground.chain }, { on := 0, ground := Ground.phase }, { on := 1, ground := Ground.phase }, { on := 2, ground := Ground.phase }, { on := 3, ground := Ground.phase }, { on := 4, ground := Ground.phase }, { on := 5, ground := Ground.phase }, { on := 6, ground := Ground.phase }], guard := none }) rfl (fun K hK => ?_) AllReadyH.nil
        go_simp
        have HX7 : Hid (M.BlkAt (w6.setCell ⟨w.heap.size, 6, none⟩ (.slice (some ⟨b, 0, none⟩) 1 lc)) w.heap.size [.int .i64 d, .bool true, .int .i64 0, .int .i64 1, .int .i64 0, .slice none 0 0, .slice (some ⟨b, 0, none⟩) 1 lc, .slice none 0 0, .int .i64 d, .slice none 0 0, .slice none 0 0, .slice (some ⟨g, 0, none⟩) n hc, .slice none 0 0, .slice none 0 0, .slice none 0 0]) := HX6.out.set 6 _ (by simp)
        have HZ7 : Hid (M.BlkAt (w6.setCell ⟨w.heap.size, 6, none⟩ (.slice (some ⟨b, 0, none⟩) 1 lc)) (w.heap.size + 1) [.int .i64 0, .bool false, .int .i64 0, .int .i64 0, .int .i64 0, .slice none 0 0, .slice none 0 0, .slice none 0 0, .int .i64 0, .slice none 0 0, .slice none 0 0, .slice none 0 0, .slice none 0 0, .slice none 0 0, .slice none 0 0]) := HZ6.out.other _ _ (by show w.heap.size ≠ w.heap.size + 1; omega)
        have HG7 : Hid (M.OpnAt (w6.setCell ⟨w.heap.size, 6, none⟩ (.slice (some ⟨b, 0, none⟩) 1 lc)) (w.heap.size + 1)) := HG6.out.set _ _
        have hB7 : Below w.heap.size w (w6.setCell ⟨w.heap.size, 6, none⟩ (.slice (some ⟨b, 0, none⟩) 1 lc)) := hB6.setCell (p := ⟨w.heap.size, 6, none⟩) (Nat.le_refl _) _
        have hs7 : (w6.setCell ⟨w.heap.size, 6, none⟩ (.slice (some ⟨b, 0, none⟩) 1 lc)).heap.size = w6.heap.size := by simp
        have bc7 : (w6.setCell ⟨w.heap.size, 6, none⟩ (.slice (some ⟨b, 0, none⟩) 1 lc)).cell? ⟨b, 0, none⟩ = some (.string epL) := by rw [World.cell?_setCell_other _ _ _ _ (fun h => by injection h; omega)]; exact hbc
        have bf7 : (w6.setCell ⟨w.heap.size, 6, none⟩ (.slice (some ⟨b, 0, none⟩) 1 lc)).frozen? ⟨b, 0, none⟩ = false := by simpa using hbf
        clear HX6 HF6 HZ6 HG6 y66 g66
        clear hHeld
        refine hK.out _ _ ?_ (fun hHeld => ?_)
        · trivial
        clear hK K
        try simp only [Act.put, List.setIfInBounds_toArray, List.set_cons_zero, List.set_cons_succ]
        generalize (w6.setCell ⟨w.heap.size, 6, none⟩ (.slice (some ⟨b, 0, none⟩) 1 lc)) = w7 at *
        refine wpAnyH_done (by kernel_rfl) ?_ _
        go_wp2_with (first | refine M.wpList_load_blk rfl 35 (.tmp 1) rfl w.heap.size rfl _ _ HX7.out Tryz.underlying35 rfl (by kernel_rfl) ?_ | (refine M.wpList_store_blk rfl 35 (.tmp 2) (.tmp 41) rfl (w.heap.size + 1) 0 rfl _ rfl (M.blk_some HZ7.out rfl) HG7.out (by simp [Value.oneCell']) (by kernel_rfl) rfl ?_))
        refine M.st_over (old := [.int .i64 0, .bool false, .int .i64 0, .int .i64 0, .int .i64 0, .slice none 0 0, .slice none 0 0, .slice none 0 0, .int .i64 0, .slice none 0 0, .slice none 0 0, .slice none 0 0, .slice none 0 0, .slice none 0 0, .slice none 0 0]) (N := w.heap.size + 1) rfl HZ7.out HG7.out (Nat.le_refl _) ?_
        intro E' hbE ZE FE hsE' hoE
        have bc8 := (World.cell?_of_block (a := ⟨b, 0, none⟩) (hoE b (by omega) (by omega))).trans bc7
        have bf8 := (World.frozen?_of_block (a := ⟨b, 0, none⟩) (hoE b (by omega) (by omega))).trans bf7
        refine bodyPost_ret (v := .agg ([.int .i64 d, .bool true, .int .i64 0, .int .i64 1, .int .i64 0, .slice none 0 0, .slice (some ⟨b, 0, none⟩) 1 lc, .slice none 0 0, .int .i64 d, .slice none 0 0, .slice none 0 0, .slice (some ⟨g, 0, none⟩) n hc, .slice none 0 0, .slice none 0 0, .slice none 0 0] : List Value).toArray) (M.results_blk (P := Tryz.prog) (ty := 35) rfl _ E' (w.heap.size + 1) [.int .i64 d, .bool true, .int .i64 0, .int .i64 1, .int .i64 0, .slice none 0 0, .slice (some ⟨b, 0, none⟩) 1 lc, .slice none 0 0, .int .i64 d, .slice none 0 0, .slice none 0 0, .slice (some ⟨g, 0, none⟩) n hc, .slice none 0 0, .slice none 0 0, .slice none 0 0] _ rfl ZE Tryz.underlying35 rfl (by kernel_rfl)) rfl ⟨⟨b, lc, rfl, by omega, by omega, bc8, bf8⟩, hB7.trans (hbE.mono (by omega))⟩
      · go_simp
        have hb5 : Below w4.heap.size w4 (w4.alloc (.cells #[.string epL] 9)) := (Below.refl _ _).alloc (Nat.le_refl _) _
        have hs5 : (w4.alloc (.cells #[.string epL] 9)).heap.size = w4.heap.size + 1 := by simp
        have hB5 := hB4.trans (hb5.mono hB4.size)
        have HX5 := hidI (HX4.out.below hb5 (by omega))
        have HF5 := hidI (HF4.out.below hb5 (by omega))
        have HZ5 := hidI (HZ4.out.below hb5 (by omega))
        have HG5 := hidI (HG4.out.below hb5 (by omega))
        have e5 : (w4.alloc (.cells #[.string epL] 9)).cell? ⟨w4.heap.size, 0, none⟩ = some (.string epL) := by simp [go_sem]
        have HE5 : Hid (∀ j u, ([.string epL] : List Value)[j]? = some u → (w4.alloc (.cells #[.string epL] 9)).cell? ((⟨w4.heap.size, 0, none⟩ : Addr).add j) = some u) := fun j u h => by
          match j with
          | 0 => obtain rfl := Option.some.inj h; exact e5
          | j + 1 => simp at h
        have y65 := HX5.out 6 _ rfl
        clear HX4 HF4 HZ4 HG4 e5
        clear hHeld
        refine hK.out _ _ ?_ (fun hHeld => ?_)
        · trivial
        clear hK K
        try simp only [Act.put, List.setIfInBounds_toArray, List.set_cons_zero, List.set_cons_succ]
        generalize (w4.alloc (.cells #[.string epL] 9)) = w5 at *
        refine wpAnyH_ready (rs := [2]) (by kernel_rfl) (by simp) ?_
        refine AllReadyH.cons (o := { dst := some 34, op := Op.load 22 (Operand.tmp 33), type := 22, pos := "l9_boss.go:177", after := #[{ on := 1, ground := Ground.data }], guard := none }) rfl (fun K hK => ?_) AllReadyH.nil
        go_simp
        clear hHeld
        refine hK.out _ _ ?_ (fun hHeld => ?_)
        · trivial
        clear hK K
        try simp only [Act.put, List.setIfInBounds_toArray, List.set_cons_zero, List.set_cons_succ]
        refine wpAnyH_ready (rs := [6]) (by kernel_rfl) (by simp) ?_
        refine AllReadyH.cons (o := { dst := some 38, op := Op.call { callee := Callee.builtin Builtin.append, args := #[Operand.tmp 34, Operand.tmp 37], argTypes := #[22, 22] }, type := 22, pos := "l9_boss.go:177", after := #[{ on := 2, ground := Ground.data }, { on := 5, ground := Ground.data }, { on := 4, ground := Ground.chain }], guard := none }) rfl (fun K hK => ?_) AllReadyH.nil
        refine step_app rfl (.tmp 34) (.tmp 37) 22 rfl w5.heap.size 9 i0 (.string ⟨#[]⟩) 1 16 Tryz.underlying22 hi hz0 hz1 hz2 rfl (by decide) (.slice none 0 0) 0 [] rfl (World.ownsRow_nil _ _ _ _) ⟨w4.heap.size, 0, none⟩ 1 1 [.string epL] rfl rfl HE5.out (by simp [Value.oneCell']) (by unfold maxLen; omega) (by omega) (Nat.le_refl _) ?_
        intro v' w6 hown6 hgrow
        obtain ⟨b, lc, rfl, hb1, hb2, hbc, hbf⟩ := own_str hown6
        have hb6 : Below w5.heap.size w5 w6 := (Below.refl _ _).grown hgrow (Nat.le_refl _) (fun k hk => by simp [Value.ownBlock] at hk)
        have hs6 := hb6.size
        have hB6 := hB5.trans (hb6.mono hB5.size)
        have HX6 := hidI (HX5.out.below hb6 (by omega))
        have HF6 := hidI (HF5.out.below hb6 (by omega))
        have HZ6 := hidI (HZ5.out.below hb6 (by omega))
        have HG6 := hidI (HG5.out.below hb6 (by omega))
        have y66 := HX6.out 6 _ rfl
        have g66 := HF6.out 6
        clear hgrow hown6 HX5 HF5 HZ5 HG5 HE5
        clear hHeld
        refine hK.out _ _ ?_ (fun hHeld => ?_)
        · trivial
        clear hK K
        try simp only [Act.put, List.setIfInBounds_toArray, List.set_cons_zero, List.set_cons_succ]
        refine wpAnyH_take (i := 7) (oi := { dst := some 39, op := Op.fieldAddr 35 (Operand.tmp 1) 5, type := 0, pos := "l9_boss.go:177", after := #[{ on := 0, ground := Ground.phase }, { on := 1, ground := Ground.phase }, { on := 2, ground := Ground.phase }, { on := 3, ground := Ground.phase }, { on := 4, ground := Ground.phase }, { on := 5, ground := Ground.phase }, { on := 6, ground := Ground.phase }], guard := none }) (v := ?_) rfl (by kernel_rfl) (by kernel_rfl) (by kernel_rfl) (fun _ _ _ h => h) (Or.inl ⟨by rfl, ?_⟩) (by assumption) ?_
        rotate_left
        · intro wq hSw
          (try dsimp only at hSw)
          go_simp
          try with_reducible rfl
        try simp only [Act.put, List.setIfInBounds_toArray, List.set_cons_zero, List.set_cons_succ]
        refine wpAnyH_take (i := 8) (oi := { dst := some 40, op := Op.fieldAddr 24 (Operand.tmp 39) 1, type := 0, pos := "l9_boss.go:177", after := #[{ on := 7, ground := Ground.data }, { on := 0, ground := Ground.phase }, { on := 1, ground := Ground.phase }, { on := 2, ground := Ground.phase }, { on := 3, ground := Ground.phase }, { on := 4, ground := Ground.phase }, { on := 5, ground := Ground.phase }, { on := 6, ground := Ground.phase }], guard := none }) (v := ?_) rfl (by kernel_rfl) (by kernel_rfl) (by kernel_rfl) (fun _ _ _ h => h) (Or.inl ⟨by rfl, ?_⟩) (by assumption) ?_
        rotate_left
        · intro wq hSw
          (try dsimp only at hSw)
          go_simp
          try with_reducible rfl
        try simp only [Act.put, List.setIfInBounds_toArray, List.set_cons_zero, List.set_cons_succ]
        refine wpAnyH_ready (rs := [9]) (by kernel_rfl) (by simp) ?_
        refine AllReadyH.cons (o := { dst := none, op := Op.store 22 (Operand.tmp 40) (Operand.tmp 38), type := 0, pos := "l9_boss.go:177", after := #[{ on := 8, ground := Ground.data }, { on := 6, ground := Ground.data }, { on := 6, ground := Ground.chain }, { on := 0, ground := Ground.phase }, { on := 1, ground := Ground.phase }, { on := 2, ground := Ground.phase }, { on := 3, ground := Ground.phase }, { on := 4, ground := Ground.phase }, { on := 5, ground := Ground.phase }, { on := 6, ground := Ground.phase }], guard := none }) rfl (fun K hK => ?_) AllReadyH.nil
        go_simp
        have HX7 : Hid (M.BlkAt (w6.setCell ⟨w.heap.size, 6, none⟩ (.slice (some ⟨b, 0, none⟩) 1 lc)) w.heap.size [.int .i64 d, .bool true, .int .i64 0, .int .i64 1, .int .i64 0, .slice none 0 0, .slice (some ⟨b, 0, none⟩) 1 lc, .slice none 0 0, .int .i64 d, .slice none 0 0, .slice none 0 0, .slice (some ⟨g, 0, none⟩) n hc, .slice none 0 0, .slice none 0 0, .slice none 0 0]) := HX6.out.set 6 _ (by simp)
        have HZ7 : Hid (M.BlkAt (w6.setCell ⟨w.heap.size, 6, none⟩ (.slice (some ⟨b, 0, none⟩) 1 lc)) (w.heap.size + 1) [.int .i64 0, .bool false, .int .i64 0, .int .i64 0, .int .i64 0, .slice none 0 0, .slice none 0 0, .slice none 0 0, .int .i64 0, .slice none 0 0, .slice none 0 0, .slice none 0 0, .slice none 0 0, .slice none 0 0, .slice none 0 0]) := HZ6.out.other _ _ (by show w.heap.size ≠ w.heap.size + 1; omega)
        have HG7 : Hid (M.OpnAt (w6.setCell ⟨w.heap.size, 6, none⟩ (.slice (some ⟨b, 0, none⟩) 1 lc)) (w.heap.size + 1)) := HG6.out.set _ _
        have hB7 : Below w.heap.size w (w6.setCell ⟨w.heap.size, 6, none⟩ (.slice (some ⟨b, 0, none⟩) 1 lc)) := hB6.setCell (p := ⟨w.heap.size, 6, none⟩) (Nat.le_refl _) _
        have hs7 : (w6.setCell ⟨w.heap.size, 6, none⟩ (.slice (some ⟨b, 0, none⟩) 1 lc)).heap.size = w6.heap.size := by simp
        have bc7 : (w6.setCell ⟨w.heap.size, 6, none⟩ (.slice (some ⟨b, 0, none⟩) 1 lc)).cell? ⟨b, 0, none⟩ = some (.string epL) := by rw [World.cell?_setCell_other _ _ _ _ (fun h => by injection h; omega)]; exact hbc
        have bf7 : (w6.setCell ⟨w.heap.size, 6, none⟩ (.slice (some ⟨b, 0, none⟩) 1 lc)).frozen? ⟨b, 0, none⟩ = false := by simpa using hbf
        clear HX6 HF6 HZ6 HG6 y66 g66
        clear hHeld
        refine hK.out _ _ ?_ (fun hHeld => ?_)
        · trivial
        clear hK K
        try simp only [Act.put, List.setIfInBounds_toArray, List.set_cons_zero, List.set_cons_succ]
        generalize (w6.setCell ⟨w.heap.size, 6, none⟩ (.slice (some ⟨b, 0, none⟩) 1 lc)) = w7 at *
        refine wpAnyH_done (by kernel_rfl) ?_ _
        go_wp2_with (first | refine M.wpList_load_blk rfl 35 (.tmp 1) rfl w.heap.size rfl _ _ HX7.out Tryz.underlying35 rfl (by kernel_rfl) ?_ | (refine M.wpList_store_blk rfl 35 (.tmp 2) (.tmp 41) rfl (w.heap.size + 1) 0 rfl _ rfl (M.blk_some HZ7.out rfl) HG7.out (by simp [Value.oneCell']) (by kernel_rfl) rfl ?_))
        refine M.st_over (old := [.int .i64 0, .bool false, .int .i64 0, .int .i64 0, .int .i64 0, .slice none 0 0, .slice none 0 0, .slice none 0 0, .int .i64 0, .slice none 0 0, .slice none 0 0, .slice none 0 0, .slice none 0 0, .slice none 0 0, .slice none 0 0]) (N := w.heap.size + 1) rfl HZ7.out HG7.out (Nat.le_refl _) ?_
        intro E' hbE ZE FE hsE' hoE
        have bc8 := (World.cell?_of_block (a := ⟨b, 0, none⟩) (hoE b (by omega) (by omega))).trans bc7
        have bf8 := (World.frozen?_of_block (a := ⟨b, 0, none⟩) (hoE b (by omega) (by omega))).trans bf7
        refine bodyPost_ret (v := .agg ([.int .i64 d, .bool true, .int .i64 0, .int .i64 1, .int .i64 0, .slice none 0 0, .slice (some ⟨b, 0, none⟩) 1 lc, .slice none 0 0, .int .i64 d, .slice none 0 0, .slice none 0 0, .slice (some ⟨g, 0, none⟩) n hc, .slice none 0 0, .slice none 0 0, .slice none 0 0] : List Value).toArray) (M.results_blk (P := Tryz.prog) (ty := 35) rfl _ E' (w.heap.size + 1) [.int .i64 d, .bool true, .int .i64 0, .int .i64 1, .int .i64 0, .slice none 0 0, .slice (some ⟨b, 0, none⟩) 1 lc, .slice none 0 0, .int .i64 d, .slice none 0 0, .slice none 0 0, .slice (some ⟨g, 0, none⟩) n hc, .slice none 0 0, .slice none 0 0, .slice none 0 0] _ rfl ZE Tryz.underlying35 rfl (by kernel_rfl)) rfl ⟨⟨b, lc, rfl, by omega, by omega, bc8, bf8⟩, hB7.trans (hbE.mono (by omega))⟩
  have hV : Below V.heap.size V V := Below.refl _ _
  have hVdrew : Below V.heap.size V V.drew := (Below.refl _ _).drew
  have c0Vd := (X0.out.below hVdrew (by omega)) 0 _ rfl
  have c5Vd := (X0.out.below hVdrew (by omega)) 5 _ rfl
  have c6Vd := (X0.out.below hVdrew (by omega)) 6 _ rfl
  refine wp_region_held_drew (S := (fun u => u.cell? ⟨w.heap.size, 0, none⟩ = some (.int .i64 d) ∧ u.cell? ⟨w.heap.size, 5, none⟩ = some (.slice none 0 0) ∧ u.cell? ⟨w.heap.size, 6, none⟩ = some (.slice none 0 0))) (by kernel_rfl) ?_ (fun hHeld => ?_)
  · exact ⟨c0Vd, c5Vd, c6Vd⟩
  refine wpAnyH_take (i := 0) (oi := { dst := some 5, op := Op.fieldAddr 35 (Operand.tmp 1) 5, type := 0, pos := "l9_boss.go:168", after := #[], guard := none }) (v := ?_) rfl (by kernel_rfl) (by kernel_rfl) (by kernel_rfl) (fun _ _ _ h => h) (Or.inl ⟨by rfl, ?_⟩) (by assumption) ?_
  rotate_left
  · intro wq hSw
    (try dsimp only at hSw)
    go_simp
    try with_reducible rfl
  try simp only [Act.put, List.setIfInBounds_toArray, List.set_cons_zero, List.set_cons_succ]
  refine wpAnyH_take (i := 1) (oi := { dst := some 6, op := Op.load 24 (Operand.tmp 5), type := 24, pos := "l9_boss.go:168", after := #[{ on := 0, ground := Ground.data }], guard := none }) (v := ?_) rfl (by kernel_rfl) (by kernel_rfl) (by kernel_rfl) (fun _ _ _ h => h) (Or.inl ⟨by rfl, ?_⟩) (by assumption) ?_
  rotate_left
  · intro wq hSw
    (try dsimp only at hSw)
    go_simp
    try with_reducible rfl
  try simp only [Act.put, List.setIfInBounds_toArray, List.set_cons_zero, List.set_cons_succ]
  refine wpAnyH_take (i := 3) (oi := { dst := some 8, op := Op.fieldAddr 35 (Operand.tmp 1) 0, type := 0, pos := "l9_boss.go:168", after := #[], guard := none }) (v := ?_) rfl (by kernel_rfl) (by kernel_rfl) (by kernel_rfl) (fun _ _ _ h => h) (Or.inl ⟨by rfl, ?_⟩) (by assumption) ?_
  rotate_left
  · intro wq hSw
    (try dsimp only at hSw)
    go_simp
    try with_reducible rfl
  try simp only [Act.put, List.setIfInBounds_toArray, List.set_cons_zero, List.set_cons_succ]
  refine wpAnyH_take (i := 4) (oi := { dst := some 9, op := Op.load 3 (Operand.tmp 8), type := 3, pos := "l9_boss.go:168", after := #[{ on := 3, ground := Ground.data }], guard := none }) (v := ?_) rfl (by kernel_rfl) (by kernel_rfl) (by kernel_rfl) (fun _ _ _ h => h) (Or.inl ⟨by rfl, ?_⟩) (by assumption) ?_
  rotate_left
  · intro wq hSw
    (try dsimp only at hSw)
    go_simp
    try with_reducible rfl
  try simp only [Act.put, List.setIfInBounds_toArray, List.set_cons_zero, List.set_cons_succ]
  refine wpAnyH_ready (rs := [2, 6]) (by kernel_rfl) (by simp) ?_
  refine AllReadyH.cons (o := { dst := some 7, op := Op.call { callee := Callee.value (Operand.func 72), args := #[Operand.tmp 6], argTypes := #[24] }, type := 22, pos := "l9_boss.go:168", after := #[{ on := 1, ground := Ground.data }], guard := none }) rfl (fun K hK => ?_) (AllReadyH.cons (o := { dst := some 3, op := Op.alloc 108, type := 0, pos := "l9_boss.go:168", after := #[], guard := none }) rfl (fun K hK => ?_) AllReadyH.nil)
  · go_simp
    refine (c72 V.drew).mono ?_
    rintro e uB ⟨rfl, hbn⟩
    have huB := hVdrew.trans (hbn.mono hVdrew.size)
    have zuB := hbn.size
    have c0uB := (X0.out.below huB (by omega)) 0 _ rfl
    have c5uB := (X0.out.below huB (by omega)) 5 _ rfl
    have c6uB := (X0.out.below huB (by omega)) 6 _ rfl
    clear hbn
    go_simp
    clear hHeld
    refine hK.out _ _ ?_ (fun hHeld => ?_)
    · exact ⟨c0uB, c5uB, c6uB⟩
    clear hK K
    try simp only [Act.put, List.setIfInBounds_toArray, List.set_cons_zero, List.set_cons_succ]
    refine wpAnyH_ready (rs := [5, 6]) (by kernel_rfl) (by simp) ?_
    refine AllReadyH.cons (o := { dst := some 10, op := Op.call { callee := Callee.value (Operand.func 71), args := #[Operand.tmp 7, Operand.tmp 9], argTypes := #[22, 3] }, type := 108, pos := "l9_boss.go:168", after := #[{ on := 2, ground := Ground.data }, { on := 4, ground := Ground.data }, { on := 2, ground := Ground.chain }], guard := none }) rfl (fun K hK => ?_) (AllReadyH.cons (o := { dst := some 3, op := Op.alloc 108, type := 0, pos := "l9_boss.go:168", after := #[], guard := none }) rfl (fun K hK => ?_) AllReadyH.nil)
    · go_simp
      refine (c71 d uB hd).mono ?_
      rintro e uC ⟨rfl, hbn⟩
      have huC := huB.trans (hbn.mono huB.size)
      have zuC := hbn.size
      have c0uC := (X0.out.below huC (by omega)) 0 _ rfl
      have c5uC := (X0.out.below huC (by omega)) 5 _ rfl
      have c6uC := (X0.out.below huC (by omega)) 6 _ rfl
      clear hbn
      go_simp
      clear hHeld
      refine hK.out _ _ ?_ (fun hHeld => ?_)
      · exact ⟨c0uC, c5uC, c6uC⟩
      clear hK K
      try simp only [Act.put, List.setIfInBounds_toArray, List.set_cons_zero, List.set_cons_succ]
      refine wpAnyH_ready (rs := [6]) (by kernel_rfl) (by simp) ?_
      refine AllReadyH.cons (o := { dst := some 3, op := Op.alloc 108, type := 0, pos := "l9_boss.go:168", after := #[], guard := none }) rfl (fun K hK => ?_) AllReadyH.nil
      go_simp
      have huD : Below V.heap.size V (uC.alloc (.cells #[.int .i64 0, .int .i64 0, .slice none 0 0, .int .i64 0, .slice none 0 0, .slice none 0 0] 108)) := huC.alloc huC.size _
      have HAuD := hidI (M.blk_new uC [.int .i64 0, .int .i64 0, .slice none 0 0, .int .i64 0, .slice none 0 0, .slice none 0 0] 108)
      have HOuD := hidI (M.opn_new uC ([.int .i64 0, .int .i64 0, .slice none 0 0, .int .i64 0, .slice none 0 0, .slice none 0 0] : List Value).toArray 108)
      have zuD : (uC.alloc (.cells #[.int .i64 0, .int .i64 0, .slice none 0 0, .int .i64 0, .slice none 0 0, .slice none 0 0] 108)).heap.size = uC.heap.size + 1 := by simp
      have luD := huC.size
      have c0uD := (X0.out.below huD (by omega)) 0 _ rfl
      have c5uD := (X0.out.below huD (by omega)) 5 _ rfl
      have c6uD := (X0.out.below huD (by omega)) 6 _ rfl
      clear hHeld
      refine hK.out _ _ ?_ (fun hHeld => ?_)
      · exact ⟨c0uD, c5uD, c6uD⟩
      clear hK K
      try simp only [Act.put, List.setIfInBounds_toArray, List.set_cons_zero, List.set_cons_succ]
      generalize (uC.alloc (.cells #[.int .i64 0, .int .i64 0, .slice none 0 0, .int .i64 0, .slice none 0 0, .slice none 0 0] 108)) = uD at *
      refine wpAnyH_ready (rs := [7]) (by kernel_rfl) (by simp) ?_
      refine AllReadyH.cons (o := { dst := none, op := Op.store 108 (Operand.tmp 3) (Operand.tmp 10), type := 0, pos := "l9_boss.go:168", after := #[{ on := 6, ground := Ground.data }, { on := 5, ground := Ground.data }, { on := 5, ground := Ground.chain }, { on := 0, ground := Ground.phase }, { on := 1, ground := Ground.phase }, { on := 2, ground := Ground.phase }, { on := 3, ground := Ground.phase }, { on := 4, ground := Ground.phase }, { on := 5, ground := Ground.phase }, { on := 6, ground := Ground.phase }], guard := none }) rfl (fun K hK => ?_) AllReadyH.nil
      refine step_store_blk rfl 108 (.tmp 3) (.tmp 10) rfl uC.heap.size 0 rfl [.int .i64 0, .int .i64 0, .slice none 0 0, .int .i64 d, .slice none 0 0, .slice none 0 0] rfl (M.blk_some HAuD.out rfl) HOuD.out (by simp [Value.oneCell']) (by kernel_rfl) rfl ?_
      clear hHeld
      refine M.st_over (old := [.int .i64 0, .int .i64 0, .slice none 0 0, .int .i64 0, .slice none 0 0, .slice none 0 0]) (N := V.heap.size) rfl HAuD.out HOuD.out (by omega) ?_
      intro E hbE ZE FE hsE hoE
      have hE := huD.trans hbE
      have c0E := (X0.out.below hE (by omega)) 0 _ rfl
      have c5E := (X0.out.below hE (by omega)) 5 _ rfl
      have c6E := (X0.out.below hE (by omega)) 6 _ rfl
      refine hK.out _ _ ⟨c0E, c5E, c6E⟩ (fun hHeld => ?_)
      clear hK K
      refine wpAnyH_done (by kernel_rfl) ?_ _
      exact TAIL uC.heap.size E hE (by omega) (by omega) ZE
    · go_simp
      have huC : Below V.heap.size V (uB.alloc (.cells #[.int .i64 0, .int .i64 0, .slice none 0 0, .int .i64 0, .slice none 0 0, .slice none 0 0] 108)) := huB.alloc huB.size _
      have HAuC := hidI (M.blk_new uB [.int .i64 0, .int .i64 0, .slice none 0 0, .int .i64 0, .slice none 0 0, .slice none 0 0] 108)
      have HOuC := hidI (M.opn_new uB ([.int .i64 0, .int .i64 0, .slice none 0 0, .int .i64 0, .slice none 0 0, .slice none 0 0] : List Value).toArray 108)
      have zuC : (uB.alloc (.cells #[.int .i64 0, .int .i64 0, .slice none 0 0, .int .i64 0, .slice none 0 0, .slice none 0 0] 108)).heap.size = uB.heap.size + 1 := by simp
      have luC := huB.size
      have c0uC := (X0.out.below huC (by omega)) 0 _ rfl
      have c5uC := (X0.out.below huC (by omega)) 5 _ rfl
      have c6uC := (X0.out.below huC (by omega)) 6 _ rfl
      clear hHeld
      refine hK.out _ _ ?_ (fun hHeld => ?_)
      · exact ⟨c0uC, c5uC, c6uC⟩
      clear hK K
      try simp only [Act.put, List.setIfInBounds_toArray, List.set_cons_zero, List.set_cons_succ]
      generalize (uB.alloc (.cells #[.int .i64 0, .int .i64 0, .slice none 0 0, .int .i64 0, .slice none 0 0, .slice none 0 0] 108)) = uC at *
      refine wpAnyH_ready (rs := [5]) (by kernel_rfl) (by simp) ?_
      refine AllReadyH.cons (o := { dst := some 10, op := Op.call { callee := Callee.value (Operand.func 71), args := #[Operand.tmp 7, Operand.tmp 9], argTypes := #[22, 3] }, type := 108, pos := "l9_boss.go:168", after := #[{ on := 2, ground := Ground.data }, { on := 4, ground := Ground.data }, { on := 2, ground := Ground.chain }], guard := none }) rfl (fun K hK => ?_) AllReadyH.nil
      go_simp
      refine (c71 d uC hd).mono ?_
      rintro e uD ⟨rfl, hbn⟩
      have huD := huC.trans (hbn.mono huC.size)
      have zuD := hbn.size
      have c0uD := (X0.out.below huD (by omega)) 0 _ rfl
      have c5uD := (X0.out.below huD (by omega)) 5 _ rfl
      have c6uD := (X0.out.below huD (by omega)) 6 _ rfl
      have HAuD := hidI (HAuC.out.below hbn (by omega))
      have HOuD := hidI (HOuC.out.below hbn (by omega))
      clear HAuC HOuC
      clear hbn
      go_simp
      clear hHeld
      refine hK.out _ _ ?_ (fun hHeld => ?_)
      · exact ⟨c0uD, c5uD, c6uD⟩
      clear hK K
      try simp only [Act.put, List.setIfInBounds_toArray, List.set_cons_zero, List.set_cons_succ]
      refine wpAnyH_ready (rs := [7]) (by kernel_rfl) (by simp) ?_
      refine AllReadyH.cons (o := { dst := none, op := Op.store 108 (Operand.tmp 3) (Operand.tmp 10), type := 0, pos := "l9_boss.go:168", after := #[{ on := 6, ground := Ground.data }, { on := 5, ground := Ground.data }, { on := 5, ground := Ground.chain }, { on := 0, ground := Ground.phase }, { on := 1, ground := Ground.phase }, { on := 2, ground := Ground.phase }, { on := 3, ground := Ground.phase }, { on := 4, ground := Ground.phase }, { on := 5, ground := Ground.phase }, { on := 6, ground := Ground.phase }], guard := none }) rfl (fun K hK => ?_) AllReadyH.nil
      refine step_store_blk rfl 108 (.tmp 3) (.tmp 10) rfl uB.heap.size 0 rfl [.int .i64 0, .int .i64 0, .slice none 0 0, .int .i64 d, .slice none 0 0, .slice none 0 0] rfl (M.blk_some HAuD.out rfl) HOuD.out (by simp [Value.oneCell']) (by kernel_rfl) rfl ?_
      clear hHeld
      refine M.st_over (old := [.int .i64 0, .int .i64 0, .slice none 0 0, .int .i64 0, .slice none 0 0, .slice none 0 0]) (N := V.heap.size) rfl HAuD.out HOuD.out (by omega) ?_
      intro E hbE ZE FE hsE hoE
      have hE := huD.trans hbE
      have c0E := (X0.out.below hE (by omega)) 0 _ rfl
      have c5E := (X0.out.below hE (by omega)) 5 _ rfl
      have c6E := (X0.out.below hE (by omega)) 6 _ rfl
      refine hK.out _ _ ⟨c0E, c5E, c6E⟩ (fun hHeld => ?_)
      clear hK K
      refine wpAnyH_done (by kernel_rfl) ?_ _
      exact TAIL uB.heap.size E hE (by omega) (by omega) ZE
  · go_simp
    have huA : Below V.heap.size V ((V.alloc (.cells #[.int .i64 0, .int .i64 0, .slice none 0 0, .int .i64 0, .slice none 0 0, .slice none 0 0] 108)).drew) := (hV.alloc hV.size _).drew
    have HAuA : Hid (M.BlkAt ((V.alloc (.cells #[.int .i64 0, .int .i64 0, .slice none 0 0, .int .i64 0, .slice none 0 0, .slice none 0 0] 108)).drew) (w.heap.size + 2) [.int .i64 0, .int .i64 0, .slice none 0 0, .int .i64 0, .slice none 0 0, .slice none 0 0]) := hzV ▸ hidI ((M.blk_new V [.int .i64 0, .int .i64 0, .slice none 0 0, .int .i64 0, .slice none 0 0, .slice none 0 0] 108).below (Below.refl (V.heap.size + 1) _).drew (by omega))
    have HOuA : Hid (M.OpnAt ((V.alloc (.cells #[.int .i64 0, .int .i64 0, .slice none 0 0, .int .i64 0, .slice none 0 0, .slice none 0 0] 108)).drew) (w.heap.size + 2)) := hzV ▸ hidI ((M.opn_new V ([.int .i64 0, .int .i64 0, .slice none 0 0, .int .i64 0, .slice none 0 0, .slice none 0 0] : List Value).toArray 108).below (Below.refl (V.heap.size + 1) _).drew (by omega))
    have zuA : ((V.alloc (.cells #[.int .i64 0, .int .i64 0, .slice none 0 0, .int .i64 0, .slice none 0 0, .slice none 0 0] 108)).drew).heap.size = V.heap.size + 1 := by simp
    have luA := hV.size
    have c0uA := (X0.out.below huA (by omega)) 0 _ rfl
    have c5uA := (X0.out.below huA (by omega)) 5 _ rfl
    have c6uA := (X0.out.below huA (by omega)) 6 _ rfl
    clear hHeld
    refine hK.out _ _ ?_ (fun hHeld => ?_)
    · exact ⟨c0uA, c5uA, c6uA⟩
    clear hK K
    try simp only [Act.put, List.setIfInBounds_toArray, List.set_cons_zero, List.set_cons_succ]
    generalize ((V.alloc (.cells #[.int .i64 0, .int .i64 0, .slice none 0 0, .int .i64 0, .slice none 0 0, .slice none 0 0] 108)).drew) = uA at *
    refine wpAnyH_ready (rs := [2]) (by kernel_rfl) (by simp) ?_
    refine AllReadyH.cons (o := { dst := some 7, op := Op.call { callee := Callee.value (Operand.func 72), args := #[Operand.tmp 6], argTypes := #[24] }, type := 22, pos := "l9_boss.go:168", after := #[{ on := 1, ground := Ground.data }], guard := none }) rfl (fun K hK => ?_) AllReadyH.nil
    go_simp
    refine (c72 uA).mono ?_
    rintro e uB ⟨rfl, hbn⟩
    have huB := huA.trans (hbn.mono huA.size)
    have zuB := hbn.size
    have c0uB := (X0.out.below huB (by omega)) 0 _ rfl
    have c5uB := (X0.out.below huB (by omega)) 5 _ rfl
    have c6uB := (X0.out.below huB (by omega)) 6 _ rfl
    have HAuB := hidI (HAuA.out.below hbn (by omega))
    have HOuB := hidI (HOuA.out.below hbn (by omega))
    clear HAuA HOuA
    clear hbn
    go_simp
    clear hHeld
    refine hK.out _ _ ?_ (fun hHeld => ?_)
    · exact ⟨c0uB, c5uB, c6uB⟩
    clear hK K
    try simp only [Act.put, List.setIfInBounds_toArray, List.set_cons_zero, List.set_cons_succ]
    refine wpAnyH_ready (rs := [5]) (by kernel_rfl) (by simp) ?_
    refine AllReadyH.cons (o := { dst := some 10, op := Op.call { callee := Callee.value (Operand.func 71), args := #[Operand.tmp 7, Operand.tmp 9], argTypes := #[22, 3] }, type := 108, pos := "l9_boss.go:168", after := #[{ on := 2, ground := Ground.data }, { on := 4, ground := Ground.data }, { on := 2, ground := Ground.chain }], guard := none }) rfl (fun K hK => ?_) AllReadyH.nil
    go_simp
    refine (c71 d uB hd).mono ?_
    rintro e uC ⟨rfl, hbn⟩
    have huC := huB.trans (hbn.mono huB.size)
    have zuC := hbn.size
    have c0uC := (X0.out.below huC (by omega)) 0 _ rfl
    have c5uC := (X0.out.below huC (by omega)) 5 _ rfl
    have c6uC := (X0.out.below huC (by omega)) 6 _ rfl
    have HAuC := hidI (HAuB.out.below hbn (by omega))
    have HOuC := hidI (HOuB.out.below hbn (by omega))
    clear HAuB HOuB
    clear hbn
    go_simp
    clear hHeld
    refine hK.out _ _ ?_ (fun hHeld => ?_)
    · exact ⟨c0uC, c5uC, c6uC⟩
    clear hK K
    try simp only [Act.put, List.setIfInBounds_toArray, List.set_cons_zero, List.set_cons_succ]
    refine wpAnyH_ready (rs := [7]) (by kernel_rfl) (by simp) ?_
    refine AllReadyH.cons (o := { dst := none, op := Op.store 108 (Operand.tmp 3) (Operand.tmp 10), type := 0, pos := "l9_boss.go:168", after := #[{ on := 6, ground := Ground.data }, { on := 5, ground := Ground.data }, { on := 5, ground := Ground.chain }, { on := 0, ground := Ground.phase }, { on := 1, ground := Ground.phase }, { on := 2, ground := Ground.phase }, { on := 3, ground := Ground.phase }, { on := 4, ground := Ground.phase }, { on := 5, ground := Ground.phase }, { on := 6, ground := Ground.phase }], guard := none }) rfl (fun K hK => ?_) AllReadyH.nil
    refine step_store_blk rfl 108 (.tmp 3) (.tmp 10) rfl (w.heap.size + 2) 0 rfl [.int .i64 0, .int .i64 0, .slice none 0 0, .int .i64 d, .slice none 0 0, .slice none 0 0] rfl (M.blk_some HAuC.out rfl) HOuC.out (by simp [Value.oneCell']) (by kernel_rfl) rfl ?_
    clear hHeld
    refine M.st_over (old := [.int .i64 0, .int .i64 0, .slice none 0 0, .int .i64 0, .slice none 0 0, .slice none 0 0]) (N := V.heap.size) rfl HAuC.out HOuC.out (by omega) ?_
    intro E hbE ZE FE hsE hoE
    have hE := huC.trans hbE
    have c0E := (X0.out.below hE (by omega)) 0 _ rfl
    have c5E := (X0.out.below hE (by omega)) 5 _ rfl
    have c6E := (X0.out.below hE (by omega)) 6 _ rfl
    refine hK.out _ _ ⟨c0E, c5E, c6E⟩ (fun hHeld => ?_)
    clear hK K
    refine wpAnyH_done (by kernel_rfl) ?_ _
    exact TAIL (w.heap.size + 2) E hE (by omega) (by omega) ZE
end Go.Proofs.YtlfokigiejcfoaaGreatDoor

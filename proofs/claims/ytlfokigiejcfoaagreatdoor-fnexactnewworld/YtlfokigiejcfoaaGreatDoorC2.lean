import Derived.Test.YtlfokigiejcfoaaGreatDoorC1
import Derived.Test.YtlfokigiejcfoaaGreatDoorAX
import Derived.Deep.RegionHeld3
namespace Go.Proofs.YtlfokigiejcfoaaGreatDoor
open Go.RowKit
theorem step_store_blk {P : Program} {ops : Array Oper} {o : Oper} {a : Act} {w : World} {K : Act → World → Prop} {Q : Exit → Act → World → Prop} {E : Prop} (hg : o.guard = none) (ty : TypeId) (x y : Operand) (ho : o.op = .store ty x y)
    (B j : Nat) (hx : a.eval x = .pointer (some ⟨B, j, none⟩)) (vs : List Value) (hy : a.eval y = .agg vs.toArray) (hc : ∀ i, i < vs.length → (w.cell? ⟨B, j + i, none⟩).isSome = true) (hf : M.OpnAt w B) (h1 : ∀ v ∈ vs, v.oneCell' = true)
    (hi : (P.info? ty).map (·.size) = some vs.length) (hdst : o.dst = none) (h : K a (M.fill w B j vs)) :
    if Region.wanted o (yielded ops a.tmps) = true then Oper.wp P o a w K Q else E := by
  have hw : Region.wanted o (yielded ops a.tmps) = true := by simp [Region.wanted, hg]
  rw [if_pos hw]
  unfold Oper.wp execOp
  simp only [ho, hx, hy, Instr.storeAt, Instr.sureAddr, Sem.run_bind, Sem.run_pure, Result.andThen_ok, M.run_storeVar_blk w B j ty vs hc hf h1 hi]
  first
    | exact h
    | (simp only [Oper.upon]; exact h)
    | (simp only [Oper.upon, hdst]; exact h)
set_option maxHeartbeats 2000000 in
set_option maxRecDepth 100000 in
theorem c92 (d : Int) (H m1 m2 m3 base : Nat) (w : World) (h : ShE w base d H m1 m2 m3) : Calls Tryz.prog 92 #[.pointer (some ⟨H, 0, none⟩)] w fun e w' => e = .returned (.agg #[.int .i64 d, .slice none 0 0, .slice none 0 0]) ∧ Below w.heap.size w w' := by
  obtain ⟨_, hm2, hm3, hH, e1, e2, hblk⟩ := h
  have g0 := hblk 0 _ rfl
  have g1 := hblk 1 _ rfl
  have g2 := hblk 2 _ rfl
  refine calls_marks Tryz.func92 rfl ?_
  simp only [Tryz.ntmps92, List.size_toArray, List.length_cons, List.length_nil, Nat.reduceAdd, Nat.reduceSub, Array.replicate_succ, Array.replicate_zero, List.push_toArray, List.append_toArray, List.nil_append, List.cons_append]
  have hBV : Below w.heap.size w ((w.alloc (.cells #[.int .i64 0, .slice none 0 0, .slice none 0 0] 30)).alloc (.cells #[.int .i64 d, .slice none 0 0, .slice none 0 0] 30)) := ((Below.refl _ _).alloc (Nat.le_refl _) _).alloc (by simp) _
  have hzV : ((w.alloc (.cells #[.int .i64 0, .slice none 0 0, .slice none 0 0] 30)).alloc (.cells #[.int .i64 d, .slice none 0 0, .slice none 0 0] 30)).heap.size = w.heap.size + 2 := by simp
  have Z0 : M.BlkAt ((w.alloc (.cells #[.int .i64 0, .slice none 0 0, .slice none 0 0] 30)).alloc (.cells #[.int .i64 d, .slice none 0 0, .slice none 0 0] 30)) w.heap.size [.int .i64 0, .slice none 0 0, .slice none 0 0] := (M.blk_new w _ 30).below ((Below.refl _ _).alloc (Nat.le_refl _) _) (by simp)
  have F0 : M.OpnAt ((w.alloc (.cells #[.int .i64 0, .slice none 0 0, .slice none 0 0] 30)).alloc (.cells #[.int .i64 d, .slice none 0 0, .slice none 0 0] 30)) w.heap.size := (M.opn_new w _ 30).below ((Below.refl _ _).alloc (Nat.le_refl _) _) (by simp)
  have Y0 : M.BlkAt ((w.alloc (.cells #[.int .i64 0, .slice none 0 0, .slice none 0 0] 30)).alloc (.cells #[.int .i64 d, .slice none 0 0, .slice none 0 0] 30)) (w.heap.size + 1) [.int .i64 d, .slice none 0 0, .slice none 0 0] := fun j x hx => by simp [go_sem, hx]
  have HZ0 := hidI Z0
  have HF0 := hidI F0
  have HY0 := hidI Y0
  clear Z0 F0 Y0
  go_wp2_with fail
  generalize ((w.alloc (.cells #[.int .i64 0, .slice none 0 0, .slice none 0 0] 30)).alloc (.cells #[.int .i64 d, .slice none 0 0, .slice none 0 0] 30)) = V at *
  refine (c115 m1 V).mono ?_
  rintro e w1 ⟨⟨rfl, hz1, k1⟩, hb1⟩
  have hB1 := hBV.trans (hb1.mono hBV.size)
  have hs1 := hb1.size
  go_wp2_with fail
  rw [hzV] at k1 hz1
  refine wp_calm (gf := 144) (lb := #[.pointer (some ⟨w.heap.size + 2, 0, none⟩)]) rfl (enters_of Tryz.func144 (by kernel_rfl) rfl) (fun W l hW => ?_) (fun D1 W1 hD1 hK1 hW1 => ?_)
  · refine c144 (w.heap.size + 2) m1 l W ?_ ?_ ?_
    · rw [hW.cell (p := ⟨w.heap.size + 2, 0, none⟩) hz1, k1]
    · have := hW.size; omega
    · rw [hW.block m1 (by omega), hB1.block m1 (by omega), e1]
  have hs2 := hW1.size
  have hB2 := hB1.trans (hW1.mono hB1.size)
  have p2 := (hB2.cell (p := ⟨H, 2, none⟩) hH).trans g2
  go_wp2_with fail
  refine (c116 m2 W1).mono ?_
  rintro e w3 ⟨⟨rfl, hz3, k3⟩, hb3⟩
  have hs3 := hb3.size
  have hB3 := hB2.trans (hb3.mono hB2.size)
  go_wp2_with fail
  refine wp_calm (gf := 147) (lb := #[.pointer (some ⟨W1.heap.size, 0, none⟩)]) rfl (enters_of Tryz.func147 (by kernel_rfl) rfl) (fun W l hW => ?_) (fun D2 W2 hD2 hK2 hW2 => ?_)
  · refine c147 W1.heap.size m2 l W ?_ ?_ ?_
    · rw [hW.cell (p := ⟨W1.heap.size, 0, none⟩) hz3, k3]
    · have := hW.size; omega
    · rw [hW.block m2 (by omega), hB3.block m2 (by omega), e2]
  have hs4 := hW2.size
  have hB4 := hB3.trans (hW2.mono hB3.size)
  have hVW : Below V.heap.size V W2 := ((hb1.trans (hW1.mono hs1)).trans (hb3.mono (by omega))).trans (hW2.mono (by omega))
  have hL1 : D1 < W1.heap.size := (Array.getElem?_eq_some_iff.1 hK1).1
  have hL2 : D2 < W2.heap.size := (Array.getElem?_eq_some_iff.1 hK2).1
  have hK1' : W2.heap[D1]? = some (.deferred (some [])) := by rw [hW2.block D1 (by omega), hb3.block D1 (by omega), hK1]
  have Z4 := hidI (HZ0.out.below hVW (by omega))
  have F4 := hidI (HF0.out.below hVW (by omega))
  have Y4 := hidI (HY0.out.below hVW (by omega))
  clear HZ0 HF0 HY0
  go_wp2_with (first | refine M.wpList_load_blk rfl 30 (.tmp 3) rfl (w.heap.size + 1) rfl _ _ Y4.out Tryz.underlying30 rfl (by kernel_rfl) ?_ | (refine M.wpList_store_blk rfl 30 (.tmp 2) (.tmp 40) rfl w.heap.size 0 rfl _ rfl (M.blk_some Z4.out rfl) F4.out (by simp [Value.oneCell']) (by kernel_rfl) rfl ?_))
  refine M.st_over (old := [.int .i64 0, .slice none 0 0, .slice none 0 0]) (N := w.heap.size) rfl Z4.out F4.out (Nat.le_refl _) ?_
  intro E hbE ZE FE hsE hoE
  have hBE := hidI (hB4.trans hbE)
  have HZE := hidI ZE
  have q2 := (hoE D2 hL2 (by omega)).trans hK2
  have q1 := (hoE D1 (by omega) (by omega)).trans hK1'
  clear hbE ZE FE hoE
  have hP : Below (w.heap.size + 1) E ((E.putObj D2 (.deferred none)).putObj D1 (.deferred none)) := (below_put _ _ _ (by omega)).trans (below_put _ _ _ (by omega))
  refine ⟨by simp, .inl ⟨_, _, rfl, run_takeDeferred q2, ⟨by simp, .inl ⟨_, _, rfl, run_takeDeferred ((World.putObj_heap_other (by omega)).trans q1), ?_⟩⟩⟩⟩
  exact ⟨_, M.results_blk (P := Tryz.prog) (ty := 30) rfl _ _ w.heap.size [.int .i64 d, .slice none 0 0, .slice none 0 0] _ rfl (HZE.out.below hP (by omega)) Tryz.underlying30 rfl (by kernel_rfl), rfl, hBE.out.trans (hP.mono (by omega))⟩
theorem ShE.below {u u' : World} {base : Nat} {d : Int} {H m1 m2 m3 : Nat} (h : ShE u base d H m1 m2 m3) (hb : Below u.heap.size u u') : ShE u' base d H m1 m2 m3 := by
  obtain ⟨a, b, c, e, f, g, k⟩ := h
  refine ⟨a, b, c, Nat.lt_of_lt_of_le e hb.size, (hb.block m1 (by omega)).trans f, (hb.block m2 (by omega)).trans g, ?_⟩
  exact fun j x hx => (hb.cell (p := ⟨H, j, none⟩) e).trans (k j x hx)
set_option maxHeartbeats 2000000 in
set_option maxRecDepth 100000 in
theorem c71 (d : Int) (w : World) (hd : btw d 1 8 = true) : Calls Tryz.prog 71 #[.slice none 0 0, .int .i64 d] w fun e w' => e = .returned (.agg #[.int .i64 0, .int .i64 0, .slice none 0 0, .int .i64 d, .slice none 0 0, .slice none 0 0]) ∧ Below w.heap.size w w' := by
  have hB0 : Below w.heap.size w (w.alloc (.cells #[.int .i64 0, .int .i64 0, .slice none 0 0, .int .i64 0, .slice none 0 0, .slice none 0 0] 108)) := (Below.refl _ _).alloc (Nat.le_refl _) _
  have hz0 : (w.alloc (.cells #[.int .i64 0, .int .i64 0, .slice none 0 0, .int .i64 0, .slice none 0 0, .slice none 0 0] 108)).heap.size = w.heap.size + 1 := by simp
  have Z0 := hidI (M.blk_new w [.int .i64 0, .int .i64 0, .slice none 0 0, .int .i64 0, .slice none 0 0, .slice none 0 0] 108)
  have F0 := hidI (M.opn_new w ([.int .i64 0, .int .i64 0, .slice none 0 0, .int .i64 0, .slice none 0 0, .slice none 0 0] : List Value).toArray 108)
  go_enter Tryz.func71, Tryz.ntmps71
  go_wp2_with fail
  generalize w.alloc (.cells #[.int .i64 0, .int .i64 0, .slice none 0 0, .int .i64 0, .slice none 0 0, .slice none 0 0] 108) = V at *
  refine (c28 d V).mono ?_
  rintro e w1 ⟨rfl, hb1⟩
  rw [hd]
  have hs1 := hb1.size
  go_wp2_with fail
  refine (c89 d w1).mono ?_
  rintro e w2 ⟨⟨H, m1, m2, m3, rfl, hSh⟩, hb2⟩
  have hs2 := hb2.size
  have hB3 : Below w1.heap.size w1 (w2.alloc (.cells #[.int .i64 0, .slice none 0 0, .pointer (some ⟨H, 0, none⟩)] 139)) := hb2.trans ((Below.refl _ _).alloc hs2 _)
  have Sh3 := hidI (hSh.below ((Below.refl _ _).alloc (Nat.le_refl _) (.cells #[.int .i64 0, .slice none 0 0, .pointer (some ⟨H, 0, none⟩)] 139)))
  have hz3 : w2.heap.size < (w2.alloc (.cells #[.int .i64 0, .slice none 0 0, .pointer (some ⟨H, 0, none⟩)] 139)).heap.size := by simp
  have r0 : (w2.alloc (.cells #[.int .i64 0, .slice none 0 0, .pointer (some ⟨H, 0, none⟩)] 139)).cell? ⟨w2.heap.size, 0, none⟩ = some (.int .i64 0) := by simp [go_sem]
  have r1 : (w2.alloc (.cells #[.int .i64 0, .slice none 0 0, .pointer (some ⟨H, 0, none⟩)] 139)).cell? ⟨w2.heap.size, 1, none⟩ = some (.slice none 0 0) := by simp [go_sem]
  have r2 : (w2.alloc (.cells #[.int .i64 0, .slice none 0 0, .pointer (some ⟨H, 0, none⟩)] 139)).cell? ⟨w2.heap.size, 2, none⟩ = some (.pointer (some ⟨H, 0, none⟩)) := by simp [go_sem]
  clear hSh
  go_wp2_with fail
  generalize w2.alloc (.cells #[.int .i64 0, .slice none 0 0, .pointer (some ⟨H, 0, none⟩)] 139) = V3 at *
  have hV3 : Below V.heap.size V V3 := hb1.trans (hB3.mono hs1)
  have hs3 := hV3.size
  have Z3 := hidI (Z0.out.below hV3 (by omega))
  have F3 := hidI (F0.out.below hV3 (by omega))
  have hB4 := hB0.trans (hV3.mono hB0.size)
  clear Z0 F0
  go_loopw [25] (fun i wr => i = .int .i64 0 ∧ wr = V3) (fun _ _ => 0)
  case atStart => exact ⟨rfl, rfl⟩
  case round =>
    obtain ⟨rfl, rfl⟩ := hrel
    go_wp2_with fail
    refine wp_region_held_drew (S := (fun u => u.cell? ⟨w2.heap.size, 0, none⟩ = some (.int .i64 0) ∧ u.cell? ⟨w2.heap.size, 1, none⟩ = some (.slice none 0 0) ∧ u.cell? ⟨w2.heap.size, 2, none⟩ = some (.pointer (some ⟨H, 0, none⟩)))) (by kernel_rfl) ?_ (fun hHeld => ?_)
    · exact ⟨r0, r1, r2⟩
    refine wpAnyH_take (i := 0) (oi := { dst := some 43, op := Op.fieldAddr 139 (Operand.tmp 5) 0, type := 0, pos := "l6_log.go:77", after := #[], guard := none }) (v := ?_) rfl (by kernel_rfl) (by kernel_rfl) (by kernel_rfl) (fun _ _ _ h => h) (Or.inl ⟨by rfl, ?_⟩) (by assumption) ?_
    rotate_left
    · intro wq hSw
      (try dsimp only at hSw)
      go_simp
      try with_reducible rfl
    try simp only [Act.put, List.setIfInBounds_toArray, List.set_cons_zero, List.set_cons_succ]
    refine wpAnyH_take (i := 1) (oi := { dst := some 44, op := Op.load 3 (Operand.tmp 43), type := 3, pos := "l6_log.go:77", after := #[{ on := 0, ground := Ground.data }], guard := none }) (v := ?_) rfl (by kernel_rfl) (by kernel_rfl) (by kernel_rfl) (fun _ _ _ h => h) (Or.inl ⟨by rfl, ?_⟩) (by assumption) ?_
    rotate_left
    · intro wq hSw
      (try dsimp only at hSw)
      go_simp
      try with_reducible rfl
    try simp only [Act.put, List.setIfInBounds_toArray, List.set_cons_zero, List.set_cons_succ]
    refine wpAnyH_take (i := 2) (oi := { dst := some 45, op := Op.fieldAddr 139 (Operand.tmp 5) 1, type := 0, pos := "l6_log.go:77", after := #[], guard := none }) (v := ?_) rfl (by kernel_rfl) (by kernel_rfl) (by kernel_rfl) (fun _ _ _ h => h) (Or.inl ⟨by rfl, ?_⟩) (by assumption) ?_
    rotate_left
    · intro wq hSw
      (try dsimp only at hSw)
      go_simp
      try with_reducible rfl
    try simp only [Act.put, List.setIfInBounds_toArray, List.set_cons_zero, List.set_cons_succ]
    refine wpAnyH_take (i := 3) (oi := { dst := some 46, op := Op.load 27 (Operand.tmp 45), type := 27, pos := "l6_log.go:77", after := #[{ on := 2, ground := Ground.data }], guard := none }) (v := ?_) rfl (by kernel_rfl) (by kernel_rfl) (by kernel_rfl) (fun _ _ _ h => h) (Or.inl ⟨by rfl, ?_⟩) (by assumption) ?_
    rotate_left
    · intro wq hSw
      (try dsimp only at hSw)
      go_simp
      try with_reducible rfl
    try simp only [Act.put, List.setIfInBounds_toArray, List.set_cons_zero, List.set_cons_succ]
    refine wpAnyH_take (i := 4) (oi := { dst := some 47, op := Op.fieldAddr 139 (Operand.tmp 5) 2, type := 0, pos := "l6_log.go:77", after := #[], guard := none }) (v := ?_) rfl (by kernel_rfl) (by kernel_rfl) (by kernel_rfl) (fun _ _ _ h => h) (Or.inl ⟨by rfl, ?_⟩) (by assumption) ?_
    rotate_left
    · intro wq hSw
      (try dsimp only at hSw)
      go_simp
      try with_reducible rfl
    try simp only [Act.put, List.setIfInBounds_toArray, List.set_cons_zero, List.set_cons_succ]
    refine wpAnyH_take (i := 5) (oi := { dst := some 48, op := Op.load 136 (Operand.tmp 47), type := 136, pos := "l6_log.go:77", after := #[{ on := 4, ground := Ground.data }], guard := none }) (v := ?_) rfl (by kernel_rfl) (by kernel_rfl) (by kernel_rfl) (fun _ _ _ h => h) (Or.inl ⟨by rfl, ?_⟩) (by assumption) ?_
    rotate_left
    · intro wq hSw
      (try dsimp only at hSw)
      go_simp
      try with_reducible rfl
    try simp only [Act.put, List.setIfInBounds_toArray, List.set_cons_zero, List.set_cons_succ]
    refine wpAnyH_ready (rs := [6]) (by kernel_rfl) (by simp) ?_
    refine AllReadyH.cons (o := { dst := some 49, op := Op.call { callee := Callee.value (Operand.func 92), args := #[Operand.tmp 48], argTypes := #[136] }, type := 30, pos := "l6_log.go:77", after := #[{ on := 5, ground := Ground.data }], guard := none }) rfl (fun K hK => ?_) AllReadyH.nil
    go_simp
    refine (c92 d H m1 m2 m3 w1.heap.size wr.drew (Sh3.out.below (Below.refl _ _).drew)).mono ?_
    rintro e w5 ⟨rfl, hb5'⟩
    have hb5 : Below wr.heap.size wr w5 := (Below.refl _ _).drew.trans hb5'
    have hB5 := hB4.trans (hb5.mono hB4.size)
    have Z5 := hidI (Z3.out.below hb5 (by omega))
    have F5 := hidI (F3.out.below hb5 (by omega))
    have q0 := (hb5.cell (p := ⟨w2.heap.size, 0, none⟩) hz3).trans r0
    have q1 := (hb5.cell (p := ⟨w2.heap.size, 1, none⟩) hz3).trans r1
    have q2 := (hb5.cell (p := ⟨w2.heap.size, 2, none⟩) hz3).trans r2
    clear hb5' Z3 F3 Sh3
    go_simp
    clear hHeld
    refine hK.out _ _ ?_ (fun hHeld => ?_)
    · exact ⟨q0, q1, q2⟩
    clear hK K
    try simp only [Act.put, List.setIfInBounds_toArray, List.set_cons_zero, List.set_cons_succ]
    refine wpAnyH_take (i := 7) (oi := { dst := some 50, op := Op.build 108 #[(1, Operand.tmp 44), (2, Operand.tmp 46), (3, Operand.tmp 49)], type := 108, pos := "l6_log.go:77", after := #[{ on := 1, ground := Ground.data }, { on := 3, ground := Ground.data }, { on := 6, ground := Ground.data }], guard := none }) (v := ?_) rfl (by kernel_rfl) (by kernel_rfl) (by kernel_rfl) (fun _ _ _ h => h) (Or.inl ⟨by rfl, ?_⟩) (by assumption) ?_
    rotate_left
    · intro wq hSw
      (try dsimp only at hSw)
      go_simp
      try with_reducible rfl
    try simp only [Act.put, List.setIfInBounds_toArray, List.set_cons_zero, List.set_cons_succ]
    refine wpAnyH_ready (rs := [8]) (by kernel_rfl) (by simp) ?_
    refine AllReadyH.cons (o := { dst := none, op := Op.store 108 (Operand.tmp 4) (Operand.tmp 50), type := 0, pos := "l6_log.go:77", after := #[{ on := 7, ground := Ground.data }, { on := 6, ground := Ground.chain }, { on := 0, ground := Ground.phase }, { on := 1, ground := Ground.phase }, { on := 2, ground := Ground.phase }, { on := 3, ground := Ground.phase }, { on := 4, ground := Ground.phase }, { on := 5, ground := Ground.phase }, { on := 6, ground := Ground.phase }, { on := 7, ground := Ground.phase }], guard := none }) rfl (fun K hK => ?_) AllReadyH.nil
    refine step_store_blk rfl 108 (.tmp 4) (.tmp 50) rfl w.heap.size 0 rfl [.int .i64 0, .int .i64 0, .slice none 0 0, .int .i64 d, .slice none 0 0, .slice none 0 0] rfl (M.blk_some Z5.out rfl) F5.out (by simp [Value.oneCell']) (by kernel_rfl) rfl ?_
    have HKK := hidI hK
    clear hK hHeld
    have hK := HKK
    clear HKK
    refine M.st_over (old := [.int .i64 0, .int .i64 0, .slice none 0 0, .int .i64 0, .slice none 0 0, .slice none 0 0]) (N := w.heap.size) rfl Z5.out F5.out (Nat.le_refl _) ?_
    intro E hbE ZE FE hsE hoE
    have hl5 := hb5.size
    have x0 := (World.cell?_of_block (a := ⟨w2.heap.size, 0, none⟩) (hoE w2.heap.size (by omega) (by omega))).trans q0
    have x1 := (World.cell?_of_block (a := ⟨w2.heap.size, 1, none⟩) (hoE w2.heap.size (by omega) (by omega))).trans q1
    have x2 := (World.cell?_of_block (a := ⟨w2.heap.size, 2, none⟩) (hoE w2.heap.size (by omega) (by omega))).trans q2
    have HBE := hidI (hB5.trans hbE)
    have HZE := hidI ZE
    clear hbE ZE FE hoE Z5 F5
    refine hK.out.out _ _ ⟨x0, x1, x2⟩ (fun hHeld => ?_)
    clear hK
    refine wpAnyH_done (by kernel_rfl) ?_ _
    go_wp2_with fail
    refine bodyPost_ret (v := .agg ([.int .i64 0, .int .i64 0, .slice none 0 0, .int .i64 d, .slice none 0 0, .slice none 0 0] : List Value).toArray) (M.results_blk (P := Tryz.prog) (ty := 108) rfl _ _ w.heap.size [.int .i64 0, .int .i64 0, .slice none 0 0, .int .i64 d, .slice none 0 0, .slice none 0 0] _ rfl HZE.out Tryz.underlying108 rfl (by kernel_rfl)) rfl ⟨rfl, HBE.out⟩
end Go.Proofs.YtlfokigiejcfoaaGreatDoor

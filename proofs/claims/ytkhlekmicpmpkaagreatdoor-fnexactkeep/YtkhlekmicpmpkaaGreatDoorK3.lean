import Derived.Test.YtkhlekmicpmpkaaGreatDoorZK09
import Derived.Deep.RegionHeld3
namespace Go.Proofs.YtkhlekmicpmpkaaGreatDoor
open Go.RowKit
set_option maxRecDepth 100000
set_option linter.unusedVariables false
theorem BlkAt.fill0 {u : World} {B : Nat} {old vs : List Value} (h : BlkAt u B old) (hl : old.length = vs.length) : BlkAt (Go.Proofs.YtkhlekmicpmpkaaGreatDoor.fill u B 0 vs) B vs := by
 have k := BlkAt.fill vs [] old [] 0 (by simpa using h) hl rfl
 simpa using k
theorem heap_fill {B : Nat} (k : Nat) (hne : k ≠ B) (vs : List Value) : ∀ {u : World} (j : Nat), (fill u B j vs).heap[k]? = u.heap[k]? := by
 induction vs with
 | nil => intro u j; rfl
 | cons v vs ih =>
  intro u j
  exact (ih (j + 1)).trans (Below.heap_setCell _ _ _ _ hne)
theorem st_over {u : World} {B N : Nat} {old vs : List Value} {P : World → Prop} (hl : old.length = vs.length) (hB : BlkAt u B old) (hO : OpnAt u B) (hN : N ≤ B) (h : ∀ u', Below N u u' → BlkAt u' B vs → OpnAt u' B → u.heap.size ≤ u'.heap.size → (∀ k, k < u.heap.size → k ≠ B → u'.heap[k]? = u.heap[k]?) → P u') : P (fill u B 0 vs) :=
 h _ (below_fill hN _ _ (Below.refl _ _)) (BlkAt.fill0 hB hl) (OpnAt.fill _ _ hO) (by rw [size_fill]; exact Nat.le_refl _) (fun k _ hne => heap_fill k hne _ _)
theorem blk_some {u : World} {B : Nat} {old vs : List Value} (hB : BlkAt u B old) (hl : old.length = vs.length) : ∀ i, i < vs.length → (u.cell? ⟨B, 0 + i, none⟩).isSome = true := fun i hi => by
 rw [Nat.zero_add, hB i _ (List.getElem?_eq_getElem (by omega))]
 rfl
theorem step_store_blk {P : Program} {ops : Array Oper} {o : Oper} {a : Act} {w : World} {K : Act → World → Prop} {Q : Exit → Act → World → Prop} {E : Prop} (hg : o.guard = none) (ty : TypeId) (x y : Operand) (ho : o.op = .store ty x y)
 (B j : Nat) (hx : a.eval x = .pointer (some ⟨B, j, none⟩)) (vs : List Value) (hy : a.eval y = .agg vs.toArray) (hc : ∀ i, i < vs.length → (w.cell? ⟨B, j + i, none⟩).isSome = true) (hf : OpnAt w B) (h1 : ∀ v ∈ vs, v.oneCell' = true)
 (hi : (P.info? ty).map (·.size) = some vs.length) (hdst : o.dst = none) (h : K a (fill w B j vs)) :
 if Region.wanted o (yielded ops a.tmps) = true then Oper.wp P o a w K Q else E := by
 have hw : Region.wanted o (yielded ops a.tmps) = true := by simp [Region.wanted, hg]
 rw [if_pos hw]
 unfold Oper.wp execOp
 simp only [ho, hx, hy, Instr.storeAt, Instr.sureAddr, Sem.run_bind, Sem.run_pure, Result.andThen_ok, run_storeVar_blk w B j ty vs hc hf h1 hi]
 first
  | exact h
  | (simp only [Oper.upon]; exact h)
  | (simp only [Oper.upon, hdst]; exact h)
set_option maxHeartbeats 2000000 in
theorem c90 (x : L4) (W : Int) (H : Nat) (w : World) (hx : x.tx.size ≤ 1048600) (hH : H < w.heap.size) (hW : w.cell? ⟨H, 0, none⟩ = some (.int .i64 W)) (hg : (glT x).size ≤ 1048700) :
 Calls Tryz.prog 90 #[.pointer (some ⟨H, 0, none⟩), .agg #[.bool x.has, .string x.nm, .int .i64 x.cd, .string x.tx]] w fun e w' => e = .returned (.agg #[.bool x.has, .string x.nm, .string (sumS (glT x) W)]) ∧ Below w.heap.size w w' := by
 replace hx : x.tx.size ≤ 1048700 := by omega
 have hB0 : Below w.heap.size w ((w.alloc (.cells #[.bool x.has, .string x.nm, .int .i64 x.cd, .string x.tx] 61)).alloc (.cells #[.bool false, .string ⟨#[]⟩, .string ⟨#[]⟩] 92)) := ((Below.refl _ _).alloc (Nat.le_refl _) _).alloc (by simp) _
 have hz : ((w.alloc (.cells #[.bool x.has, .string x.nm, .int .i64 x.cd, .string x.tx] 61)).alloc (.cells #[.bool false, .string ⟨#[]⟩, .string ⟨#[]⟩] 92)).heap.size = w.heap.size + 2 := by simp
 have hV0 := (hB0.cell (p := ⟨H, 0, none⟩) hH).trans hW
 have ZA := hidI ((blk_new w [.bool x.has, .string x.nm, .int .i64 x.cd, .string x.tx] 61).below ((Below.refl _ _).alloc (Nat.le_refl _) (.cells #[.bool false, .string ⟨#[]⟩, .string ⟨#[]⟩] 92)) (by simp))
 have ZB : Hid (BlkAt ((w.alloc (.cells #[.bool x.has, .string x.nm, .int .i64 x.cd, .string x.tx] 61)).alloc (.cells #[.bool false, .string ⟨#[]⟩, .string ⟨#[]⟩] 92)) (w.heap.size + 1) [.bool false, .string ⟨#[]⟩, .string ⟨#[]⟩]) := fun j x hx => by simp [go_sem, hx]
 have FB : Hid (OpnAt ((w.alloc (.cells #[.bool x.has, .string x.nm, .int .i64 x.cd, .string x.tx] 61)).alloc (.cells #[.bool false, .string ⟨#[]⟩, .string ⟨#[]⟩] 92)) (w.heap.size + 1)) := fun j => by simp [go_sem]
 go_enter Tryz.func90, Tryz.ntmps90
 go_wp2_with fail
 generalize ((w.alloc (.cells #[.bool x.has, .string x.nm, .int .i64 x.cd, .string x.tx] 61)).alloc (.cells #[.bool false, .string ⟨#[]⟩, .string ⟨#[]⟩] 92)) = V at *
 have hVd : Below V.heap.size V V.drew := (Below.refl _ _).drew
 have p0d := (ZA.out.below hVd (by omega)) 0 _ rfl
 have p1d := (ZA.out.below hVd (by omega)) 1 _ rfl
 have p2d := (ZA.out.below hVd (by omega)) 2 _ rfl
 have p3d := (ZA.out.below hVd (by omega)) 3 _ rfl
 have pHd := (hVd.cell (p := ⟨H, 0, none⟩) (show H < V.heap.size by omega)).trans hV0
 refine wp_region_held_drew (S := (fun u => u.cell? ⟨w.heap.size, 0, none⟩ = some (.bool x.has) ∧ u.cell? ⟨w.heap.size, 1, none⟩ = some (.string x.nm) ∧ u.cell? ⟨w.heap.size, 2, none⟩ = some (.int .i64 x.cd) ∧ u.cell? ⟨w.heap.size, 3, none⟩ = some (.string x.tx) ∧ u.cell? ⟨H, 0, none⟩ = some (.int .i64 W))) (by kernel_rfl) ?_ (fun hHeld => ?_)
 · exact ⟨p0d, p1d, p2d, p3d, pHd⟩
 refine wpAnyH_take (i := 0) (oi := ⟨some 5, .fieldAddr 61 (.tmp 3) 0, 0, "l5_store.go:326", #[], none⟩) (v := ?_) rfl (by kernel_rfl) (by kernel_rfl) (by kernel_rfl) (fun _ _ _ h => h) (Or.inl ⟨by rfl, ?_⟩) (by assumption) ?_
 rotate_left
 · intro wq hSw
   (try dsimp only at hSw)
   go_simp
   try with_reducible rfl
 try simp only [Act.put, qA, qB, qC]
 refine wpAnyH_take (i := 1) (oi := ⟨some 6, .load 4 (.tmp 5), 4, "l5_store.go:326", #[⟨0, .data⟩], none⟩) (v := ?_) rfl (by kernel_rfl) (by kernel_rfl) (by kernel_rfl) (fun _ _ _ h => h) (Or.inl ⟨by rfl, ?_⟩) (by assumption) ?_
 rotate_left
 · intro wq hSw
   (try dsimp only at hSw)
   go_simp
   try with_reducible rfl
 try simp only [Act.put, qA, qB, qC]
 refine wpAnyH_take (i := 2) (oi := ⟨some 7, .fieldAddr 61 (.tmp 3) 1, 0, "l5_store.go:326", #[], none⟩) (v := ?_) rfl (by kernel_rfl) (by kernel_rfl) (by kernel_rfl) (fun _ _ _ h => h) (Or.inl ⟨by rfl, ?_⟩) (by assumption) ?_
 rotate_left
 · intro wq hSw
   (try dsimp only at hSw)
   go_simp
   try with_reducible rfl
 try simp only [Act.put, qA, qB, qC]
 refine wpAnyH_take (i := 3) (oi := ⟨some 8, .load 9 (.tmp 7), 9, "l5_store.go:326", #[⟨2, .data⟩], none⟩) (v := ?_) rfl (by kernel_rfl) (by kernel_rfl) (by kernel_rfl) (fun _ _ _ h => h) (Or.inl ⟨by rfl, ?_⟩) (by assumption) ?_
 rotate_left
 · intro wq hSw
   (try dsimp only at hSw)
   go_simp
   try with_reducible rfl
 try simp only [Act.put, qA, qB, qC]
 refine wpAnyH_take (i := 4) (oi := ⟨some 9, .load 61 (.tmp 3), 61, "l5_store.go:326", #[], none⟩) (v := ?_) rfl (by kernel_rfl) (by kernel_rfl) (by kernel_rfl) (fun _ _ _ h => h) (Or.inl ⟨by rfl, ?_⟩) (by assumption) ?_
 rotate_left
 · intro wq hSw
   (try dsimp only at hSw)
   go_simp
   try with_reducible rfl
 try simp only [Act.put, qA, qB, qC]
 refine wpAnyH_take (i := 6) (oi := ⟨some 11, .move (.tmp 0), 73, "l5_store.go:326", #[], none⟩) (v := ?_) rfl (by kernel_rfl) (by kernel_rfl) (by kernel_rfl) (fun _ _ _ h => h) (Or.inl ⟨by rfl, ?_⟩) (by assumption) ?_
 rotate_left
 · intro wq hSw
   (try dsimp only at hSw)
   go_simp
   try with_reducible rfl
 try simp only [Act.put, qA, qB, qC]
 refine wpAnyH_take (i := 7) (oi := ⟨some 12, .nilCheck (.tmp 11), 0, "l5_store.go:326", #[⟨6, .data⟩], none⟩) (v := ?_) rfl (by kernel_rfl) (by kernel_rfl) (by kernel_rfl) (fun _ _ _ h => h) (Or.inl ⟨by rfl, ?_⟩) (by assumption) ?_
 rotate_left
 · intro wq hSw
   (try dsimp only at hSw)
   go_simp
   try with_reducible rfl
 try simp only [Act.put, qA, qB, qC]
 refine wpAnyH_take (i := 8) (oi := ⟨some 13, .fieldAddr 105 (.tmp 12) 0, 0, "l5_store.go:326", #[⟨7, .data⟩], none⟩) (v := ?_) rfl (by kernel_rfl) (by kernel_rfl) (by kernel_rfl) (fun _ _ _ h => h) (Or.inl ⟨by rfl, ?_⟩) (by assumption) ?_
 rotate_left
 · intro wq hSw
   (try dsimp only at hSw)
   go_simp
   try with_reducible rfl
 try simp only [Act.put, qA, qB, qC]
 refine wpAnyH_take (i := 9) (oi := ⟨some 14, .load 3 (.tmp 13), 3, "l5_store.go:326", #[⟨8, .data⟩], none⟩) (v := ?_) rfl (by kernel_rfl) (by kernel_rfl) (by kernel_rfl) (fun _ _ _ h => h) (Or.inl ⟨by rfl, ?_⟩) (by assumption) ?_
 rotate_left
 · intro wq hSw
   (try dsimp only at hSw)
   go_simp
   try with_reducible rfl
 try simp only [Act.put, qA, qB, qC]
 refine wpAnyH_ready (rs := [5]) (by kernel_rfl) (by simp) ?_
 refine AllReadyH.cons (o := ⟨some 10, .call ⟨.value (.func 105), #[.tmp 9], #[61]⟩, 9, "l5_store.go:326", #[⟨4, .data⟩], none⟩) rfl (fun K hK => ?_) AllReadyH.nil
 go_simp
 refine (c105 x V.drew hx).mono ?_
 rintro e w1 ⟨rfl, hb1⟩
 have h1 := hVd.trans (hb1.mono hVd.size)
 clear hb1
 have p0a := (ZA.out.below h1 (by omega)) 0 _ rfl
 have p1a := (ZA.out.below h1 (by omega)) 1 _ rfl
 have p2a := (ZA.out.below h1 (by omega)) 2 _ rfl
 have p3a := (ZA.out.below h1 (by omega)) 3 _ rfl
 have pHa := (h1.cell (p := ⟨H, 0, none⟩) (show H < V.heap.size by omega)).trans hV0
 go_simp
 clear hHeld
 refine hK.out _ _ ?_ (fun hHeld => ?_)
 · exact ⟨p0a, p1a, p2a, p3a, pHa⟩
 clear hK K
 try simp only [Act.put, qA, qB, qC]
 refine wpAnyH_ready (rs := [10]) (by kernel_rfl) (by simp) ?_
 refine AllReadyH.cons (o := ⟨some 15, .call ⟨.value (.func 58), #[.tmp 10, .tmp 14], #[9, 3]⟩, 9, "l5_store.go:326", #[⟨5, .data⟩, ⟨9, .data⟩, ⟨5, .chain⟩], none⟩) rfl (fun K hK => ?_) AllReadyH.nil
 go_simp
 refine (c58 (glT x) W w1 hg).mono ?_
 rintro e w2 ⟨rfl, hb2⟩
 have h2 := h1.trans (hb2.mono h1.size)
 clear hb2
 have p0b := (ZA.out.below h2 (by omega)) 0 _ rfl
 have p1b := (ZA.out.below h2 (by omega)) 1 _ rfl
 have p2b := (ZA.out.below h2 (by omega)) 2 _ rfl
 have p3b := (ZA.out.below h2 (by omega)) 3 _ rfl
 have pHb := (h2.cell (p := ⟨H, 0, none⟩) (show H < V.heap.size by omega)).trans hV0
 go_simp
 clear hHeld
 refine hK.out _ _ ?_ (fun hHeld => ?_)
 · exact ⟨p0b, p1b, p2b, p3b, pHb⟩
 clear hK K
 try simp only [Act.put, qA, qB, qC]
 refine wpAnyH_take (i := 11) (oi := ⟨some 16, .build 92 #[(0, .tmp 6), (1, .tmp 8), (2, .tmp 15)], 92, "l5_store.go:326", #[⟨1, .data⟩, ⟨3, .data⟩, ⟨10, .data⟩], none⟩) (v := ?_) rfl (by kernel_rfl) (by kernel_rfl) (by kernel_rfl) (fun _ _ _ h => h) (Or.inl ⟨by rfl, ?_⟩) (by assumption) ?_
 rotate_left
 · intro wq hSw
   (try dsimp only at hSw)
   go_simp
   try with_reducible rfl
 try simp only [Act.put, qA, qB, qC]
 refine wpAnyH_ready (rs := [12]) (by kernel_rfl) (by simp) ?_
 refine AllReadyH.cons (o := ⟨none, .store 92 (.tmp 4) (.tmp 16), 0, "l5_store.go:326", #[⟨11, .data⟩, ⟨10, .chain⟩, ⟨0, .phase⟩, ⟨1, .phase⟩, ⟨2, .phase⟩, ⟨3, .phase⟩, ⟨4, .phase⟩, ⟨5, .phase⟩, ⟨6, .phase⟩, ⟨7, .phase⟩, ⟨8, .phase⟩, ⟨9, .phase⟩, ⟨10, .phase⟩, ⟨11, .phase⟩], none⟩) rfl (fun K hK => ?_) AllReadyH.nil
 have Z2 := hidI (ZB.out.below h2 (by omega))
 have F2 := hidI (FB.out.below h2 (by omega))
 refine step_store_blk rfl 92 (.tmp 4) (.tmp 16) rfl (w.heap.size + 1) 0 rfl [.bool x.has, .string x.nm, .string (sumS (glT x) W)] rfl (blk_some Z2.out rfl) F2.out (by simp [Value.oneCell']) (by kernel_rfl) rfl ?_
 clear hHeld
 have hbF : Below (w.heap.size + 1) w2 (fill w2 (w.heap.size + 1) 0 [.bool x.has, .string x.nm, .string (sumS (glT x) W)]) := below_fill (Nat.le_refl _) _ _ (Below.refl _ _)
 have ZF := hidI (Z2.out.fill0 (vs := [.bool x.has, .string x.nm, .string (sumS (glT x) W)]) rfl)
 have hs2 := h2.size
 have c0 := (hbF.cell (p := ⟨w.heap.size, 0, none⟩) (show w.heap.size < _ by omega)).trans p0b
 have c1 := (hbF.cell (p := ⟨w.heap.size, 1, none⟩) (show w.heap.size < _ by omega)).trans p1b
 have c2 := (hbF.cell (p := ⟨w.heap.size, 2, none⟩) (show w.heap.size < _ by omega)).trans p2b
 have c3 := (hbF.cell (p := ⟨w.heap.size, 3, none⟩) (show w.heap.size < _ by omega)).trans p3b
 have cH := (hbF.cell (p := ⟨H, 0, none⟩) (show H < _ by omega)).trans pHb
 have hBF := (hB0.trans (h2.mono hB0.size)).trans (hbF.mono (by omega))
 generalize fill w2 (w.heap.size + 1) 0 [.bool x.has, .string x.nm, .string (sumS (glT x) W)] = E at *
 refine hK.out _ _ ⟨c0, c1, c2, c3, cH⟩ (fun hHeld => ?_)
 clear hK K
 refine wpAnyH_done (by kernel_rfl) ?_ _
 go_wp2_with fail
 refine bodyPost_ret (v := .agg ([.bool x.has, .string x.nm, .string (sumS (glT x) W)] : List Value).toArray) (results_blk (P := Tryz.prog) (ty := 92) rfl _ E (w.heap.size + 1) [.bool x.has, .string x.nm, .string (sumS (glT x) W)] _ rfl ZF.out Tryz.underlying92 rfl (by kernel_rfl)) rfl ⟨rfl, hBF⟩
set_option maxHeartbeats 2000000 in
theorem c91 (x y : R3) (ai bi : Option Addr) (ci di : Nat) (w : World) (hl : x.gs.length ≤ 1048576) (hl' : y.gs.length ≤ 1048576) (hat : GlsAt w ai x.gs) (hat' : GlsAt w bi y.gs) :
 Calls Tryz.prog 91 #[.agg #[.string x.key, .slice ai x.gs.length ci, .string x.out], .agg #[.string y.key, .slice bi y.gs.length di, .string y.out]] w fun e w' => Rb (x = y) e ∧ Below w.heap.size w w' := by
 obtain ⟨xk, xg, xo⟩ := x
 obtain ⟨yk, yg, yo⟩ := y
 simp only at hl hl' hat hat' ⊢
 have hB : ∀ o o', Below w.heap.size w ((w.alloc o).alloc o') := fun o o' => ((Below.refl _ _).alloc (Nat.le_refl _) _).alloc (by simp) _
 by_cases hk : xk = yk
 · subst hk
   by_cases ho : xo = yo
   · subst ho
     have HX := hidI (gls_below hat (hB (.cells #[.string xk, .slice ai xg.length ci, .string xo] 67) (.cells #[.string xk, .slice bi yg.length di, .string xo] 67)))
     have HY := hidI (gls_below hat' (hB (.cells #[.string xk, .slice ai xg.length ci, .string xo] 67) (.cells #[.string xk, .slice bi yg.length di, .string xo] 67)))
     have hB0 := hB (.cells #[.string xk, .slice ai xg.length ci, .string xo] 67) (.cells #[.string xk, .slice bi yg.length di, .string xo] 67)
     clear hat hat'
     go_enter Tryz.func91, Tryz.ntmps91
     go_wp2_with fail
     refine (c106 xg yg ai bi ci di _ hl hl' HX.out HY.out).mono ?_
     rintro e w1 ⟨hR, hb1⟩
     have hB1 := hB0.trans (hb1.mono hB0.size)
     obtain ⟨q, rfl, hq⟩ := hR
     have HQ : Hid (Rb (R3.mk xk xg xo = R3.mk xk yg xo) (.returned (.bool q))) := ⟨q, rfl, hq.trans ⟨fun h => by rw [h], fun h => by injection h⟩⟩
     clear hq hb1 HX HY hB0
     go_wp2
     go_ret
     exact ⟨HQ.out, hB1⟩
   · have HN : Hid (¬ R3.mk xk xg xo = R3.mk xk yg yo) := fun h => ho (by injection h)
     have ho1 := list_ne ho
     go_enter Tryz.func91, Tryz.ntmps91
     go_wp2
     go_ret
     exact ⟨rb_no HN.out, hB _ _⟩
 · have HN : Hid (¬ R3.mk xk xg xo = R3.mk yk yg yo) := fun h => hk (by injection h)
   have hk1 := list_ne hk
   go_enter Tryz.func91, Tryz.ntmps91
   go_wp2
   go_ret
   exact ⟨rb_no HN.out, hB _ _⟩
end Go.Proofs.YtkhlekmicpmpkaaGreatDoor

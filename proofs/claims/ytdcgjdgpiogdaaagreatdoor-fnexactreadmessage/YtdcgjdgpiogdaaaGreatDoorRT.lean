import Derived.Test.YtdcgjdgpiogdaaaGreatDoorG35
import Derived.Deep.RegionHeld3
namespace Go.Proofs.YtdcgjdgpiogdaaaGreatDoor
open Go.RowKit
theorem BlkAt.drewW {u : World} {B : Nat} {vs : List Value} (h : BlkAt u B vs) : BlkAt u.drew B vs := fun j v e => by simpa using h j v e
/-- A whole block is stored, as one step of a region that draws its order. -/
theorem step_store_blk {P : Program} {ops : Array Oper} {o : Oper} {a : Act} {w : World} {K : Act → World → Prop} {Q : Exit → Act → World → Prop} {E : Prop} (hg : o.guard = none) (ty : TypeId) (x y : Operand) (ho : o.op = .store ty x y)
    (B j : Nat) (hx : a.eval x = .pointer (some ⟨B, j, none⟩)) (vs : List Value) (hy : a.eval y = .agg vs.toArray) (hc : ∀ i, i < vs.length → (w.cell? ⟨B, j + i, none⟩).isSome = true) (hf : OpnAt w B) (h1 : ∀ v ∈ vs, v.oneCell' = true)
    (hi : (P.info? ty).map (·.size) = some vs.length) (hdst : o.dst = none) (h : K a (fill w B j vs)) :
    if Region.wanted o (yielded ops a.tmps) = true then Oper.wp P o a w K Q else E := by
  have hw : Region.wanted o (yielded ops a.tmps) = true := by simp [Region.wanted, hg]
  rw [if_pos hw]
  unfold Oper.wp execOp
  simp only [ho, hx, hy, Instr.storeAt, Instr.sureAddr, Sem.run_bind, Sem.run_pure, Result.andThen_ok, run_storeVar_blk w B j ty vs hc hf h1 hi]
  first
    | exact h
    | (simp only [Oper.upon]; exact h)
    | (simp only [Oper.upon, hdst]; exact h)
theorem OpnAt.drewW {u : World} {B : Nat} (h : OpnAt u B) : OpnAt u.drew B := fun j => by simpa using h j
theorem cell_fill {B : Nat} (vs : List Value) : ∀ {u : World} (j : Nat) (p : Addr), p.block ≠ B → (fill u B j vs).cell? p = u.cell? p := by
  induction vs with
  | nil => intro u j p _; rfl
  | cons v vs ih => intro u j p h; exact (ih (j + 1) p h).trans (World.cell?_setCell_other _ _ _ _ (fun e => h (by rw [← e])))
theorem cut_each {f : List UInt8} {p : List UInt8} (h : p ∈ cutS 32 f) : p.length ≤ f.length := by
  obtain ⟨i, hi, e⟩ := List.getElem_of_mem h
  have := cut_small 32 f i
  rw [List.getD, List.getElem?_eq_getElem hi, e] at this
  exact this
theorem six_of {l : List (List UInt8)} (h : l.length = 6) : ∃ p0 p1 p2 p3 p4 p5, l = [p0, p1, p2, p3, p4, p5] := by
  match l, h with
  | [a, b, c, d, e, f], _ => exact ⟨a, b, c, d, e, f, rfl⟩
set_option maxHeartbeats 4000000 in
set_option maxRecDepth 100000 in
theorem c81 (f : List UInt8) (b : List (List UInt8)) (g o cp : Nat) (w : World) (hs : f.length ≤ 16000) (hmx : MaxAt w) (hb : b.length ≤ 16001) (hln : LinesIn w g o b) (hbs : ∀ i, i < b.length → (b.getD i []).length ≤ 16000) :
    Calls Tryz.prog 81 #[.string (ofL f), .slice (some ⟨g, o, none⟩) b.length cp] w fun e w' => IsRd 2 f b w w' e ∧ Below w.heap.size w w' := by
  have hB0 : Below w.heap.size w (w.alloc (.cells zG.toArray 41)) := (Below.refl _ _).alloc (Nat.le_refl _) _
  have HL : Hid (LinesIn w g o b) := hln
  have HBS : Hid (∀ i, i < b.length → (b.getD i []).length ≤ 16000) := hbs
  clear hln hbs
  go_enter Tryz.func81, Tryz.ntmps81
  go_wp2_with fail
  refine (c110 32 (ofL f) _ (by rw [ofL_size]; omega) (max_below hmx hB0)).mono ?_
  rintro e w1 ⟨⟨rfl, hln1⟩, hb1⟩
  rw [ofL_list] at hln1 ⊢
  have hx1 : Below (w.heap.size + 1) (w.alloc (.cells zG.toArray 41)) w1 := hb1.mono (by simp)
  have hz1 : (w.alloc (.cells zG.toArray 41)).heap.size = w.heap.size + 1 := by simp
  rw [hz1] at hln1
  clear hb1
  obtain ⟨bA, oA⟩ := blk_keep (vs := zG) hx1
  have hB1 : Below w.heap.size w w1 := hB0.trans (hx1.mono (by omega))
  have hS := blk_some bA zG rfl
  by_cases hlen : (cutS 32 f).length ≠ 6 ∨ b.length ≠ 1
  · have HN : Hid (RdMsg 2 f b g16z false) := rdTurn_len hlen _
    have hc1 := (cut_len 32 f).2
    clear hln1
    by_cases h6 : (cutS 32 f).length = 6
    · have h1 : b.length ≠ 1 := by omega
      rw [h6]
      clear hlen
      go_wp2_with (refine wpList_store_blk rfl 41 (.tmp 4) (.tmp 23) rfl w.heap.size 0 rfl zG rfl hS oA (by simp [zG, Value.oneCell']) (by kernel_rfl) rfl ?_)
      exact fin_no Tryz.results81 HN.out rfl rfl rfl bA hB1
    · clear hlen
      generalize (cutS 32 f).length = n at *
      go_wp2_with (refine wpList_store_blk rfl 41 (.tmp 4) (.tmp 23) rfl w.heap.size 0 rfl zG rfl hS oA (by simp [zG, Value.oneCell']) (by kernel_rfl) rfl ?_)
      exact fin_no Tryz.results81 HN.out rfl rfl rfl bA hB1
  · have h6 : (cutS 32 f).length = 6 := by omega
    have h1 : b.length = 1 := by omega
    clear hlen
    obtain ⟨b0, rfl⟩ : ∃ b0, b = [b0] := by
      match b, h1 with
      | [b0], _ => exact ⟨b0, rfl⟩
    obtain ⟨p0, p1, p2, p3, p4, p5, hc⟩ := six_of h6
    rw [hc] at hln1 ⊢
    have s0 : p0.length ≤ 16000 := Nat.le_trans (cut_each (f := f) (by rw [hc]; simp)) hs
    have s1 : p1.length ≤ 16000 := Nat.le_trans (cut_each (f := f) (by rw [hc]; simp)) hs
    have s2 : p2.length ≤ 16000 := Nat.le_trans (cut_each (f := f) (by rw [hc]; simp)) hs
    have s3 : p3.length ≤ 16000 := Nat.le_trans (cut_each (f := f) (by rw [hc]; simp)) hs
    have s4 : p4.length ≤ 16000 := Nat.le_trans (cut_each (f := f) (by rw [hc]; simp)) hs
    have s5 : p5.length ≤ 16000 := Nat.le_trans (cut_each (f := f) (by rw [hc]; simp)) hs
    have hb0 : b0.length ≤ 16000 := HBS.out 0 (by simp)
    have cl0 : w.cell? ⟨g, o, none⟩ = some (.string (ofL b0)) := HL.out.2 0 (by simp)
    have hg0 := HL.out.1
    simp only [List.length_cons, List.length_nil]
    have hL3 : LinesIn w1 (w.heap.size + 1) 0 [p0, p1, p2] := ⟨hln1.1, fun i hi => by
      have h := hln1.2 i (by simp at hi ⊢; omega)
      rw [Nat.zero_add, h]
      match i, hi with
      | 0, _ => rfl
      | 1, _ => rfl
      | 2, _ => rfl⟩
    have hL2 : LinesIn w1 (w.heap.size + 1) 4 [p4, p5] := ⟨hln1.1, fun i hi => by
      have h := hln1.2 (4 + i) (by simp at hi ⊢; omega)
      rw [h]
      match i, hi with
      | 0, _ => rfl
      | 1, _ => rfl⟩
    have hp3 : w1.cell? ⟨w.heap.size + 1, 3, none⟩ = some (.string (ofL p3)) := hln1.2 3 (by simp)
    clear hln1 h6 h1
    go_wp2_with fail
    refine (c103 (w.heap.size + 1) 0 6 [p0, p1, p2] _ hL3 (fun i hi => by
      match i, hi with
      | 0, _ => exact Nat.le_trans s0 (by omega)
      | 1, _ => exact Nat.le_trans s1 (by omega)
      | 2, _ => exact Nat.le_trans s2 (by omega)) (by simp) (by simp)).mono ?_
    rintro e w2 ⟨hr2, hb2⟩
    have hL2' := linesIn_below hL2 hb2
    have hp3' := (hb2.cell (p := ⟨w.heap.size + 1, 3, none⟩) hL3.1).trans hp3
    have hlt2 : w.heap.size + 1 < w2.heap.size := Nat.lt_of_lt_of_le hL3.1 hb2.size
    have hx2 := hx1.trans (hb2.mono (by have h := hx1.size; simp at h; omega))
    have hg2 : ∃ sv ok1, e = .returned (.tuple #[sv, .bool ok1]) ∧ ok1 = [p0, p1, p2].all (numM 1000) ∧ (ok1 = true → ∃ g1 cp1, sv = .slice (some ⟨g1, 0, none⟩) 3 cp1 ∧ (g1 < w2.heap.size ∧ w.heap.size < g1) ∧ w2.cell? ⟨g1, 0, none⟩ = some (.int .i64 (rnM 1000 p0)) ∧ w2.cell? ⟨g1, 1, none⟩ = some (.int .i64 (rnM 1000 p1)) ∧ w2.cell? ⟨g1, 2, none⟩ = some (.int .i64 (rnM 1000 p2))) := by
      rcases hr2 with ⟨rfl, hn⟩ | ⟨hn, g1, cp1, rfl, hgg, hgl, hcl⟩
      · exact ⟨_, _, rfl, hn.symm, fun h => by cases h⟩
      · exact ⟨_, _, rfl, hn.symm, fun _ => ⟨g1, cp1, rfl, ⟨hgl, by have := hL3.1; omega⟩, hcl 0 (by simp), hcl 1 (by simp), hcl 2 (by simp)⟩⟩
    obtain ⟨sv, ok1, rfl, hok1, hsv⟩ := hg2
    have HOK1 : Hid (ok1 = [p0, p1, p2].all (numM 1000)) := hok1
    clear hok1
    clear hr2 hL2 hL3 hp3
    go_wp2_with fail
    refine (c103 (w.heap.size + 1) 4 2 [p4, p5] _ hL2' (fun i hi => by
      match i, hi with
      | 0, _ => exact Nat.le_trans s4 (by omega)
      | 1, _ => exact Nat.le_trans s5 (by omega)) (by simp) (by simp)).mono ?_
    rintro e w3 ⟨hr3, hb3⟩
    have hp3'' := (hb3.cell (p := ⟨w.heap.size + 1, 3, none⟩) hlt2).trans hp3'
    have hlt3 : w.heap.size + 1 < w3.heap.size := Nat.lt_of_lt_of_le hlt2 hb3.size
    have hx3 := hx2.trans (hb3.mono (by omega))
    have hg3 : ∃ tv ok2, e = .returned (.tuple #[tv, .bool ok2]) ∧ ok2 = [p4, p5].all (numM 1000) ∧ (ok2 = true → ∃ g2 cp2, tv = .slice (some ⟨g2, 0, none⟩) 2 cp2 ∧ (g2 < w3.heap.size ∧ w.heap.size < g2) ∧ w3.cell? ⟨g2, 0, none⟩ = some (.int .i64 (rnM 1000 p4)) ∧ w3.cell? ⟨g2, 1, none⟩ = some (.int .i64 (rnM 1000 p5))) := by
      rcases hr3 with ⟨rfl, hn⟩ | ⟨hn, g1, cp1, rfl, hgg, hgl, hcl⟩
      · exact ⟨_, _, rfl, hn.symm, fun h => by cases h⟩
      · exact ⟨_, _, rfl, hn.symm, fun _ => ⟨g1, cp1, rfl, ⟨hgl, by omega⟩, hcl 0 (by simp), hcl 1 (by simp)⟩⟩
    obtain ⟨tv, ok2, rfl, hok2, htv⟩ := hg3
    have HOK2 : Hid (ok2 = [p4, p5].all (numM 1000)) := hok2
    clear hok2
    have hB3 : Below w.heap.size w w3 := hB0.trans (hx3.mono (by omega))
    have hsv3 : ok1 = true → ∃ g1 cp1, sv = .slice (some ⟨g1, 0, none⟩) 3 cp1 ∧ (g1 < w3.heap.size ∧ w.heap.size < g1) ∧ w3.cell? ⟨g1, 0, none⟩ = some (.int .i64 (rnM 1000 p0)) ∧ w3.cell? ⟨g1, 1, none⟩ = some (.int .i64 (rnM 1000 p1)) ∧ w3.cell? ⟨g1, 2, none⟩ = some (.int .i64 (rnM 1000 p2)) := fun h => by
      obtain ⟨g1, cp1, e1, e2, e3, e4, e5⟩ := hsv h
      exact ⟨g1, cp1, e1, ⟨Nat.lt_of_lt_of_le e2.1 hb3.size, e2.2⟩, (hb3.cell (p := ⟨g1, 0, none⟩) e2.1).trans e3, (hb3.cell (p := ⟨g1, 1, none⟩) e2.1).trans e4, (hb3.cell (p := ⟨g1, 2, none⟩) e2.1).trans e5⟩
    clear hr3 hL2' hp3' hsv hb2 hb3
    have cl3 : w3.cell? ⟨g, o, none⟩ = some (.string (ofL b0)) := (hB3.cell (p := ⟨g, o, none⟩) hg0).trans cl0
    have hm3 : MaxAt w3 := max_below hmx hB3
    go_wp2_with fail
    refine (c111 b0 _ hb0 hm3).mono ?_
    rintro e w4 ⟨⟨t, ok3, rfl, hrd, hle, hst⟩, hb4⟩
    have hx4 := hx3.trans (hb4.mono (by omega))
    have hlt4 : w.heap.size + 1 < w4.heap.size := Nat.lt_of_lt_of_le hlt3 hb4.size
    have hB4 : Below w.heap.size w w4 := hB0.trans (hx4.mono (by omega))
    have hp34 := (hb4.cell (p := ⟨w.heap.size + 1, 3, none⟩) hlt3).trans hp3''
    have hNo : (ok1 = false ∨ ok2 = false ∨ ok3 = false) → Hid (RdMsg 2 f [b0] g16z false) := fun h => rdTurn_no hc hrd (by rw [← HOK1.out, ← HOK2.out]; exact h) _
    have hYes : ok1 = true → ok2 = true → ok3 = true → Hid (RdMsg 2 f [b0] (turnG (rnM 1000 p0) (rnM 1000 p1) (rnM 1000 p2) (ofL p3) (rnM 1000 p4) (rnM 1000 p5) t) true) := fun h1 h2 h3 => by
      subst h3
      have a1 := HOK1.out
      have a2 := HOK2.out
      rw [h1] at a1
      rw [h2] at a2
      simp only [List.all_cons, List.all_nil, Bool.and_true] at a1 a2
      have a1' := a1.symm
      have a2' := a2.symm
      simp only [Bool.and_eq_true] at a1' a2'
      exact rdTurn_yes hc a1'.1 a1'.2.1 a1'.2.2 a2'.1 a2'.2 hrd
    clear hrd hc
    clear bA oA hS
    obtain ⟨bA, oA⟩ := blk_keep (vs := zG) hx4
    have hzl : w.heap.size < w4.heap.size := by omega
    have hA := fun ob => bA.below ((Below.refl w4.heap.size w4).alloc (Nat.le_refl _) ob) hzl
    have hO := fun ob => oA.below ((Below.refl w4.heap.size w4).alloc (Nat.le_refl _) ob) hzl
    have hBA := fun ob => hB4.alloc hB4.size ob
    unfold T6.v
    cases ok1
    · have HN := hNo (.inl rfl)
      clear hNo hYes
      go_wp2_with (refine wpList_store_blk rfl 41 (.tmp 4) (.tmp 53) rfl w.heap.size 0 rfl zG rfl (blk_some (hA _) zG rfl) (hO _) (by simp [zG, Value.oneCell']) (by kernel_rfl) rfl ?_)
      exact fin_no Tryz.results81 HN.out rfl rfl rfl (hA _) (hBA _)
    · cases ok2
      · have HN := hNo (.inr (.inl rfl))
        clear hNo hYes
        go_wp2_with (refine wpList_store_blk rfl 41 (.tmp 4) (.tmp 53) rfl w.heap.size 0 rfl zG rfl (blk_some (hA _) zG rfl) (hO _) (by simp [zG, Value.oneCell']) (by kernel_rfl) rfl ?_)
        exact fin_no Tryz.results81 HN.out rfl rfl rfl (hA _) (hBA _)
      · cases ok3
        · have HN := hNo (.inr (.inr rfl))
          clear hNo hYes
          go_wp2_with (refine wpList_store_blk rfl 41 (.tmp 4) (.tmp 53) rfl w.heap.size 0 rfl zG rfl (blk_some (hA _) zG rfl) (hO _) (by simp [zG, Value.oneCell']) (by kernel_rfl) rfl ?_)
          exact fin_no Tryz.results81 HN.out rfl rfl rfl (hA _) (hBA _)
        · have HN := hYes rfl rfl rfl
          clear hNo hYes
          obtain ⟨g1, cp1, rfl, ⟨hg1, hg1b⟩, k0, k1, k2⟩ := hsv3 rfl
          obtain ⟨g2, cp2, rfl, ⟨hg2, hg2b⟩, l0, l1⟩ := htv rfl
          have k0' := (hb4.cell (p := ⟨g1, 0, none⟩) hg1).trans k0
          have k1' := (hb4.cell (p := ⟨g1, 1, none⟩) hg1).trans k1
          have k2' := (hb4.cell (p := ⟨g1, 2, none⟩) hg1).trans k2
          have l0' := (hb4.cell (p := ⟨g2, 0, none⟩) hg2).trans l0
          have l1' := (hb4.cell (p := ⟨g2, 1, none⟩) hg2).trans l1
          have hg1' : g1 < w4.heap.size := Nat.lt_of_lt_of_le hg1 hb4.size
          have hg2' : g2 < w4.heap.size := Nat.lt_of_lt_of_le hg2 hb4.size
          clear k0 k1 k2 l0 l1 hsv3 htv hp3'' cl3 hb4
          go_wp2_with fail
          have HSS : Hid ((fun u => (u.cell? ⟨g1, 0, none⟩ = some (.int .i64 (rnM 1000 p0)) ∧ u.cell? ⟨g1, 1, none⟩ = some (.int .i64 (rnM 1000 p1)) ∧ u.cell? ⟨g1, 2, none⟩ = some (.int .i64 (rnM 1000 p2)) ∧ u.cell? ⟨w.heap.size + 1, 3, none⟩ = some (.string (ofL p3)) ∧ u.cell? ⟨g2, 0, none⟩ = some (.int .i64 (rnM 1000 p4))) ∧ u.cell? ⟨w4.heap.size, 0, none⟩ = some (.bool t.over) ∧ u.cell? ⟨w4.heap.size, 1, none⟩ = some (.int .i64 t.cd) ∧ u.cell? ⟨w4.heap.size, 2, none⟩ = some (.string t.tx) ∧ u.cell? ⟨w4.heap.size, 3, none⟩ = some (.bool t.has) ∧ u.cell? ⟨w4.heap.size, 4, none⟩ = some (.string t.nm) ∧ u.cell? ⟨w4.heap.size, 5, none⟩ = some (.int .i64 (rnM 1000 p5))) (w4.alloc (.cells #[.bool t.over, .int .i64 t.cd, .string t.tx, .bool t.has, .string t.nm, .int .i64 (rnM 1000 p5)] 39))) := ⟨⟨past (by exact hg1') k0' _, past (by exact hg1') k1' _, past (by exact hg1') k2' _, past (by exact hlt4) hp34 _, past (by exact hg2') l0' _⟩, by simp [go_sem], by simp [go_sem], by simp [go_sem], by simp [go_sem], by simp [go_sem], by simp [go_sem]⟩
          refine wp_region_held_drew (S := (fun u => (u.cell? ⟨g1, 0, none⟩ = some (.int .i64 (rnM 1000 p0)) ∧ u.cell? ⟨g1, 1, none⟩ = some (.int .i64 (rnM 1000 p1)) ∧ u.cell? ⟨g1, 2, none⟩ = some (.int .i64 (rnM 1000 p2)) ∧ u.cell? ⟨w.heap.size + 1, 3, none⟩ = some (.string (ofL p3)) ∧ u.cell? ⟨g2, 0, none⟩ = some (.int .i64 (rnM 1000 p4))) ∧ u.cell? ⟨w4.heap.size, 0, none⟩ = some (.bool t.over) ∧ u.cell? ⟨w4.heap.size, 1, none⟩ = some (.int .i64 t.cd) ∧ u.cell? ⟨w4.heap.size, 2, none⟩ = some (.string t.tx) ∧ u.cell? ⟨w4.heap.size, 3, none⟩ = some (.bool t.has) ∧ u.cell? ⟨w4.heap.size, 4, none⟩ = some (.string t.nm) ∧ u.cell? ⟨w4.heap.size, 5, none⟩ = some (.int .i64 (rnM 1000 p5)))) (by kernel_rfl) ?_ (fun hHeld => ?_)
          · exact HSS.out
          refine wpAnyH_take (i := 0) (oi := { dst := some 58, op := Op.move (Operand.tmp 7), type := 134, pos := "l7_mail.go:189", after := #[], guard := none }) (v := ?_) rfl (by kernel_rfl) (by kernel_rfl) (by kernel_rfl) (fun _ _ _ h => h) (Or.inl ⟨by rfl, ?_⟩) (by assumption) ?_
          rotate_left
          · intro wq hSw
            (try dsimp only at hSw)
            go_simp
            try with_reducible rfl
          try simp only [Act.put, List.setIfInBounds_toArray, List.set_cons_zero, List.set_cons_succ]
          refine wpAnyH_take (i := 1) (oi := { dst := some 59, op := Op.indexAddr 134 (Operand.tmp 58) (Operand.const (Value.int IntKind.i64 0)), type := 0, pos := "l7_mail.go:189", after := #[{ on := 0, ground := Ground.data }], guard := none }) (v := ?_) rfl (by kernel_rfl) (by kernel_rfl) (by kernel_rfl) (fun _ _ _ h => h) (Or.inl ⟨by rfl, ?_⟩) (by assumption) ?_
          rotate_left
          · intro wq hSw
            (try dsimp only at hSw)
            go_simp
            try with_reducible rfl
          try simp only [Act.put, List.setIfInBounds_toArray, List.set_cons_zero, List.set_cons_succ]
          refine wpAnyH_take (i := 2) (oi := { dst := some 60, op := Op.load 3 (Operand.tmp 59), type := 3, pos := "l7_mail.go:189", after := #[{ on := 1, ground := Ground.data }], guard := none }) (v := ?_) rfl (by kernel_rfl) (by kernel_rfl) (by kernel_rfl) (fun _ _ _ h => h) (Or.inl ⟨by rfl, ?_⟩) (by assumption) ?_
          rotate_left
          · intro wq hSw
            (try dsimp only at hSw)
            go_simp
            try with_reducible rfl
          try simp only [Act.put, List.setIfInBounds_toArray, List.set_cons_zero, List.set_cons_succ]
          refine wpAnyH_take (i := 3) (oi := { dst := some 61, op := Op.move (Operand.tmp 7), type := 134, pos := "l7_mail.go:189", after := #[], guard := none }) (v := ?_) rfl (by kernel_rfl) (by kernel_rfl) (by kernel_rfl) (fun _ _ _ h => h) (Or.inl ⟨by rfl, ?_⟩) (by assumption) ?_
          rotate_left
          · intro wq hSw
            (try dsimp only at hSw)
            go_simp
            try with_reducible rfl
          try simp only [Act.put, List.setIfInBounds_toArray, List.set_cons_zero, List.set_cons_succ]
          refine wpAnyH_take (i := 4) (oi := { dst := some 62, op := Op.indexAddr 134 (Operand.tmp 61) (Operand.const (Value.int IntKind.i64 1)), type := 0, pos := "l7_mail.go:189", after := #[{ on := 3, ground := Ground.data }], guard := none }) (v := ?_) rfl (by kernel_rfl) (by kernel_rfl) (by kernel_rfl) (fun _ _ _ h => h) (Or.inl ⟨by rfl, ?_⟩) (by assumption) ?_
          rotate_left
          · intro wq hSw
            (try dsimp only at hSw)
            go_simp
            try with_reducible rfl
          try simp only [Act.put, List.setIfInBounds_toArray, List.set_cons_zero, List.set_cons_succ]
          refine wpAnyH_take (i := 5) (oi := { dst := some 63, op := Op.load 3 (Operand.tmp 62), type := 3, pos := "l7_mail.go:189", after := #[{ on := 4, ground := Ground.data }], guard := none }) (v := ?_) rfl (by kernel_rfl) (by kernel_rfl) (by kernel_rfl) (fun _ _ _ h => h) (Or.inl ⟨by rfl, ?_⟩) (by assumption) ?_
          rotate_left
          · intro wq hSw
            (try dsimp only at hSw)
            go_simp
            try with_reducible rfl
          try simp only [Act.put, List.setIfInBounds_toArray, List.set_cons_zero, List.set_cons_succ]
          refine wpAnyH_take (i := 6) (oi := { dst := some 64, op := Op.move (Operand.tmp 7), type := 134, pos := "l7_mail.go:189", after := #[], guard := none }) (v := ?_) rfl (by kernel_rfl) (by kernel_rfl) (by kernel_rfl) (fun _ _ _ h => h) (Or.inl ⟨by rfl, ?_⟩) (by assumption) ?_
          rotate_left
          · intro wq hSw
            (try dsimp only at hSw)
            go_simp
            try with_reducible rfl
          try simp only [Act.put, List.setIfInBounds_toArray, List.set_cons_zero, List.set_cons_succ]
          refine wpAnyH_take (i := 7) (oi := { dst := some 65, op := Op.indexAddr 134 (Operand.tmp 64) (Operand.const (Value.int IntKind.i64 2)), type := 0, pos := "l7_mail.go:189", after := #[{ on := 6, ground := Ground.data }], guard := none }) (v := ?_) rfl (by kernel_rfl) (by kernel_rfl) (by kernel_rfl) (fun _ _ _ h => h) (Or.inl ⟨by rfl, ?_⟩) (by assumption) ?_
          rotate_left
          · intro wq hSw
            (try dsimp only at hSw)
            go_simp
            try with_reducible rfl
          try simp only [Act.put, List.setIfInBounds_toArray, List.set_cons_zero, List.set_cons_succ]
          refine wpAnyH_take (i := 8) (oi := { dst := some 66, op := Op.load 3 (Operand.tmp 65), type := 3, pos := "l7_mail.go:189", after := #[{ on := 7, ground := Ground.data }], guard := none }) (v := ?_) rfl (by kernel_rfl) (by kernel_rfl) (by kernel_rfl) (fun _ _ _ h => h) (Or.inl ⟨by rfl, ?_⟩) (by assumption) ?_
          rotate_left
          · intro wq hSw
            (try dsimp only at hSw)
            go_simp
            try with_reducible rfl
          try simp only [Act.put, List.setIfInBounds_toArray, List.set_cons_zero, List.set_cons_succ]
          refine wpAnyH_take (i := 9) (oi := { dst := some 67, op := Op.move (Operand.tmp 6), type := 80, pos := "l7_mail.go:189", after := #[], guard := none }) (v := ?_) rfl (by kernel_rfl) (by kernel_rfl) (by kernel_rfl) (fun _ _ _ h => h) (Or.inl ⟨by rfl, ?_⟩) (by assumption) ?_
          rotate_left
          · intro wq hSw
            (try dsimp only at hSw)
            go_simp
            try with_reducible rfl
          try simp only [Act.put, List.setIfInBounds_toArray, List.set_cons_zero, List.set_cons_succ]
          refine wpAnyH_take (i := 10) (oi := { dst := some 68, op := Op.indexAddr 80 (Operand.tmp 67) (Operand.const (Value.int IntKind.i64 3)), type := 0, pos := "l7_mail.go:189", after := #[{ on := 9, ground := Ground.data }], guard := none }) (v := ?_) rfl (by kernel_rfl) (by kernel_rfl) (by kernel_rfl) (fun _ _ _ h => h) (Or.inl ⟨by rfl, ?_⟩) (by assumption) ?_
          rotate_left
          · intro wq hSw
            (try dsimp only at hSw)
            go_simp
            try with_reducible rfl
          try simp only [Act.put, List.setIfInBounds_toArray, List.set_cons_zero, List.set_cons_succ]
          refine wpAnyH_take (i := 11) (oi := { dst := some 69, op := Op.load 9 (Operand.tmp 68), type := 9, pos := "l7_mail.go:189", after := #[{ on := 10, ground := Ground.data }], guard := none }) (v := ?_) rfl (by kernel_rfl) (by kernel_rfl) (by kernel_rfl) (fun _ _ _ h => h) (Or.inl ⟨by rfl, ?_⟩) (by assumption) ?_
          rotate_left
          · intro wq hSw
            (try dsimp only at hSw)
            go_simp
            try with_reducible rfl
          try simp only [Act.put, List.setIfInBounds_toArray, List.set_cons_zero, List.set_cons_succ]
          refine wpAnyH_take (i := 12) (oi := { dst := some 70, op := Op.build 35 #[(0, Operand.tmp 69)], type := 35, pos := "l7_mail.go:189", after := #[{ on := 11, ground := Ground.data }], guard := none }) (v := ?_) rfl (by kernel_rfl) (by kernel_rfl) (by kernel_rfl) (fun _ _ _ h => h) (Or.inl ⟨by rfl, ?_⟩) (by assumption) ?_
          rotate_left
          · intro wq hSw
            (try dsimp only at hSw)
            go_simp
            try with_reducible rfl
          try simp only [Act.put, List.setIfInBounds_toArray, List.set_cons_zero, List.set_cons_succ]
          refine wpAnyH_take (i := 13) (oi := { dst := some 71, op := Op.move (Operand.tmp 9), type := 134, pos := "l7_mail.go:189", after := #[], guard := none }) (v := ?_) rfl (by kernel_rfl) (by kernel_rfl) (by kernel_rfl) (fun _ _ _ h => h) (Or.inl ⟨by rfl, ?_⟩) (by assumption) ?_
          rotate_left
          · intro wq hSw
            (try dsimp only at hSw)
            go_simp
            try with_reducible rfl
          try simp only [Act.put, List.setIfInBounds_toArray, List.set_cons_zero, List.set_cons_succ]
          refine wpAnyH_take (i := 14) (oi := { dst := some 72, op := Op.indexAddr 134 (Operand.tmp 71) (Operand.const (Value.int IntKind.i64 0)), type := 0, pos := "l7_mail.go:189", after := #[{ on := 13, ground := Ground.data }], guard := none }) (v := ?_) rfl (by kernel_rfl) (by kernel_rfl) (by kernel_rfl) (fun _ _ _ h => h) (Or.inl ⟨by rfl, ?_⟩) (by assumption) ?_
          rotate_left
          · intro wq hSw
            (try dsimp only at hSw)
            go_simp
            try with_reducible rfl
          try simp only [Act.put, List.setIfInBounds_toArray, List.set_cons_zero, List.set_cons_succ]
          refine wpAnyH_take (i := 15) (oi := { dst := some 73, op := Op.load 3 (Operand.tmp 72), type := 3, pos := "l7_mail.go:189", after := #[{ on := 14, ground := Ground.data }], guard := none }) (v := ?_) rfl (by kernel_rfl) (by kernel_rfl) (by kernel_rfl) (fun _ _ _ h => h) (Or.inl ⟨by rfl, ?_⟩) (by assumption) ?_
          rotate_left
          · intro wq hSw
            (try dsimp only at hSw)
            go_simp
            try with_reducible rfl
          try simp only [Act.put, List.setIfInBounds_toArray, List.set_cons_zero, List.set_cons_succ]
          refine wpAnyH_take (i := 16) (oi := { dst := some 74, op := Op.load 39 (Operand.tmp 11), type := 39, pos := "l7_mail.go:189", after := #[], guard := none }) (v := ?_) rfl (by kernel_rfl) (by kernel_rfl) (by kernel_rfl) (fun _ _ _ h => h) (Or.inl ⟨by rfl, ?_⟩) (by assumption) ?_
          rotate_left
          · intro wq hSw
            (try dsimp only at hSw)
            go_simp
            try with_reducible rfl
          try simp only [Act.put, List.setIfInBounds_toArray, List.set_cons_zero, List.set_cons_succ]
          refine wpAnyH_take (i := 17) (oi := { dst := some 75, op := Op.build 41 #[(0, Operand.const (Value.int IntKind.i64 2)), (2, Operand.tmp 60), (3, Operand.tmp 63), (4, Operand.tmp 66), (5, Operand.tmp 70), (7, Operand.tmp 73), (8, Operand.tmp 74)], type := 41, pos := "l7_mail.go:189", after := #[{ on := 2, ground := Ground.data }, { on := 5, ground := Ground.data }, { on := 8, ground := Ground.data }, { on := 12, ground := Ground.data }, { on := 15, ground := Ground.data }, { on := 16, ground := Ground.data }], guard := none }) (v := ?_) rfl (by kernel_rfl) (by kernel_rfl) (by kernel_rfl) (fun _ _ _ h => h) (Or.inl ⟨by rfl, ?_⟩) (by assumption) ?_
          rotate_left
          · intro wq hSw
            (try dsimp only at hSw)
            go_simp
            try with_reducible rfl
          try simp only [Act.put, List.setIfInBounds_toArray, List.set_cons_zero, List.set_cons_succ]
          refine wpAnyH_ready (rs := [18]) (by kernel_rfl) (by simp) ?_
          refine AllReadyH.cons (o := { dst := none, op := Op.store 41 (Operand.tmp 4) (Operand.tmp 75), type := 0, pos := "l7_mail.go:189", after := #[{ on := 17, ground := Ground.data }, { on := 0, ground := Ground.phase }, { on := 1, ground := Ground.phase }, { on := 2, ground := Ground.phase }, { on := 3, ground := Ground.phase }, { on := 4, ground := Ground.phase }, { on := 5, ground := Ground.phase }, { on := 6, ground := Ground.phase }, { on := 7, ground := Ground.phase }, { on := 8, ground := Ground.phase }, { on := 9, ground := Ground.phase }, { on := 10, ground := Ground.phase }, { on := 11, ground := Ground.phase }, { on := 12, ground := Ground.phase }, { on := 13, ground := Ground.phase }, { on := 14, ground := Ground.phase }, { on := 15, ground := Ground.phase }, { on := 16, ground := Ground.phase }, { on := 17, ground := Ground.phase }], guard := none }) rfl (fun K hK => ?_) AllReadyH.nil
          refine step_store_blk rfl 41 (.tmp 4) (.tmp 75) rfl w.heap.size 0 rfl ((turnG (rnM 1000 p0) (rnM 1000 p1) (rnM 1000 p2) (ofL p3) (rnM 1000 p4) (rnM 1000 p5) t).c none 0) rfl (blk_some (BlkAt.drewW (hA _)) _ rfl) (OpnAt.drewW (hO _)) (G16.c_one _ _ _) (by kernel_rfl) rfl ?_
          clear hHeld
          refine hK.out _ _ ?_ (fun hHeld => ?_)
          · exact ⟨⟨(cell_fill _ 0 ⟨g1, 0, none⟩ (by show g1 ≠ w.heap.size; omega)).trans (by simpa using HSS.out.1.1), (cell_fill _ 0 ⟨g1, 1, none⟩ (by show g1 ≠ w.heap.size; omega)).trans (by simpa using HSS.out.1.2.1), (cell_fill _ 0 ⟨g1, 2, none⟩ (by show g1 ≠ w.heap.size; omega)).trans (by simpa using HSS.out.1.2.2.1), (cell_fill _ 0 ⟨w.heap.size + 1, 3, none⟩ (by show w.heap.size + 1 ≠ w.heap.size; omega)).trans (by simpa using HSS.out.1.2.2.2.1), (cell_fill _ 0 ⟨g2, 0, none⟩ (by show g2 ≠ w.heap.size; omega)).trans (by simpa using HSS.out.1.2.2.2.2)⟩, (cell_fill _ 0 ⟨w4.heap.size, 0, none⟩ (by show w4.heap.size ≠ w.heap.size; omega)).trans (by simp), (cell_fill _ 0 ⟨w4.heap.size, 1, none⟩ (by show w4.heap.size ≠ w.heap.size; omega)).trans (by simp), (cell_fill _ 0 ⟨w4.heap.size, 2, none⟩ (by show w4.heap.size ≠ w.heap.size; omega)).trans (by simp), (cell_fill _ 0 ⟨w4.heap.size, 3, none⟩ (by show w4.heap.size ≠ w.heap.size; omega)).trans (by simp), (cell_fill _ 0 ⟨w4.heap.size, 4, none⟩ (by show w4.heap.size ≠ w.heap.size; omega)).trans (by simp), (cell_fill _ 0 ⟨w4.heap.size, 5, none⟩ (by show w4.heap.size ≠ w.heap.size; omega)).trans (by simp)⟩
          clear hK K
          try simp only [Act.put, List.setIfInBounds_toArray, List.set_cons_zero, List.set_cons_succ]
          refine wpAnyH_take (i := 19) (oi := { dst := some 5, op := Op.assign (Operand.const (Value.bool true)), type := 4, pos := "l7_mail.go:189", after := #[{ on := 18, ground := Ground.chain }, { on := 0, ground := Ground.phase }, { on := 1, ground := Ground.phase }, { on := 2, ground := Ground.phase }, { on := 3, ground := Ground.phase }, { on := 4, ground := Ground.phase }, { on := 5, ground := Ground.phase }, { on := 6, ground := Ground.phase }, { on := 7, ground := Ground.phase }, { on := 8, ground := Ground.phase }, { on := 9, ground := Ground.phase }, { on := 10, ground := Ground.phase }, { on := 11, ground := Ground.phase }, { on := 12, ground := Ground.phase }, { on := 13, ground := Ground.phase }, { on := 14, ground := Ground.phase }, { on := 15, ground := Ground.phase }, { on := 16, ground := Ground.phase }, { on := 17, ground := Ground.phase }, { on := 18, ground := Ground.phase }], guard := none }) (v := ?_) rfl (by kernel_rfl) (by kernel_rfl) (by kernel_rfl) (fun _ _ _ h => h) (Or.inl ⟨by rfl, ?_⟩) (by assumption) ?_
          rotate_left
          · intro wq hSw
            (try dsimp only at hSw)
            go_simp
            try with_reducible rfl
          try simp only [Act.put, List.setIfInBounds_toArray, List.set_cons_zero, List.set_cons_succ]
          refine wpAnyH_done (by kernel_rfl) ?_ _

          clear hHeld
          go_wp2
          exact fin_yes (turnG (rnM 1000 p0) (rnM 1000 p1) (rnM 1000 p2) (ofL p3) (rnM 1000 p4) (rnM 1000 p5) t) none 0 Tryz.results81 HN.out rfl ⟨⟨by show (ofL p3).size ≤ 1048576; rw [ofL_size]; omega, Nat.zero_le _, Nat.zero_le _⟩, ⟨Nat.zero_le _, fun _ => ⟨Nat.zero_le _, Nat.zero_le _⟩⟩, hle⟩ ⟨.inl rfl, .inl rfl⟩ rfl rfl rfl (BlkAt.drewW (hA _)) ((hBA _).drew)
end Go.Proofs.YtdcgjdgpiogdaaaGreatDoor

import Derived.Test.YtkhlekmicpmpkaaGreatDoorSL
namespace Go.Proofs.YtkhlekmicpmpkaaGreatDoor
open Go.RowKit Go.Maps
set_option maxRecDepth 100000
set_option linter.unusedVariables false
set_option linter.unusedSimpArgs false
theorem row_strs {w : World} {N g tc : Nat} {ts : List ByteArray} (h : w.ownsRow N 9 1 (.slice (some ⟨g, 0, none⟩) ts.length tc) ts.length (ts.map Value.string)) : g < w.heap.size ∧ ts.length ≤ tc ∧ tc ≤ maxLen ∧ ∀ k, k < ts.length → w.cell? ⟨g, k, none⟩ = some (.string (ts.getD k ByteArray.empty)) := by
 have hrow := h
 rcases h.2 with ⟨hv, _⟩ | ⟨g', cap, cur, hv, hg, hh, h1, h2, _⟩
 · cases hv
 · simp only [Value.slice.injEq, Option.some.injEq, Addr.mk.injEq, and_true] at hv
   obtain ⟨rfl, _, rfl⟩ := hv
   refine ⟨(Array.getElem?_eq_some_iff.1 hh).1, h1, h2, fun k hk => ?_⟩
   rw [hrow.cellAt k (by omega)]
   rw [List.getElem?_map, List.getElem?_eq_getElem hk]
   simp only [Option.map_some, List.getD, List.getElem?_eq_getElem hk, Option.getD_some]
theorem bef_less (a b : ByteArray) : Op.bytesLess a.toList b.toList = bef a b := by
 rw [bl_eq]
 simp [bef, ByteArray.toList_eq]
theorem insT_at {W : Int} {t : ByteArray} (ts : List ByteArray) (k : Nat) (hk : k ≤ ts.length) (h1 : ∀ j, j < k → bef (sumS (ts.getD j ByteArray.empty) W) (sumS t W) = true) (h2 : k < ts.length → bef (sumS t W) (sumS (ts.getD k ByteArray.empty) W) = true) : insT W t ts = ts.take k ++ [t] ++ ts.drop k := by
 induction ts generalizing k with
 | nil => obtain rfl : k = 0 := by simpa using hk
          rfl
 | cons y r ih =>
  cases k with
  | zero =>
   have := h2 (by simp)
   have e : bef (sumS t W) (sumS y W) = true := this
   unfold insT
   rw [if_pos e]
   rfl
  | succ k =>
   have e : bef (sumS y W) (sumS t W) = true := h1 0 (by omega)
   have e' : ¬ bef (sumS t W) (sumS y W) = true := fun h => by
    have := bef_tr e h
    rw [bef_irr] at this
    cases this
   unfold insT
   rw [if_neg e']
   have := ih k (by simpa using hk) (fun j hj => h1 (j + 1) (by omega)) (fun hj => h2 (by simpa using hj))
   rw [this]
   rfl
theorem getD_memT {ts : List ByteArray} {p : Nat} (hp : p < ts.length) : ts.getD p ByteArray.empty ∈ ts := by
 have : ts.getD p ByteArray.empty = ts[p] := by simp [List.getD, List.getElem?_eq_getElem hp]
 rw [this]
 exact List.getElem_mem hp
theorem put_there {W : Int} {t : ByteArray} {ts : List ByteArray} {k : Nat} (hA : AscT W ts) (hk : k < ts.length) (he : sumS (ts.getD k ByteArray.empty) W = sumS t W) : putT W t ts = (ts, decide (ts.getD k ByteArray.empty = t)) := by
 unfold putT
 rw [find_sum hA (getD_memT hk) he]
theorem put_new {W : Int} {t : ByteArray} {ts : List ByteArray} {k : Nat} (hA : AscT W ts) (hk : k ≤ ts.length) (h1 : ∀ j, j < k → bef (sumS (ts.getD j ByteArray.empty) W) (sumS t W) = true) (h2 : k < ts.length → bef (sumS (ts.getD k ByteArray.empty) W) (sumS t W) = false ∧ sumS (ts.getD k ByteArray.empty) W ≠ sumS t W) : putT W t ts = (ts.take k ++ [t] ++ ts.drop k, true) := by
 have hg : ∀ i j, i < j → j < ts.length → bef (sumS (ts.getD i ByteArray.empty) W) (sumS (ts.getD j ByteArray.empty) W) = true := fun i j hij hj => by
  have := List.pairwise_iff_getElem.1 hA i j (by simpa using Nat.lt_trans hij hj) (by simpa using hj) hij
  simp only [List.getElem_map, gT] at this
  simpa only [List.getD, List.getElem?_eq_getElem (Nat.lt_trans hij hj), List.getElem?_eq_getElem hj, Option.getD_some] using this
 have hne : ∀ j, j < ts.length → sumS (ts.getD j ByteArray.empty) W ≠ sumS t W := fun j hj e => by
  rcases Nat.lt_trichotomy j k with h | rfl | h
  · have := h1 j h
    rw [e, bef_irr] at this
    cases this
  · exact (h2 hj).2 e
  · have := hg k j h hj
    rw [e, (h2 (by omega)).1] at this
    cases this
 have hf : ts.find? (fun y => decide (sumS y W = sumS t W)) = none := by
  rw [List.find?_eq_none]
  intro y hy
  obtain ⟨j, hj, rfl⟩ := List.getElem_of_mem hy
  have := hne j hj
  simp only [List.getD, List.getElem?_eq_getElem hj, Option.getD_some] at this
  simpa using this
 unfold putT
 rw [hf]
 simp only []
 rw [insT_at ts k hk h1 (fun h => ((bef_tot (h2 h).2).resolve_left (by rw [(h2 h).1]; exact Bool.false_ne_true)))]
theorem beq_list (a b : ByteArray) : (a.toList == b.toList) = decide (a = b) := by
 by_cases h : a = b
 · subst h; simp
 · have : a.toList ≠ b.toList := fun e => h (by
    rw [ByteArray.toList_eq, ByteArray.toList_eq] at e
    cases a; cases b
    simpa using e)
   simp [this, h]
theorem st_overB {u : World} {B N : Nat} {old vs : List Value} {P : World → Prop} (hl : old.length = vs.length) (hB : BlkAt u B old) (hO : OpnAt u B) (hN : N ≤ B) (h : ∀ u', Below N u u' → BlkAt u' B vs → OpnAt u' B → (∀ k, k ≠ B → u'.heap[k]? = u.heap[k]?) → P u') : P (fill u B 0 vs) :=
 h _ (below_fill hN _ _ (Below.refl _ _)) (BlkAt.fill0 hB hl) (OpnAt.fill _ _ hO) (fun k hne => heap_fill k hne _ _)
theorem blk_src {X : World} {q : Nat} {vs : List Value} (h : BlkAt X q vs) : ∀ j v, vs[j]? = some v → X.cell? ((⟨q, 0, none⟩ : Addr).add j) = some v := fun j v hj => by
 rw [adr_add, Nat.zero_add]
 exact h j v hj
set_option maxHeartbeats 8000000 in
theorem r7 {K : Act → World → Prop} {R : Ending → World → Prop} {d0 d3 d4 d5 d6 d8 d9 d10 d11 d12 d13 d14 d15 d16 d17 d18 d19 d20 d21 d22 d23 d24 d25 d26 d27 d28 d29 d30 d31 d32 d33 d34 d35 d36 d37 d38 d39 d40 d41 d42 d43 d44 d45 d46 d47 d48 d49 d50 d51 d52 d53 d54 d55 d56 d57 d58 d59 d60 d61 d62 d63 d64 d65 d66 d67 d68 d69 d70 d71 : Value} {k Zn g tc : Nat} {ts : List ByteArray} {t : ByteArray} {V u : World} (bu : Below (Zn + 2) V u) (y1 : V.cell? ⟨Zn, 1, none⟩ = some (.slice (some ⟨g, 0, none⟩) ts.length tc)) (oz : OpnAt V Zn) (hgl : g < Zn) (hC : ∀ k, k < ts.length → V.cell? ⟨g, k, none⟩ = some (.string (ts.getD k ByteArray.empty))) (hk : k ≤ ts.length) (htc : ts.length ≤ tc) (htm : tc ≤ maxLen) (hl : ts.length ≤ 1000000) (hVz : Zn + 2 ≤ V.heap.size)
 (hKK : ∀ (y56 y57 y58 y59 y60 y61 y62 y63 y64 y65 y66 y67 y68 y69 y70 : Value) (g6 c6 : Nat) (E : World), Below (Zn + 2) V E → E.ownsRow (Zn + 2) 9 1 (.slice (some ⟨g6, 0, none⟩) (k + 1 + (ts.length - k)) c6) (k + 1 + (ts.length - k)) ((ts.take k ++ [t] ++ ts.drop k).map Value.string) → K { tmps := #[d0, .string t, .pointer (some ⟨Zn, 0, none⟩), d3, d4, d5, d6, .int .i64 k, d8, d9, d10, d11, d12, d13, d14, d15, d16, d17, d18, d19, d20, d21, d22, d23, d24, d25, d26, d27, d28, d29, d30, d31, d32, d33, d34, d35, d36, d37, d38, d39, d40, d41, d42, d43, d44, d45, d46, d47, d48, d49, d50, d51, d52, d53, d54, d55, y56, y57, y58, y59, y60, y61, y62, y63, y64, y65, y66, y67, y68, y69, y70, d71], defers := [] } (E.setCell ⟨Zn, 1, none⟩ (.slice (some ⟨g6, 0, none⟩) (k + 1 + (ts.length - k)) c6))) :
 Code.wp Tryz.prog (Code.region 7 #[⟨some 56, .buildSlice 22 0 #[], 22, "l5_store.go:134", #[], none⟩, ⟨some 57, .fieldAddr 37 (.tmp 2) 1, 0, "l5_store.go:134", #[], none⟩, ⟨some 58, .load 22 (.tmp 57), 22, "l5_store.go:134", #[⟨1, .data⟩], none⟩, ⟨some 59, .move (.tmp 7), 3, "l5_store.go:134", #[], none⟩, ⟨some 60, .slice 22 (.tmp 58) none (some (.tmp 59)) none, 22, "l5_store.go:134", #[⟨2, .data⟩, ⟨3, .data⟩], none⟩, ⟨some 61, .call ⟨.builtin .append, #[.tmp 56, .tmp 60], #[22, 22]⟩, 22, "l5_store.go:134", #[⟨0, .data⟩, ⟨4, .data⟩], none⟩, ⟨some 62, .move (.tmp 1), 9, "l5_store.go:134", #[], none⟩, ⟨some 63, .buildSlice 22 1 #[(0, .tmp 62)], 22, "l5_store.go:134", #[⟨6, .data⟩], none⟩, ⟨some 64, .call ⟨.builtin .append, #[.tmp 61, .tmp 63], #[22, 22]⟩, 22, "l5_store.go:134", #[⟨5, .data⟩, ⟨7, .data⟩, ⟨5, .chain⟩], none⟩, ⟨some 65, .fieldAddr 37 (.tmp 2) 1, 0, "l5_store.go:134", #[], none⟩, ⟨some 66, .load 22 (.tmp 65), 22, "l5_store.go:134", #[⟨9, .data⟩], none⟩, ⟨some 67, .move (.tmp 7), 3, "l5_store.go:134", #[], none⟩, ⟨some 68, .slice 22 (.tmp 66) (some (.tmp 67)) none none, 22, "l5_store.go:134", #[⟨10, .data⟩, ⟨11, .data⟩], none⟩, ⟨some 69, .call ⟨.builtin .append, #[.tmp 64, .tmp 68], #[22, 22]⟩, 22, "l5_store.go:134", #[⟨8, .data⟩, ⟨12, .data⟩, ⟨8, .chain⟩], none⟩, ⟨some 70, .fieldAddr 37 (.tmp 2) 1, 0, "l5_store.go:134", #[⟨0, .phase⟩, ⟨1, .phase⟩, ⟨2, .phase⟩, ⟨3, .phase⟩, ⟨4, .phase⟩, ⟨5, .phase⟩, ⟨6, .phase⟩, ⟨7, .phase⟩, ⟨8, .phase⟩, ⟨9, .phase⟩, ⟨10, .phase⟩, ⟨11, .phase⟩, ⟨12, .phase⟩, ⟨13, .phase⟩], none⟩, ⟨none, .store 22 (.tmp 70) (.tmp 69), 0, "l5_store.go:134", #[⟨14, .data⟩, ⟨13, .data⟩, ⟨13, .chain⟩, ⟨0, .phase⟩, ⟨1, .phase⟩, ⟨2, .phase⟩, ⟨3, .phase⟩, ⟨4, .phase⟩, ⟨5, .phase⟩, ⟨6, .phase⟩, ⟨7, .phase⟩, ⟨8, .phase⟩, ⟨9, .phase⟩, ⟨10, .phase⟩, ⟨11, .phase⟩, ⟨12, .phase⟩, ⟨13, .phase⟩], none⟩] true) (Exit.then K (bodyPost Tryz.prog Tryz.f25 R)) { tmps := #[d0, .string t, .pointer (some ⟨Zn, 0, none⟩), d3, d4, d5, d6, .int .i64 k, d8, d9, d10, d11, d12, d13, d14, d15, d16, d17, d18, d19, d20, d21, d22, d23, d24, d25, d26, d27, d28, d29, d30, d31, d32, d33, d34, d35, d36, d37, d38, d39, d40, d41, d42, d43, d44, d45, d46, d47, d48, d49, d50, d51, d52, d53, d54, d55, d56, d57, d58, d59, d60, d61, d62, d63, d64, d65, d66, d67, d68, d69, d70, d71], defers := [] } u := by
 obtain ⟨i0, hi, hz0, hz1, hz2⟩ := info_parts' info9
 have l2u : Zn + 2 ≤ u.heap.size := Nat.le_trans hVz bu.size
 have HL1 : Hid (((ts.take k).map Value.string).length = k * 1) := hidI (by simp; omega)
 have HL3 : Hid (((ts.drop k).map Value.string).length = (ts.length - k) * 1) := hidI (by simp)
 have HO1 : Hid (∀ u ∈ (ts.take k).map Value.string, u.oneCell' = true) := hidI (fun q hq => by obtain ⟨t, _, rfl⟩ := List.mem_map.1 hq; rfl)
 have HO3 : Hid (∀ u ∈ (ts.drop k).map Value.string, u.oneCell' = true) := hidI (fun q hq => by obtain ⟨t, _, rfl⟩ := List.mem_map.1 hq; rfl)
 have HM1 : Hid (0 + k ≤ maxLen) := by show _ ≤ _; unfold maxLen; omega
 have HM2 : Hid ((0 + k) * 16 ≤ 140737488355328) := by show _ ≤ _; omega
 have HM3 : Hid (k + 1 ≤ maxLen) := by show _ ≤ _; unfold maxLen; omega
 have HM4 : Hid ((k + 1) * 16 ≤ 140737488355328) := by show _ ≤ _; omega
 have HM5 : Hid (k + 1 + (ts.length - k) ≤ maxLen) := by show _ ≤ _; unfold maxLen; omega
 have HM6 : Hid ((k + 1 + (ts.length - k)) * 16 ≤ 140737488355328) := by show _ ≤ _; omega
 have HS1 : Hid (∀ u, Below (Zn + 2) V u → ∀ j v, ((ts.take k).map Value.string)[j]? = some v → u.cell? ((⟨g, 0, none⟩ : Addr).add j) = some v) := hidI (fun u hu j v hj => by
  rw [adr_add, Nat.zero_add, hu.cell (p := ⟨g, j, none⟩) (show g < Zn + 2 by omega)]
  have hjl : j < k := by have := (List.getElem?_eq_some_iff.1 hj).1; simp at this; omega
  rw [hC j (by omega)]
  rw [List.getElem?_map, List.getElem?_take_of_lt hjl, List.getElem?_eq_getElem (show j < ts.length by omega)] at hj
  simp only [Option.map_some] at hj
  rw [← hj]
  simp only [List.getD, List.getElem?_eq_getElem (show j < ts.length by omega), Option.getD_some])
 obtain ⟨off, hoff, hslc⟩ : ∃ off, (off = k ∨ ts.length ≤ k) ∧ ∀ u : World, (Instr.slice 22 (.slice (some ⟨g, 0, none⟩) ts.length tc) (some (.int .i64 k)) none none).run Tryz.prog u = .ok (.slice (some ⟨g, off, none⟩) (ts.length - k) (tc - k)) u := by
  refine ⟨if tc = k then 0 else k, ?_, fun u => ?_⟩
  · by_cases h : tc = k
    · exact .inr (by omega)
    · exact .inl (by rw [if_neg h])
  · by_cases h : tc = k
    · simp [go_sem, Instr.slice, Instr.sliceBounds, Instr.sliceBound, asIntOf, hi, hz1, h, hk, Tryz.underlying22]
    · simp [go_sem, Instr.slice, Instr.sliceBounds, Instr.sliceBound, asIntOf, hi, hz1, h, hk, Tryz.underlying22]
 have HS3 : Hid (∀ u, Below (Zn + 2) V u → ∀ j v, ((ts.drop k).map Value.string)[j]? = some v → u.cell? ((⟨g, off, none⟩ : Addr).add j) = some v) := hidI (fun u hu j v hj => by
  have hjl : k + j < ts.length := by have := (List.getElem?_eq_some_iff.1 hj).1; simp at this; omega
  obtain rfl : off = k := hoff.resolve_right (by omega)
  rw [adr_add, hu.cell (p := ⟨g, off + j, none⟩) (show g < Zn + 2 by omega)]
  rw [hC (off + j) hjl]
  rw [List.getElem?_map, List.getElem?_drop, List.getElem?_eq_getElem hjl] at hj
  simp only [Option.map_some] at hj
  rw [← hj]
  simp only [List.getD, List.getElem?_eq_getElem hjl, Option.getD_some])
 clear hoff
 have z1 := (bu.cell (p := ⟨Zn, 1, none⟩) (show Zn < Zn + 2 by omega)).trans y1
 have hkc : k ≤ tc := by omega
 clear hC
 refine wp_region_L 15 (S := (fun u => u.cell? ⟨Zn, 1, none⟩ = some (.slice (some ⟨g, 0, none⟩) ts.length tc))) (by kernel_rfl) ?_ (fun hHeld => ?_)
 · exact z1
 refine wpL_take (by kernel_rfl) (i := 1) (oi := ⟨some 57, .fieldAddr 37 (.tmp 2) 1, 0, "l5_store.go:134", #[], none⟩) (v := ?_) rfl (by kernel_rfl) (by kernel_rfl) (by kernel_rfl) (fun _ _ _ h => h) (Or.inl ⟨by rfl, ?_⟩) (by assumption) ?_
 rotate_left
 · intro wq hSw
   (try dsimp only at hSw)
   go_simp
   try with_reducible rfl
 try simp only [Act.put, qA, qB, qC]
 refine wpL_take (by kernel_rfl) (i := 2) (oi := ⟨some 58, .load 22 (.tmp 57), 22, "l5_store.go:134", #[⟨1, .data⟩], none⟩) (v := ?_) rfl (by kernel_rfl) (by kernel_rfl) (by kernel_rfl) (fun _ _ _ h => h) (Or.inl ⟨by rfl, ?_⟩) (by assumption) ?_
 rotate_left
 · intro wq hSw
   (try dsimp only at hSw)
   go_simp
   try with_reducible rfl
 try simp only [Act.put, qA, qB, qC]
 refine wpL_take (by kernel_rfl) (i := 3) (oi := ⟨some 59, .move (.tmp 7), 3, "l5_store.go:134", #[], none⟩) (v := ?_) rfl (by kernel_rfl) (by kernel_rfl) (by kernel_rfl) (fun _ _ _ h => h) (Or.inl ⟨by rfl, ?_⟩) (by assumption) ?_
 rotate_left
 · intro wq hSw
   (try dsimp only at hSw)
   go_simp
   try with_reducible rfl
 try simp only [Act.put, qA, qB, qC]
 refine wpL_take (by kernel_rfl) (i := 4) (oi := ⟨some 60, .slice 22 (.tmp 58) none (some (.tmp 59)) none, 22, "l5_store.go:134", #[⟨2, .data⟩, ⟨3, .data⟩], none⟩) (v := ?_) rfl (by kernel_rfl) (by kernel_rfl) (by kernel_rfl) (fun _ _ _ h => h) (Or.inl ⟨by rfl, ?_⟩) (by assumption) ?_
 rotate_left
 · intro wq hSw
   (try dsimp only at hSw)
   go_simp
   try with_reducible rfl
 try simp only [Act.put, qA, qB, qC]
 refine wpL_take (by kernel_rfl) (i := 6) (oi := ⟨some 62, .move (.tmp 1), 9, "l5_store.go:134", #[], none⟩) (v := ?_) rfl (by kernel_rfl) (by kernel_rfl) (by kernel_rfl) (fun _ _ _ h => h) (Or.inl ⟨by rfl, ?_⟩) (by assumption) ?_
 rotate_left
 · intro wq hSw
   (try dsimp only at hSw)
   go_simp
   try with_reducible rfl
 try simp only [Act.put, qA, qB, qC]
 refine wpL_take (by kernel_rfl) (i := 9) (oi := ⟨some 65, .fieldAddr 37 (.tmp 2) 1, 0, "l5_store.go:134", #[], none⟩) (v := ?_) rfl (by kernel_rfl) (by kernel_rfl) (by kernel_rfl) (fun _ _ _ h => h) (Or.inl ⟨by rfl, ?_⟩) (by assumption) ?_
 rotate_left
 · intro wq hSw
   (try dsimp only at hSw)
   go_simp
   try with_reducible rfl
 try simp only [Act.put, qA, qB, qC]
 refine wpL_take (by kernel_rfl) (i := 10) (oi := ⟨some 66, .load 22 (.tmp 65), 22, "l5_store.go:134", #[⟨9, .data⟩], none⟩) (v := ?_) rfl (by kernel_rfl) (by kernel_rfl) (by kernel_rfl) (fun _ _ _ h => h) (Or.inl ⟨by rfl, ?_⟩) (by assumption) ?_
 rotate_left
 · intro wq hSw
   (try dsimp only at hSw)
   go_simp
   try with_reducible rfl
 try simp only [Act.put, qA, qB, qC]
 refine wpL_take (by kernel_rfl) (i := 11) (oi := ⟨some 67, .move (.tmp 7), 3, "l5_store.go:134", #[], none⟩) (v := ?_) rfl (by kernel_rfl) (by kernel_rfl) (by kernel_rfl) (fun _ _ _ h => h) (Or.inl ⟨by rfl, ?_⟩) (by assumption) ?_
 rotate_left
 · intro wq hSw
   (try dsimp only at hSw)
   go_simp
   try with_reducible rfl
 try simp only [Act.put, qA, qB, qC]
 refine wpL_take (by kernel_rfl) (i := 12) (oi := ⟨some 68, .slice 22 (.tmp 66) (some (.tmp 67)) none none, 22, "l5_store.go:134", #[⟨10, .data⟩, ⟨11, .data⟩], none⟩) (v := ?_) rfl (by kernel_rfl) (by kernel_rfl) (by kernel_rfl) (fun _ _ _ h => h) (Or.inl ⟨by rfl, ?_⟩) (by assumption) ?_
 rotate_left
 · intro wq hSw
   (try dsimp only at hSw)
   go_simp
   try with_reducible rfl
 try simp only [Act.put, qA, qB, qC]
 refine wpL_ready (rs := [0, 7]) (by kernel_rfl) (by simp) ?_
 refine AllReadyL.cons (by decide) (o := ⟨some 56, .buildSlice 22 0 #[], 22, "l5_store.go:134", #[], none⟩) rfl (fun K hK => ?_) (AllReadyL.cons (by decide) (o := ⟨some 63, .buildSlice 22 1 #[(0, .tmp 62)], 22, "l5_store.go:134", #[⟨6, .data⟩], none⟩) rfl (fun K hK => ?_) AllReadyL.nil)
 · go_simp
   have bx1 : Below (Zn + 2) V ((u.alloc (.cells #[] 9)).drew) := (bu.alloc (by omega) _).drew
   have sx1 : Hid (((u.alloc (.cells #[] 9)).drew).heap.size = u.heap.size + 1) := hidI (by simp)
   have lx1 : u.heap.size < ((u.alloc (.cells #[] 9)).drew).heap.size := by simp
   have kx1 : Hid (Below u.heap.size u ((u.alloc (.cells #[] 9)).drew)) := hidI (((Below.refl _ _).alloc (Nat.le_refl _) _).drew)
   have RW : Hid (((u.alloc (.cells #[] 9)).drew).ownsRow (Zn + 2) 9 1 (.slice (some ⟨u.heap.size, 0, none⟩) 0 0) 0 []) := hidI (World.ownsRow_made (base := Zn + 2) (e := 9) (size := 1) u #[] 0 (by omega) (Nat.zero_le _) rfl)
   have cx1 := (bx1.cell (p := ⟨Zn, 1, none⟩) (show Zn < Zn + 2 by omega)).trans y1
   clear hHeld
   refine hK.out _ _ cx1 (fun hHeld => ?_)
   clear hK K
   try simp only [Act.put, qA, qB, qC]
   generalize ((u.alloc (.cells #[] 9)).drew) = x1 at *
   have l2x1 : Zn + 2 ≤ x1.heap.size := Nat.le_trans hVz bx1.size
   refine wpL_ready (rs := [5, 7]) (by kernel_rfl) (by simp) ?_
   refine AllReadyL.cons (by decide) (o := ⟨some 61, .call ⟨.builtin .append, #[.tmp 56, .tmp 60], #[22, 22]⟩, 22, "l5_store.go:134", #[⟨0, .data⟩, ⟨4, .data⟩], none⟩) rfl (fun K hK => ?_) (AllReadyL.cons (by decide) (o := ⟨some 63, .buildSlice 22 1 #[(0, .tmp 62)], 22, "l5_store.go:134", #[⟨6, .data⟩], none⟩) rfl (fun K hK => ?_) AllReadyL.nil)
   · refine step_app_n rfl (.tmp 56) (.tmp 60) 22 rfl (Zn + 2) 9 i0 (.string ⟨#[]⟩) 1 16 Tryz.underlying22 hi hz0 hz1 hz2 rfl (by decide) (.slice (some ⟨u.heap.size, 0, none⟩) 0 0) (0) ([]) rfl RW.out ⟨g, 0, none⟩ (k) (tc) ((ts.take k).map Value.string) rfl HL1.out (HS1.out x1 bx1) HO1.out HM1.out HM2.out l2x1 ?_
     intro v4 x2 ho4 hg4 hn4
     have hm4 := hn4 (by simp)
     rw [Nat.zero_add, List.nil_append] at ho4
     obtain ⟨g4, c4, hv4⟩ := row_some ho4 hm4
     subst hv4
     have bx2 : Below (Zn + 2) V x2 := bx1.trans (gb_below hg4 (fun j e => own_blk RW.out e) l2x1)
     have l2x2 : Zn + 2 ≤ x2.heap.size := Nat.le_trans hVz bx2.size
     have lx2 : x1.heap.size ≤ x2.heap.size := hg4.size
     have R4 := hidI ho4
     have cx2 := (bx2.cell (p := ⟨Zn, 1, none⟩) (show Zn < Zn + 2 by omega)).trans y1
     clear hHeld
     refine hK.out _ _ cx2 (fun hHeld => ?_)
     clear hK K
     try simp only [Act.put, qA, qB, qC]
     refine wpL_ready (rs := [7]) (by kernel_rfl) (by simp) ?_
     refine AllReadyL.cons (by decide) (o := ⟨some 63, .buildSlice 22 1 #[(0, .tmp 62)], 22, "l5_store.go:134", #[⟨6, .data⟩], none⟩) rfl (fun K hK => ?_) AllReadyL.nil
     go_simp
     have bx3 : Below (Zn + 2) V (x2.alloc (.cells #[.string t] 9)) := (bx2.alloc (by omega) _)
     have sx3 : Hid ((x2.alloc (.cells #[.string t] 9)).heap.size = x2.heap.size + 1) := hidI (by simp)
     have lx3 : x2.heap.size < (x2.alloc (.cells #[.string t] 9)).heap.size := by simp
     have kx3 : Hid (Below x2.heap.size x2 (x2.alloc (.cells #[.string t] 9))) := hidI ((Below.refl _ _).alloc (Nat.le_refl _) _)
     have BQ : Hid (BlkAt (x2.alloc (.cells #[.string t] 9)) x2.heap.size [.string t]) := hidI (blk_new x2 [.string t] 9)
     have cx3 := (bx3.cell (p := ⟨Zn, 1, none⟩) (show Zn < Zn + 2 by omega)).trans y1
     clear hHeld
     refine hK.out _ _ cx3 (fun hHeld => ?_)
     clear hK K
     try simp only [Act.put, qA, qB, qC]
     have R4b := hidI (own_below R4.out kx3.out)
     generalize (x2.alloc (.cells #[.string t] 9)) = x3 at *
     have l2x3 : Zn + 2 ≤ x3.heap.size := Nat.le_trans hVz bx3.size
     refine wpL_ready (rs := [8]) (by kernel_rfl) (by simp) ?_
     refine AllReadyL.cons (by decide) (o := ⟨some 64, .call ⟨.builtin .append, #[.tmp 61, .tmp 63], #[22, 22]⟩, 22, "l5_store.go:134", #[⟨5, .data⟩, ⟨7, .data⟩, ⟨5, .chain⟩], none⟩) rfl (fun K hK => ?_) AllReadyL.nil
     refine step_app_n rfl (.tmp 61) (.tmp 63) 22 rfl (Zn + 2) 9 i0 (.string ⟨#[]⟩) 1 16 Tryz.underlying22 hi hz0 hz1 hz2 rfl (by decide) (.slice (some ⟨g4, 0, none⟩) k c4) (k) ((ts.take k).map Value.string) rfl R4b.out ⟨x2.heap.size, 0, none⟩ (1) (1) ([.string t]) rfl rfl (blk_src BQ.out) (by simp [Value.oneCell']) HM3.out HM4.out l2x3 ?_
     intro v5 x4 ho5 hg5 hn5
     have hm5 := hn5 (by simp)
     obtain ⟨g5, c5, hv5⟩ := row_some ho5 hm5
     subst hv5
     have bx4 : Below (Zn + 2) V x4 := bx3.trans (gb_below hg5 (fun j e => own_blk R4b.out e) l2x3)
     have l2x4 : Zn + 2 ≤ x4.heap.size := Nat.le_trans hVz bx4.size
     have lx4 : x3.heap.size ≤ x4.heap.size := hg5.size
     have R5 := hidI ho5
     have cx4 := (bx4.cell (p := ⟨Zn, 1, none⟩) (show Zn < Zn + 2 by omega)).trans y1
     clear hHeld
     refine hK.out _ _ cx4 (fun hHeld => ?_)
     clear hK K
     try simp only [Act.put, qA, qB, qC]
     refine wpL_ready (rs := [13]) (by kernel_rfl) (by simp) ?_
     refine AllReadyL.cons (by decide) (o := ⟨some 69, .call ⟨.builtin .append, #[.tmp 64, .tmp 68], #[22, 22]⟩, 22, "l5_store.go:134", #[⟨8, .data⟩, ⟨12, .data⟩, ⟨8, .chain⟩], none⟩) rfl (fun K hK => ?_) AllReadyL.nil
     refine step_app_n rfl (.tmp 64) (.tmp 68) 22 rfl (Zn + 2) 9 i0 (.string ⟨#[]⟩) 1 16 Tryz.underlying22 hi hz0 hz1 hz2 rfl (by decide) (.slice (some ⟨g5, 0, none⟩) (k + 1) c5) (k + 1) ((ts.take k).map Value.string ++ [.string t]) rfl R5.out ⟨g, off, none⟩ (ts.length - k) (tc - k) ((ts.drop k).map Value.string) rfl HL3.out (HS3.out x4 bx4) HO3.out HM5.out HM6.out l2x4 ?_
     intro v6 x5 ho6 hg6 hn6
     have hm6 := hn6 (by simp)
     obtain ⟨g6, c6, hv6⟩ := row_some ho6 hm6
     subst hv6
     have bx5 : Below (Zn + 2) V x5 := bx4.trans (gb_below hg6 (fun j e => own_blk R5.out e) l2x4)
     have l2x5 : Zn + 2 ≤ x5.heap.size := Nat.le_trans hVz bx5.size
     have lx5 : x4.heap.size ≤ x5.heap.size := hg6.size
     have R6 := hidI ho6
     have cx5 := (bx5.cell (p := ⟨Zn, 1, none⟩) (show Zn < Zn + 2 by omega)).trans y1
     clear hHeld
     refine hK.out _ _ cx5 (fun hHeld => ?_)
     clear hK K
     try simp only [Act.put, qA, qB, qC]
     refine wpL_take (by kernel_rfl) (i := 14) (oi := ⟨some 70, .fieldAddr 37 (.tmp 2) 1, 0, "l5_store.go:134", #[⟨0, .phase⟩, ⟨1, .phase⟩, ⟨2, .phase⟩, ⟨3, .phase⟩, ⟨4, .phase⟩, ⟨5, .phase⟩, ⟨6, .phase⟩, ⟨7, .phase⟩, ⟨8, .phase⟩, ⟨9, .phase⟩, ⟨10, .phase⟩, ⟨11, .phase⟩, ⟨12, .phase⟩, ⟨13, .phase⟩], none⟩) (v := ?_) rfl (by kernel_rfl) (by kernel_rfl) (by kernel_rfl) (fun _ _ _ h => h) (Or.inl ⟨by rfl, ?_⟩) (by assumption) ?_
     rotate_left
     · intro wq hSw
       (try dsimp only at hSw)
       go_simp
       try with_reducible rfl
     try simp only [Act.put, qA, qB, qC]
     refine wpL_ready (rs := [15]) (by kernel_rfl) (by simp) ?_
     refine AllReadyL.last (o := ⟨none, .store 22 (.tmp 70) (.tmp 69), 0, "l5_store.go:134", #[⟨14, .data⟩, ⟨13, .data⟩, ⟨13, .chain⟩, ⟨0, .phase⟩, ⟨1, .phase⟩, ⟨2, .phase⟩, ⟨3, .phase⟩, ⟨4, .phase⟩, ⟨5, .phase⟩, ⟨6, .phase⟩, ⟨7, .phase⟩, ⟨8, .phase⟩, ⟨9, .phase⟩, ⟨10, .phase⟩, ⟨11, .phase⟩, ⟨12, .phase⟩, ⟨13, .phase⟩], none⟩) rfl (fun K hK => ?_)
     have f1 := (oz.below bx5 (by omega)) 1
     have RF : x5.ownsRow (Zn + 2) 9 1 (.slice (some ⟨g6, 0, none⟩) (k + 1 + (ts.length - k)) c6) (k + 1 + (ts.length - k)) ((ts.take k ++ [t] ++ ts.drop k).map Value.string) := by
      have h := R6.out
      rw [List.map_append, List.map_append]
      exact h
     have q1 := (bx5.cell (p := ⟨Zn, 1, none⟩) (show Zn < Zn + 2 by omega)).trans y1
     go_simp
     clear hHeld
     refine hK.out _ _ ?_
     clear hK K
     try simp only [Act.put, qA, qB, qC]
     refine wpL_done (by kernel_rfl) ?_ _
     exact hKK _ _ _ _ _ _ _ _ _ _ _ _ _ _ _ _ _ _ bx5 RF
   · go_simp
     have bx2 : Below (Zn + 2) V (x1.alloc (.cells #[.string t] 9)) := (bx1.alloc (by omega) _)
     have sx2 : Hid ((x1.alloc (.cells #[.string t] 9)).heap.size = x1.heap.size + 1) := hidI (by simp)
     have lx2 : x1.heap.size < (x1.alloc (.cells #[.string t] 9)).heap.size := by simp
     have kx2 : Hid (Below x1.heap.size x1 (x1.alloc (.cells #[.string t] 9))) := hidI ((Below.refl _ _).alloc (Nat.le_refl _) _)
     have BQ : Hid (BlkAt (x1.alloc (.cells #[.string t] 9)) x1.heap.size [.string t]) := hidI (blk_new x1 [.string t] 9)
     have cx2 := (bx2.cell (p := ⟨Zn, 1, none⟩) (show Zn < Zn + 2 by omega)).trans y1
     clear hHeld
     refine hK.out _ _ cx2 (fun hHeld => ?_)
     clear hK K
     try simp only [Act.put, qA, qB, qC]
     have RW2 := hidI (own_below RW.out kx2.out)
     generalize (x1.alloc (.cells #[.string t] 9)) = x2 at *
     have l2x2 : Zn + 2 ≤ x2.heap.size := Nat.le_trans hVz bx2.size
     clear RW
     have RW := RW2
     refine wpL_ready (rs := [5]) (by kernel_rfl) (by simp) ?_
     refine AllReadyL.cons (by decide) (o := ⟨some 61, .call ⟨.builtin .append, #[.tmp 56, .tmp 60], #[22, 22]⟩, 22, "l5_store.go:134", #[⟨0, .data⟩, ⟨4, .data⟩], none⟩) rfl (fun K hK => ?_) AllReadyL.nil
     refine step_app_n rfl (.tmp 56) (.tmp 60) 22 rfl (Zn + 2) 9 i0 (.string ⟨#[]⟩) 1 16 Tryz.underlying22 hi hz0 hz1 hz2 rfl (by decide) (.slice (some ⟨u.heap.size, 0, none⟩) 0 0) (0) ([]) rfl RW.out ⟨g, 0, none⟩ (k) (tc) ((ts.take k).map Value.string) rfl HL1.out (HS1.out x2 bx2) HO1.out HM1.out HM2.out l2x2 ?_
     intro v4 x3 ho4 hg4 hn4
     have hm4 := hn4 (by simp)
     rw [Nat.zero_add, List.nil_append] at ho4
     obtain ⟨g4, c4, hv4⟩ := row_some ho4 hm4
     subst hv4
     have bx3 : Below (Zn + 2) V x3 := bx2.trans (gb_below hg4 (fun j e => own_blk RW.out e) l2x2)
     have l2x3 : Zn + 2 ≤ x3.heap.size := Nat.le_trans hVz bx3.size
     have lx3 : x2.heap.size ≤ x3.heap.size := hg4.size
     have R4 := hidI ho4
     have cx3 := (bx3.cell (p := ⟨Zn, 1, none⟩) (show Zn < Zn + 2 by omega)).trans y1
     have BQ2 := hidI (blk_kept BQ.out hg4 (by omega) (fun e => by have e2 : x1.heap.size = u.heap.size := Option.some.inj e; omega))
     clear BQ
     have BQ := BQ2
     clear hHeld
     refine hK.out _ _ cx3 (fun hHeld => ?_)
     clear hK K
     try simp only [Act.put, qA, qB, qC]
     refine wpL_ready (rs := [8]) (by kernel_rfl) (by simp) ?_
     refine AllReadyL.cons (by decide) (o := ⟨some 64, .call ⟨.builtin .append, #[.tmp 61, .tmp 63], #[22, 22]⟩, 22, "l5_store.go:134", #[⟨5, .data⟩, ⟨7, .data⟩, ⟨5, .chain⟩], none⟩) rfl (fun K hK => ?_) AllReadyL.nil
     refine step_app_n rfl (.tmp 61) (.tmp 63) 22 rfl (Zn + 2) 9 i0 (.string ⟨#[]⟩) 1 16 Tryz.underlying22 hi hz0 hz1 hz2 rfl (by decide) (.slice (some ⟨g4, 0, none⟩) k c4) (k) ((ts.take k).map Value.string) rfl R4.out ⟨x1.heap.size, 0, none⟩ (1) (1) ([.string t]) rfl rfl (blk_src BQ.out) (by simp [Value.oneCell']) HM3.out HM4.out l2x3 ?_
     intro v5 x4 ho5 hg5 hn5
     have hm5 := hn5 (by simp)
     obtain ⟨g5, c5, hv5⟩ := row_some ho5 hm5
     subst hv5
     have bx4 : Below (Zn + 2) V x4 := bx3.trans (gb_below hg5 (fun j e => own_blk R4.out e) l2x3)
     have l2x4 : Zn + 2 ≤ x4.heap.size := Nat.le_trans hVz bx4.size
     have lx4 : x3.heap.size ≤ x4.heap.size := hg5.size
     have R5 := hidI ho5
     have cx4 := (bx4.cell (p := ⟨Zn, 1, none⟩) (show Zn < Zn + 2 by omega)).trans y1
     clear hHeld
     refine hK.out _ _ cx4 (fun hHeld => ?_)
     clear hK K
     try simp only [Act.put, qA, qB, qC]
     refine wpL_ready (rs := [13]) (by kernel_rfl) (by simp) ?_
     refine AllReadyL.cons (by decide) (o := ⟨some 69, .call ⟨.builtin .append, #[.tmp 64, .tmp 68], #[22, 22]⟩, 22, "l5_store.go:134", #[⟨8, .data⟩, ⟨12, .data⟩, ⟨8, .chain⟩], none⟩) rfl (fun K hK => ?_) AllReadyL.nil
     refine step_app_n rfl (.tmp 64) (.tmp 68) 22 rfl (Zn + 2) 9 i0 (.string ⟨#[]⟩) 1 16 Tryz.underlying22 hi hz0 hz1 hz2 rfl (by decide) (.slice (some ⟨g5, 0, none⟩) (k + 1) c5) (k + 1) ((ts.take k).map Value.string ++ [.string t]) rfl R5.out ⟨g, off, none⟩ (ts.length - k) (tc - k) ((ts.drop k).map Value.string) rfl HL3.out (HS3.out x4 bx4) HO3.out HM5.out HM6.out l2x4 ?_
     intro v6 x5 ho6 hg6 hn6
     have hm6 := hn6 (by simp)
     obtain ⟨g6, c6, hv6⟩ := row_some ho6 hm6
     subst hv6
     have bx5 : Below (Zn + 2) V x5 := bx4.trans (gb_below hg6 (fun j e => own_blk R5.out e) l2x4)
     have l2x5 : Zn + 2 ≤ x5.heap.size := Nat.le_trans hVz bx5.size
     have lx5 : x4.heap.size ≤ x5.heap.size := hg6.size
     have R6 := hidI ho6
     have cx5 := (bx5.cell (p := ⟨Zn, 1, none⟩) (show Zn < Zn + 2 by omega)).trans y1
     clear hHeld
     refine hK.out _ _ cx5 (fun hHeld => ?_)
     clear hK K
     try simp only [Act.put, qA, qB, qC]
     refine wpL_take (by kernel_rfl) (i := 14) (oi := ⟨some 70, .fieldAddr 37 (.tmp 2) 1, 0, "l5_store.go:134", #[⟨0, .phase⟩, ⟨1, .phase⟩, ⟨2, .phase⟩, ⟨3, .phase⟩, ⟨4, .phase⟩, ⟨5, .phase⟩, ⟨6, .phase⟩, ⟨7, .phase⟩, ⟨8, .phase⟩, ⟨9, .phase⟩, ⟨10, .phase⟩, ⟨11, .phase⟩, ⟨12, .phase⟩, ⟨13, .phase⟩], none⟩) (v := ?_) rfl (by kernel_rfl) (by kernel_rfl) (by kernel_rfl) (fun _ _ _ h => h) (Or.inl ⟨by rfl, ?_⟩) (by assumption) ?_
     rotate_left
     · intro wq hSw
       (try dsimp only at hSw)
       go_simp
       try with_reducible rfl
     try simp only [Act.put, qA, qB, qC]
     refine wpL_ready (rs := [15]) (by kernel_rfl) (by simp) ?_
     refine AllReadyL.last (o := ⟨none, .store 22 (.tmp 70) (.tmp 69), 0, "l5_store.go:134", #[⟨14, .data⟩, ⟨13, .data⟩, ⟨13, .chain⟩, ⟨0, .phase⟩, ⟨1, .phase⟩, ⟨2, .phase⟩, ⟨3, .phase⟩, ⟨4, .phase⟩, ⟨5, .phase⟩, ⟨6, .phase⟩, ⟨7, .phase⟩, ⟨8, .phase⟩, ⟨9, .phase⟩, ⟨10, .phase⟩, ⟨11, .phase⟩, ⟨12, .phase⟩, ⟨13, .phase⟩], none⟩) rfl (fun K hK => ?_)
     have f1 := (oz.below bx5 (by omega)) 1
     have RF : x5.ownsRow (Zn + 2) 9 1 (.slice (some ⟨g6, 0, none⟩) (k + 1 + (ts.length - k)) c6) (k + 1 + (ts.length - k)) ((ts.take k ++ [t] ++ ts.drop k).map Value.string) := by
      have h := R6.out
      rw [List.map_append, List.map_append]
      exact h
     have q1 := (bx5.cell (p := ⟨Zn, 1, none⟩) (show Zn < Zn + 2 by omega)).trans y1
     go_simp
     clear hHeld
     refine hK.out _ _ ?_
     clear hK K
     try simp only [Act.put, qA, qB, qC]
     refine wpL_done (by kernel_rfl) ?_ _
     exact hKK _ _ _ _ _ _ _ _ _ _ _ _ _ _ _ _ _ _ bx5 RF
 · go_simp
   have bx1 : Below (Zn + 2) V ((u.alloc (.cells #[.string t] 9)).drew) := (bu.alloc (by omega) _).drew
   have sx1 : Hid (((u.alloc (.cells #[.string t] 9)).drew).heap.size = u.heap.size + 1) := hidI (by simp)
   have lx1 : u.heap.size < ((u.alloc (.cells #[.string t] 9)).drew).heap.size := by simp
   have kx1 : Hid (Below u.heap.size u ((u.alloc (.cells #[.string t] 9)).drew)) := hidI (((Below.refl _ _).alloc (Nat.le_refl _) _).drew)
   have BQ : Hid (BlkAt ((u.alloc (.cells #[.string t] 9)).drew) u.heap.size [.string t]) := hidI (blk_new u [.string t] 9)
   have cx1 := (bx1.cell (p := ⟨Zn, 1, none⟩) (show Zn < Zn + 2 by omega)).trans y1
   clear hHeld
   refine hK.out _ _ cx1 (fun hHeld => ?_)
   clear hK K
   try simp only [Act.put, qA, qB, qC]
   generalize ((u.alloc (.cells #[.string t] 9)).drew) = x1 at *
   have l2x1 : Zn + 2 ≤ x1.heap.size := Nat.le_trans hVz bx1.size
   refine wpL_ready (rs := [0]) (by kernel_rfl) (by simp) ?_
   refine AllReadyL.cons (by decide) (o := ⟨some 56, .buildSlice 22 0 #[], 22, "l5_store.go:134", #[], none⟩) rfl (fun K hK => ?_) AllReadyL.nil
   go_simp
   have bx2 : Below (Zn + 2) V (x1.alloc (.cells #[] 9)) := (bx1.alloc (by omega) _)
   have sx2 : Hid ((x1.alloc (.cells #[] 9)).heap.size = x1.heap.size + 1) := hidI (by simp)
   have lx2 : x1.heap.size < (x1.alloc (.cells #[] 9)).heap.size := by simp
   have kx2 : Hid (Below x1.heap.size x1 (x1.alloc (.cells #[] 9))) := hidI ((Below.refl _ _).alloc (Nat.le_refl _) _)
   have RW : Hid ((x1.alloc (.cells #[] 9)).ownsRow (Zn + 2) 9 1 (.slice (some ⟨x1.heap.size, 0, none⟩) 0 0) 0 []) := hidI (World.ownsRow_made (base := Zn + 2) (e := 9) (size := 1) x1 #[] 0 (by omega) (Nat.zero_le _) rfl)
   have cx2 := (bx2.cell (p := ⟨Zn, 1, none⟩) (show Zn < Zn + 2 by omega)).trans y1
   clear hHeld
   refine hK.out _ _ cx2 (fun hHeld => ?_)
   clear hK K
   try simp only [Act.put, qA, qB, qC]
   have BQ1 := hidI (BQ.out.below kx2.out (by omega))
   generalize (x1.alloc (.cells #[] 9)) = x2 at *
   have l2x2 : Zn + 2 ≤ x2.heap.size := Nat.le_trans hVz bx2.size
   clear BQ
   have BQ := BQ1
   refine wpL_ready (rs := [5]) (by kernel_rfl) (by simp) ?_
   refine AllReadyL.cons (by decide) (o := ⟨some 61, .call ⟨.builtin .append, #[.tmp 56, .tmp 60], #[22, 22]⟩, 22, "l5_store.go:134", #[⟨0, .data⟩, ⟨4, .data⟩], none⟩) rfl (fun K hK => ?_) AllReadyL.nil
   refine step_app_n rfl (.tmp 56) (.tmp 60) 22 rfl (Zn + 2) 9 i0 (.string ⟨#[]⟩) 1 16 Tryz.underlying22 hi hz0 hz1 hz2 rfl (by decide) (.slice (some ⟨x1.heap.size, 0, none⟩) 0 0) (0) ([]) rfl RW.out ⟨g, 0, none⟩ (k) (tc) ((ts.take k).map Value.string) rfl HL1.out (HS1.out x2 bx2) HO1.out HM1.out HM2.out l2x2 ?_
   intro v4 x3 ho4 hg4 hn4
   have hm4 := hn4 (by simp)
   rw [Nat.zero_add, List.nil_append] at ho4
   obtain ⟨g4, c4, hv4⟩ := row_some ho4 hm4
   subst hv4
   have bx3 : Below (Zn + 2) V x3 := bx2.trans (gb_below hg4 (fun j e => own_blk RW.out e) l2x2)
   have l2x3 : Zn + 2 ≤ x3.heap.size := Nat.le_trans hVz bx3.size
   have lx3 : x2.heap.size ≤ x3.heap.size := hg4.size
   have R4 := hidI ho4
   have cx3 := (bx3.cell (p := ⟨Zn, 1, none⟩) (show Zn < Zn + 2 by omega)).trans y1
   have BQ2 := hidI (blk_kept BQ.out hg4 (by omega) (fun e => by have e2 : u.heap.size = x1.heap.size := Option.some.inj e; omega))
   clear BQ
   have BQ := BQ2
   clear hHeld
   refine hK.out _ _ cx3 (fun hHeld => ?_)
   clear hK K
   try simp only [Act.put, qA, qB, qC]
   refine wpL_ready (rs := [8]) (by kernel_rfl) (by simp) ?_
   refine AllReadyL.cons (by decide) (o := ⟨some 64, .call ⟨.builtin .append, #[.tmp 61, .tmp 63], #[22, 22]⟩, 22, "l5_store.go:134", #[⟨5, .data⟩, ⟨7, .data⟩, ⟨5, .chain⟩], none⟩) rfl (fun K hK => ?_) AllReadyL.nil
   refine step_app_n rfl (.tmp 61) (.tmp 63) 22 rfl (Zn + 2) 9 i0 (.string ⟨#[]⟩) 1 16 Tryz.underlying22 hi hz0 hz1 hz2 rfl (by decide) (.slice (some ⟨g4, 0, none⟩) k c4) (k) ((ts.take k).map Value.string) rfl R4.out ⟨u.heap.size, 0, none⟩ (1) (1) ([.string t]) rfl rfl (blk_src BQ.out) (by simp [Value.oneCell']) HM3.out HM4.out l2x3 ?_
   intro v5 x4 ho5 hg5 hn5
   have hm5 := hn5 (by simp)
   obtain ⟨g5, c5, hv5⟩ := row_some ho5 hm5
   subst hv5
   have bx4 : Below (Zn + 2) V x4 := bx3.trans (gb_below hg5 (fun j e => own_blk R4.out e) l2x3)
   have l2x4 : Zn + 2 ≤ x4.heap.size := Nat.le_trans hVz bx4.size
   have lx4 : x3.heap.size ≤ x4.heap.size := hg5.size
   have R5 := hidI ho5
   have cx4 := (bx4.cell (p := ⟨Zn, 1, none⟩) (show Zn < Zn + 2 by omega)).trans y1
   clear hHeld
   refine hK.out _ _ cx4 (fun hHeld => ?_)
   clear hK K
   try simp only [Act.put, qA, qB, qC]
   refine wpL_ready (rs := [13]) (by kernel_rfl) (by simp) ?_
   refine AllReadyL.cons (by decide) (o := ⟨some 69, .call ⟨.builtin .append, #[.tmp 64, .tmp 68], #[22, 22]⟩, 22, "l5_store.go:134", #[⟨8, .data⟩, ⟨12, .data⟩, ⟨8, .chain⟩], none⟩) rfl (fun K hK => ?_) AllReadyL.nil
   refine step_app_n rfl (.tmp 64) (.tmp 68) 22 rfl (Zn + 2) 9 i0 (.string ⟨#[]⟩) 1 16 Tryz.underlying22 hi hz0 hz1 hz2 rfl (by decide) (.slice (some ⟨g5, 0, none⟩) (k + 1) c5) (k + 1) ((ts.take k).map Value.string ++ [.string t]) rfl R5.out ⟨g, off, none⟩ (ts.length - k) (tc - k) ((ts.drop k).map Value.string) rfl HL3.out (HS3.out x4 bx4) HO3.out HM5.out HM6.out l2x4 ?_
   intro v6 x5 ho6 hg6 hn6
   have hm6 := hn6 (by simp)
   obtain ⟨g6, c6, hv6⟩ := row_some ho6 hm6
   subst hv6
   have bx5 : Below (Zn + 2) V x5 := bx4.trans (gb_below hg6 (fun j e => own_blk R5.out e) l2x4)
   have l2x5 : Zn + 2 ≤ x5.heap.size := Nat.le_trans hVz bx5.size
   have lx5 : x4.heap.size ≤ x5.heap.size := hg6.size
   have R6 := hidI ho6
   have cx5 := (bx5.cell (p := ⟨Zn, 1, none⟩) (show Zn < Zn + 2 by omega)).trans y1
   clear hHeld
   refine hK.out _ _ cx5 (fun hHeld => ?_)
   clear hK K
   try simp only [Act.put, qA, qB, qC]
   refine wpL_take (by kernel_rfl) (i := 14) (oi := ⟨some 70, .fieldAddr 37 (.tmp 2) 1, 0, "l5_store.go:134", #[⟨0, .phase⟩, ⟨1, .phase⟩, ⟨2, .phase⟩, ⟨3, .phase⟩, ⟨4, .phase⟩, ⟨5, .phase⟩, ⟨6, .phase⟩, ⟨7, .phase⟩, ⟨8, .phase⟩, ⟨9, .phase⟩, ⟨10, .phase⟩, ⟨11, .phase⟩, ⟨12, .phase⟩, ⟨13, .phase⟩], none⟩) (v := ?_) rfl (by kernel_rfl) (by kernel_rfl) (by kernel_rfl) (fun _ _ _ h => h) (Or.inl ⟨by rfl, ?_⟩) (by assumption) ?_
   rotate_left
   · intro wq hSw
     (try dsimp only at hSw)
     go_simp
     try with_reducible rfl
   try simp only [Act.put, qA, qB, qC]
   refine wpL_ready (rs := [15]) (by kernel_rfl) (by simp) ?_
   refine AllReadyL.last (o := ⟨none, .store 22 (.tmp 70) (.tmp 69), 0, "l5_store.go:134", #[⟨14, .data⟩, ⟨13, .data⟩, ⟨13, .chain⟩, ⟨0, .phase⟩, ⟨1, .phase⟩, ⟨2, .phase⟩, ⟨3, .phase⟩, ⟨4, .phase⟩, ⟨5, .phase⟩, ⟨6, .phase⟩, ⟨7, .phase⟩, ⟨8, .phase⟩, ⟨9, .phase⟩, ⟨10, .phase⟩, ⟨11, .phase⟩, ⟨12, .phase⟩, ⟨13, .phase⟩], none⟩) rfl (fun K hK => ?_)
   have f1 := (oz.below bx5 (by omega)) 1
   have RF : x5.ownsRow (Zn + 2) 9 1 (.slice (some ⟨g6, 0, none⟩) (k + 1 + (ts.length - k)) c6) (k + 1 + (ts.length - k)) ((ts.take k ++ [t] ++ ts.drop k).map Value.string) := by
    have h := R6.out
    rw [List.map_append, List.map_append]
    exact h
   have q1 := (bx5.cell (p := ⟨Zn, 1, none⟩) (show Zn < Zn + 2 by omega)).trans y1
   go_simp
   clear hHeld
   refine hK.out _ _ ?_
   clear hK K
   try simp only [Act.put, qA, qB, qC]
   refine wpL_done (by kernel_rfl) ?_ _
   exact hKK _ _ _ _ _ _ _ _ _ _ _ _ _ _ _ _ _ _ bx5 RF
set_option maxHeartbeats 8000000 in
theorem c25 (W : Int) (ts : List ByteArray) (t : ByteArray) (N g tc rn rc : Nat) (ra : Option Addr) (w : World) (hA : AscT W ts) (hl : ts.length ≤ 1000000) (hs : ∀ i, (ts.getD i ByteArray.empty).size ≤ 1048700) (ht : t.size ≤ 1048700) (ho : w.ownsRow N 9 1 (.slice (some ⟨g, 0, none⟩) ts.length tc) ts.length (ts.map Value.string)) (hN : N ≤ w.heap.size) :
 Calls Tryz.prog 25 #[.agg #[.int .i64 W, .slice (some ⟨g, 0, none⟩) ts.length tc, .slice ra rn rc], .string t] w fun e w' => (∃ g' c', e = .returned (.tuple #[.agg #[.int .i64 W, .slice (some ⟨g', 0, none⟩) (putT W t ts).1.length c', .slice ra rn rc], .bool (putT W t ts).2]) ∧ w'.ownsRow N 9 1 (.slice (some ⟨g', 0, none⟩) (putT W t ts).1.length c') (putT W t ts).1.length ((putT W t ts).1.map Value.string)) ∧ Below w.heap.size w w' := by
 obtain ⟨i0, hi, hz0, hz1, hz2⟩ := info_parts' info9
 obtain ⟨hgl, htc, htm, hcs⟩ := row_strs ho
 have hB0 : Below w.heap.size w ((w.alloc (.cells #[.int .i64 W, .slice (some ⟨g, 0, none⟩) ts.length tc, .slice ra rn rc] 37)).alloc (.cells #[.int .i64 0, .slice none 0 0, .slice none 0 0] 37)) := ((Below.refl _ _).alloc (Nat.le_refl _) _).alloc (by simp) _
 have sV : Hid (((w.alloc (.cells #[.int .i64 W, .slice (some ⟨g, 0, none⟩) ts.length tc, .slice ra rn rc] 37)).alloc (.cells #[.int .i64 0, .slice none 0 0, .slice none 0 0] 37)).heap.size = w.heap.size + 2) := hidI (by simp)
 have BS : Hid (BlkAt ((w.alloc (.cells #[.int .i64 W, .slice (some ⟨g, 0, none⟩) ts.length tc, .slice ra rn rc] 37)).alloc (.cells #[.int .i64 0, .slice none 0 0, .slice none 0 0] 37)) w.heap.size [.int .i64 W, .slice (some ⟨g, 0, none⟩) ts.length tc, .slice ra rn rc]) := hidI ((blk_new w [.int .i64 W, .slice (some ⟨g, 0, none⟩) ts.length tc, .slice ra rn rc] 37).below (N := w.heap.size + 1) ((Below.refl _ _).alloc (by simp) _) (by omega))
 have OS : Hid (OpnAt ((w.alloc (.cells #[.int .i64 W, .slice (some ⟨g, 0, none⟩) ts.length tc, .slice ra rn rc] 37)).alloc (.cells #[.int .i64 0, .slice none 0 0, .slice none 0 0] 37)) w.heap.size) := hidI ((opn_new w #[.int .i64 W, .slice (some ⟨g, 0, none⟩) ts.length tc, .slice ra rn rc] 37).below (N := w.heap.size + 1) ((Below.refl _ _).alloc (by simp) _) (by omega))
 have BZ : Hid (BlkAt ((w.alloc (.cells #[.int .i64 W, .slice (some ⟨g, 0, none⟩) ts.length tc, .slice ra rn rc] 37)).alloc (.cells #[.int .i64 0, .slice none 0 0, .slice none 0 0] 37)) (w.heap.size + 1) [.int .i64 0, .slice none 0 0, .slice none 0 0]) := by have h := blk_new (w.alloc (.cells #[.int .i64 W, .slice (some ⟨g, 0, none⟩) ts.length tc, .slice ra rn rc] 37)) [.int .i64 0, .slice none 0 0, .slice none 0 0] 37; rw [show (w.alloc (.cells #[.int .i64 W, .slice (some ⟨g, 0, none⟩) ts.length tc, .slice ra rn rc] 37)).heap.size = w.heap.size + 1 by simp] at h; exact h
 have OZ : Hid (OpnAt ((w.alloc (.cells #[.int .i64 W, .slice (some ⟨g, 0, none⟩) ts.length tc, .slice ra rn rc] 37)).alloc (.cells #[.int .i64 0, .slice none 0 0, .slice none 0 0] 37)) (w.heap.size + 1)) := by have h := opn_new (w.alloc (.cells #[.int .i64 W, .slice (some ⟨g, 0, none⟩) ts.length tc, .slice ra rn rc] 37)) #[.int .i64 0, .slice none 0 0, .slice none 0 0] 37; rw [show (w.alloc (.cells #[.int .i64 W, .slice (some ⟨g, 0, none⟩) ts.length tc, .slice ra rn rc] 37)).heap.size = w.heap.size + 1 by simp] at h; exact h
 have HC : Hid (∀ k, k < ts.length → ((w.alloc (.cells #[.int .i64 W, .slice (some ⟨g, 0, none⟩) ts.length tc, .slice ra rn rc] 37)).alloc (.cells #[.int .i64 0, .slice none 0 0, .slice none 0 0] 37)).cell? ⟨g, k, none⟩ = some (.string (ts.getD k ByteArray.empty))) := hidI (fun k hk => (hB0.cell (p := ⟨g, k, none⟩) hgl).trans (hcs k hk))
 have HO := hidI ho
 have HS := hidI hs
 have y0 := BS.out 0 _ rfl
 have y1 := BS.out 1 _ rfl
 have y2 := BS.out 2 _ rfl
 clear ho hcs hs
 go_enter Tryz.func25, Tryz.ntmps25
 go_wp2_with (refine (c47 t W _ ht).mono ?_; rintro e w1 ⟨rfl, hb1⟩)
 generalize hV : ((w.alloc (.cells #[.int .i64 W, .slice (some ⟨g, 0, none⟩) ts.length tc, .slice ra rn rc] 37)).alloc (.cells #[.int .i64 0, .slice none 0 0, .slice none 0 0] 37)) = V at *
 clear hV
 rw [sV.out] at hb1
 go_loopw [7] (fun i wr => ∃ k : Nat, k ≤ ts.length ∧ i = .int .i64 k ∧ Hid (∀ j, j < k → bef (sumS (ts.getD j ByteArray.empty) W) (sumS t W) = true) ∧ Below (w.heap.size + 2) V wr) (fun i _ => ts.length - (Go.RowKit.intOf i).toNat)
 case atStart => exact ⟨0, Nat.zero_le _, rfl, fun j hj => absurd hj (Nat.not_lt_zero _), hb1⟩
 case round =>
  obtain ⟨k, hk, rfl, hj, hb⟩ := hrel
  have hwz : w.heap.size + 2 ≤ wr.heap.size := by have := hb.size; rw [sV.out] at this; exact this
  have z0 := (hb.cell (p := ⟨w.heap.size, 0, none⟩) (show w.heap.size < w.heap.size + 2 by omega)).trans y0
  have z1 := (hb.cell (p := ⟨w.heap.size, 1, none⟩) (show w.heap.size < w.heap.size + 2 by omega)).trans y1
  by_cases hlt : k < ts.length
  · have yk := HC.out k hlt
    have zk := (hb.cell (p := ⟨g, k, none⟩) (show g < w.heap.size + 2 by omega)).trans yk
    have hxl := HS.out k
    generalize hx : ts.getD k ByteArray.empty = x at *
    have HX := hidI hx
    clear hx
    go_wp2_with fail
    refine wp_region_held_drew (S := (fun u => u.cell? ⟨w.heap.size, 0, none⟩ = some (.int .i64 W) ∧ u.cell? ⟨w.heap.size, 1, none⟩ = some (.slice (some ⟨g, 0, none⟩) ts.length tc) ∧ u.cell? ⟨g, k, none⟩ = some (.string x))) (by kernel_rfl) ?_ (fun hHeld => ?_)
    · exact ⟨z0, z1, zk⟩
    refine wpAnyH_take (i := 0) (oi := ⟨some 12, .move (.tmp 7), 3, "l5_store.go:128", #[], none⟩) (v := ?_) rfl (by kernel_rfl) (by kernel_rfl) (by kernel_rfl) (fun _ _ _ h => h) (Or.inl ⟨by rfl, ?_⟩) (by assumption) ?_
    rotate_left
    · intro wq hSw
      (try dsimp only at hSw)
      go_simp
      try with_reducible rfl
    try simp only [Act.put, qA, qB, qC]
    refine wpAnyH_take (i := 1) (oi := ⟨some 13, .fieldAddr 37 (.tmp 2) 1, 0, "l5_store.go:128", #[], none⟩) (v := ?_) rfl (by kernel_rfl) (by kernel_rfl) (by kernel_rfl) (fun _ _ _ h => h) (Or.inl ⟨by rfl, ?_⟩) (by assumption) ?_
    rotate_left
    · intro wq hSw
      (try dsimp only at hSw)
      go_simp
      try with_reducible rfl
    try simp only [Act.put, qA, qB, qC]
    refine wpAnyH_take (i := 2) (oi := ⟨some 14, .load 22 (.tmp 13), 22, "l5_store.go:128", #[⟨1, .data⟩], none⟩) (v := ?_) rfl (by kernel_rfl) (by kernel_rfl) (by kernel_rfl) (fun _ _ _ h => h) (Or.inl ⟨by rfl, ?_⟩) (by assumption) ?_
    rotate_left
    · intro wq hSw
      (try dsimp only at hSw)
      go_simp
      try with_reducible rfl
    try simp only [Act.put, qA, qB, qC]
    refine wpAnyH_take (i := 3) (oi := ⟨some 15, .call ⟨.builtin .len, #[.tmp 14], #[22]⟩, 3, "l5_store.go:128", #[⟨2, .data⟩], none⟩) (v := ?_) rfl (by kernel_rfl) (by kernel_rfl) (by kernel_rfl) (fun _ _ _ h => h) (Or.inl ⟨by rfl, ?_⟩) (by assumption) ?_
    rotate_left
    · intro wq hSw
      (try dsimp only at hSw)
      go_simp
      try with_reducible rfl
    try simp only [Act.put, qA, qB, qC]
    refine wpAnyH_take (i := 4) (oi := ⟨some 16, .binOp .lss 3 (.tmp 12) (.tmp 15) 3, 4, "l5_store.go:128", #[⟨0, .data⟩, ⟨3, .data⟩], none⟩) (v := ?_) rfl (by kernel_rfl) (by kernel_rfl) (by kernel_rfl) (fun _ _ _ h => h) (Or.inl ⟨by rfl, ?_⟩) (by assumption) ?_
    rotate_left
    · intro wq hSw
      (try dsimp only at hSw)
      go_simp
      try with_reducible rfl
    try simp only [Act.put, qA, qB, qC]
    refine wpAnyH_take (i := 5) (oi := ⟨some 17, .move (.tmp 16), 4, "l5_store.go:128", #[⟨4, .data⟩], none⟩) (v := ?_) rfl (by kernel_rfl) (by kernel_rfl) (by kernel_rfl) (fun _ _ _ h => h) (Or.inl ⟨by rfl, ?_⟩) (by assumption) ?_
    rotate_left
    · intro wq hSw
      (try dsimp only at hSw)
      go_simp
      try with_reducible rfl
    try simp only [Act.put, qA, qB, qC]
    refine wpAnyH_take (i := 6) (oi := ⟨some 18, .fieldAddr 37 (.tmp 2) 1, 0, "l5_store.go:128", #[⟨5, .guard⟩], some (5, true)⟩) (v := ?_) rfl (by kernel_rfl) (by kernel_rfl) (by kernel_rfl) (fun _ _ _ h => h) (Or.inl ⟨by rfl, ?_⟩) (by assumption) ?_
    rotate_left
    · intro wq hSw
      (try dsimp only at hSw)
      go_simp
      try with_reducible rfl
    try simp only [Act.put, qA, qB, qC]
    refine wpAnyH_take (i := 7) (oi := ⟨some 19, .load 22 (.tmp 18), 22, "l5_store.go:128", #[⟨6, .data⟩, ⟨5, .guard⟩], some (5, true)⟩) (v := ?_) rfl (by kernel_rfl) (by kernel_rfl) (by kernel_rfl) (fun _ _ _ h => h) (Or.inl ⟨by rfl, ?_⟩) (by assumption) ?_
    rotate_left
    · intro wq hSw
      (try dsimp only at hSw)
      go_simp
      try with_reducible rfl
    try simp only [Act.put, qA, qB, qC]
    refine wpAnyH_take (i := 8) (oi := ⟨some 20, .move (.tmp 7), 3, "l5_store.go:128", #[⟨5, .guard⟩], some (5, true)⟩) (v := ?_) rfl (by kernel_rfl) (by kernel_rfl) (by kernel_rfl) (fun _ _ _ h => h) (Or.inl ⟨by rfl, ?_⟩) (by assumption) ?_
    rotate_left
    · intro wq hSw
      (try dsimp only at hSw)
      go_simp
      try with_reducible rfl
    try simp only [Act.put, qA, qB, qC]
    refine wpAnyH_take (i := 9) (oi := ⟨some 21, .indexAddr 22 (.tmp 19) (.tmp 20), 0, "l5_store.go:128", #[⟨7, .data⟩, ⟨8, .data⟩, ⟨5, .guard⟩], some (5, true)⟩) (v := ?_) rfl (by kernel_rfl) (by kernel_rfl) (by kernel_rfl) (fun _ _ _ h => h) (Or.inl ⟨by rfl, ?_⟩) (by assumption) ?_
    rotate_left
    · intro wq hSw
      (try dsimp only at hSw)
      go_simp
      try with_reducible rfl
    try simp only [Act.put, qA, qB, qC]
    refine wpAnyH_take (i := 10) (oi := ⟨some 22, .load 9 (.tmp 21), 9, "l5_store.go:128", #[⟨9, .data⟩, ⟨5, .guard⟩], some (5, true)⟩) (v := ?_) rfl (by kernel_rfl) (by kernel_rfl) (by kernel_rfl) (fun _ _ _ h => h) (Or.inl ⟨by rfl, ?_⟩) (by assumption) ?_
    rotate_left
    · intro wq hSw
      (try dsimp only at hSw)
      go_simp
      try with_reducible rfl
    try simp only [Act.put, qA, qB, qC]
    refine wpAnyH_take (i := 11) (oi := ⟨some 23, .fieldAddr 37 (.tmp 2) 0, 0, "l5_store.go:128", #[⟨5, .guard⟩], some (5, true)⟩) (v := ?_) rfl (by kernel_rfl) (by kernel_rfl) (by kernel_rfl) (fun _ _ _ h => h) (Or.inl ⟨by rfl, ?_⟩) (by assumption) ?_
    rotate_left
    · intro wq hSw
      (try dsimp only at hSw)
      go_simp
      try with_reducible rfl
    try simp only [Act.put, qA, qB, qC]
    refine wpAnyH_take (i := 12) (oi := ⟨some 24, .load 3 (.tmp 23), 3, "l5_store.go:128", #[⟨11, .data⟩, ⟨5, .guard⟩], some (5, true)⟩) (v := ?_) rfl (by kernel_rfl) (by kernel_rfl) (by kernel_rfl) (fun _ _ _ h => h) (Or.inl ⟨by rfl, ?_⟩) (by assumption) ?_
    rotate_left
    · intro wq hSw
      (try dsimp only at hSw)
      go_simp
      try with_reducible rfl
    try simp only [Act.put, qA, qB, qC]
    refine wpAnyH_take (i := 14) (oi := ⟨some 26, .move (.tmp 6), 9, "l5_store.go:128", #[⟨5, .guard⟩], some (5, true)⟩) (v := ?_) rfl (by kernel_rfl) (by kernel_rfl) (by kernel_rfl) (fun _ _ _ h => h) (Or.inl ⟨by rfl, ?_⟩) (by assumption) ?_
    rotate_left
    · intro wq hSw
      (try dsimp only at hSw)
      go_simp
      try with_reducible rfl
    try simp only [Act.put, qA, qB, qC]
    refine wpAnyH_ready (rs := [13]) (by kernel_rfl) (by simp) ?_
    refine AllReadyH.cons (o := ⟨some 25, .call ⟨.value (.func 47), #[.tmp 22, .tmp 24], #[9, 3]⟩, 9, "l5_store.go:128", #[⟨10, .data⟩, ⟨12, .data⟩, ⟨5, .chain⟩, ⟨5, .guard⟩], some (5, true)⟩) rfl (fun K hK => ?_) AllReadyH.nil
    go_simp
    refine (c47 x W _ hxl).mono ?_
    rintro e u1 ⟨rfl, hb1⟩
    go_wp2_with fail
    have hB1 := hb.drew.trans (hb1.mono (show w.heap.size + 2 ≤ _ by simpa using hwz))
    have hwz1 : w.heap.size + 2 ≤ u1.heap.size := by have := hB1.size; rw [sV.out] at this; exact this
    have p0 := (hB1.cell (p := ⟨w.heap.size, 0, none⟩) (show w.heap.size < w.heap.size + 2 by omega)).trans y0
    have p1 := (hB1.cell (p := ⟨w.heap.size, 1, none⟩) (show w.heap.size < w.heap.size + 2 by omega)).trans y1
    have pk := (hB1.cell (p := ⟨g, k, none⟩) (show g < w.heap.size + 2 by omega)).trans yk
    clear hHeld hb1
    refine hK.out _ _ ⟨p0, p1, pk⟩ (fun hHeld => ?_)
    clear hK K
    try simp only [Act.put, qA, qB, qC]
    refine wpAnyH_take (i := 15) (oi := ⟨some 27, .binOp .lss 9 (.tmp 25) (.tmp 26) 9, 4, "l5_store.go:128", #[⟨13, .data⟩, ⟨14, .data⟩, ⟨5, .guard⟩], some (5, true)⟩) (v := ?_) rfl (by kernel_rfl) (by kernel_rfl) (by kernel_rfl) (fun _ _ _ h => h) (Or.inl ⟨by rfl, ?_⟩) (by assumption) ?_
    rotate_left
    · intro wq hSw
      (try dsimp only at hSw)
      go_simp
      try with_reducible rfl
    try simp only [Act.put, qA, qB, qC]
    refine wpAnyH_take (i := 16) (oi := ⟨some 28, .pick (.tmp 17) (.tmp 27) (.const (.bool false)), 4, "l5_store.go:128", #[⟨5, .data⟩, ⟨15, .data⟩], none⟩) (v := ?_) rfl (by kernel_rfl) (by kernel_rfl) (by kernel_rfl) (fun _ _ _ h => h) (Or.inl ⟨by rfl, ?_⟩) (by assumption) ?_
    rotate_left
    · intro wq hSw
      (try dsimp only at hSw)
      go_simp
      try with_reducible rfl
    try simp only [Act.put, qA, qB, qC]
    refine wpAnyH_done (by kernel_rfl) ?_ _
    clear hHeld
    cases hy : Op.bytesLess (sumS x W).toList (sumS t W).toList
    · go_wp2_with fail
      refine wp_region_held_drew (S := (fun u => u.cell? ⟨w.heap.size, 0, none⟩ = some (.int .i64 W) ∧ u.cell? ⟨w.heap.size, 1, none⟩ = some (.slice (some ⟨g, 0, none⟩) ts.length tc) ∧ u.cell? ⟨g, k, none⟩ = some (.string x))) (by kernel_rfl) ?_ (fun hHeld => ?_)
      · exact ⟨p0, p1, pk⟩
      refine wpAnyH_take (i := 0) (oi := ⟨some 31, .move (.tmp 7), 3, "l5_store.go:131", #[], none⟩) (v := ?_) rfl (by kernel_rfl) (by kernel_rfl) (by kernel_rfl) (fun _ _ _ h => h) (Or.inl ⟨by rfl, ?_⟩) (by assumption) ?_
      rotate_left
      · intro wq hSw
        (try dsimp only at hSw)
        go_simp
        try with_reducible rfl
      try simp only [Act.put, qA, qB, qC]
      refine wpAnyH_take (i := 1) (oi := ⟨some 32, .fieldAddr 37 (.tmp 2) 1, 0, "l5_store.go:131", #[], none⟩) (v := ?_) rfl (by kernel_rfl) (by kernel_rfl) (by kernel_rfl) (fun _ _ _ h => h) (Or.inl ⟨by rfl, ?_⟩) (by assumption) ?_
      rotate_left
      · intro wq hSw
        (try dsimp only at hSw)
        go_simp
        try with_reducible rfl
      try simp only [Act.put, qA, qB, qC]
      refine wpAnyH_take (i := 2) (oi := ⟨some 33, .load 22 (.tmp 32), 22, "l5_store.go:131", #[⟨1, .data⟩], none⟩) (v := ?_) rfl (by kernel_rfl) (by kernel_rfl) (by kernel_rfl) (fun _ _ _ h => h) (Or.inl ⟨by rfl, ?_⟩) (by assumption) ?_
      rotate_left
      · intro wq hSw
        (try dsimp only at hSw)
        go_simp
        try with_reducible rfl
      try simp only [Act.put, qA, qB, qC]
      refine wpAnyH_take (i := 3) (oi := ⟨some 34, .call ⟨.builtin .len, #[.tmp 33], #[22]⟩, 3, "l5_store.go:131", #[⟨2, .data⟩], none⟩) (v := ?_) rfl (by kernel_rfl) (by kernel_rfl) (by kernel_rfl) (fun _ _ _ h => h) (Or.inl ⟨by rfl, ?_⟩) (by assumption) ?_
      rotate_left
      · intro wq hSw
        (try dsimp only at hSw)
        go_simp
        try with_reducible rfl
      try simp only [Act.put, qA, qB, qC]
      refine wpAnyH_take (i := 4) (oi := ⟨some 35, .binOp .lss 3 (.tmp 31) (.tmp 34) 3, 4, "l5_store.go:131", #[⟨0, .data⟩, ⟨3, .data⟩], none⟩) (v := ?_) rfl (by kernel_rfl) (by kernel_rfl) (by kernel_rfl) (fun _ _ _ h => h) (Or.inl ⟨by rfl, ?_⟩) (by assumption) ?_
      rotate_left
      · intro wq hSw
        (try dsimp only at hSw)
        go_simp
        try with_reducible rfl
      try simp only [Act.put, qA, qB, qC]
      refine wpAnyH_take (i := 5) (oi := ⟨some 36, .move (.tmp 35), 4, "l5_store.go:131", #[⟨4, .data⟩], none⟩) (v := ?_) rfl (by kernel_rfl) (by kernel_rfl) (by kernel_rfl) (fun _ _ _ h => h) (Or.inl ⟨by rfl, ?_⟩) (by assumption) ?_
      rotate_left
      · intro wq hSw
        (try dsimp only at hSw)
        go_simp
        try with_reducible rfl
      try simp only [Act.put, qA, qB, qC]
      refine wpAnyH_take (i := 6) (oi := ⟨some 37, .fieldAddr 37 (.tmp 2) 1, 0, "l5_store.go:131", #[⟨5, .guard⟩], some (5, true)⟩) (v := ?_) rfl (by kernel_rfl) (by kernel_rfl) (by kernel_rfl) (fun _ _ _ h => h) (Or.inl ⟨by rfl, ?_⟩) (by assumption) ?_
      rotate_left
      · intro wq hSw
        (try dsimp only at hSw)
        go_simp
        try with_reducible rfl
      try simp only [Act.put, qA, qB, qC]
      refine wpAnyH_take (i := 7) (oi := ⟨some 38, .load 22 (.tmp 37), 22, "l5_store.go:131", #[⟨6, .data⟩, ⟨5, .guard⟩], some (5, true)⟩) (v := ?_) rfl (by kernel_rfl) (by kernel_rfl) (by kernel_rfl) (fun _ _ _ h => h) (Or.inl ⟨by rfl, ?_⟩) (by assumption) ?_
      rotate_left
      · intro wq hSw
        (try dsimp only at hSw)
        go_simp
        try with_reducible rfl
      try simp only [Act.put, qA, qB, qC]
      refine wpAnyH_take (i := 8) (oi := ⟨some 39, .move (.tmp 7), 3, "l5_store.go:131", #[⟨5, .guard⟩], some (5, true)⟩) (v := ?_) rfl (by kernel_rfl) (by kernel_rfl) (by kernel_rfl) (fun _ _ _ h => h) (Or.inl ⟨by rfl, ?_⟩) (by assumption) ?_
      rotate_left
      · intro wq hSw
        (try dsimp only at hSw)
        go_simp
        try with_reducible rfl
      try simp only [Act.put, qA, qB, qC]
      refine wpAnyH_take (i := 9) (oi := ⟨some 40, .indexAddr 22 (.tmp 38) (.tmp 39), 0, "l5_store.go:131", #[⟨7, .data⟩, ⟨8, .data⟩, ⟨5, .guard⟩], some (5, true)⟩) (v := ?_) rfl (by kernel_rfl) (by kernel_rfl) (by kernel_rfl) (fun _ _ _ h => h) (Or.inl ⟨by rfl, ?_⟩) (by assumption) ?_
      rotate_left
      · intro wq hSw
        (try dsimp only at hSw)
        go_simp
        try with_reducible rfl
      try simp only [Act.put, qA, qB, qC]
      refine wpAnyH_take (i := 10) (oi := ⟨some 41, .load 9 (.tmp 40), 9, "l5_store.go:131", #[⟨9, .data⟩, ⟨5, .guard⟩], some (5, true)⟩) (v := ?_) rfl (by kernel_rfl) (by kernel_rfl) (by kernel_rfl) (fun _ _ _ h => h) (Or.inl ⟨by rfl, ?_⟩) (by assumption) ?_
      rotate_left
      · intro wq hSw
        (try dsimp only at hSw)
        go_simp
        try with_reducible rfl
      try simp only [Act.put, qA, qB, qC]
      refine wpAnyH_take (i := 11) (oi := ⟨some 42, .fieldAddr 37 (.tmp 2) 0, 0, "l5_store.go:131", #[⟨5, .guard⟩], some (5, true)⟩) (v := ?_) rfl (by kernel_rfl) (by kernel_rfl) (by kernel_rfl) (fun _ _ _ h => h) (Or.inl ⟨by rfl, ?_⟩) (by assumption) ?_
      rotate_left
      · intro wq hSw
        (try dsimp only at hSw)
        go_simp
        try with_reducible rfl
      try simp only [Act.put, qA, qB, qC]
      refine wpAnyH_take (i := 12) (oi := ⟨some 43, .load 3 (.tmp 42), 3, "l5_store.go:131", #[⟨11, .data⟩, ⟨5, .guard⟩], some (5, true)⟩) (v := ?_) rfl (by kernel_rfl) (by kernel_rfl) (by kernel_rfl) (fun _ _ _ h => h) (Or.inl ⟨by rfl, ?_⟩) (by assumption) ?_
      rotate_left
      · intro wq hSw
        (try dsimp only at hSw)
        go_simp
        try with_reducible rfl
      try simp only [Act.put, qA, qB, qC]
      refine wpAnyH_take (i := 14) (oi := ⟨some 45, .move (.tmp 6), 9, "l5_store.go:131", #[⟨5, .guard⟩], some (5, true)⟩) (v := ?_) rfl (by kernel_rfl) (by kernel_rfl) (by kernel_rfl) (fun _ _ _ h => h) (Or.inl ⟨by rfl, ?_⟩) (by assumption) ?_
      rotate_left
      · intro wq hSw
        (try dsimp only at hSw)
        go_simp
        try with_reducible rfl
      try simp only [Act.put, qA, qB, qC]
      refine wpAnyH_ready (rs := [13]) (by kernel_rfl) (by simp) ?_
      refine AllReadyH.cons (o := ⟨some 44, .call ⟨.value (.func 47), #[.tmp 41, .tmp 43], #[9, 3]⟩, 9, "l5_store.go:131", #[⟨10, .data⟩, ⟨12, .data⟩, ⟨5, .chain⟩, ⟨5, .guard⟩], some (5, true)⟩) rfl (fun K hK => ?_) AllReadyH.nil
      go_simp
      refine (c47 x W _ hxl).mono ?_
      rintro e u2 ⟨rfl, hb1⟩
      go_wp2_with fail
      have hB2 := hB1.drew.trans (hb1.mono (show w.heap.size + 2 ≤ _ by simpa using hwz1))
      have hwz2 : w.heap.size + 2 ≤ u2.heap.size := by have := hB2.size; rw [sV.out] at this; exact this
      have q0 := (hB2.cell (p := ⟨w.heap.size, 0, none⟩) (show w.heap.size < w.heap.size + 2 by omega)).trans y0
      have q1 := (hB2.cell (p := ⟨w.heap.size, 1, none⟩) (show w.heap.size < w.heap.size + 2 by omega)).trans y1
      have qk := (hB2.cell (p := ⟨g, k, none⟩) (show g < w.heap.size + 2 by omega)).trans yk
      clear hHeld hb1
      refine hK.out _ _ ⟨q0, q1, qk⟩ (fun hHeld => ?_)
      clear hK K
      try simp only [Act.put, qA, qB, qC]
      refine wpAnyH_take (i := 15) (oi := ⟨some 46, .binOp .eql 9 (.tmp 44) (.tmp 45) 9, 4, "l5_store.go:131", #[⟨13, .data⟩, ⟨14, .data⟩, ⟨5, .guard⟩], some (5, true)⟩) (v := ?_) rfl (by kernel_rfl) (by kernel_rfl) (by kernel_rfl) (fun _ _ _ h => h) (Or.inl ⟨by rfl, ?_⟩) (by assumption) ?_
      rotate_left
      · intro wq hSw
        (try dsimp only at hSw)
        go_simp
        try with_reducible rfl
      try simp only [Act.put, qA, qB, qC]
      refine wpAnyH_take (i := 16) (oi := ⟨some 47, .pick (.tmp 36) (.tmp 46) (.const (.bool false)), 4, "l5_store.go:131", #[⟨5, .data⟩, ⟨15, .data⟩], none⟩) (v := ?_) rfl (by kernel_rfl) (by kernel_rfl) (by kernel_rfl) (fun _ _ _ h => h) (Or.inl ⟨by rfl, ?_⟩) (by assumption) ?_
      rotate_left
      · intro wq hSw
        (try dsimp only at hSw)
        go_simp
        try with_reducible rfl
      try simp only [Act.put, qA, qB, qC]
      refine wpAnyH_done (by kernel_rfl) ?_ _
      clear hHeld
      cases he : ((sumS x W).toList == (sumS t W).toList)
      · go_wp2_with fail
        have hnb : bef (sumS x W) (sumS t W) = false := by rw [← bef_less]; exact hy
        have hne : sumS x W ≠ sumS t W := by have := (beq_list _ _).symm.trans he; simpa using this
        have HP : Hid (putT W t ts = (ts.take k ++ [t] ++ ts.drop k, true)) := put_new hA hk hj.out (fun _ => by rw [HX.out]; exact ⟨hnb, hne⟩)
        clear hnb hne hy he
        refine r7 hB2 y1 OS.out hgl HC.out hk htc htm hl (by rw [sV.out]; exact Nat.le_refl _) ?_
        intro y56 y57 y58 y59 y60 y61 y62 y63 y64 y65 y66 y67 y68 y69 y70 g6 c6 E bE RE
        have hn : k + 1 + (ts.length - k) = (ts.take k ++ [t] ++ ts.drop k).length := by simp; omega
        generalize k + 1 + (ts.length - k) = n6 at *
        have HN := hidI hn
        have HRE := hidI RE
        have bS := (BS.out.below bE (by omega)).set 1 (.slice (some ⟨g6, 0, none⟩) n6 c6) (by simp)
        have w0 := bS 0 _ rfl
        have w1' := bS 1 _ rfl
        have w2 := bS 2 _ rfl
        have bz := (BZ.out.below bE (by omega)).other ⟨w.heap.size, 1, none⟩ (.slice (some ⟨g6, 0, none⟩) n6 c6) (by show w.heap.size ≠ w.heap.size + 1; omega)
        have oz := (OZ.out.below bE (by omega)).set ⟨w.heap.size, 1, none⟩ (.slice (some ⟨g6, 0, none⟩) n6 c6)
        have r0 := bz 0 _ rfl
        have r1 := bz 1 _ rfl
        have r2 := bz 2 _ rfl
        have f0 := oz 0
        have f1 := oz 1
        have f2 := oz 2
        have ZE : BlkAt ((((E.setCell ⟨w.heap.size, 1, none⟩ (.slice (some ⟨g6, 0, none⟩) n6 c6)).setCell ⟨w.heap.size + 1, 0, none⟩ (.int .i64 W)).setCell ⟨w.heap.size + 1, 1, none⟩ (.slice (some ⟨g6, 0, none⟩) n6 c6)).setCell ⟨w.heap.size + 1, 2, none⟩ (.slice ra rn rc)) (w.heap.size + 1) [.int .i64 W, .slice (some ⟨g6, 0, none⟩) n6 c6, .slice ra rn rc] := ((bz.set 0 _ (by simp)).set 1 _ (by simp)).set 2 _ (by simp)
        have e0 := ZE 0 _ rfl
        have e1 := ZE 1 _ rfl
        have e2 := ZE 2 _ rfl
        have BE : Hid (Below w.heap.size w ((((E.setCell ⟨w.heap.size, 1, none⟩ (.slice (some ⟨g6, 0, none⟩) n6 c6)).setCell ⟨w.heap.size + 1, 0, none⟩ (.int .i64 W)).setCell ⟨w.heap.size + 1, 1, none⟩ (.slice (some ⟨g6, 0, none⟩) n6 c6)).setCell ⟨w.heap.size + 1, 2, none⟩ (.slice ra rn rc))) := hidI (((((hB0.trans (bE.mono (by omega))).setCell (p := ⟨w.heap.size, 1, none⟩) (Nat.le_refl _) _).setCell (p := ⟨w.heap.size + 1, 0, none⟩) (Nat.le_succ _) _).setCell (p := ⟨w.heap.size + 1, 1, none⟩) (Nat.le_succ _) _).setCell (p := ⟨w.heap.size + 1, 2, none⟩) (Nat.le_succ _) _)
        have HOW : Hid (((((E.setCell ⟨w.heap.size, 1, none⟩ (.slice (some ⟨g6, 0, none⟩) n6 c6)).setCell ⟨w.heap.size + 1, 0, none⟩ (.int .i64 W)).setCell ⟨w.heap.size + 1, 1, none⟩ (.slice (some ⟨g6, 0, none⟩) n6 c6)).setCell ⟨w.heap.size + 1, 2, none⟩ (.slice ra rn rc)).ownsRow N 9 1 (.slice (some ⟨g6, 0, none⟩) n6 c6) n6 ((ts.take k ++ [t] ++ ts.drop k).map Value.string)) := hidI (own_low (own_set (own_set (own_set (own_set HRE.out _ _ (by show w.heap.size < w.heap.size + 2; omega)) _ _ (by show w.heap.size + 1 < w.heap.size + 2; omega)) _ _ (by show w.heap.size + 1 < w.heap.size + 2; omega)) _ _ (by show w.heap.size + 1 < w.heap.size + 2; omega)) (by omega))
        clear hn RE ZE bS bz oz
        go_wp2
        refine bodyPost_ret (v := .tuple #[.agg #[.int .i64 W, .slice (some ⟨g6, 0, none⟩) n6 c6, .slice ra rn rc], .bool true]) (by simp [results, Tryz.results25, go_sem, e0, e1, e2]) rfl ⟨⟨g6, c6, ?_, ?_⟩, BE.out⟩
        · rw [HP.out, HN.out]
        · rw [HP.out]
          have h := HOW.out
          rw [HN.out] at h
          rw [HN.out]
          exact h
      · go_wp2_with fail
        have q2 := (hB2.cell (p := ⟨w.heap.size, 2, none⟩) (show w.heap.size < w.heap.size + 2 by omega)).trans y2
        have bz := BZ.out.below hB2 (by omega)
        have oz := OZ.out.below hB2 (by omega)
        have HP : Hid (putT W t ts = (ts, decide (x = t))) := by
         have h := put_there (t := t) hA hlt (by rw [HX.out]; have := (beq_list _ _).symm.trans he; simpa using this)
         rw [HX.out] at h
         exact h
        refine wp_region_held_drew (S := (fun u => u.cell? ⟨w.heap.size, 0, none⟩ = some (.int .i64 W) ∧ u.cell? ⟨w.heap.size, 1, none⟩ = some (.slice (some ⟨g, 0, none⟩) ts.length tc) ∧ u.cell? ⟨w.heap.size, 2, none⟩ = some (.slice ra rn rc) ∧ u.cell? ⟨g, k, none⟩ = some (.string x))) (by kernel_rfl) ?_ (fun hHeld => ?_)
        · exact ⟨q0, q1, q2, qk⟩
        refine wpAnyH_take (i := 0) (oi := ⟨some 48, .load 37 (.tmp 2), 37, "l5_store.go:132", #[], none⟩) (v := ?_) rfl (by kernel_rfl) (by kernel_rfl) (by kernel_rfl) (fun _ _ _ h => h) (Or.inl ⟨by rfl, ?_⟩) (by assumption) ?_
        rotate_left
        · intro wq hSw
          (try dsimp only at hSw)
          go_simp
          try with_reducible rfl
        try simp only [Act.put, qA, qB, qC]
        refine wpAnyH_take (i := 1) (oi := ⟨some 49, .fieldAddr 37 (.tmp 2) 1, 0, "l5_store.go:132", #[⟨8, .gcOnly .lateStores⟩], none⟩) (v := ?_) rfl (by kernel_rfl) (by kernel_rfl) (by kernel_rfl) (fun _ _ _ h => h) (Or.inl ⟨by rfl, ?_⟩) (by assumption) ?_
        rotate_left
        · intro wq hSw
          (try dsimp only at hSw)
          go_simp
          try with_reducible rfl
        try simp only [Act.put, qA, qB, qC]
        refine wpAnyH_take (i := 2) (oi := ⟨some 50, .load 22 (.tmp 49), 22, "l5_store.go:132", #[⟨1, .data⟩, ⟨8, .gcOnly .lateStores⟩], none⟩) (v := ?_) rfl (by kernel_rfl) (by kernel_rfl) (by kernel_rfl) (fun _ _ _ h => h) (Or.inl ⟨by rfl, ?_⟩) (by assumption) ?_
        rotate_left
        · intro wq hSw
          (try dsimp only at hSw)
          go_simp
          try with_reducible rfl
        try simp only [Act.put, qA, qB, qC]
        refine wpAnyH_take (i := 3) (oi := ⟨some 51, .move (.tmp 7), 3, "l5_store.go:132", #[⟨8, .gcOnly .lateStores⟩], none⟩) (v := ?_) rfl (by kernel_rfl) (by kernel_rfl) (by kernel_rfl) (fun _ _ _ h => h) (Or.inl ⟨by rfl, ?_⟩) (by assumption) ?_
        rotate_left
        · intro wq hSw
          (try dsimp only at hSw)
          go_simp
          try with_reducible rfl
        try simp only [Act.put, qA, qB, qC]
        refine wpAnyH_take (i := 4) (oi := ⟨some 52, .indexAddr 22 (.tmp 50) (.tmp 51), 0, "l5_store.go:132", #[⟨2, .data⟩, ⟨3, .data⟩, ⟨8, .gcOnly .lateStores⟩], none⟩) (v := ?_) rfl (by kernel_rfl) (by kernel_rfl) (by kernel_rfl) (fun _ _ _ h => h) (Or.inl ⟨by rfl, ?_⟩) (by assumption) ?_
        rotate_left
        · intro wq hSw
          (try dsimp only at hSw)
          go_simp
          try with_reducible rfl
        try simp only [Act.put, qA, qB, qC]
        refine wpAnyH_take (i := 5) (oi := ⟨some 53, .load 9 (.tmp 52), 9, "l5_store.go:132", #[⟨4, .data⟩, ⟨8, .gcOnly .lateStores⟩], none⟩) (v := ?_) rfl (by kernel_rfl) (by kernel_rfl) (by kernel_rfl) (fun _ _ _ h => h) (Or.inl ⟨by rfl, ?_⟩) (by assumption) ?_
        rotate_left
        · intro wq hSw
          (try dsimp only at hSw)
          go_simp
          try with_reducible rfl
        try simp only [Act.put, qA, qB, qC]
        refine wpAnyH_take (i := 6) (oi := ⟨some 54, .move (.tmp 1), 9, "l5_store.go:132", #[⟨8, .gcOnly .lateStores⟩], none⟩) (v := ?_) rfl (by kernel_rfl) (by kernel_rfl) (by kernel_rfl) (fun _ _ _ h => h) (Or.inl ⟨by rfl, ?_⟩) (by assumption) ?_
        rotate_left
        · intro wq hSw
          (try dsimp only at hSw)
          go_simp
          try with_reducible rfl
        try simp only [Act.put, qA, qB, qC]
        refine wpAnyH_take (i := 7) (oi := ⟨some 55, .binOp .eql 9 (.tmp 53) (.tmp 54) 9, 4, "l5_store.go:132", #[⟨5, .data⟩, ⟨6, .data⟩, ⟨8, .gcOnly .lateStores⟩], none⟩) (v := ?_) rfl (by kernel_rfl) (by kernel_rfl) (by kernel_rfl) (fun _ _ _ h => h) (Or.inl ⟨by rfl, ?_⟩) (by assumption) ?_
        rotate_left
        · intro wq hSw
          (try dsimp only at hSw)
          go_simp
          try with_reducible rfl
        try simp only [Act.put, qA, qB, qC]
        refine wpAnyH_ready (rs := [8]) (by kernel_rfl) (by simp) ?_
        refine AllReadyH.cons (o := ⟨none, .store 37 (.tmp 4) (.tmp 48), 0, "l5_store.go:132", #[⟨0, .data⟩, ⟨0, .phase⟩, ⟨1, .textOnly .lateStores⟩, ⟨2, .textOnly .lateStores⟩, ⟨3, .textOnly .lateStores⟩, ⟨4, .textOnly .lateStores⟩, ⟨5, .textOnly .lateStores⟩, ⟨6, .textOnly .lateStores⟩, ⟨7, .textOnly .lateStores⟩], none⟩) rfl (fun K hK => ?_) AllReadyH.nil
        refine step_store_blk rfl 37 (.tmp 4) (.tmp 48) rfl (w.heap.size + 1) 0 rfl [.int .i64 W, .slice (some ⟨g, 0, none⟩) ts.length tc, .slice ra rn rc] rfl (blk_some bz rfl) oz (by simp [Value.oneCell']) (by kernel_rfl) rfl ?_
        clear hHeld
        refine st_overB (old := [.int .i64 0, .slice none 0 0, .slice none 0 0]) (N := w.heap.size + 1) rfl bz oz (Nat.le_refl _) ?_
        intro E bE ZE OE hE
        have bE1 : Below (w.heap.size + 1) V E := (hB2.drew.mono (by omega)).trans bE
        have x0 := (bE1.cell (p := ⟨w.heap.size, 0, none⟩) (show w.heap.size < w.heap.size + 1 by omega)).trans y0
        have x1 := (bE1.cell (p := ⟨w.heap.size, 1, none⟩) (show w.heap.size < w.heap.size + 1 by omega)).trans y1
        have x2 := (bE1.cell (p := ⟨w.heap.size, 2, none⟩) (show w.heap.size < w.heap.size + 1 by omega)).trans y2
        have xk := (bE1.cell (p := ⟨g, k, none⟩) (show g < w.heap.size + 1 by omega)).trans yk
        refine hK.out _ _ ⟨x0, x1, x2, xk⟩ (fun hHeld => ?_)
        clear hK K
        try simp only [Act.put, qA, qB, qC]
        refine wpAnyH_take (i := 9) (oi := ⟨some 5, .assign (.tmp 55), 4, "l5_store.go:132", #[⟨7, .data⟩, ⟨8, .chain⟩, ⟨0, .phase⟩, ⟨1, .phase⟩, ⟨2, .phase⟩, ⟨3, .phase⟩, ⟨4, .phase⟩, ⟨5, .phase⟩, ⟨6, .phase⟩, ⟨7, .phase⟩, ⟨8, .phase⟩], none⟩) (v := ?_) rfl (by kernel_rfl) (by kernel_rfl) (by kernel_rfl) (fun _ _ _ h => h) (Or.inl ⟨by rfl, ?_⟩) (by assumption) ?_
        rotate_left
        · intro wq hSw
          (try dsimp only at hSw)
          go_simp
          try with_reducible rfl
        try simp only [Act.put, qA, qB, qC]
        refine wpAnyH_done (by kernel_rfl) ?_ _
        clear hHeld
        have e0 := ZE 0 _ rfl
        have e1 := ZE 1 _ rfl
        have e2 := ZE 2 _ rfl
        have BE : Below w.heap.size w E := hB0.trans (bE1.mono (by omega))
        go_wp2
        refine bodyPost_ret (v := .tuple #[.agg #[.int .i64 W, .slice (some ⟨g, 0, none⟩) ts.length tc, .slice ra rn rc], .bool (x.toList == t.toList)]) (by simp [results, Tryz.results25, go_sem, e0, e1, e2]) rfl ⟨⟨g, tc, ?_, ?_⟩, BE⟩
        · rw [HP.out, beq_list]
        · rw [HP.out]
          exact own_below HO.out BE
    · go_wp2
      go_roundw
      case rel => exact ⟨k + 1, by omega, by go_num, fun j hj2 => by
       rcases Nat.lt_or_ge j k with h | h
       · exact hj.out j h
       · obtain rfl : j = k := by omega
         rw [HX.out, ← bef_less]
         exact hy, hB1⟩
      case measure => simp [Go.RowKit.intOf]; omega
  · go_wp2_with fail
    refine wp_region_held_drew (S := (fun u => u.cell? ⟨w.heap.size, 0, none⟩ = some (.int .i64 W) ∧ u.cell? ⟨w.heap.size, 1, none⟩ = some (.slice (some ⟨g, 0, none⟩) ts.length tc))) (by kernel_rfl) ?_ (fun hHeld => ?_)
    · exact ⟨z0, z1⟩
    refine wpAnyH_take (i := 0) (oi := ⟨some 12, .move (.tmp 7), 3, "l5_store.go:128", #[], none⟩) (v := ?_) rfl (by kernel_rfl) (by kernel_rfl) (by kernel_rfl) (fun _ _ _ h => h) (Or.inl ⟨by rfl, ?_⟩) (by assumption) ?_
    rotate_left
    · intro wq hSw
      (try dsimp only at hSw)
      go_simp
      try with_reducible rfl
    try simp only [Act.put, qA, qB, qC]
    refine wpAnyH_take (i := 1) (oi := ⟨some 13, .fieldAddr 37 (.tmp 2) 1, 0, "l5_store.go:128", #[], none⟩) (v := ?_) rfl (by kernel_rfl) (by kernel_rfl) (by kernel_rfl) (fun _ _ _ h => h) (Or.inl ⟨by rfl, ?_⟩) (by assumption) ?_
    rotate_left
    · intro wq hSw
      (try dsimp only at hSw)
      go_simp
      try with_reducible rfl
    try simp only [Act.put, qA, qB, qC]
    refine wpAnyH_take (i := 2) (oi := ⟨some 14, .load 22 (.tmp 13), 22, "l5_store.go:128", #[⟨1, .data⟩], none⟩) (v := ?_) rfl (by kernel_rfl) (by kernel_rfl) (by kernel_rfl) (fun _ _ _ h => h) (Or.inl ⟨by rfl, ?_⟩) (by assumption) ?_
    rotate_left
    · intro wq hSw
      (try dsimp only at hSw)
      go_simp
      try with_reducible rfl
    try simp only [Act.put, qA, qB, qC]
    refine wpAnyH_take (i := 3) (oi := ⟨some 15, .call ⟨.builtin .len, #[.tmp 14], #[22]⟩, 3, "l5_store.go:128", #[⟨2, .data⟩], none⟩) (v := ?_) rfl (by kernel_rfl) (by kernel_rfl) (by kernel_rfl) (fun _ _ _ h => h) (Or.inl ⟨by rfl, ?_⟩) (by assumption) ?_
    rotate_left
    · intro wq hSw
      (try dsimp only at hSw)
      go_simp
      try with_reducible rfl
    try simp only [Act.put, qA, qB, qC]
    refine wpAnyH_take (i := 4) (oi := ⟨some 16, .binOp .lss 3 (.tmp 12) (.tmp 15) 3, 4, "l5_store.go:128", #[⟨0, .data⟩, ⟨3, .data⟩], none⟩) (v := ?_) rfl (by kernel_rfl) (by kernel_rfl) (by kernel_rfl) (fun _ _ _ h => h) (Or.inl ⟨by rfl, ?_⟩) (by assumption) ?_
    rotate_left
    · intro wq hSw
      (try dsimp only at hSw)
      go_simp
      try with_reducible rfl
    try simp only [Act.put, qA, qB, qC]
    refine wpAnyH_take (i := 5) (oi := ⟨some 17, .move (.tmp 16), 4, "l5_store.go:128", #[⟨4, .data⟩], none⟩) (v := ?_) rfl (by kernel_rfl) (by kernel_rfl) (by kernel_rfl) (fun _ _ _ h => h) (Or.inl ⟨by rfl, ?_⟩) (by assumption) ?_
    rotate_left
    · intro wq hSw
      (try dsimp only at hSw)
      go_simp
      try with_reducible rfl
    try simp only [Act.put, qA, qB, qC]
    refine wpAnyH_take (i := 6) (oi := ⟨some 18, .fieldAddr 37 (.tmp 2) 1, 0, "l5_store.go:128", #[⟨5, .guard⟩], some (5, true)⟩) (v := undef) rfl (by kernel_rfl) (by kernel_rfl) (by kernel_rfl) (fun _ _ _ h => h) (Or.inr ⟨by rfl, rfl⟩) (by assumption) ?_
    try simp only [Act.put, qA, qB, qC]
    refine wpAnyH_take (i := 7) (oi := ⟨some 19, .load 22 (.tmp 18), 22, "l5_store.go:128", #[⟨6, .data⟩, ⟨5, .guard⟩], some (5, true)⟩) (v := undef) rfl (by kernel_rfl) (by kernel_rfl) (by kernel_rfl) (fun _ _ _ h => h) (Or.inr ⟨by rfl, rfl⟩) (by assumption) ?_
    try simp only [Act.put, qA, qB, qC]
    refine wpAnyH_take (i := 8) (oi := ⟨some 20, .move (.tmp 7), 3, "l5_store.go:128", #[⟨5, .guard⟩], some (5, true)⟩) (v := undef) rfl (by kernel_rfl) (by kernel_rfl) (by kernel_rfl) (fun _ _ _ h => h) (Or.inr ⟨by rfl, rfl⟩) (by assumption) ?_
    try simp only [Act.put, qA, qB, qC]
    refine wpAnyH_take (i := 9) (oi := ⟨some 21, .indexAddr 22 (.tmp 19) (.tmp 20), 0, "l5_store.go:128", #[⟨7, .data⟩, ⟨8, .data⟩, ⟨5, .guard⟩], some (5, true)⟩) (v := undef) rfl (by kernel_rfl) (by kernel_rfl) (by kernel_rfl) (fun _ _ _ h => h) (Or.inr ⟨by rfl, rfl⟩) (by assumption) ?_
    try simp only [Act.put, qA, qB, qC]
    refine wpAnyH_take (i := 10) (oi := ⟨some 22, .load 9 (.tmp 21), 9, "l5_store.go:128", #[⟨9, .data⟩, ⟨5, .guard⟩], some (5, true)⟩) (v := undef) rfl (by kernel_rfl) (by kernel_rfl) (by kernel_rfl) (fun _ _ _ h => h) (Or.inr ⟨by rfl, rfl⟩) (by assumption) ?_
    try simp only [Act.put, qA, qB, qC]
    refine wpAnyH_take (i := 11) (oi := ⟨some 23, .fieldAddr 37 (.tmp 2) 0, 0, "l5_store.go:128", #[⟨5, .guard⟩], some (5, true)⟩) (v := undef) rfl (by kernel_rfl) (by kernel_rfl) (by kernel_rfl) (fun _ _ _ h => h) (Or.inr ⟨by rfl, rfl⟩) (by assumption) ?_
    try simp only [Act.put, qA, qB, qC]
    refine wpAnyH_take (i := 12) (oi := ⟨some 24, .load 3 (.tmp 23), 3, "l5_store.go:128", #[⟨11, .data⟩, ⟨5, .guard⟩], some (5, true)⟩) (v := undef) rfl (by kernel_rfl) (by kernel_rfl) (by kernel_rfl) (fun _ _ _ h => h) (Or.inr ⟨by rfl, rfl⟩) (by assumption) ?_
    try simp only [Act.put, qA, qB, qC]
    refine wpAnyH_take (i := 13) (oi := ⟨some 25, .call ⟨.value (.func 47), #[.tmp 22, .tmp 24], #[9, 3]⟩, 9, "l5_store.go:128", #[⟨10, .data⟩, ⟨12, .data⟩, ⟨5, .chain⟩, ⟨5, .guard⟩], some (5, true)⟩) (v := undef) rfl (by kernel_rfl) (by kernel_rfl) (by kernel_rfl) (fun _ _ _ h => h) (Or.inr ⟨by rfl, rfl⟩) (by assumption) ?_
    try simp only [Act.put, qA, qB, qC]
    refine wpAnyH_take (i := 14) (oi := ⟨some 26, .move (.tmp 6), 9, "l5_store.go:128", #[⟨5, .guard⟩], some (5, true)⟩) (v := undef) rfl (by kernel_rfl) (by kernel_rfl) (by kernel_rfl) (fun _ _ _ h => h) (Or.inr ⟨by rfl, rfl⟩) (by assumption) ?_
    try simp only [Act.put, qA, qB, qC]
    refine wpAnyH_take (i := 15) (oi := ⟨some 27, .binOp .lss 9 (.tmp 25) (.tmp 26) 9, 4, "l5_store.go:128", #[⟨13, .data⟩, ⟨14, .data⟩, ⟨5, .guard⟩], some (5, true)⟩) (v := undef) rfl (by kernel_rfl) (by kernel_rfl) (by kernel_rfl) (fun _ _ _ h => h) (Or.inr ⟨by rfl, rfl⟩) (by assumption) ?_
    try simp only [Act.put, qA, qB, qC]
    refine wpAnyH_take (i := 16) (oi := ⟨some 28, .pick (.tmp 17) (.tmp 27) (.const (.bool false)), 4, "l5_store.go:128", #[⟨5, .data⟩, ⟨15, .data⟩], none⟩) (v := ?_) rfl (by kernel_rfl) (by kernel_rfl) (by kernel_rfl) (fun _ _ _ h => h) (Or.inl ⟨by rfl, ?_⟩) (by assumption) ?_
    rotate_left
    · intro wq hSw
      (try dsimp only at hSw)
      go_simp
      try with_reducible rfl
    try simp only [Act.put, qA, qB, qC]
    refine wpAnyH_done (by kernel_rfl) ?_ _
    clear hHeld
    go_wp2_with fail
    refine wp_region_held_drew (S := (fun u => u.cell? ⟨w.heap.size, 0, none⟩ = some (.int .i64 W) ∧ u.cell? ⟨w.heap.size, 1, none⟩ = some (.slice (some ⟨g, 0, none⟩) ts.length tc))) (by kernel_rfl) ?_ (fun hHeld => ?_)
    · exact ⟨z0, z1⟩
    refine wpAnyH_take (i := 0) (oi := ⟨some 31, .move (.tmp 7), 3, "l5_store.go:131", #[], none⟩) (v := ?_) rfl (by kernel_rfl) (by kernel_rfl) (by kernel_rfl) (fun _ _ _ h => h) (Or.inl ⟨by rfl, ?_⟩) (by assumption) ?_
    rotate_left
    · intro wq hSw
      (try dsimp only at hSw)
      go_simp
      try with_reducible rfl
    try simp only [Act.put, qA, qB, qC]
    refine wpAnyH_take (i := 1) (oi := ⟨some 32, .fieldAddr 37 (.tmp 2) 1, 0, "l5_store.go:131", #[], none⟩) (v := ?_) rfl (by kernel_rfl) (by kernel_rfl) (by kernel_rfl) (fun _ _ _ h => h) (Or.inl ⟨by rfl, ?_⟩) (by assumption) ?_
    rotate_left
    · intro wq hSw
      (try dsimp only at hSw)
      go_simp
      try with_reducible rfl
    try simp only [Act.put, qA, qB, qC]
    refine wpAnyH_take (i := 2) (oi := ⟨some 33, .load 22 (.tmp 32), 22, "l5_store.go:131", #[⟨1, .data⟩], none⟩) (v := ?_) rfl (by kernel_rfl) (by kernel_rfl) (by kernel_rfl) (fun _ _ _ h => h) (Or.inl ⟨by rfl, ?_⟩) (by assumption) ?_
    rotate_left
    · intro wq hSw
      (try dsimp only at hSw)
      go_simp
      try with_reducible rfl
    try simp only [Act.put, qA, qB, qC]
    refine wpAnyH_take (i := 3) (oi := ⟨some 34, .call ⟨.builtin .len, #[.tmp 33], #[22]⟩, 3, "l5_store.go:131", #[⟨2, .data⟩], none⟩) (v := ?_) rfl (by kernel_rfl) (by kernel_rfl) (by kernel_rfl) (fun _ _ _ h => h) (Or.inl ⟨by rfl, ?_⟩) (by assumption) ?_
    rotate_left
    · intro wq hSw
      (try dsimp only at hSw)
      go_simp
      try with_reducible rfl
    try simp only [Act.put, qA, qB, qC]
    refine wpAnyH_take (i := 4) (oi := ⟨some 35, .binOp .lss 3 (.tmp 31) (.tmp 34) 3, 4, "l5_store.go:131", #[⟨0, .data⟩, ⟨3, .data⟩], none⟩) (v := ?_) rfl (by kernel_rfl) (by kernel_rfl) (by kernel_rfl) (fun _ _ _ h => h) (Or.inl ⟨by rfl, ?_⟩) (by assumption) ?_
    rotate_left
    · intro wq hSw
      (try dsimp only at hSw)
      go_simp
      try with_reducible rfl
    try simp only [Act.put, qA, qB, qC]
    refine wpAnyH_take (i := 5) (oi := ⟨some 36, .move (.tmp 35), 4, "l5_store.go:131", #[⟨4, .data⟩], none⟩) (v := ?_) rfl (by kernel_rfl) (by kernel_rfl) (by kernel_rfl) (fun _ _ _ h => h) (Or.inl ⟨by rfl, ?_⟩) (by assumption) ?_
    rotate_left
    · intro wq hSw
      (try dsimp only at hSw)
      go_simp
      try with_reducible rfl
    try simp only [Act.put, qA, qB, qC]
    refine wpAnyH_take (i := 6) (oi := ⟨some 37, .fieldAddr 37 (.tmp 2) 1, 0, "l5_store.go:131", #[⟨5, .guard⟩], some (5, true)⟩) (v := undef) rfl (by kernel_rfl) (by kernel_rfl) (by kernel_rfl) (fun _ _ _ h => h) (Or.inr ⟨by rfl, rfl⟩) (by assumption) ?_
    try simp only [Act.put, qA, qB, qC]
    refine wpAnyH_take (i := 7) (oi := ⟨some 38, .load 22 (.tmp 37), 22, "l5_store.go:131", #[⟨6, .data⟩, ⟨5, .guard⟩], some (5, true)⟩) (v := undef) rfl (by kernel_rfl) (by kernel_rfl) (by kernel_rfl) (fun _ _ _ h => h) (Or.inr ⟨by rfl, rfl⟩) (by assumption) ?_
    try simp only [Act.put, qA, qB, qC]
    refine wpAnyH_take (i := 8) (oi := ⟨some 39, .move (.tmp 7), 3, "l5_store.go:131", #[⟨5, .guard⟩], some (5, true)⟩) (v := undef) rfl (by kernel_rfl) (by kernel_rfl) (by kernel_rfl) (fun _ _ _ h => h) (Or.inr ⟨by rfl, rfl⟩) (by assumption) ?_
    try simp only [Act.put, qA, qB, qC]
    refine wpAnyH_take (i := 9) (oi := ⟨some 40, .indexAddr 22 (.tmp 38) (.tmp 39), 0, "l5_store.go:131", #[⟨7, .data⟩, ⟨8, .data⟩, ⟨5, .guard⟩], some (5, true)⟩) (v := undef) rfl (by kernel_rfl) (by kernel_rfl) (by kernel_rfl) (fun _ _ _ h => h) (Or.inr ⟨by rfl, rfl⟩) (by assumption) ?_
    try simp only [Act.put, qA, qB, qC]
    refine wpAnyH_take (i := 10) (oi := ⟨some 41, .load 9 (.tmp 40), 9, "l5_store.go:131", #[⟨9, .data⟩, ⟨5, .guard⟩], some (5, true)⟩) (v := undef) rfl (by kernel_rfl) (by kernel_rfl) (by kernel_rfl) (fun _ _ _ h => h) (Or.inr ⟨by rfl, rfl⟩) (by assumption) ?_
    try simp only [Act.put, qA, qB, qC]
    refine wpAnyH_take (i := 11) (oi := ⟨some 42, .fieldAddr 37 (.tmp 2) 0, 0, "l5_store.go:131", #[⟨5, .guard⟩], some (5, true)⟩) (v := undef) rfl (by kernel_rfl) (by kernel_rfl) (by kernel_rfl) (fun _ _ _ h => h) (Or.inr ⟨by rfl, rfl⟩) (by assumption) ?_
    try simp only [Act.put, qA, qB, qC]
    refine wpAnyH_take (i := 12) (oi := ⟨some 43, .load 3 (.tmp 42), 3, "l5_store.go:131", #[⟨11, .data⟩, ⟨5, .guard⟩], some (5, true)⟩) (v := undef) rfl (by kernel_rfl) (by kernel_rfl) (by kernel_rfl) (fun _ _ _ h => h) (Or.inr ⟨by rfl, rfl⟩) (by assumption) ?_
    try simp only [Act.put, qA, qB, qC]
    refine wpAnyH_take (i := 13) (oi := ⟨some 44, .call ⟨.value (.func 47), #[.tmp 41, .tmp 43], #[9, 3]⟩, 9, "l5_store.go:131", #[⟨10, .data⟩, ⟨12, .data⟩, ⟨5, .chain⟩, ⟨5, .guard⟩], some (5, true)⟩) (v := undef) rfl (by kernel_rfl) (by kernel_rfl) (by kernel_rfl) (fun _ _ _ h => h) (Or.inr ⟨by rfl, rfl⟩) (by assumption) ?_
    try simp only [Act.put, qA, qB, qC]
    refine wpAnyH_take (i := 14) (oi := ⟨some 45, .move (.tmp 6), 9, "l5_store.go:131", #[⟨5, .guard⟩], some (5, true)⟩) (v := undef) rfl (by kernel_rfl) (by kernel_rfl) (by kernel_rfl) (fun _ _ _ h => h) (Or.inr ⟨by rfl, rfl⟩) (by assumption) ?_
    try simp only [Act.put, qA, qB, qC]
    refine wpAnyH_take (i := 15) (oi := ⟨some 46, .binOp .eql 9 (.tmp 44) (.tmp 45) 9, 4, "l5_store.go:131", #[⟨13, .data⟩, ⟨14, .data⟩, ⟨5, .guard⟩], some (5, true)⟩) (v := undef) rfl (by kernel_rfl) (by kernel_rfl) (by kernel_rfl) (fun _ _ _ h => h) (Or.inr ⟨by rfl, rfl⟩) (by assumption) ?_
    try simp only [Act.put, qA, qB, qC]
    refine wpAnyH_take (i := 16) (oi := ⟨some 47, .pick (.tmp 36) (.tmp 46) (.const (.bool false)), 4, "l5_store.go:131", #[⟨5, .data⟩, ⟨15, .data⟩], none⟩) (v := ?_) rfl (by kernel_rfl) (by kernel_rfl) (by kernel_rfl) (fun _ _ _ h => h) (Or.inl ⟨by rfl, ?_⟩) (by assumption) ?_
    rotate_left
    · intro wq hSw
      (try dsimp only at hSw)
      go_simp
      try with_reducible rfl
    try simp only [Act.put, qA, qB, qC]
    refine wpAnyH_done (by kernel_rfl) ?_ _
    clear hHeld
    go_wp2_with fail
    have HP : Hid (putT W t ts = (ts.take k ++ [t] ++ ts.drop k, true)) := put_new hA hk hj.out (fun h => absurd h hlt)
    refine r7 hb.drew.drew y1 OS.out hgl HC.out hk htc htm hl (by rw [sV.out]; exact Nat.le_refl _) ?_
    intro y56 y57 y58 y59 y60 y61 y62 y63 y64 y65 y66 y67 y68 y69 y70 g6 c6 E bE RE
    have hn : k + 1 + (ts.length - k) = (ts.take k ++ [t] ++ ts.drop k).length := by simp; omega
    generalize k + 1 + (ts.length - k) = n6 at *
    have HN := hidI hn
    have HRE := hidI RE
    have bS := (BS.out.below bE (by omega)).set 1 (.slice (some ⟨g6, 0, none⟩) n6 c6) (by simp)
    have w0 := bS 0 _ rfl
    have w1' := bS 1 _ rfl
    have w2 := bS 2 _ rfl
    have bz := (BZ.out.below bE (by omega)).other ⟨w.heap.size, 1, none⟩ (.slice (some ⟨g6, 0, none⟩) n6 c6) (by show w.heap.size ≠ w.heap.size + 1; omega)
    have oz := (OZ.out.below bE (by omega)).set ⟨w.heap.size, 1, none⟩ (.slice (some ⟨g6, 0, none⟩) n6 c6)
    have r0 := bz 0 _ rfl
    have r1 := bz 1 _ rfl
    have r2 := bz 2 _ rfl
    have f0 := oz 0
    have f1 := oz 1
    have f2 := oz 2
    have ZE : BlkAt ((((E.setCell ⟨w.heap.size, 1, none⟩ (.slice (some ⟨g6, 0, none⟩) n6 c6)).setCell ⟨w.heap.size + 1, 0, none⟩ (.int .i64 W)).setCell ⟨w.heap.size + 1, 1, none⟩ (.slice (some ⟨g6, 0, none⟩) n6 c6)).setCell ⟨w.heap.size + 1, 2, none⟩ (.slice ra rn rc)) (w.heap.size + 1) [.int .i64 W, .slice (some ⟨g6, 0, none⟩) n6 c6, .slice ra rn rc] := ((bz.set 0 _ (by simp)).set 1 _ (by simp)).set 2 _ (by simp)
    have e0 := ZE 0 _ rfl
    have e1 := ZE 1 _ rfl
    have e2 := ZE 2 _ rfl
    have BE : Hid (Below w.heap.size w ((((E.setCell ⟨w.heap.size, 1, none⟩ (.slice (some ⟨g6, 0, none⟩) n6 c6)).setCell ⟨w.heap.size + 1, 0, none⟩ (.int .i64 W)).setCell ⟨w.heap.size + 1, 1, none⟩ (.slice (some ⟨g6, 0, none⟩) n6 c6)).setCell ⟨w.heap.size + 1, 2, none⟩ (.slice ra rn rc))) := hidI (((((hB0.trans (bE.mono (by omega))).setCell (p := ⟨w.heap.size, 1, none⟩) (Nat.le_refl _) _).setCell (p := ⟨w.heap.size + 1, 0, none⟩) (Nat.le_succ _) _).setCell (p := ⟨w.heap.size + 1, 1, none⟩) (Nat.le_succ _) _).setCell (p := ⟨w.heap.size + 1, 2, none⟩) (Nat.le_succ _) _)
    have HOW : Hid (((((E.setCell ⟨w.heap.size, 1, none⟩ (.slice (some ⟨g6, 0, none⟩) n6 c6)).setCell ⟨w.heap.size + 1, 0, none⟩ (.int .i64 W)).setCell ⟨w.heap.size + 1, 1, none⟩ (.slice (some ⟨g6, 0, none⟩) n6 c6)).setCell ⟨w.heap.size + 1, 2, none⟩ (.slice ra rn rc)).ownsRow N 9 1 (.slice (some ⟨g6, 0, none⟩) n6 c6) n6 ((ts.take k ++ [t] ++ ts.drop k).map Value.string)) := hidI (own_low (own_set (own_set (own_set (own_set HRE.out _ _ (by show w.heap.size < w.heap.size + 2; omega)) _ _ (by show w.heap.size + 1 < w.heap.size + 2; omega)) _ _ (by show w.heap.size + 1 < w.heap.size + 2; omega)) _ _ (by show w.heap.size + 1 < w.heap.size + 2; omega)) (by omega))
    clear hn RE ZE bS bz oz
    go_wp2
    refine bodyPost_ret (v := .tuple #[.agg #[.int .i64 W, .slice (some ⟨g6, 0, none⟩) n6 c6, .slice ra rn rc], .bool true]) (by simp [results, Tryz.results25, go_sem, e0, e1, e2]) rfl ⟨⟨g6, c6, ?_, ?_⟩, BE.out⟩
    · rw [HP.out, HN.out]
    · rw [HP.out]
      have h := HOW.out
      rw [HN.out] at h
      rw [HN.out]
      exact h
end Go.Proofs.YtkhlekmicpmpkaaGreatDoor

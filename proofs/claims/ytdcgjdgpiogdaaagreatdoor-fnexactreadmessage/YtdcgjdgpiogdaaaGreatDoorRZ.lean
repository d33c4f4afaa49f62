import Derived.Test.YtdcgjdgpiogdaaaGreatDoorRY
import Derived.Deep.Heap
import Derived.Deep.RegionHeld3
namespace Go.Proofs.YtdcgjdgpiogdaaaGreatDoor
open Go.RowKit
theorem own_set {w : World} {B e size n : Nat} {v : Value} {xs : List Value} (h : w.ownsRow B e size v n xs) (p : Addr) (y : Value) (hp : p.block < B) : (w.setCell p y).ownsRow B e size v n xs := by
  refine ⟨h.1, ?_⟩
  rcases h.2 with h0 | ⟨g, cap, cur, hv, hg, hh, r⟩
  · exact .inl h0
  · refine .inr ⟨g, cap, cur, hv, hg, ?_, r⟩
    rw [Go.Deep.blk_setCell_other w p y g (by omega)]; exact hh
set_option maxHeartbeats 16000000 in
set_option maxRecDepth 100000 in
theorem c17_offer (s key : ByteArray) (w : World) (h9 : 9 ≤ s.size) (h16 : s.size ≤ 16000) (hk : key.size ≤ 1048576) (hw : wordOf ((cutS 10 (s.data.toList.drop 8)).getD 0 []) = wrdP 1) :
    Calls Tryz.prog 17 #[.string s, .string key] w fun e w' => Is17 s.data.toList key w' e ∧ Below w.heap.size w w' := by
  have hB0 : Below w.heap.size w (w.alloc (.cells zG.toArray 41)) := (Below.refl _ _).alloc (Nat.le_refl _) _
  have hsl : s.data.toList.length = s.size := by simp
  have HSL : Hid (9 ≤ s.data.toList.length) := by rw [hsl]; exact h9
  have hd8 : s.extract 8 s.size = ofL (s.data.toList.drop 8) := ext_ofL (by rw [ext_list, List.take_of_length_le (by omega)])
  have hdl : (ofL (s.data.toList.drop 8)).size = s.size - 8 := by rw [ofL_size, List.length_drop, hsl]
  have hld : (s.data.toList.drop 8).length ≤ 16000 := by rw [List.length_drop]; omega
  obtain ⟨i0, hi, hz0, hz1, hz2⟩ := info_parts info9
  have h9' : decide ((s.size : Int) < 9) = false := by simp; omega
  have h16' : decide (16000 < (s.size : Int)) = false := by simp; omega
  go_enter Tryz.func17, Tryz.ntmps17
  go_wp2_with fail
  refine (c45o (ofL (s.data.toList.drop 8)) 10 _ (by omega)).mono ?_
  rintro e w1 ⟨⟨g, cp, rfl, hown⟩, hb1⟩
  rw [ofL_list] at hown ⊢
  have hz1w : (w.alloc (.cells zG.toArray 41)).heap.size = w.heap.size + 1 := by simp
  have hown1 : w1.ownsRow (w.heap.size + 1) 9 1 (.slice (some ⟨g, 0, none⟩) (cutS 10 (s.data.toList.drop 8)).length cp) (cutS 10 (s.data.toList.drop 8)).length (strL (cutS 10 (s.data.toList.drop 8))) := by rw [← hz1w]; exact hown
  have hx1 : Below (w.heap.size + 1) (w.alloc (.cells zG.toArray 41)) w1 := hb1.mono (by simp)
  have hcl := cut_len 10 (s.data.toList.drop 8)
  have hcs := cut_small 10 (s.data.toList.drop 8)
  have hz1' : w.heap.size + 1 ≤ w1.heap.size := by have h := hx1.size; rw [hz1w] at h; exact h
  clear hown hb1 hd8 hdl
  obtain ⟨Ls, hLs⟩ : ∃ Ls, Ls = cutS 10 (s.data.toList.drop 8) := ⟨_, rfl⟩
  rw [← hLs] at hown1 hcl hcs hw ⊢
  have HLS : Hid (cutS 10 (s.data.toList.drop 8) = Ls) := hLs.symm
  have HCS : Hid (∀ k, (Ls.getD k []).length ≤ 16000) := fun k => Nat.le_trans (hcs k) hld
  obtain ⟨F, hF⟩ : ∃ F, F = Ls.getD 0 [] := ⟨_, rfl⟩
  have HF : Hid (Ls.getD 0 [] = F) := hF.symm
  have hFl : F.length ≤ 16000 := by rw [hF]; exact HCS.out 0
  rw [← hF] at hw
  clear hF hLs hcs
  have hcl1 : 1 ≤ Ls.length := hcl.1
  have hcl2 : Ls.length ≤ 16001 := by have := hcl.2; omega
  clear hcl hld
  generalize ofL (s.data.toList.drop 8) = bd at *
  go_wp2_with (at_builtin; refine wpList_append_own _ rfl _ _ 80 rfl (w.heap.size + 1) 9 i0 (.string ⟨#[]⟩) 1 16 Tryz.underlying80 hi hz0 hz1 hz2 rfl (by decide) _ _ _ rfl (hown1.alloc _) ⟨w1.heap.size, 0, none⟩ 1 1 [_] rfl rfl (cell_one_new _ _ _) (by intro u hu; simp at hu; subst hu; rfl) (by unfold maxLen; omega) (by omega) (by simp; omega) ?_; intro v' w2 hown2 hgrow _; have hx2 : Below (w.heap.size + 1) (w.alloc (.cells zG.toArray 41)) w2 := (hx1.alloc (by omega) _).grown hgrow (by simp; omega) (fun j hj => (hown1.lt j hj).1); have hz2w : w1.heap.size < w2.heap.size := (by have := hgrow.size; simp at this; omega); clear hgrow hown1; obtain ⟨g2, cp2, hvv⟩ := own_formF hown2 (by omega); subst hvv; have hl2 : LinesAt w2 g2 (Ls ++ [[]]) := lines_of_owns (by rw [strL_snoc]; exact hown2) (by simp); have c0 : w2.cell? ⟨g2, 0, none⟩ = some (.string (ofL F)) := (hl2.2 0 (by simp)).trans (by rw [← HF.out]; cases Ls with | nil => simp at hcl1 | cons a r => rfl); have c0a := past (p := ⟨g2, 0, none⟩) hl2.1 c0; have HG2 : Hid (w.heap.size + 1 ≤ g2 ∧ g2 < w2.heap.size) := (hown2.lt g2 rfl); have HL2 : Hid (LinesAt w2 g2 (Ls ++ [[]])) := hl2; clear hl2 hown2)
  refine (c46o F _ (by omega) 6 (by omega) (by omega)).mono ?_
  rintro e w3 ⟨⟨g3, cp3, rfl, hg3, hl3⟩, hb3⟩
  have hz2a : (w2.alloc (.cells #[.int .i64 0, .int .i64 0, .int .i64 0, .int .i64 0, .int .i64 0, .string ⟨#[]⟩, .string ⟨#[]⟩, .string ⟨#[]⟩, .slice none 0 0, .int .i64 0, .bool false, .int .i64 0, .string ⟨#[]⟩, .bool false, .string ⟨#[]⟩, .int .i64 0] 41)).heap.size = w2.heap.size + 1 := by simp
  have hz23 : w2.heap.size + 1 ≤ w3.heap.size := by have h := hb3.size; rw [hz2a] at h; exact h
  have hb23 : Below w2.heap.size w2 w3 := ((Below.refl _ _).alloc (Nat.le_refl _) _).trans (hb3.mono (by rw [hz2a]; omega))
  have hx3 : Below (w.heap.size + 1) (w.alloc (.cells zG.toArray 41)) w3 := hx2.trans (hb23.mono (by omega))
  obtain ⟨bR, oR⟩ := blk_keep (vs := zG) hx3
  have bM : BlkAt w3 w2.heap.size zG := BlkAt.below (blk_new w2 zG 41) hb3 (by rw [hz2a]; omega)
  have oM : OpnAt w3 w2.heap.size := OpnAt.below (opn_new w2 _ 41) hb3 (by rw [hz2a]; omega)
  have hL3 : Hid (LinesAt w3 g2 (Ls ++ [[]])) := lines_below HL2.out hb23
  have hB3 : Below w.heap.size w w3 := hB0.trans (hx3.mono (by omega))
  have hg3a : w2.heap.size < g3 := by rw [hz2a] at hg3; omega
  have hg3b : g3 < w3.heap.size := hl3.1
  have hg2a : w.heap.size < g2 ∧ g2 < w2.heap.size := ⟨by have := HG2.out.1; omega, HG2.out.2⟩
  have d0 : w3.cell? ⟨g3, 0, none⟩ = some (.string (ofL (wordOf (restN F 0)))) := hl3.2 0 (by simp [wordsN])
  have d1 : w3.cell? ⟨g3, 1, none⟩ = some (.string (ofL (wordOf (restN F 1)))) := hl3.2 1 (by simp [wordsN])
  have d2 : w3.cell? ⟨g3, 2, none⟩ = some (.string (ofL (wordOf (restN F 2)))) := hl3.2 2 (by simp [wordsN])
  have d3 : w3.cell? ⟨g3, 3, none⟩ = some (.string (ofL (wordOf (restN F 3)))) := hl3.2 3 (by simp [wordsN])
  have d4 : w3.cell? ⟨g3, 4, none⟩ = some (.string (ofL (wordOf (restN F 4)))) := hl3.2 4 (by simp [wordsN])
  have d5 : w3.cell? ⟨g3, 5, none⟩ = some (.string (ofL (wordOf (restN F 5)))) := hl3.2 5 (by simp [wordsN])
  have hRB : w.heap.size < w2.heap.size := by omega
  have hMz : w2.heap.size < w3.heap.size := by omega
  have hrl := restN_len F
  clear HL2 hl3 hg3 hb3 hb23 hx2 hx3 hx1 HG2 hz2a c0 c0a hz2w hz1' hz1w hz23
  generalize w2.heap.size = Bm at *
  have HW : Hid (wordOf F = wrdP 1) := hw
  have hes : ofL (wordOf (restN F 0)) = ⟨#[111, 102, 102, 101, 114]⟩ := by
    show ofL (wordOf F) = _
    rw [hw]; rfl
  rw [hes] at d0
  clear hw hes
  have a1 : (wordOf (restN F 1)).length ≤ 16000 := by have h1 := (rest_small (restN F 1)).1; have h2 := hrl 1; omega
  have a2 : (wordOf (restN F 2)).length ≤ 16000 := by have h1 := (rest_small (restN F 2)).1; have h2 := hrl 2; omega
  have a3 : (wordOf (restN F 3)).length ≤ 16000 := by have h1 := (rest_small (restN F 3)).1; have h2 := hrl 3; omega
  have a4 : (wordOf (restN F 4)).length ≤ 16000 := by have h1 := (rest_small (restN F 4)).1; have h2 := hrl 4; omega
  have a5 : (wordOf (restN F 5)).length ≤ 16000 := by have h1 := (rest_small (restN F 5)).1; have h2 := hrl 5; omega
  have a6 : (restN F 6).length ≤ 16000 := by have h2 := hrl 6; omega
  clear hrl
  obtain ⟨j0, hj, hy0, hy1, hy2⟩ := info_parts info87
  have HXg := fun t xs ht hl => lsM_offer (l := s.data.toList) (F := F) (t := t) (xs := xs) (by rw [HLS.out]; exact HF.out) HW.out ht (by rw [HLS.out]; exact hl)
  have HTl : Hid (∀ k, ((Ls ++ [[]]).getD k []).length ≤ 16000) := fun k => by
    rcases Nat.lt_or_ge k Ls.length with h1 | h1
    · have : (Ls ++ [[]]).getD k [] = Ls.getD k [] := by
        simp only [List.getD_eq_getElem?_getD]
        rw [List.getElem?_append_left h1]
      rw [this]; exact HCS.out k
    · have : (Ls ++ [[]]).getD k [] = [] := by
        simp only [List.getD_eq_getElem?_getD]
        rw [List.getElem?_append_right h1]
        cases (k - Ls.length) <;> rfl
      rw [this]; simp
  generalize wordOf (restN F 1) = A1 at *
  generalize wordOf (restN F 2) = A2 at *
  generalize wordOf (restN F 3) = A3 at *
  generalize wordOf (restN F 4) = A4 at *
  generalize wordOf (restN F 5) = A5 at *
  generalize restN F 6 = A6 at *
  clear HF HLS HCS
  go_wp2_with fail
  refine wp_region_held_drew (S := (fun u => u.cell? ⟨g3, 1, none⟩ = some (.string (ofL A1)) ∧ u.cell? ⟨g3, 2, none⟩ = some (.string (ofL A2)) ∧ u.cell? ⟨g3, 3, none⟩ = some (.string (ofL A3)) ∧ u.cell? ⟨g3, 4, none⟩ = some (.string (ofL A4)) ∧ u.cell? ⟨g3, 5, none⟩ = some (.string (ofL A5)))) (by kernel_rfl) ?_ (fun hHeld => ?_)
  · exact ⟨d1, d2, d3, d4, d5⟩
  refine wpAnyH_take (i := 0) (oi := { dst := some 42, op := Op.move (Operand.tmp 8), type := 80, pos := "l7_mail.go:72", after := #[], guard := none }) (v := ?_) rfl (by kernel_rfl) (by kernel_rfl) (by kernel_rfl) (fun _ _ _ h => h) (Or.inl ⟨by rfl, ?_⟩) (by assumption) ?_
  rotate_left
  · intro wq hSw
    (try dsimp only at hSw)
    go_simp
    try with_reducible rfl
  try simp only [Act.put, List.setIfInBounds_toArray, List.set_cons_zero, List.set_cons_succ]
  refine wpAnyH_take (i := 1) (oi := { dst := some 43, op := Op.indexAddr 80 (Operand.tmp 42) (Operand.const (Value.int IntKind.i64 1)), type := 0, pos := "l7_mail.go:72", after := #[{ on := 0, ground := Ground.data }], guard := none }) (v := ?_) rfl (by kernel_rfl) (by kernel_rfl) (by kernel_rfl) (fun _ _ _ h => h) (Or.inl ⟨by rfl, ?_⟩) (by assumption) ?_
  rotate_left
  · intro wq hSw
    (try dsimp only at hSw)
    go_simp
    try with_reducible rfl
  try simp only [Act.put, List.setIfInBounds_toArray, List.set_cons_zero, List.set_cons_succ]
  refine wpAnyH_take (i := 2) (oi := { dst := some 44, op := Op.load 9 (Operand.tmp 43), type := 9, pos := "l7_mail.go:72", after := #[{ on := 1, ground := Ground.data }], guard := none }) (v := ?_) rfl (by kernel_rfl) (by kernel_rfl) (by kernel_rfl) (fun _ _ _ h => h) (Or.inl ⟨by rfl, ?_⟩) (by assumption) ?_
  rotate_left
  · intro wq hSw
    (try dsimp only at hSw)
    go_simp
    try with_reducible rfl
  try simp only [Act.put, List.setIfInBounds_toArray, List.set_cons_zero, List.set_cons_succ]
  refine wpAnyH_take (i := 4) (oi := { dst := some 46, op := Op.move (Operand.tmp 8), type := 80, pos := "l7_mail.go:72", after := #[], guard := none }) (v := ?_) rfl (by kernel_rfl) (by kernel_rfl) (by kernel_rfl) (fun _ _ _ h => h) (Or.inl ⟨by rfl, ?_⟩) (by assumption) ?_
  rotate_left
  · intro wq hSw
    (try dsimp only at hSw)
    go_simp
    try with_reducible rfl
  try simp only [Act.put, List.setIfInBounds_toArray, List.set_cons_zero, List.set_cons_succ]
  refine wpAnyH_take (i := 5) (oi := { dst := some 47, op := Op.indexAddr 80 (Operand.tmp 46) (Operand.const (Value.int IntKind.i64 2)), type := 0, pos := "l7_mail.go:72", after := #[{ on := 4, ground := Ground.data }], guard := none }) (v := ?_) rfl (by kernel_rfl) (by kernel_rfl) (by kernel_rfl) (fun _ _ _ h => h) (Or.inl ⟨by rfl, ?_⟩) (by assumption) ?_
  rotate_left
  · intro wq hSw
    (try dsimp only at hSw)
    go_simp
    try with_reducible rfl
  try simp only [Act.put, List.setIfInBounds_toArray, List.set_cons_zero, List.set_cons_succ]
  refine wpAnyH_take (i := 6) (oi := { dst := some 48, op := Op.load 9 (Operand.tmp 47), type := 9, pos := "l7_mail.go:72", after := #[{ on := 5, ground := Ground.data }], guard := none }) (v := ?_) rfl (by kernel_rfl) (by kernel_rfl) (by kernel_rfl) (fun _ _ _ h => h) (Or.inl ⟨by rfl, ?_⟩) (by assumption) ?_
  rotate_left
  · intro wq hSw
    (try dsimp only at hSw)
    go_simp
    try with_reducible rfl
  try simp only [Act.put, List.setIfInBounds_toArray, List.set_cons_zero, List.set_cons_succ]
  refine wpAnyH_take (i := 8) (oi := { dst := some 50, op := Op.move (Operand.tmp 8), type := 80, pos := "l7_mail.go:72", after := #[], guard := none }) (v := ?_) rfl (by kernel_rfl) (by kernel_rfl) (by kernel_rfl) (fun _ _ _ h => h) (Or.inl ⟨by rfl, ?_⟩) (by assumption) ?_
  rotate_left
  · intro wq hSw
    (try dsimp only at hSw)
    go_simp
    try with_reducible rfl
  try simp only [Act.put, List.setIfInBounds_toArray, List.set_cons_zero, List.set_cons_succ]
  refine wpAnyH_take (i := 9) (oi := { dst := some 51, op := Op.indexAddr 80 (Operand.tmp 50) (Operand.const (Value.int IntKind.i64 3)), type := 0, pos := "l7_mail.go:72", after := #[{ on := 8, ground := Ground.data }], guard := none }) (v := ?_) rfl (by kernel_rfl) (by kernel_rfl) (by kernel_rfl) (fun _ _ _ h => h) (Or.inl ⟨by rfl, ?_⟩) (by assumption) ?_
  rotate_left
  · intro wq hSw
    (try dsimp only at hSw)
    go_simp
    try with_reducible rfl
  try simp only [Act.put, List.setIfInBounds_toArray, List.set_cons_zero, List.set_cons_succ]
  refine wpAnyH_take (i := 10) (oi := { dst := some 52, op := Op.load 9 (Operand.tmp 51), type := 9, pos := "l7_mail.go:72", after := #[{ on := 9, ground := Ground.data }], guard := none }) (v := ?_) rfl (by kernel_rfl) (by kernel_rfl) (by kernel_rfl) (fun _ _ _ h => h) (Or.inl ⟨by rfl, ?_⟩) (by assumption) ?_
  rotate_left
  · intro wq hSw
    (try dsimp only at hSw)
    go_simp
    try with_reducible rfl
  try simp only [Act.put, List.setIfInBounds_toArray, List.set_cons_zero, List.set_cons_succ]
  refine wpAnyH_take (i := 12) (oi := { dst := some 54, op := Op.move (Operand.tmp 8), type := 80, pos := "l7_mail.go:72", after := #[], guard := none }) (v := ?_) rfl (by kernel_rfl) (by kernel_rfl) (by kernel_rfl) (fun _ _ _ h => h) (Or.inl ⟨by rfl, ?_⟩) (by assumption) ?_
  rotate_left
  · intro wq hSw
    (try dsimp only at hSw)
    go_simp
    try with_reducible rfl
  try simp only [Act.put, List.setIfInBounds_toArray, List.set_cons_zero, List.set_cons_succ]
  refine wpAnyH_take (i := 13) (oi := { dst := some 55, op := Op.indexAddr 80 (Operand.tmp 54) (Operand.const (Value.int IntKind.i64 4)), type := 0, pos := "l7_mail.go:72", after := #[{ on := 12, ground := Ground.data }], guard := none }) (v := ?_) rfl (by kernel_rfl) (by kernel_rfl) (by kernel_rfl) (fun _ _ _ h => h) (Or.inl ⟨by rfl, ?_⟩) (by assumption) ?_
  rotate_left
  · intro wq hSw
    (try dsimp only at hSw)
    go_simp
    try with_reducible rfl
  try simp only [Act.put, List.setIfInBounds_toArray, List.set_cons_zero, List.set_cons_succ]
  refine wpAnyH_take (i := 14) (oi := { dst := some 56, op := Op.load 9 (Operand.tmp 55), type := 9, pos := "l7_mail.go:72", after := #[{ on := 13, ground := Ground.data }], guard := none }) (v := ?_) rfl (by kernel_rfl) (by kernel_rfl) (by kernel_rfl) (fun _ _ _ h => h) (Or.inl ⟨by rfl, ?_⟩) (by assumption) ?_
  rotate_left
  · intro wq hSw
    (try dsimp only at hSw)
    go_simp
    try with_reducible rfl
  try simp only [Act.put, List.setIfInBounds_toArray, List.set_cons_zero, List.set_cons_succ]
  refine wpAnyH_take (i := 15) (oi := { dst := some 57, op := Op.move (Operand.tmp 8), type := 80, pos := "l7_mail.go:72", after := #[], guard := none }) (v := ?_) rfl (by kernel_rfl) (by kernel_rfl) (by kernel_rfl) (fun _ _ _ h => h) (Or.inl ⟨by rfl, ?_⟩) (by assumption) ?_
  rotate_left
  · intro wq hSw
    (try dsimp only at hSw)
    go_simp
    try with_reducible rfl
  try simp only [Act.put, List.setIfInBounds_toArray, List.set_cons_zero, List.set_cons_succ]
  refine wpAnyH_take (i := 16) (oi := { dst := some 58, op := Op.indexAddr 80 (Operand.tmp 57) (Operand.const (Value.int IntKind.i64 5)), type := 0, pos := "l7_mail.go:72", after := #[{ on := 15, ground := Ground.data }], guard := none }) (v := ?_) rfl (by kernel_rfl) (by kernel_rfl) (by kernel_rfl) (fun _ _ _ h => h) (Or.inl ⟨by rfl, ?_⟩) (by assumption) ?_
  rotate_left
  · intro wq hSw
    (try dsimp only at hSw)
    go_simp
    try with_reducible rfl
  try simp only [Act.put, List.setIfInBounds_toArray, List.set_cons_zero, List.set_cons_succ]
  refine wpAnyH_take (i := 17) (oi := { dst := some 59, op := Op.load 9 (Operand.tmp 58), type := 9, pos := "l7_mail.go:72", after := #[{ on := 16, ground := Ground.data }], guard := none }) (v := ?_) rfl (by kernel_rfl) (by kernel_rfl) (by kernel_rfl) (fun _ _ _ h => h) (Or.inl ⟨by rfl, ?_⟩) (by assumption) ?_
  rotate_left
  · intro wq hSw
    (try dsimp only at hSw)
    go_simp
    try with_reducible rfl
  try simp only [Act.put, List.setIfInBounds_toArray, List.set_cons_zero, List.set_cons_succ]
  refine wpAnyH_take (i := 18) (oi := { dst := some 60, op := Op.move (Operand.tmp 9), type := 9, pos := "l7_mail.go:72", after := #[], guard := none }) (v := ?_) rfl (by kernel_rfl) (by kernel_rfl) (by kernel_rfl) (fun _ _ _ h => h) (Or.inl ⟨by rfl, ?_⟩) (by assumption) ?_
  rotate_left
  · intro wq hSw
    (try dsimp only at hSw)
    go_simp
    try with_reducible rfl
  try simp only [Act.put, List.setIfInBounds_toArray, List.set_cons_zero, List.set_cons_succ]
  refine wpAnyH_ready (rs := [3]) (by kernel_rfl) (by simp) ?_
  refine AllReadyH.cons (o := { dst := some 45, op := Op.call { callee := Callee.value (Operand.func 47), args := #[Operand.tmp 44], argTypes := #[9] }, type := 3, pos := "l7_mail.go:72", after := #[{ on := 2, ground := Ground.data }], guard := none }) rfl (fun K hK => ?_) AllReadyH.nil
  go_simp
  refine (c47l A1 _ (by omega)).mono ?_
  rintro e p1 ⟨rfl, hbn⟩
  have hbc : Below w3.heap.size w3 p1 := ((Below.refl _ _).drew).trans hbn
  clear hbn
  go_wp2_with fail
  clear hHeld
  refine hK.out _ _ ?_ (fun hHeld => ?_)
  · exact ⟨(hbc.cell (p := ⟨g3, 1, none⟩) hg3b).trans d1, (hbc.cell (p := ⟨g3, 2, none⟩) hg3b).trans d2, (hbc.cell (p := ⟨g3, 3, none⟩) hg3b).trans d3, (hbc.cell (p := ⟨g3, 4, none⟩) hg3b).trans d4, (hbc.cell (p := ⟨g3, 5, none⟩) hg3b).trans d5⟩
  clear hK K
  try simp only [Act.put, List.setIfInBounds_toArray, List.set_cons_zero, List.set_cons_succ]
  refine wpAnyH_ready (rs := [7]) (by kernel_rfl) (by simp) ?_
  refine AllReadyH.cons (o := { dst := some 49, op := Op.call { callee := Callee.value (Operand.func 47), args := #[Operand.tmp 48], argTypes := #[9] }, type := 3, pos := "l7_mail.go:72", after := #[{ on := 6, ground := Ground.data }, { on := 3, ground := Ground.chain }], guard := none }) rfl (fun K hK => ?_) AllReadyH.nil
  go_simp
  refine (c47l A2 _ (by omega)).mono ?_
  rintro e p2 ⟨rfl, hbn⟩
  have hbc : Below w3.heap.size w3 p2 := hbc.trans (hbn.mono hbc.size)
  clear hbn
  go_wp2_with fail
  clear hHeld
  refine hK.out _ _ ?_ (fun hHeld => ?_)
  · exact ⟨(hbc.cell (p := ⟨g3, 1, none⟩) hg3b).trans d1, (hbc.cell (p := ⟨g3, 2, none⟩) hg3b).trans d2, (hbc.cell (p := ⟨g3, 3, none⟩) hg3b).trans d3, (hbc.cell (p := ⟨g3, 4, none⟩) hg3b).trans d4, (hbc.cell (p := ⟨g3, 5, none⟩) hg3b).trans d5⟩
  clear hK K
  try simp only [Act.put, List.setIfInBounds_toArray, List.set_cons_zero, List.set_cons_succ]
  refine wpAnyH_ready (rs := [11]) (by kernel_rfl) (by simp) ?_
  refine AllReadyH.cons (o := { dst := some 53, op := Op.call { callee := Callee.value (Operand.func 47), args := #[Operand.tmp 52], argTypes := #[9] }, type := 3, pos := "l7_mail.go:72", after := #[{ on := 10, ground := Ground.data }, { on := 7, ground := Ground.chain }], guard := none }) rfl (fun K hK => ?_) AllReadyH.nil
  go_simp
  refine (c47l A3 _ (by omega)).mono ?_
  rintro e p3 ⟨rfl, hbn⟩
  have hbc : Below w3.heap.size w3 p3 := hbc.trans (hbn.mono hbc.size)
  clear hbn
  go_wp2_with fail
  clear hHeld
  refine hK.out _ _ ?_ (fun hHeld => ?_)
  · exact ⟨(hbc.cell (p := ⟨g3, 1, none⟩) hg3b).trans d1, (hbc.cell (p := ⟨g3, 2, none⟩) hg3b).trans d2, (hbc.cell (p := ⟨g3, 3, none⟩) hg3b).trans d3, (hbc.cell (p := ⟨g3, 4, none⟩) hg3b).trans d4, (hbc.cell (p := ⟨g3, 5, none⟩) hg3b).trans d5⟩
  clear hK K
  try simp only [Act.put, List.setIfInBounds_toArray, List.set_cons_zero, List.set_cons_succ]
  refine wpAnyH_ready (rs := [19]) (by kernel_rfl) (by simp) ?_
  refine AllReadyH.cons (o := { dst := some 61, op := Op.call { callee := Callee.value (Operand.func 48), args := #[Operand.tmp 60], argTypes := #[9] }, type := 9, pos := "l7_mail.go:72", after := #[{ on := 18, ground := Ground.data }, { on := 11, ground := Ground.chain }], guard := none }) rfl (fun K hK => ?_) AllReadyH.nil
  go_simp
  refine (c48l A6 _ (by omega)).mono ?_
  rintro e w4 ⟨⟨t, rfl, htl, htq⟩, hbn⟩
  have hbc : Below w3.heap.size w3 w4 := hbc.trans (hbn.mono hbc.size)
  have HTQ : Hid (∀ q, A6 = quoteL q → t = q) := htq
  clear hbn htq
  go_wp2_with fail
  clear hHeld
  refine hK.out _ _ ?_ (fun hHeld => ?_)
  · exact ⟨(hbc.cell (p := ⟨g3, 1, none⟩) hg3b).trans d1, (hbc.cell (p := ⟨g3, 2, none⟩) hg3b).trans d2, (hbc.cell (p := ⟨g3, 3, none⟩) hg3b).trans d3, (hbc.cell (p := ⟨g3, 4, none⟩) hg3b).trans d4, (hbc.cell (p := ⟨g3, 5, none⟩) hg3b).trans d5⟩
  clear hK K
  try simp only [Act.put, List.setIfInBounds_toArray, List.set_cons_zero, List.set_cons_succ]
  refine wpAnyH_take (i := 20) (oi := { dst := some 62, op := Op.build 35 #[(0, Operand.tmp 56), (1, Operand.tmp 59), (2, Operand.tmp 61)], type := 35, pos := "l7_mail.go:72", after := #[{ on := 14, ground := Ground.data }, { on := 17, ground := Ground.data }, { on := 19, ground := Ground.data }], guard := none }) (v := ?_) rfl (by kernel_rfl) (by kernel_rfl) (by kernel_rfl) (fun _ _ _ h => h) (Or.inl ⟨by rfl, ?_⟩) (by assumption) ?_
  rotate_left
  · intro wq hSw
    (try dsimp only at hSw)
    go_simp
    try with_reducible rfl
  try simp only [Act.put, List.setIfInBounds_toArray, List.set_cons_zero, List.set_cons_succ]
  refine wpAnyH_take (i := 21) (oi := { dst := some 63, op := Op.build 41 #[(0, Operand.const (Value.int IntKind.i64 1)), (1, Operand.tmp 45), (3, Operand.tmp 49), (4, Operand.tmp 53), (5, Operand.tmp 62)], type := 41, pos := "l7_mail.go:72", after := #[{ on := 3, ground := Ground.data }, { on := 7, ground := Ground.data }, { on := 11, ground := Ground.data }, { on := 20, ground := Ground.data }], guard := none }) (v := ?_) rfl (by kernel_rfl) (by kernel_rfl) (by kernel_rfl) (fun _ _ _ h => h) (Or.inl ⟨by rfl, ?_⟩) (by assumption) ?_
  rotate_left
  · intro wq hSw
    (try dsimp only at hSw)
    go_simp
    try with_reducible rfl
  try simp only [Act.put, List.setIfInBounds_toArray, List.set_cons_zero, List.set_cons_succ]
  have bM4 := BlkAt.below bM hbc hMz
  have oM4 := OpnAt.below oM hbc hMz
  refine wpAnyH_ready (rs := [22]) (by kernel_rfl) (by simp) ?_
  refine AllReadyH.cons (o := { dst := none, op := Op.store 41 (Operand.tmp 7) (Operand.tmp 63), type := 0, pos := "l7_mail.go:72", after := #[{ on := 21, ground := Ground.data }, { on := 19, ground := Ground.chain }, { on := 0, ground := Ground.phase }, { on := 1, ground := Ground.phase }, { on := 2, ground := Ground.phase }, { on := 3, ground := Ground.phase }, { on := 4, ground := Ground.phase }, { on := 5, ground := Ground.phase }, { on := 6, ground := Ground.phase }, { on := 7, ground := Ground.phase }, { on := 8, ground := Ground.phase }, { on := 9, ground := Ground.phase }, { on := 10, ground := Ground.phase }, { on := 11, ground := Ground.phase }, { on := 12, ground := Ground.phase }, { on := 13, ground := Ground.phase }, { on := 14, ground := Ground.phase }, { on := 15, ground := Ground.phase }, { on := 16, ground := Ground.phase }, { on := 17, ground := Ground.phase }, { on := 18, ground := Ground.phase }, { on := 19, ground := Ground.phase }, { on := 20, ground := Ground.phase }, { on := 21, ground := Ground.phase }], guard := none }) rfl (fun K hK => ?_) AllReadyH.nil
  refine step_store_blk rfl 41 (.tmp 7) (.tmp 63) rfl Bm 0 rfl ((offerG (n29 A1) (n29 A2) (n29 A3) ⟨ofL A4, ofL A5, ofL t⟩ []).c none 0) rfl (blk_some bM4 _ rfl) oM4 (G16.c_one _ _ _) (by kernel_rfl) rfl ?_
  clear hHeld
  refine hK.out _ _ ?_ (fun hHeld => ?_)
  · exact ⟨(cell_fill _ 0 ⟨g3, 1, none⟩ (by show g3 ≠ Bm; omega)).trans ((hbc.cell (p := ⟨g3, 1, none⟩) hg3b).trans d1), (cell_fill _ 0 ⟨g3, 2, none⟩ (by show g3 ≠ Bm; omega)).trans ((hbc.cell (p := ⟨g3, 2, none⟩) hg3b).trans d2), (cell_fill _ 0 ⟨g3, 3, none⟩ (by show g3 ≠ Bm; omega)).trans ((hbc.cell (p := ⟨g3, 3, none⟩) hg3b).trans d3), (cell_fill _ 0 ⟨g3, 4, none⟩ (by show g3 ≠ Bm; omega)).trans ((hbc.cell (p := ⟨g3, 4, none⟩) hg3b).trans d4), (cell_fill _ 0 ⟨g3, 5, none⟩ (by show g3 ≠ Bm; omega)).trans ((hbc.cell (p := ⟨g3, 5, none⟩) hg3b).trans d5)⟩
  clear hK K
  try simp only [Act.put, List.setIfInBounds_toArray, List.set_cons_zero, List.set_cons_succ]
  refine wpAnyH_done (by kernel_rfl) ?_ _
  clear hHeld
  have hz4 : w3.heap.size ≤ w4.heap.size := hbc.size
  have bR4 := BlkAt.below bR hbc (by omega)
  have oR4 := OpnAt.below oR hbc (by omega)
  have hB4 : Below w.heap.size w w4 := hB3.trans (hbc.mono hB3.size)
  have hL4 := lines_below hL3.out hbc
  have bM5 : BlkAt (fill w4 Bm 0 ((offerG (n29 A1) (n29 A2) (n29 A3) ⟨ofL A4, ofL A5, ofL t⟩ []).c none 0)) Bm ((offerG (n29 A1) (n29 A2) (n29 A3) ⟨ofL A4, ofL A5, ofL t⟩ []).c none 0) := BlkAt.fill (B := Bm) _ [] zG [] 0 bM4 rfl rfl
  have oM5 : OpnAt (fill w4 Bm 0 ((offerG (n29 A1) (n29 A2) (n29 A3) ⟨ofL A4, ofL A5, ofL t⟩ []).c none 0)) Bm := OpnAt.fill _ 0 oM4
  have bR5 : BlkAt (fill w4 Bm 0 ((offerG (n29 A1) (n29 A2) (n29 A3) ⟨ofL A4, ofL A5, ofL t⟩ []).c none 0)) w.heap.size zG := BlkAt.fillO (by omega) _ 0 bR4
  have oR5 : OpnAt (fill w4 Bm 0 ((offerG (n29 A1) (n29 A2) (n29 A3) ⟨ofL A4, ofL A5, ofL t⟩ []).c none 0)) w.heap.size := OpnAt.fill _ 0 oR4
  have hB5 : Below w.heap.size w (fill w4 Bm 0 ((offerG (n29 A1) (n29 A2) (n29 A3) ⟨ofL A4, ofL A5, ofL t⟩ []).c none 0)) := below_fill (by omega) _ 0 hB4
  have hz5 : (fill w4 Bm 0 ((offerG (n29 A1) (n29 A2) (n29 A3) ⟨ofL A4, ofL A5, ofL t⟩ []).c none 0)).heap.size = w4.heap.size := size_fill _ _
  have hL5 : LinesAt (fill w4 Bm 0 ((offerG (n29 A1) (n29 A2) (n29 A3) ⟨ofL A4, ofL A5, ofL t⟩ []).c none 0)) g2 (Ls ++ [[]]) := ⟨by rw [hz5]; exact hL4.1, fun i hi => (cell_fill _ 0 ⟨g2, i, none⟩ (by show g2 ≠ Bm; omega)).trans (hL4.2 i hi)⟩
  have hg2z : g2 < w4.heap.size := by omega
  have hMz4 : Bm < w4.heap.size := by omega
  clear hbc bM4 oM4 bM oM bR oR bR4 oR4 d0 d1 d2 d3 d4 d5 hL3 hL4
  rw [← hz5] at hg2z hMz4
  clear hz5
  generalize fill w4 Bm 0 ((offerG (n29 A1) (n29 A2) (n29 A3) ⟨ofL A4, ofL A5, ofL t⟩ []).c none 0) = w5 at *
  obtain ⟨B5, hB5e⟩ : ∃ B5, B5 = w5.heap.size := ⟨_, rfl⟩
  have hMB : Bm < B5 := by omega
  have hgB : g2 < B5 := by omega
  have hRB5 : w.heap.size < B5 := by omega
  go_wp2_with fail
  go_loopw [10] (fun i wr => ∃ (k : Nat) (xs : List L4) (v : Value), (1 ≤ k ∧ k ≤ Ls.length + 1 ∧ xs.length ≤ k) ∧ i = .int .i64 k ∧ wr.ownsRow B5 87 4 v xs.length (lkC xs) ∧ BlkAt wr Bm [.int .i64 1, .int .i64 (n29 A1), .int .i64 0, .int .i64 (n29 A2), .int .i64 (n29 A3), .string (ofL A4), .string (ofL A5), .string (ofL t), v, .int .i64 0, .bool false, .int .i64 0, .string ⟨#[]⟩, .bool false, .string ⟨#[]⟩, .int .i64 0] ∧ OpnAt wr Bm ∧ BlkAt wr w.heap.size zG ∧ OpnAt wr w.heap.size ∧ LinesAt wr g2 (Ls ++ [[]]) ∧ Below w.heap.size w wr ∧ B5 ≤ wr.heap.size ∧ Hid (LkSo (Ls ++ [[]]) k xs ∧ ∀ j, (xs.getD j l4z).le 1048576)) (fun i _ => Ls.length + 1 - (intOf i).toNat)
  case atStart => exact ⟨1, [], .slice none 0 0, ⟨Nat.le_refl _, by omega, Nat.zero_le _⟩, rfl, ⟨rfl, .inl ⟨rfl, rfl⟩⟩, bM5, oM5, bR5, oR5, hL5, hB5, by omega, ⟨lkSo_start _, fun _ => ⟨Nat.zero_le _, Nat.zero_le _⟩⟩⟩
  case round =>
    clear bM5 oM5 bR5 oR5 hL5 hB5 hB5e
    obtain ⟨k, xs, v, ⟨hk1, hk2, hk3⟩, rfl, hown, bM, oM, bR, oR, hL, hB, hz, hso⟩ := hrel
    by_cases hlt : k < Ls.length + 1
    · have ck : wr.cell? ⟨g2, k, none⟩ = some (.string (ofL ((Ls ++ [[]]).getD k []))) := hL.2 k (by simp; omega)
      have hT := HTl.out k
      have hST := fun x ok h => lkSo_step (x := x) (ok := ok) hso.out.1 hk1 (by simp; omega) h
      generalize (Ls ++ [[]]).getD k [] = T at *
      go_wp2_with fail
      refine (c49 T _ hT).mono ?_
      rintro e w6 ⟨⟨x, ok, rfl, hls, hxle⟩, hb6⟩
      have HST := hST x ok hls
      have hown6 : w6.ownsRow B5 87 4 v xs.length (lkC xs) := own_under hown hb6
      have hz6 : wr.heap.size ≤ w6.heap.size := hb6.size
      have hb6' : Below B5 wr w6 := hb6.mono hz
      have hB6 : Below w.heap.size w w6 := hB.trans (hb6.mono hB.size)
      have oa : ∀ o, Below B5 wr (w6.alloc o) := fun o => hb6'.alloc (by omega) o
      clear hST hls hb6 hown
      unfold L4.v
      cases ok
      · have HSO : Hid (LkSo (Ls ++ [[]]) (k + 1) xs ∧ ∀ j, (xs.getD j l4z).le 1048576) := ⟨HST, hso.out.2⟩
        clear HST hso
        go_wp2
        go_roundw
        case rel => exact ⟨k + 1, xs, v, ⟨by omega, by omega, by omega⟩, by go_num, hown6.alloc _, bM.below (oa _) hMB, oM.below (oa _) hMB, bR.below (oa _) hRB5, oR.below (oa _) hRB5, ⟨by have := hL.1; simp; omega, fun i hi => ((oa _).cell (p := ⟨g2, i, none⟩) hgB).trans (hL.2 i hi)⟩, hB6.alloc hB6.size _, by simp; omega, HSO⟩
        case measure => simp [intOf]; omega
      · have HSO : Hid (LkSo (Ls ++ [[]]) (k + 1) (xs ++ [x]) ∧ ∀ j, ((xs ++ [x]).getD j l4z).le 1048576) := ⟨HST, fun j => by
          rcases Nat.lt_or_ge j xs.length with hj | hj
          · have : (xs ++ [x]).getD j l4z = xs.getD j l4z := by
              simp only [List.getD_eq_getElem?_getD]
              rw [List.getElem?_append_left hj]
            rw [this]; exact hso.out.2 j
          · by_cases hj2 : j = xs.length
            · have : (xs ++ [x]).getD j l4z = x := by
                simp only [List.getD_eq_getElem?_getD]
                rw [List.getElem?_append_right hj, hj2]; simp
              rw [this]; exact hxle
            · have : (xs ++ [x]).getD j l4z = l4z := by
                simp only [List.getD_eq_getElem?_getD]
                rw [List.getElem?_eq_none (by simp; omega)]; rfl
              rw [this]; exact ⟨Nat.zero_le _, Nat.zero_le _⟩⟩
        clear HST hso
        have k8a := fun o => bM.below (oa o) hMB 8 _ rfl
        have oaa : ∀ o o', Below B5 wr ((w6.alloc o).alloc o') := fun o o' => (oa o).alloc (by simp; omega) o'
        go_wp2_with (at_builtin; refine wpList_append_own _ rfl _ _ 36 rfl B5 87 j0 (.agg #[.bool false, .string ⟨#[]⟩, .int .i64 0, .string ⟨#[]⟩]) 4 48 Tryz.underlying36 hj hy0 hy1 hy2 rfl (by decide) _ _ _ rfl ((hown6.alloc _).alloc _) ⟨w6.heap.size + 1, 0, none⟩ 1 1 [_, _, _, _] rfl rfl (row4g (by simp) _ _ _ _ _) (by intro u hu; simp at hu; rcases hu with rfl | rfl | rfl | rfl <;> rfl) (by unfold maxLen; omega) (by omega) (by simp; omega) ?_; intro v' w7 hown7 hgrow _; have hb7 : Below B5 wr w7 := (oaa _ _).grown hgrow (by simp; omega) (fun j hj => (hown6.lt j hj).1); have hB7 : Below w.heap.size w w7 := ((hB6.alloc hB6.size _).alloc (by simp; omega) _).grown hgrow (by simp; omega) (fun j hj => by have := (hown6.lt j hj).1; omega); have hz7 : w6.heap.size ≤ w7.heap.size := (by have := hgrow.size; simp at this; omega); clear hgrow; obtain ⟨g7, cp7, hv7⟩ := own_formF hown7 (by omega); subst hv7; have bM7 := bM.below hb7 hMB; have oM7 := oM.below hb7 hMB; have k8 := bM7 8 _ rfl; have f8 := oM7 8)
        go_roundw
        case rel =>
          refine ⟨k + 1, xs ++ [x], .slice (some ⟨g7, 0, none⟩) (xs.length + 1) cp7, ⟨by omega, by omega, by simp; omega⟩, by go_num, ?_, ?_, oM7.set _ _, (bR.below hb7 hRB5).other _ _ (by show Bm ≠ w.heap.size; omega), (oR.below hb7 hRB5).set _ _, ⟨by have := hL.1; simp; omega, fun i hi => pset (q := ⟨Bm, 8, none⟩) (p := ⟨g2, i, none⟩) (by show Bm ≠ g2; omega) ((hb7.cell (p := ⟨g2, i, none⟩) hgB).trans (hL.2 i hi)) _⟩, hB7.setCell (by show w.heap.size ≤ Bm; omega) _, by simp; omega, HSO⟩
          · rw [List.length_append, lkC_snoc]
            exact own_set hown7 ⟨Bm, 8, none⟩ _ hMB
          · exact bM7.set 8 _ (by show 8 < 16; omega)
        case measure => simp [intOf]; omega
    · obtain rfl : k = Ls.length + 1 := by omega
      have HX : Hid (LsM s.data.toList (offerG (n29 A1) (n29 A2) (n29 A3) ⟨ofL A4, ofL A5, ofL t⟩ xs)) := HXg t xs HTQ.out hso.out.1
      have hxl := hso.out.2
      obtain ⟨ao, c, hv, hlk⟩ := own_lks hown rfl
      subst hv
      have hAne : ∀ g o, ao = some ⟨g, o, none⟩ → g ≠ w.heap.size := fun g o h => by
        subst h
        have := (hown.lt g rfl).1
        omega
      have HM : BlkAt wr Bm ((offerG (n29 A1) (n29 A2) (n29 A3) ⟨ofL A4, ofL A5, ofL t⟩ xs).c ao c) := bM
      have HR := bR
      have HO := oR
      have hBU := hB
      have hMU : Bm < wr.heap.size := by omega
      have hRU : w.heap.size < wr.heap.size := by omega
      have HLK : LksAt wr ao (offerG (n29 A1) (n29 A2) (n29 A3) ⟨ofL A4, ofL A5, ofL t⟩ xs).ls := hlk.at'
      have hle : (offerG (n29 A1) (n29 A2) (n29 A3) ⟨ofL A4, ofL A5, ofL t⟩ xs).le 1048576 := ⟨⟨by show (ofL A4).size ≤ 1048576; rw [ofL_size]; omega, by show (ofL A5).size ≤ 1048576; rw [ofL_size]; omega, by show (ofL t).size ≤ 1048576; rw [ofL_size]; omega⟩, ⟨by show xs.length ≤ 1048576; omega, hxl⟩, ⟨Nat.zero_le _, Nat.zero_le _⟩⟩
      clear hso hown hlk bM oM bR oR hL hB HXg HTl hxl
      generalize offerG (n29 A1) (n29 A2) (n29 A3) ⟨ofL A4, ofL A5, ofL t⟩ xs = XX at *
      go_wp2_with (refine wpList_load_blk rfl 41 (.tmp 7) rfl Bm rfl ((XX).c ao c) _ HM Tryz.underlying41 rfl (by kernel_rfl) ?_)
      refine (c13v (XX) key ao c _ hle HLK hk).mono ?_
      rintro e U1 ⟨⟨str, rfl, hT⟩, hbU⟩
      have HM1 := BlkAt.below HM hbU hMU
      have HR1 := BlkAt.below HR hbU hRU
      have HO1 := OpnAt.below HO hbU hRU
      have hB1 : Below w.heap.size w U1 := hBU.trans (hbU.mono hBU.size)
      have HLK1 := lks_below HLK hbU
      clear HM HR HO HLK hBU hbU
      by_cases he : str.data.toList = s.data.toList
      · have HN : Hid (RMS s.data.toList key (XX) true) := rms_yes HX.out hT HSL.out he
        have e2 : str.toList = s.toList := by rw [ByteArray.toList_eq, ByteArray.toList_eq]; exact he
        have e1 : (str.toList == s.toList) = true := by simpa using e2
        clear hT HX he
        go_wp2_with (first | refine wpList_load_blk rfl 41 (.tmp 7) rfl Bm rfl ((XX).c ao c) _ HM1 Tryz.underlying41 rfl (by kernel_rfl) ?_ | refine wpList_store_blk rfl 41 (.tmp 4) (.tmp 151) rfl w.heap.size 0 rfl ((XX).c ao c) rfl (blk_some HR1 _ rfl) HO1 (G16.c_one _ _ _) (by kernel_rfl) rfl ?_)
        exact fin17 (XX) ao c true HN.out (fun h => by cases h) hle (lks_filo _ HLK1 hAne) rfl rfl rfl HR1 hB1
      · have HN : Hid (RMS s.data.toList key g16z false) := rms_no HX.out hT he
        have e2 : ¬ str.toList = s.toList := by rw [ByteArray.toList_eq, ByteArray.toList_eq]; exact he
        have e1 : (str.toList == s.toList) = false := by simpa using e2
        clear hT HX he
        go_wp2_with (refine wpList_store_blk rfl 41 (.tmp 4) (.tmp 150) rfl w.heap.size 0 rfl zG rfl (blk_some HR1 zG rfl) HO1 (by simp [zG, Value.oneCell']) (by kernel_rfl) rfl ?_)
        exact fin17_no HN.out rfl rfl rfl HR1 hB1
end Go.Proofs.YtdcgjdgpiogdaaaGreatDoor

import Derived.Test.YtdcgjdgpiogdaaaGreatDoorG42
import Derived.Deep.RegionHeld3
namespace Go.Proofs.YtdcgjdgpiogdaaaGreatDoor
open Go.RowKit
theorem c47l (l : List UInt8) (w : World) (hs : l.length ≤ 1048700) : Calls Tryz.prog 47 #[.string (ofL l)] w fun e w' => e = .returned (.int .i64 (n29 l)) ∧ Below w.heap.size w w' := c47 (ofL l) w (by rw [ofL_size]; exact hs)
theorem c48l (l : List UInt8) (w : World) (hs : l.length ≤ 1048700) : Calls Tryz.prog 48 #[.string (ofL l)] w fun e w' => (∃ t, e = .returned (.string (ofL t)) ∧ t.length ≤ l.length + 1 ∧ ∀ q, l = quoteL q → t = q) ∧ Below w.heap.size w w' := by
  have h := c48 (ofL l) w (by rw [ofL_size]; exact hs)
  rw [ofL_size] at h
  exact h
theorem lsTn_over {G : List UInt8} {c : Int} {t : ByteArray} (hw : wordOf G = [111, 118, 101, 114]) (hr : LsRes (restOf G) c t) : ∀ y : T6, TnW y → G = tnL y → ∃ s, y = ⟨true, c, t, false, ⟨#[]⟩, s⟩ := by
  intro y hy e
  cases ho : y.over
  · obtain ⟨a, _⟩ := tnl_look ho
    rw [← e, hw] at a
    exact absurd a.symm (lookW_over _)
  · obtain ⟨_, b⟩ := tnl_over ho
    rw [← e] at b
    rcases hy.2 with ⟨_, hv, hh, hn⟩ | ⟨h, _⟩
    · obtain ⟨h2, h3⟩ := hr _ _ (vr_code hv).1 (vr_code hv).2 b
      refine ⟨y.st, ?_⟩
      obtain ⟨o, cd, tx, hs, nm, st⟩ := y
      simp only at ho h2 h3 hh hn
      rw [ho, h2, h3, hh, hn]
    · rw [ho] at h; cases h
theorem lsTn_look {G : List UInt8} (hw : wordOf G ≠ [111, 118, 101, 114]) : ∀ y : T6, TnW y → G = tnL y → ∃ s, y = ⟨false, 0, ⟨#[]⟩, hasW G, ofL (restOf G), s⟩ := fun y hy e => ((rdTn_look hw 0).1 y hy e).2
set_option maxHeartbeats 16000000 in
set_option maxRecDepth 100000 in
theorem c17_turn (s key : ByteArray) (w : World) (h9 : 9 ≤ s.size) (h16 : s.size ≤ 16000) (hk : key.size ≤ 1048576) (hw : wordOf ((cutS 10 (s.data.toList.drop 8)).getD 0 []) = wrdP 2) :
    Calls Tryz.prog 17 #[.string s, .string key] w fun e w' => Is17 s.data.toList key w' e ∧ Below w.heap.size w w' := by
  have hB0 : Below w.heap.size w (w.alloc (.cells zG.toArray 41)) := (Below.refl _ _).alloc (Nat.le_refl _) _
  have hsl : s.data.toList.length = s.size := by simp
  have HSL : Hid (9 ≤ s.data.toList.length) := by rw [hsl]; exact h9
  have hd8 : s.extract 8 s.size = ofL (s.data.toList.drop 8) := ext_ofL (by rw [ext_list, List.take_of_length_le (by omega)])
  have hdl : (ofL (s.data.toList.drop 8)).size = s.size - 8 := by rw [ofL_size, List.length_drop, hsl]
  have hld : (s.data.toList.drop 8).length ≤ 16000 := by rw [List.length_drop]; omega
  obtain ⟨i0, hi, hz0, hz1, hz2⟩ := info_parts info9
  have h9' : decide ((s.size : Int) < 9) = false := by simp; omega
  have h16' : decide (16000 < (s.size : Int)) = false := by simp; omega
  go_enter Tryz.func17, Tryz.ntmps17
  go_wp2_with fail
  refine (c45o (ofL (s.data.toList.drop 8)) 10 _ (by omega)).mono ?_
  rintro e w1 ⟨⟨g, cp, rfl, hown⟩, hb1⟩
  rw [ofL_list] at hown ⊢
  have hz1w : (w.alloc (.cells zG.toArray 41)).heap.size = w.heap.size + 1 := by simp
  have hown1 : w1.ownsRow (w.heap.size + 1) 9 1 (.slice (some ⟨g, 0, none⟩) (cutS 10 (s.data.toList.drop 8)).length cp) (cutS 10 (s.data.toList.drop 8)).length (strL (cutS 10 (s.data.toList.drop 8))) := by rw [← hz1w]; exact hown
  have hx1 : Below (w.heap.size + 1) (w.alloc (.cells zG.toArray 41)) w1 := hb1.mono (by simp)
  have hcl := cut_len 10 (s.data.toList.drop 8)
  have hcs := cut_small 10 (s.data.toList.drop 8)
  have hz1' : w.heap.size + 1 ≤ w1.heap.size := by have h := hx1.size; rw [hz1w] at h; exact h
  clear hown hb1 hd8 hdl
  obtain ⟨Ls, hLs⟩ : ∃ Ls, Ls = cutS 10 (s.data.toList.drop 8) := ⟨_, rfl⟩
  rw [← hLs] at hown1 hcl hcs hw ⊢
  have HLS : Hid (cutS 10 (s.data.toList.drop 8) = Ls) := hLs.symm
  have HCS : Hid (∀ k, (Ls.getD k []).length ≤ 16000) := fun k => Nat.le_trans (hcs k) hld
  obtain ⟨F, hF⟩ : ∃ F, F = Ls.getD 0 [] := ⟨_, rfl⟩
  have HF : Hid (Ls.getD 0 [] = F) := hF.symm
  have hFl : F.length ≤ 16000 := by rw [hF]; exact HCS.out 0
  rw [← hF] at hw
  clear hF hLs hcs
  have hcl1 : 1 ≤ Ls.length := hcl.1
  have hcl2 : Ls.length ≤ 16001 := by have := hcl.2; omega
  clear hcl hld
  generalize ofL (s.data.toList.drop 8) = bd at *
  go_wp2_with (at_builtin; refine wpList_append_own _ rfl _ _ 80 rfl (w.heap.size + 1) 9 i0 (.string ⟨#[]⟩) 1 16 Tryz.underlying80 hi hz0 hz1 hz2 rfl (by decide) _ _ _ rfl (hown1.alloc _) ⟨w1.heap.size, 0, none⟩ 1 1 [_] rfl rfl (cell_one_new _ _ _) (by intro u hu; simp at hu; subst hu; rfl) (by unfold maxLen; omega) (by omega) (by simp; omega) ?_; intro v' w2 hown2 hgrow _; have hx2 : Below (w.heap.size + 1) (w.alloc (.cells zG.toArray 41)) w2 := (hx1.alloc (by omega) _).grown hgrow (by simp; omega) (fun j hj => (hown1.lt j hj).1); have hz2w : w1.heap.size < w2.heap.size := (by have := hgrow.size; simp at this; omega); clear hgrow hown1; obtain ⟨g2, cp2, hvv⟩ := own_formF hown2 (by omega); subst hvv; have hl2 : LinesAt w2 g2 (Ls ++ [[]]) := lines_of_owns (by rw [strL_snoc]; exact hown2) (by simp); have c0 : w2.cell? ⟨g2, 0, none⟩ = some (.string (ofL F)) := (hl2.2 0 (by simp)).trans (by rw [← HF.out]; cases Ls with | nil => simp at hcl1 | cons a r => rfl); have c0a := past (p := ⟨g2, 0, none⟩) hl2.1 c0; have HG2 : Hid (w.heap.size + 1 ≤ g2 ∧ g2 < w2.heap.size) := (hown2.lt g2 rfl); have HL2 : Hid (LinesAt w2 g2 (Ls ++ [[]])) := hl2; clear hl2 hown2)
  refine (c46o F _ (by omega) 6 (by omega) (by omega)).mono ?_
  rintro e w3 ⟨⟨g3, cp3, rfl, hg3, hl3⟩, hb3⟩
  have hz2a : (w2.alloc (.cells #[.int .i64 0, .int .i64 0, .int .i64 0, .int .i64 0, .int .i64 0, .string ⟨#[]⟩, .string ⟨#[]⟩, .string ⟨#[]⟩, .slice none 0 0, .int .i64 0, .bool false, .int .i64 0, .string ⟨#[]⟩, .bool false, .string ⟨#[]⟩, .int .i64 0] 41)).heap.size = w2.heap.size + 1 := by simp
  have hz23 : w2.heap.size + 1 ≤ w3.heap.size := by have h := hb3.size; rw [hz2a] at h; exact h
  have hb23 : Below w2.heap.size w2 w3 := ((Below.refl _ _).alloc (Nat.le_refl _) _).trans (hb3.mono (by rw [hz2a]; omega))
  have hx3 : Below (w.heap.size + 1) (w.alloc (.cells zG.toArray 41)) w3 := hx2.trans (hb23.mono (by omega))
  obtain ⟨bR, oR⟩ := blk_keep (vs := zG) hx3
  have bM : BlkAt w3 w2.heap.size zG := BlkAt.below (blk_new w2 zG 41) hb3 (by rw [hz2a]; omega)
  have oM : OpnAt w3 w2.heap.size := OpnAt.below (opn_new w2 _ 41) hb3 (by rw [hz2a]; omega)
  have hL3 : Hid (LinesAt w3 g2 (Ls ++ [[]])) := lines_below HL2.out hb23
  have hB3 : Below w.heap.size w w3 := hB0.trans (hx3.mono (by omega))
  have hg3a : w2.heap.size < g3 := by rw [hz2a] at hg3; omega
  have hg3b : g3 < w3.heap.size := hl3.1
  have hg2a : w.heap.size < g2 ∧ g2 < w2.heap.size := ⟨by have := HG2.out.1; omega, HG2.out.2⟩
  have d0 : w3.cell? ⟨g3, 0, none⟩ = some (.string (ofL (wordOf (restN F 0)))) := hl3.2 0 (by simp [wordsN])
  have d1 : w3.cell? ⟨g3, 1, none⟩ = some (.string (ofL (wordOf (restN F 1)))) := hl3.2 1 (by simp [wordsN])
  have d2 : w3.cell? ⟨g3, 2, none⟩ = some (.string (ofL (wordOf (restN F 2)))) := hl3.2 2 (by simp [wordsN])
  have d3 : w3.cell? ⟨g3, 3, none⟩ = some (.string (ofL (wordOf (restN F 3)))) := hl3.2 3 (by simp [wordsN])
  have d4 : w3.cell? ⟨g3, 4, none⟩ = some (.string (ofL (wordOf (restN F 4)))) := hl3.2 4 (by simp [wordsN])
  have d5 : w3.cell? ⟨g3, 5, none⟩ = some (.string (ofL (wordOf (restN F 5)))) := hl3.2 5 (by simp [wordsN])
  have hRB : w.heap.size < w2.heap.size := by omega
  have hMz : w2.heap.size < w3.heap.size := by omega
  have hrl := restN_len F
  clear HL2 hl3 hg3 hb3 hb23 hx2 hx3 hx1 HG2 hz2a c0 c0a hz2w hz1' hz1w hz23
  generalize w2.heap.size = Bm at *
  have HW : Hid (wordOf F = wrdP 2) := hw
  have hes : ofL (wordOf (restN F 0)) = ⟨#[116, 117, 114, 110]⟩ := by
    show ofL (wordOf F) = _
    rw [hw]; rfl
  rw [hes] at d0
  clear hw hes
  have a1 : (wordOf (restN F 1)).length ≤ 16000 := by have h1 := (rest_small (restN F 1)).1; have h2 := hrl 1; omega
  have a2 : (wordOf (restN F 2)).length ≤ 16000 := by have h1 := (rest_small (restN F 2)).1; have h2 := hrl 2; omega
  have a3 : (wordOf (restN F 3)).length ≤ 16000 := by have h1 := (rest_small (restN F 3)).1; have h2 := hrl 3; omega
  have a4 : (wordOf (restN F 4)).length ≤ 16000 := by have h1 := (rest_small (restN F 4)).1; have h2 := hrl 4; omega
  have a5 : (wordOf (restN F 5)).length ≤ 16000 := by have h1 := (rest_small (restN F 5)).1; have h2 := hrl 5; omega
  have a6 : (restN F 6).length ≤ 16000 := by have h2 := hrl 6; omega
  clear hrl
  have HXg := fun t ht => lsM_turn (l := s.data.toList) (F := F) (G := (Ls ++ [[]]).getD 1 []) (t := t) (by rw [HLS.out]; exact HF.out) (by rw [HLS.out]) HW.out ht
  have HGl : ((Ls ++ [[]]).getD 1 []).length ≤ 16000 := by
    by_cases h1 : 1 < Ls.length
    · have : (Ls ++ [[]]).getD 1 [] = Ls.getD 1 [] := by
        simp only [List.getD_eq_getElem?_getD]
        rw [List.getElem?_append_left h1]
      rw [this]; exact HCS.out 1
    · have : (Ls ++ [[]]).getD 1 [] = [] := by
        have hl : Ls.length = 1 := by omega
        simp only [List.getD_eq_getElem?_getD]
        rw [List.getElem?_append_right (by omega), hl]; rfl
      rw [this]; simp
  have e1 : w3.cell? ⟨g2, 1, none⟩ = some (.string (ofL ((Ls ++ [[]]).getD 1 []))) := hL3.out.2 1 (by simp; omega)
  have hn1 : 1 < Ls.length + 1 := by omega
  generalize (Ls ++ [[]]).getD 1 [] = G at *
  generalize wordOf (restN F 1) = A1 at *
  generalize wordOf (restN F 2) = A2 at *
  generalize wordOf (restN F 3) = A3 at *
  generalize wordOf (restN F 4) = A4 at *
  generalize wordOf (restN F 5) = A5 at *
  generalize restN F 6 = A6 at *
  clear hL3 HF HLS HCS
  go_wp2_with fail
  refine wp_region_held_drew (S := (fun u => u.cell? ⟨g3, 1, none⟩ = some (.string (ofL A1)) ∧ u.cell? ⟨g3, 2, none⟩ = some (.string (ofL A2)) ∧ u.cell? ⟨g3, 3, none⟩ = some (.string (ofL A3)) ∧ u.cell? ⟨g3, 4, none⟩ = some (.string (ofL A4)) ∧ u.cell? ⟨g3, 5, none⟩ = some (.string (ofL A5)))) (by kernel_rfl) ?_ (fun hHeld => ?_)
  · exact ⟨d1, d2, d3, d4, d5⟩
  refine wpAnyH_take (i := 0) (oi := { dst := some 87, op := Op.move (Operand.tmp 8), type := 80, pos := "l7_mail.go:80", after := #[], guard := none }) (v := ?_) rfl (by kernel_rfl) (by kernel_rfl) (by kernel_rfl) (fun _ _ _ h => h) (Or.inl ⟨by rfl, ?_⟩) (by assumption) ?_
  rotate_left
  · intro wq hSw
    (try dsimp only at hSw)
    go_simp
    try with_reducible rfl
  try simp only [Act.put, List.setIfInBounds_toArray, List.set_cons_zero, List.set_cons_succ]
  refine wpAnyH_take (i := 1) (oi := { dst := some 88, op := Op.indexAddr 80 (Operand.tmp 87) (Operand.const (Value.int IntKind.i64 1)), type := 0, pos := "l7_mail.go:80", after := #[{ on := 0, ground := Ground.data }], guard := none }) (v := ?_) rfl (by kernel_rfl) (by kernel_rfl) (by kernel_rfl) (fun _ _ _ h => h) (Or.inl ⟨by rfl, ?_⟩) (by assumption) ?_
  rotate_left
  · intro wq hSw
    (try dsimp only at hSw)
    go_simp
    try with_reducible rfl
  try simp only [Act.put, List.setIfInBounds_toArray, List.set_cons_zero, List.set_cons_succ]
  refine wpAnyH_take (i := 2) (oi := { dst := some 89, op := Op.load 9 (Operand.tmp 88), type := 9, pos := "l7_mail.go:80", after := #[{ on := 1, ground := Ground.data }], guard := none }) (v := ?_) rfl (by kernel_rfl) (by kernel_rfl) (by kernel_rfl) (fun _ _ _ h => h) (Or.inl ⟨by rfl, ?_⟩) (by assumption) ?_
  rotate_left
  · intro wq hSw
    (try dsimp only at hSw)
    go_simp
    try with_reducible rfl
  try simp only [Act.put, List.setIfInBounds_toArray, List.set_cons_zero, List.set_cons_succ]
  refine wpAnyH_take (i := 4) (oi := { dst := some 91, op := Op.move (Operand.tmp 8), type := 80, pos := "l7_mail.go:80", after := #[], guard := none }) (v := ?_) rfl (by kernel_rfl) (by kernel_rfl) (by kernel_rfl) (fun _ _ _ h => h) (Or.inl ⟨by rfl, ?_⟩) (by assumption) ?_
  rotate_left
  · intro wq hSw
    (try dsimp only at hSw)
    go_simp
    try with_reducible rfl
  try simp only [Act.put, List.setIfInBounds_toArray, List.set_cons_zero, List.set_cons_succ]
  refine wpAnyH_take (i := 5) (oi := { dst := some 92, op := Op.indexAddr 80 (Operand.tmp 91) (Operand.const (Value.int IntKind.i64 2)), type := 0, pos := "l7_mail.go:80", after := #[{ on := 4, ground := Ground.data }], guard := none }) (v := ?_) rfl (by kernel_rfl) (by kernel_rfl) (by kernel_rfl) (fun _ _ _ h => h) (Or.inl ⟨by rfl, ?_⟩) (by assumption) ?_
  rotate_left
  · intro wq hSw
    (try dsimp only at hSw)
    go_simp
    try with_reducible rfl
  try simp only [Act.put, List.setIfInBounds_toArray, List.set_cons_zero, List.set_cons_succ]
  refine wpAnyH_take (i := 6) (oi := { dst := some 93, op := Op.load 9 (Operand.tmp 92), type := 9, pos := "l7_mail.go:80", after := #[{ on := 5, ground := Ground.data }], guard := none }) (v := ?_) rfl (by kernel_rfl) (by kernel_rfl) (by kernel_rfl) (fun _ _ _ h => h) (Or.inl ⟨by rfl, ?_⟩) (by assumption) ?_
  rotate_left
  · intro wq hSw
    (try dsimp only at hSw)
    go_simp
    try with_reducible rfl
  try simp only [Act.put, List.setIfInBounds_toArray, List.set_cons_zero, List.set_cons_succ]
  refine wpAnyH_take (i := 8) (oi := { dst := some 95, op := Op.move (Operand.tmp 8), type := 80, pos := "l7_mail.go:80", after := #[], guard := none }) (v := ?_) rfl (by kernel_rfl) (by kernel_rfl) (by kernel_rfl) (fun _ _ _ h => h) (Or.inl ⟨by rfl, ?_⟩) (by assumption) ?_
  rotate_left
  · intro wq hSw
    (try dsimp only at hSw)
    go_simp
    try with_reducible rfl
  try simp only [Act.put, List.setIfInBounds_toArray, List.set_cons_zero, List.set_cons_succ]
  refine wpAnyH_take (i := 9) (oi := { dst := some 96, op := Op.indexAddr 80 (Operand.tmp 95) (Operand.const (Value.int IntKind.i64 3)), type := 0, pos := "l7_mail.go:80", after := #[{ on := 8, ground := Ground.data }], guard := none }) (v := ?_) rfl (by kernel_rfl) (by kernel_rfl) (by kernel_rfl) (fun _ _ _ h => h) (Or.inl ⟨by rfl, ?_⟩) (by assumption) ?_
  rotate_left
  · intro wq hSw
    (try dsimp only at hSw)
    go_simp
    try with_reducible rfl
  try simp only [Act.put, List.setIfInBounds_toArray, List.set_cons_zero, List.set_cons_succ]
  refine wpAnyH_take (i := 10) (oi := { dst := some 97, op := Op.load 9 (Operand.tmp 96), type := 9, pos := "l7_mail.go:80", after := #[{ on := 9, ground := Ground.data }], guard := none }) (v := ?_) rfl (by kernel_rfl) (by kernel_rfl) (by kernel_rfl) (fun _ _ _ h => h) (Or.inl ⟨by rfl, ?_⟩) (by assumption) ?_
  rotate_left
  · intro wq hSw
    (try dsimp only at hSw)
    go_simp
    try with_reducible rfl
  try simp only [Act.put, List.setIfInBounds_toArray, List.set_cons_zero, List.set_cons_succ]
  refine wpAnyH_take (i := 12) (oi := { dst := some 99, op := Op.move (Operand.tmp 8), type := 80, pos := "l7_mail.go:80", after := #[], guard := none }) (v := ?_) rfl (by kernel_rfl) (by kernel_rfl) (by kernel_rfl) (fun _ _ _ h => h) (Or.inl ⟨by rfl, ?_⟩) (by assumption) ?_
  rotate_left
  · intro wq hSw
    (try dsimp only at hSw)
    go_simp
    try with_reducible rfl
  try simp only [Act.put, List.setIfInBounds_toArray, List.set_cons_zero, List.set_cons_succ]
  refine wpAnyH_take (i := 13) (oi := { dst := some 100, op := Op.indexAddr 80 (Operand.tmp 99) (Operand.const (Value.int IntKind.i64 4)), type := 0, pos := "l7_mail.go:80", after := #[{ on := 12, ground := Ground.data }], guard := none }) (v := ?_) rfl (by kernel_rfl) (by kernel_rfl) (by kernel_rfl) (fun _ _ _ h => h) (Or.inl ⟨by rfl, ?_⟩) (by assumption) ?_
  rotate_left
  · intro wq hSw
    (try dsimp only at hSw)
    go_simp
    try with_reducible rfl
  try simp only [Act.put, List.setIfInBounds_toArray, List.set_cons_zero, List.set_cons_succ]
  refine wpAnyH_take (i := 14) (oi := { dst := some 101, op := Op.load 9 (Operand.tmp 100), type := 9, pos := "l7_mail.go:80", after := #[{ on := 13, ground := Ground.data }], guard := none }) (v := ?_) rfl (by kernel_rfl) (by kernel_rfl) (by kernel_rfl) (fun _ _ _ h => h) (Or.inl ⟨by rfl, ?_⟩) (by assumption) ?_
  rotate_left
  · intro wq hSw
    (try dsimp only at hSw)
    go_simp
    try with_reducible rfl
  try simp only [Act.put, List.setIfInBounds_toArray, List.set_cons_zero, List.set_cons_succ]
  refine wpAnyH_take (i := 15) (oi := { dst := some 102, op := Op.build 35 #[(0, Operand.tmp 101)], type := 35, pos := "l7_mail.go:80", after := #[{ on := 14, ground := Ground.data }], guard := none }) (v := ?_) rfl (by kernel_rfl) (by kernel_rfl) (by kernel_rfl) (fun _ _ _ h => h) (Or.inl ⟨by rfl, ?_⟩) (by assumption) ?_
  rotate_left
  · intro wq hSw
    (try dsimp only at hSw)
    go_simp
    try with_reducible rfl
  try simp only [Act.put, List.setIfInBounds_toArray, List.set_cons_zero, List.set_cons_succ]
  refine wpAnyH_take (i := 16) (oi := { dst := some 103, op := Op.move (Operand.tmp 8), type := 80, pos := "l7_mail.go:80", after := #[], guard := none }) (v := ?_) rfl (by kernel_rfl) (by kernel_rfl) (by kernel_rfl) (fun _ _ _ h => h) (Or.inl ⟨by rfl, ?_⟩) (by assumption) ?_
  rotate_left
  · intro wq hSw
    (try dsimp only at hSw)
    go_simp
    try with_reducible rfl
  try simp only [Act.put, List.setIfInBounds_toArray, List.set_cons_zero, List.set_cons_succ]
  refine wpAnyH_take (i := 17) (oi := { dst := some 104, op := Op.indexAddr 80 (Operand.tmp 103) (Operand.const (Value.int IntKind.i64 5)), type := 0, pos := "l7_mail.go:80", after := #[{ on := 16, ground := Ground.data }], guard := none }) (v := ?_) rfl (by kernel_rfl) (by kernel_rfl) (by kernel_rfl) (fun _ _ _ h => h) (Or.inl ⟨by rfl, ?_⟩) (by assumption) ?_
  rotate_left
  · intro wq hSw
    (try dsimp only at hSw)
    go_simp
    try with_reducible rfl
  try simp only [Act.put, List.setIfInBounds_toArray, List.set_cons_zero, List.set_cons_succ]
  refine wpAnyH_take (i := 18) (oi := { dst := some 105, op := Op.load 9 (Operand.tmp 104), type := 9, pos := "l7_mail.go:80", after := #[{ on := 17, ground := Ground.data }], guard := none }) (v := ?_) rfl (by kernel_rfl) (by kernel_rfl) (by kernel_rfl) (fun _ _ _ h => h) (Or.inl ⟨by rfl, ?_⟩) (by assumption) ?_
  rotate_left
  · intro wq hSw
    (try dsimp only at hSw)
    go_simp
    try with_reducible rfl
  try simp only [Act.put, List.setIfInBounds_toArray, List.set_cons_zero, List.set_cons_succ]
  refine wpAnyH_ready (rs := [3]) (by kernel_rfl) (by simp) ?_
  refine AllReadyH.cons (o := { dst := some 90, op := Op.call { callee := Callee.value (Operand.func 47), args := #[Operand.tmp 89], argTypes := #[9] }, type := 3, pos := "l7_mail.go:80", after := #[{ on := 2, ground := Ground.data }], guard := none }) rfl (fun K hK => ?_) AllReadyH.nil
  go_simp
  refine (c47l A1 _ (by omega)).mono ?_
  rintro e p1 ⟨rfl, hbn⟩
  have hbc : Below w3.heap.size w3 p1 := ((Below.refl _ _).drew).trans hbn
  clear hbn
  go_wp2_with fail
  clear hHeld
  refine hK.out _ _ ?_ (fun hHeld => ?_)
  · exact ⟨(hbc.cell (p := ⟨g3, 1, none⟩) hg3b).trans d1, (hbc.cell (p := ⟨g3, 2, none⟩) hg3b).trans d2, (hbc.cell (p := ⟨g3, 3, none⟩) hg3b).trans d3, (hbc.cell (p := ⟨g3, 4, none⟩) hg3b).trans d4, (hbc.cell (p := ⟨g3, 5, none⟩) hg3b).trans d5⟩
  clear hK K
  try simp only [Act.put, List.setIfInBounds_toArray, List.set_cons_zero, List.set_cons_succ]
  refine wpAnyH_ready (rs := [7]) (by kernel_rfl) (by simp) ?_
  refine AllReadyH.cons (o := { dst := some 94, op := Op.call { callee := Callee.value (Operand.func 47), args := #[Operand.tmp 93], argTypes := #[9] }, type := 3, pos := "l7_mail.go:80", after := #[{ on := 6, ground := Ground.data }, { on := 3, ground := Ground.chain }], guard := none }) rfl (fun K hK => ?_) AllReadyH.nil
  go_simp
  refine (c47l A2 _ (by omega)).mono ?_
  rintro e p2 ⟨rfl, hbn⟩
  have hbc : Below w3.heap.size w3 p2 := hbc.trans (hbn.mono hbc.size)
  clear hbn
  go_wp2_with fail
  clear hHeld
  refine hK.out _ _ ?_ (fun hHeld => ?_)
  · exact ⟨(hbc.cell (p := ⟨g3, 1, none⟩) hg3b).trans d1, (hbc.cell (p := ⟨g3, 2, none⟩) hg3b).trans d2, (hbc.cell (p := ⟨g3, 3, none⟩) hg3b).trans d3, (hbc.cell (p := ⟨g3, 4, none⟩) hg3b).trans d4, (hbc.cell (p := ⟨g3, 5, none⟩) hg3b).trans d5⟩
  clear hK K
  try simp only [Act.put, List.setIfInBounds_toArray, List.set_cons_zero, List.set_cons_succ]
  refine wpAnyH_ready (rs := [11]) (by kernel_rfl) (by simp) ?_
  refine AllReadyH.cons (o := { dst := some 98, op := Op.call { callee := Callee.value (Operand.func 47), args := #[Operand.tmp 97], argTypes := #[9] }, type := 3, pos := "l7_mail.go:80", after := #[{ on := 10, ground := Ground.data }, { on := 7, ground := Ground.chain }], guard := none }) rfl (fun K hK => ?_) AllReadyH.nil
  go_simp
  refine (c47l A3 _ (by omega)).mono ?_
  rintro e p3 ⟨rfl, hbn⟩
  have hbc : Below w3.heap.size w3 p3 := hbc.trans (hbn.mono hbc.size)
  clear hbn
  go_wp2_with fail
  clear hHeld
  refine hK.out _ _ ?_ (fun hHeld => ?_)
  · exact ⟨(hbc.cell (p := ⟨g3, 1, none⟩) hg3b).trans d1, (hbc.cell (p := ⟨g3, 2, none⟩) hg3b).trans d2, (hbc.cell (p := ⟨g3, 3, none⟩) hg3b).trans d3, (hbc.cell (p := ⟨g3, 4, none⟩) hg3b).trans d4, (hbc.cell (p := ⟨g3, 5, none⟩) hg3b).trans d5⟩
  clear hK K
  try simp only [Act.put, List.setIfInBounds_toArray, List.set_cons_zero, List.set_cons_succ]
  refine wpAnyH_ready (rs := [19]) (by kernel_rfl) (by simp) ?_
  refine AllReadyH.cons (o := { dst := some 106, op := Op.call { callee := Callee.value (Operand.func 47), args := #[Operand.tmp 105], argTypes := #[9] }, type := 3, pos := "l7_mail.go:80", after := #[{ on := 18, ground := Ground.data }, { on := 11, ground := Ground.chain }], guard := none }) rfl (fun K hK => ?_) AllReadyH.nil
  go_simp
  refine (c47l A5 _ (by omega)).mono ?_
  rintro e w4 ⟨rfl, hbn⟩
  have hbc : Below w3.heap.size w3 w4 := hbc.trans (hbn.mono hbc.size)
  clear hbn
  go_wp2_with fail
  clear hHeld
  refine hK.out _ _ ?_ (fun hHeld => ?_)
  · exact ⟨(hbc.cell (p := ⟨g3, 1, none⟩) hg3b).trans d1, (hbc.cell (p := ⟨g3, 2, none⟩) hg3b).trans d2, (hbc.cell (p := ⟨g3, 3, none⟩) hg3b).trans d3, (hbc.cell (p := ⟨g3, 4, none⟩) hg3b).trans d4, (hbc.cell (p := ⟨g3, 5, none⟩) hg3b).trans d5⟩
  clear hK K
  try simp only [Act.put, List.setIfInBounds_toArray, List.set_cons_zero, List.set_cons_succ]
  refine wpAnyH_take (i := 20) (oi := { dst := some 107, op := Op.build 41 #[(0, Operand.const (Value.int IntKind.i64 2)), (2, Operand.tmp 90), (3, Operand.tmp 94), (4, Operand.tmp 98), (5, Operand.tmp 102), (7, Operand.tmp 106)], type := 41, pos := "l7_mail.go:80", after := #[{ on := 3, ground := Ground.data }, { on := 7, ground := Ground.data }, { on := 11, ground := Ground.data }, { on := 15, ground := Ground.data }, { on := 19, ground := Ground.data }], guard := none }) (v := ?_) rfl (by kernel_rfl) (by kernel_rfl) (by kernel_rfl) (fun _ _ _ h => h) (Or.inl ⟨by rfl, ?_⟩) (by assumption) ?_
  rotate_left
  · intro wq hSw
    (try dsimp only at hSw)
    go_simp
    try with_reducible rfl
  try simp only [Act.put, List.setIfInBounds_toArray, List.set_cons_zero, List.set_cons_succ]
  have bM4 := BlkAt.below bM hbc hMz
  have oM4 := OpnAt.below oM hbc hMz
  refine wpAnyH_ready (rs := [21]) (by kernel_rfl) (by simp) ?_
  refine AllReadyH.cons (o := { dst := none, op := Op.store 41 (Operand.tmp 7) (Operand.tmp 107), type := 0, pos := "l7_mail.go:80", after := #[{ on := 20, ground := Ground.data }, { on := 19, ground := Ground.chain }, { on := 0, ground := Ground.phase }, { on := 1, ground := Ground.phase }, { on := 2, ground := Ground.phase }, { on := 3, ground := Ground.phase }, { on := 4, ground := Ground.phase }, { on := 5, ground := Ground.phase }, { on := 6, ground := Ground.phase }, { on := 7, ground := Ground.phase }, { on := 8, ground := Ground.phase }, { on := 9, ground := Ground.phase }, { on := 10, ground := Ground.phase }, { on := 11, ground := Ground.phase }, { on := 12, ground := Ground.phase }, { on := 13, ground := Ground.phase }, { on := 14, ground := Ground.phase }, { on := 15, ground := Ground.phase }, { on := 16, ground := Ground.phase }, { on := 17, ground := Ground.phase }, { on := 18, ground := Ground.phase }, { on := 19, ground := Ground.phase }, { on := 20, ground := Ground.phase }], guard := none }) rfl (fun K hK => ?_) AllReadyH.nil
  refine step_store_blk rfl 41 (.tmp 7) (.tmp 107) rfl Bm 0 rfl ((turnG (n29 A1) (n29 A2) (n29 A3) (ofL A4) (n29 A5) 0 t6z).c none 0) rfl (blk_some bM4 _ rfl) oM4 (G16.c_one _ _ _) (by kernel_rfl) rfl ?_
  clear hHeld
  refine hK.out _ _ ?_ (fun hHeld => ?_)
  · exact ⟨(cell_fill _ 0 ⟨g3, 1, none⟩ (by show g3 ≠ Bm; omega)).trans ((hbc.cell (p := ⟨g3, 1, none⟩) hg3b).trans d1), (cell_fill _ 0 ⟨g3, 2, none⟩ (by show g3 ≠ Bm; omega)).trans ((hbc.cell (p := ⟨g3, 2, none⟩) hg3b).trans d2), (cell_fill _ 0 ⟨g3, 3, none⟩ (by show g3 ≠ Bm; omega)).trans ((hbc.cell (p := ⟨g3, 3, none⟩) hg3b).trans d3), (cell_fill _ 0 ⟨g3, 4, none⟩ (by show g3 ≠ Bm; omega)).trans ((hbc.cell (p := ⟨g3, 4, none⟩) hg3b).trans d4), (cell_fill _ 0 ⟨g3, 5, none⟩ (by show g3 ≠ Bm; omega)).trans ((hbc.cell (p := ⟨g3, 5, none⟩) hg3b).trans d5)⟩
  clear hK K
  try simp only [Act.put, List.setIfInBounds_toArray, List.set_cons_zero, List.set_cons_succ]
  refine wpAnyH_done (by kernel_rfl) ?_ _
  clear hHeld
  have hz4 : w3.heap.size ≤ w4.heap.size := hbc.size
  have bR4 := BlkAt.below bR hbc (by omega)
  have oR4 := OpnAt.below oR hbc (by omega)
  have hB4 : Below w.heap.size w w4 := hB3.trans (hbc.mono hB3.size)
  have e4 : w4.cell? ⟨g2, 1, none⟩ = some (.string (ofL G)) := (hbc.cell (p := ⟨g2, 1, none⟩) (by show g2 < w3.heap.size; omega)).trans e1
  have bM5 : BlkAt (fill w4 Bm 0 ((turnG (n29 A1) (n29 A2) (n29 A3) (ofL A4) (n29 A5) 0 t6z).c none 0)) Bm ((turnG (n29 A1) (n29 A2) (n29 A3) (ofL A4) (n29 A5) 0 t6z).c none 0) := BlkAt.fill (B := Bm) _ [] zG [] 0 bM4 rfl rfl
  have oM5 : OpnAt (fill w4 Bm 0 ((turnG (n29 A1) (n29 A2) (n29 A3) (ofL A4) (n29 A5) 0 t6z).c none 0)) Bm := OpnAt.fill _ 0 oM4
  have bR5 : BlkAt (fill w4 Bm 0 ((turnG (n29 A1) (n29 A2) (n29 A3) (ofL A4) (n29 A5) 0 t6z).c none 0)) w.heap.size zG := BlkAt.fillO (by omega) _ 0 bR4
  have oR5 : OpnAt (fill w4 Bm 0 ((turnG (n29 A1) (n29 A2) (n29 A3) (ofL A4) (n29 A5) 0 t6z).c none 0)) w.heap.size := OpnAt.fill _ 0 oR4
  have hB5 : Below w.heap.size w (fill w4 Bm 0 ((turnG (n29 A1) (n29 A2) (n29 A3) (ofL A4) (n29 A5) 0 t6z).c none 0)) := below_fill (by omega) _ 0 hB4
  have hz5 : (fill w4 Bm 0 ((turnG (n29 A1) (n29 A2) (n29 A3) (ofL A4) (n29 A5) 0 t6z).c none 0)).heap.size = w4.heap.size := size_fill _ _
  have e5 : (fill w4 Bm 0 ((turnG (n29 A1) (n29 A2) (n29 A3) (ofL A4) (n29 A5) 0 t6z).c none 0)).cell? ⟨g2, 1, none⟩ = some (.string (ofL G)) := (cell_fill _ 0 _ (by show g2 ≠ Bm; omega)).trans e4
  clear hbc bM4 oM4 bM oM bR oR bR4 oR4 d0 d1 d2 d3 d4 d5 e1 e4
  have hg2z : g2 < w4.heap.size := by omega
  have hMz4 : Bm < w4.heap.size := by omega
  rw [← hz5] at hg2z hMz4
  clear hz5
  generalize fill w4 Bm 0 ((turnG (n29 A1) (n29 A2) (n29 A3) (ofL A4) (n29 A5) 0 t6z).c none 0) = w5 at *
  go_wp2_with fail
  refine (c47l A6 _ (by omega)).mono ?_
  rintro e w6 ⟨rfl, hb6⟩
  have hz6 : w5.heap.size ≤ w6.heap.size := hb6.size
  have bM6 := BlkAt.below bM5 hb6 hMz4
  have oM6 := OpnAt.below oM5 hb6 hMz4
  have bR6 := BlkAt.below bR5 hb6 (by omega)
  have oR6 := OpnAt.below oR5 hb6 (by omega)
  have hB6 : Below w.heap.size w w6 := hB5.trans (hb6.mono hB5.size)
  have e6 : w6.cell? ⟨g2, 1, none⟩ = some (.string (ofL G)) := (hb6.cell (p := ⟨g2, 1, none⟩) hg2z).trans e5
  have k15 := bM6 15 _ rfl
  have f15 := oM6 15
  have e7 : (w6.setCell ⟨Bm, 15, none⟩ (.int .i64 (n29 A6))).cell? ⟨g2, 1, none⟩ = some (.string (ofL G)) := pset (q := ⟨Bm, 15, none⟩) (p := ⟨g2, 1, none⟩) (by show Bm ≠ g2; omega) e6 _
  have bM7 : BlkAt (w6.setCell ⟨Bm, 15, none⟩ (.int .i64 (n29 A6))) Bm ((turnG (n29 A1) (n29 A2) (n29 A3) (ofL A4) (n29 A5) (n29 A6) t6z).c none 0) := bM6.set 15 _ (by show 15 < 16; omega)
  have oM7 : OpnAt (w6.setCell ⟨Bm, 15, none⟩ (.int .i64 (n29 A6))) Bm := oM6.set _ _
  have bR7 : BlkAt (w6.setCell ⟨Bm, 15, none⟩ (.int .i64 (n29 A6))) w.heap.size zG := bR6.other _ _ (by show Bm ≠ w.heap.size; omega)
  have oR7 : OpnAt (w6.setCell ⟨Bm, 15, none⟩ (.int .i64 (n29 A6))) w.heap.size := oR6.set _ _
  have hB7 : Below w.heap.size w (w6.setCell ⟨Bm, 15, none⟩ (.int .i64 (n29 A6))) := hB6.setCell (by show w.heap.size ≤ Bm; omega) _
  have hz7 : (w6.setCell ⟨Bm, 15, none⟩ (.int .i64 (n29 A6))).heap.size = w6.heap.size := by simp
  clear hb6 bM5 oM5 bR5 oR5 bR6 oR6 hB5 e5 bM6 oM6 e6
  go_wp2_with fail
  clear k15 f15
  generalize (w6.setCell ⟨Bm, 15, none⟩ (.int .i64 (n29 A6))) = w7 at *
  refine (c46o G _ (by omega) 1 (by omega) (by omega)).mono ?_
  rintro e w8 ⟨⟨g4, cp4, rfl, hg4, hl4⟩, hb8⟩
  have e8 : w8.cell? ⟨g4, 0, none⟩ = some (.string (ofL (wordOf G))) := hl4.2 0 (by simp [wordsN])
  have hg4z := hl4.1
  have hMz7 : Bm < w7.heap.size := by omega
  have hz8 : w7.heap.size ≤ w8.heap.size := hb8.size
  have bM8 := BlkAt.below bM7 hb8 hMz7
  have oM8 := OpnAt.below oM7 hb8 hMz7
  have bR8 := BlkAt.below bR7 hb8 (by omega)
  have oR8 := OpnAt.below oR7 hb8 (by omega)
  have hB8 : Below w.heap.size w w8 := hB7.trans (hb8.mono hB7.size)
  clear hb8 hl4 bM7 oM7 bR7 oR7 hB7 e7
  have hrG := rest_small G
  by_cases hov : wordOf G = [111, 118, 101, 114]
  · have hes : ofL (wordOf G) = ⟨#[111, 118, 101, 114]⟩ := by rw [hov]; rfl
    rw [hes] at e8
    have HOV : Hid (wordOf G = [111, 118, 101, 114]) := hov
    clear hov hes
    have k10 := bM8 10 _ rfl
    have f10 := oM8 10
    have bM9 : BlkAt (w8.setCell ⟨Bm, 10, none⟩ (.bool true)) Bm (((turnG (n29 A1) (n29 A2) (n29 A3) (ofL A4) (n29 A5) (n29 A6) t6z).c none 0).set 10 (.bool true)) := bM8.set 10 _ (by show 10 < 16; omega)
    have oM9 : OpnAt (w8.setCell ⟨Bm, 10, none⟩ (.bool true)) Bm := oM8.set _ _
    have bR9 : BlkAt (w8.setCell ⟨Bm, 10, none⟩ (.bool true)) w.heap.size zG := bR8.other _ _ (by show Bm ≠ w.heap.size; omega)
    have oR9 : OpnAt (w8.setCell ⟨Bm, 10, none⟩ (.bool true)) w.heap.size := oR8.set _ _
    have hB9 : Below w.heap.size w (w8.setCell ⟨Bm, 10, none⟩ (.bool true)) := hB8.setCell (by show w.heap.size ≤ Bm; omega) _
    have hz9 : (w8.setCell ⟨Bm, 10, none⟩ (.bool true)).heap.size = w8.heap.size := by simp
    clear bM8 oM8 bR8 oR8 hB8
    go_wp2_with fail
    clear k10 f10 e8
    generalize (w8.setCell ⟨Bm, 10, none⟩ (.bool true)) = w9 at *
    refine (c50 (restOf G) _ (by omega)).mono ?_
    rintro e wa ⟨⟨c, t, rfl, hrr, hts⟩, hba⟩
    have hza : w9.heap.size ≤ wa.heap.size := hba.size
    have hMz9 : Bm < w9.heap.size := by omega
    have bMa := BlkAt.below bM9 hba hMz9
    have oMa := OpnAt.below oM9 hba hMz9
    have bRa := BlkAt.below bR9 hba (by omega)
    have oRa := OpnAt.below oR9 hba (by omega)
    have hBa : Below w.heap.size w wa := hB9.trans (hba.mono hB9.size)
    have HX : Hid (LsM s.data.toList (turnG (n29 A1) (n29 A2) (n29 A3) (ofL A4) (n29 A5) (n29 A6) ⟨true, c, t, false, ⟨#[]⟩, 0⟩)) := HXg ⟨true, c, t, false, ⟨#[]⟩, 0⟩ (lsTn_over HOV.out hrr)
    have k11 := bMa 11 _ rfl
    have f11 := oMa 11
    have k12 := bMa 12 _ rfl
    have f12 := oMa 12
    have HM : BlkAt ((wa.setCell ⟨Bm, 11, none⟩ (.int .i64 c)).setCell ⟨Bm, 12, none⟩ (.string t)) Bm ((turnG (n29 A1) (n29 A2) (n29 A3) (ofL A4) (n29 A5) (n29 A6) ⟨true, c, t, false, ⟨#[]⟩, 0⟩).c none 0) := (bMa.set 11 (.int .i64 c) (by show 11 < 16; omega)).set 12 (.string t) (by show 12 < 16; omega)
    have HR : BlkAt ((wa.setCell ⟨Bm, 11, none⟩ (.int .i64 c)).setCell ⟨Bm, 12, none⟩ (.string t)) w.heap.size zG := (bRa.other _ _ (by show Bm ≠ w.heap.size; omega)).other _ _ (by show Bm ≠ w.heap.size; omega)
    have HO : OpnAt ((wa.setCell ⟨Bm, 11, none⟩ (.int .i64 c)).setCell ⟨Bm, 12, none⟩ (.string t)) w.heap.size := (oRa.set _ _).set _ _
    have hBU : Below w.heap.size w ((wa.setCell ⟨Bm, 11, none⟩ (.int .i64 c)).setCell ⟨Bm, 12, none⟩ (.string t)) := (hBa.setCell (by show w.heap.size ≤ Bm; omega) _).setCell (by show w.heap.size ≤ Bm; omega) _
    have hMU : Bm < ((wa.setCell ⟨Bm, 11, none⟩ (.int .i64 c)).setCell ⟨Bm, 12, none⟩ (.string t)).heap.size := by simp; omega
    have hRU : w.heap.size < ((wa.setCell ⟨Bm, 11, none⟩ (.int .i64 c)).setCell ⟨Bm, 12, none⟩ (.string t)).heap.size := by simp; omega
    have HLK : LksAt ((wa.setCell ⟨Bm, 11, none⟩ (.int .i64 c)).setCell ⟨Bm, 12, none⟩ (.string t)) none (turnG (n29 A1) (n29 A2) (n29 A3) (ofL A4) (n29 A5) (n29 A6) ⟨true, c, t, false, ⟨#[]⟩, 0⟩).ls := .inl rfl
    have hle : (turnG (n29 A1) (n29 A2) (n29 A3) (ofL A4) (n29 A5) (n29 A6) ⟨true, c, t, false, ⟨#[]⟩, 0⟩).le 1048576 := ⟨⟨by show (ofL A4).size ≤ 1048576; rw [ofL_size]; omega, Nat.zero_le _, Nat.zero_le _⟩, ⟨Nat.zero_le _, fun _ => ⟨Nat.zero_le _, Nat.zero_le _⟩⟩, ⟨hts, Nat.zero_le _⟩⟩
    have hAne : ∀ g o, (none : Option Addr) = some ⟨g, o, none⟩ → g ≠ w.heap.size := fun _ _ h => by cases h
    clear hba bM9 oM9 bR9 oR9 hB9 bMa oMa bRa oRa hBa hrr HXg
    go_wp2_with (refine wpList_load_blk rfl 41 (.tmp 7) rfl Bm rfl ((turnG (n29 A1) (n29 A2) (n29 A3) (ofL A4) (n29 A5) (n29 A6) ⟨true, c, t, false, ⟨#[]⟩, 0⟩).c none 0) _ HM Tryz.underlying41 rfl (by kernel_rfl) ?_)
    refine (c13v (turnG (n29 A1) (n29 A2) (n29 A3) (ofL A4) (n29 A5) (n29 A6) ⟨true, c, t, false, ⟨#[]⟩, 0⟩) key none 0 _ hle HLK hk).mono ?_
    rintro e U1 ⟨⟨str, rfl, hT⟩, hbU⟩
    have HM1 := BlkAt.below HM hbU hMU
    have HR1 := BlkAt.below HR hbU hRU
    have HO1 := OpnAt.below HO hbU hRU
    have hB1 : Below w.heap.size w U1 := hBU.trans (hbU.mono hBU.size)
    have HLK1 := lks_below HLK hbU
    clear HM HR HO HLK hBU hbU
    by_cases he : str.data.toList = s.data.toList
    · have HN : Hid (RMS s.data.toList key (turnG (n29 A1) (n29 A2) (n29 A3) (ofL A4) (n29 A5) (n29 A6) ⟨true, c, t, false, ⟨#[]⟩, 0⟩) true) := rms_yes HX.out hT HSL.out he
      have e2 : str.toList = s.toList := by rw [ByteArray.toList_eq, ByteArray.toList_eq]; exact he
      have e1 : (str.toList == s.toList) = true := by simpa using e2
      clear hT HX he
      go_wp2_with (first | refine wpList_load_blk rfl 41 (.tmp 7) rfl Bm rfl ((turnG (n29 A1) (n29 A2) (n29 A3) (ofL A4) (n29 A5) (n29 A6) ⟨true, c, t, false, ⟨#[]⟩, 0⟩).c none 0) _ HM1 Tryz.underlying41 rfl (by kernel_rfl) ?_ | refine wpList_store_blk rfl 41 (.tmp 4) (.tmp 151) rfl w.heap.size 0 rfl ((turnG (n29 A1) (n29 A2) (n29 A3) (ofL A4) (n29 A5) (n29 A6) ⟨true, c, t, false, ⟨#[]⟩, 0⟩).c none 0) rfl (blk_some HR1 _ rfl) HO1 (G16.c_one _ _ _) (by kernel_rfl) rfl ?_)
      exact fin17 (turnG (n29 A1) (n29 A2) (n29 A3) (ofL A4) (n29 A5) (n29 A6) ⟨true, c, t, false, ⟨#[]⟩, 0⟩) none 0 true HN.out (fun h => by cases h) hle (lks_filo _ HLK1 hAne) rfl rfl rfl HR1 hB1
    · have HN : Hid (RMS s.data.toList key g16z false) := rms_no HX.out hT he
      have e2 : ¬ str.toList = s.toList := by rw [ByteArray.toList_eq, ByteArray.toList_eq]; exact he
      have e1 : (str.toList == s.toList) = false := by simpa using e2
      clear hT HX he
      go_wp2_with (refine wpList_store_blk rfl 41 (.tmp 4) (.tmp 150) rfl w.heap.size 0 rfl zG rfl (blk_some HR1 zG rfl) HO1 (by simp [zG, Value.oneCell']) (by kernel_rfl) rfl ?_)
      exact fin17_no HN.out rfl rfl rfl HR1 hB1
  · have hb1 : ((ofL (wordOf G)).toList == [111, 118, 101, 114]) = false := by rw [over_word]; exact decide_eq_false hov
    have hb2 := has_eq G
    have HX : Hid (LsM s.data.toList (turnG (n29 A1) (n29 A2) (n29 A3) (ofL A4) (n29 A5) (n29 A6) ⟨false, 0, ⟨#[]⟩, hasW G, ofL (restOf G), 0⟩)) := HXg ⟨false, 0, ⟨#[]⟩, hasW G, ofL (restOf G), 0⟩ (lsTn_look hov)
    have e8' : (w8.setCell ⟨Bm, 13, none⟩ (.bool (hasW G))).cell? ⟨g4, 0, none⟩ = some (.string (ofL (wordOf G))) := pset (q := ⟨Bm, 13, none⟩) (p := ⟨g4, 0, none⟩) (by show Bm ≠ g4; omega) e8 _
    have k13 := bM8 13 _ rfl
    have f13 := oM8 13
    have k14 := bM8 14 _ rfl
    have f14 := oM8 14
    have HM : BlkAt ((w8.setCell ⟨Bm, 13, none⟩ (.bool (hasW G))).setCell ⟨Bm, 14, none⟩ (.string (ofL (restOf G)))) Bm ((turnG (n29 A1) (n29 A2) (n29 A3) (ofL A4) (n29 A5) (n29 A6) ⟨false, 0, ⟨#[]⟩, hasW G, ofL (restOf G), 0⟩).c none 0) := (bM8.set 13 (.bool (hasW G)) (by show 13 < 16; omega)).set 14 (.string (ofL (restOf G))) (by show 14 < 16; omega)
    have HR : BlkAt ((w8.setCell ⟨Bm, 13, none⟩ (.bool (hasW G))).setCell ⟨Bm, 14, none⟩ (.string (ofL (restOf G)))) w.heap.size zG := (bR8.other _ _ (by show Bm ≠ w.heap.size; omega)).other _ _ (by show Bm ≠ w.heap.size; omega)
    have HO : OpnAt ((w8.setCell ⟨Bm, 13, none⟩ (.bool (hasW G))).setCell ⟨Bm, 14, none⟩ (.string (ofL (restOf G)))) w.heap.size := (oR8.set _ _).set _ _
    have hBU : Below w.heap.size w ((w8.setCell ⟨Bm, 13, none⟩ (.bool (hasW G))).setCell ⟨Bm, 14, none⟩ (.string (ofL (restOf G)))) := (hB8.setCell (by show w.heap.size ≤ Bm; omega) _).setCell (by show w.heap.size ≤ Bm; omega) _
    have hMU : Bm < ((w8.setCell ⟨Bm, 13, none⟩ (.bool (hasW G))).setCell ⟨Bm, 14, none⟩ (.string (ofL (restOf G)))).heap.size := by simp; omega
    have hRU : w.heap.size < ((w8.setCell ⟨Bm, 13, none⟩ (.bool (hasW G))).setCell ⟨Bm, 14, none⟩ (.string (ofL (restOf G)))).heap.size := by simp; omega
    have HLK : LksAt ((w8.setCell ⟨Bm, 13, none⟩ (.bool (hasW G))).setCell ⟨Bm, 14, none⟩ (.string (ofL (restOf G)))) none (turnG (n29 A1) (n29 A2) (n29 A3) (ofL A4) (n29 A5) (n29 A6) ⟨false, 0, ⟨#[]⟩, hasW G, ofL (restOf G), 0⟩).ls := .inl rfl
    have hle : (turnG (n29 A1) (n29 A2) (n29 A3) (ofL A4) (n29 A5) (n29 A6) ⟨false, 0, ⟨#[]⟩, hasW G, ofL (restOf G), 0⟩).le 1048576 := ⟨⟨by show (ofL A4).size ≤ 1048576; rw [ofL_size]; omega, Nat.zero_le _, Nat.zero_le _⟩, ⟨Nat.zero_le _, fun _ => ⟨Nat.zero_le _, Nat.zero_le _⟩⟩, ⟨Nat.zero_le _, by show (ofL (restOf G)).size ≤ 1048576; rw [ofL_size]; omega⟩⟩
    have hAne : ∀ g o, (none : Option Addr) = some ⟨g, o, none⟩ → g ≠ w.heap.size := fun _ _ h => by cases h
    clear hov HXg bM8 oM8 bR8 oR8 hB8
    have hrN : restN G 1 = restOf G := rfl
    rw [hrN]
    clear hrN
    generalize ofL (wordOf G) = wd at *
    generalize hasW G = hg at *
    generalize ofL (restOf G) = rG at *
    go_wp2_with (refine wpList_load_blk rfl 41 (.tmp 7) rfl Bm rfl ((turnG (n29 A1) (n29 A2) (n29 A3) (ofL A4) (n29 A5) (n29 A6) ⟨false, 0, ⟨#[]⟩, hg, rG, 0⟩).c none 0) _ HM Tryz.underlying41 rfl (by kernel_rfl) ?_)
    refine (c13v (turnG (n29 A1) (n29 A2) (n29 A3) (ofL A4) (n29 A5) (n29 A6) ⟨false, 0, ⟨#[]⟩, hg, rG, 0⟩) key none 0 _ hle HLK hk).mono ?_
    rintro e U1 ⟨⟨str, rfl, hT⟩, hbU⟩
    have HM1 := BlkAt.below HM hbU hMU
    have HR1 := BlkAt.below HR hbU hRU
    have HO1 := OpnAt.below HO hbU hRU
    have hB1 : Below w.heap.size w U1 := hBU.trans (hbU.mono hBU.size)
    have HLK1 := lks_below HLK hbU
    clear HM HR HO HLK hBU hbU
    by_cases he : str.data.toList = s.data.toList
    · have HN : Hid (RMS s.data.toList key (turnG (n29 A1) (n29 A2) (n29 A3) (ofL A4) (n29 A5) (n29 A6) ⟨false, 0, ⟨#[]⟩, hg, rG, 0⟩) true) := rms_yes HX.out hT HSL.out he
      have e2 : str.toList = s.toList := by rw [ByteArray.toList_eq, ByteArray.toList_eq]; exact he
      have e1 : (str.toList == s.toList) = true := by simpa using e2
      clear hT HX he
      go_wp2_with (first | refine wpList_load_blk rfl 41 (.tmp 7) rfl Bm rfl ((turnG (n29 A1) (n29 A2) (n29 A3) (ofL A4) (n29 A5) (n29 A6) ⟨false, 0, ⟨#[]⟩, hg, rG, 0⟩).c none 0) _ HM1 Tryz.underlying41 rfl (by kernel_rfl) ?_ | refine wpList_store_blk rfl 41 (.tmp 4) (.tmp 151) rfl w.heap.size 0 rfl ((turnG (n29 A1) (n29 A2) (n29 A3) (ofL A4) (n29 A5) (n29 A6) ⟨false, 0, ⟨#[]⟩, hg, rG, 0⟩).c none 0) rfl (blk_some HR1 _ rfl) HO1 (G16.c_one _ _ _) (by kernel_rfl) rfl ?_)
      exact fin17 (turnG (n29 A1) (n29 A2) (n29 A3) (ofL A4) (n29 A5) (n29 A6) ⟨false, 0, ⟨#[]⟩, hg, rG, 0⟩) none 0 true HN.out (fun h => by cases h) hle (lks_filo _ HLK1 hAne) rfl rfl rfl HR1 hB1
    · have HN : Hid (RMS s.data.toList key g16z false) := rms_no HX.out hT he
      have e2 : ¬ str.toList = s.toList := by rw [ByteArray.toList_eq, ByteArray.toList_eq]; exact he
      have e1 : (str.toList == s.toList) = false := by simpa using e2
      clear hT HX he
      go_wp2_with (refine wpList_store_blk rfl 41 (.tmp 4) (.tmp 150) rfl w.heap.size 0 rfl zG rfl (blk_some HR1 zG rfl) HO1 (by simp [zG, Value.oneCell']) (by kernel_rfl) rfl ?_)
      exact fin17_no HN.out rfl rfl rfl HR1 hB1
end Go.Proofs.YtdcgjdgpiogdaaaGreatDoor

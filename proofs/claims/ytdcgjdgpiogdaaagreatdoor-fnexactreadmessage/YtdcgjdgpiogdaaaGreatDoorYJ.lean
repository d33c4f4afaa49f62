import Derived.Test.YtdcgjdgpiogdaaaGreatDoorG14
import Derived.Lib.AppendIntMem
import Derived.Shelf.Unicode.PredsPay
namespace Go.Proofs.YtdcgjdgpiogdaaaGreatDoor
open Go.RowKit
/-- The table of Itoa lies as it was laid. -/
def Pow (w : World) : Prop := Lib.TabIs Tryz.prog w "internal/strconv.uint64pow10" .u64 Lib.pow10Tab
theorem pow_named : ∃ g, Tryz.prog.globalNamed "internal/strconv.uint64pow10" = some g := by
  have h : (Tryz.prog.globalNamed "internal/strconv.uint64pow10").isSome = true := by kernel_rfl
  exact Option.isSome_iff_exists.1 h
theorem pow_below {w w' : World} (h : Pow w) (hb : Below w.heap.size w w') : Pow w' := by
  obtain ⟨g, hg⟩ := pow_named
  exact TabIs_below hg h hb
theorem decDigits_dec (f : Nat) : ∀ n : Nat, n < f → Lib.decDigits n = dec n := by
  induction f with
  | zero => intro n h; omega
  | succ f ih =>
    intro n h
    unfold Lib.decDigits
    by_cases a : n < 10
    · rw [dif_pos a, dec_lt _ (by omega)]
      congr 2
    · rw [dif_neg a, dec_ge _ (by omega), ih (n / 10) (by omega)]
      congr 3
theorem itoa_dec (n : Int) (h0 : 0 ≤ n) : Lib.itoa n = dec n := by
  unfold Lib.itoa
  rw [if_neg (by omega), decDigits_dec (n.toNat + 1) n.toNat (by omega), Int.toNat_of_nonneg h0]
theorem c118 (n : Int) (w : World) (h0 : 0 ≤ n) (h1 : n ≤ 100000000) (hp : Pow w) :
    Calls Tryz.prog 118 #[.int .i64 n] w fun e w' => e = .returned (.string (ofL (dec n))) ∧ Below w.heap.size w w' := by
  refine (Tryz.strconv_Itoa n (by omega) (by omega) w hp).mono ?_
  rintro e w' ⟨rfl, k, os, rfl⟩
  rw [itoa_dec n h0]
  exact ⟨rfl, Lib.below_grow _ _ (Nat.le_refl _) k os⟩
set_option maxHeartbeats 4000000 in
set_option maxRecDepth 100000 in
theorem c108 (c : Int) (t : ByteArray) (w : World) (hp : Pow w) (hc0 : 0 ≤ c) (hc1 : c ≤ 1000) (ht : t.size ≤ 1048600) :
    Calls Tryz.prog 108 #[.agg #[.int .i64 c, .string t]] w fun e w' => e = .returned (.string (ofL (resL c t))) ∧ Below w.heap.size w w' := by
  have z1 := dec_size c hc0 (by omega)
  have z2 := quote_size t
  have HE : Hid (ofL (dec c) ++ ⟨#[32]⟩ ++ ofL (quoteL t.data.toList) = ofL (resL c t)) := resL_eq c t
  have k1 : ¬ 9223372036854775807 < (ofL (dec c)).size + 1 := by omega
  have k1' : ¬ 9223372036854775807 ≤ (ofL (dec c)).size := by omega
  have k2 : ¬ 9223372036854775807 < (ofL (dec c)).size + 1 + (ofL (quoteL t.data.toList)).size := by omega
  go_enter Tryz.func108, Tryz.ntmps108
  go_wp2_with fail
  have hBV : Below w.heap.size w (w.alloc (.cells #[.int .i64 c, .string t] 37)) := (Below.refl _ _).alloc (Nat.le_refl _) _
  have hzV : w.heap.size < (w.alloc (.cells #[.int .i64 c, .string t] 37)).heap.size := by simp
  have a0 : (w.alloc (.cells #[.int .i64 c, .string t] 37)).cell? ⟨w.heap.size, 0, none⟩ = some (.int .i64 c) := by simp [go_sem]
  have a1 : (w.alloc (.cells #[.int .i64 c, .string t] 37)).cell? ⟨w.heap.size, 1, none⟩ = some (.string t) := by simp [go_sem]
  have HPV : Hid (Pow (w.alloc (.cells #[.int .i64 c, .string t] 37))) := pow_below hp hBV
  clear hp
  generalize (w.alloc (.cells #[.int .i64 c, .string t] 37)) = V at *
  refine wp_region_held_drew (S := (fun u => u.cell? ⟨w.heap.size, 0, none⟩ = some (.int .i64 c) ∧ u.cell? ⟨w.heap.size, 1, none⟩ = some (.string t))) (by kernel_rfl) ?_ (fun hHeld => ?_)
  · ((try dsimp only); go_keep)
  refine wpAnyH_take (i := 0) (oi := { dst := some 3, op := Op.fieldAddr 37 (Operand.tmp 1) 0, type := 0, pos := "l6_log.go:251", after := #[], guard := none }) (v := ?_) rfl (by kernel_rfl) (by kernel_rfl) (by kernel_rfl) (fun _ _ _ h => h) (Or.inl ⟨by rfl, ?_⟩) (by assumption) ?_
  rotate_left
  · intro wq hSw
    (try dsimp only at hSw)
    go_simp
    try with_reducible rfl
  try simp only [Act.put, List.setIfInBounds_toArray, List.set_cons_zero, List.set_cons_succ]
  refine wpAnyH_take (i := 1) (oi := { dst := some 4, op := Op.load 3 (Operand.tmp 3), type := 3, pos := "l6_log.go:251", after := #[{ on := 0, ground := Ground.data }], guard := none }) (v := ?_) rfl (by kernel_rfl) (by kernel_rfl) (by kernel_rfl) (fun _ _ _ h => h) (Or.inl ⟨by rfl, ?_⟩) (by assumption) ?_
  rotate_left
  · intro wq hSw
    (try dsimp only at hSw)
    go_simp
    try with_reducible rfl
  try simp only [Act.put, List.setIfInBounds_toArray, List.set_cons_zero, List.set_cons_succ]
  refine wpAnyH_take (i := 4) (oi := { dst := some 7, op := Op.fieldAddr 37 (Operand.tmp 1) 1, type := 0, pos := "l6_log.go:251", after := #[], guard := none }) (v := ?_) rfl (by kernel_rfl) (by kernel_rfl) (by kernel_rfl) (fun _ _ _ h => h) (Or.inl ⟨by rfl, ?_⟩) (by assumption) ?_
  rotate_left
  · intro wq hSw
    (try dsimp only at hSw)
    go_simp
    try with_reducible rfl
  try simp only [Act.put, List.setIfInBounds_toArray, List.set_cons_zero, List.set_cons_succ]
  refine wpAnyH_take (i := 5) (oi := { dst := some 8, op := Op.load 9 (Operand.tmp 7), type := 9, pos := "l6_log.go:251", after := #[{ on := 4, ground := Ground.data }], guard := none }) (v := ?_) rfl (by kernel_rfl) (by kernel_rfl) (by kernel_rfl) (fun _ _ _ h => h) (Or.inl ⟨by rfl, ?_⟩) (by assumption) ?_
  rotate_left
  · intro wq hSw
    (try dsimp only at hSw)
    go_simp
    try with_reducible rfl
  try simp only [Act.put, List.setIfInBounds_toArray, List.set_cons_zero, List.set_cons_succ]
  refine wpAnyH_ready (rs := [2]) (by kernel_rfl) (by simp) ?_
  refine AllReadyH.cons (o := { dst := some 5, op := Op.call { callee := Callee.value (Operand.func 118), args := #[Operand.tmp 4], argTypes := #[3] }, type := 9, pos := "l6_log.go:251", after := #[{ on := 1, ground := Ground.data }], guard := none }) rfl (fun K hK => ?_) AllReadyH.nil
  go_simp
  refine (c118 c _ hc0 (by omega) (pow_below HPV.out (Below.refl _ _).drew)).mono ?_
  rintro e w1 ⟨rfl, hb1⟩
  have HB1 : Hid (Below V.heap.size V w1) := ((Below.refl _ _).drew).trans hb1
  have b0 := (HB1.out.cell (p := ⟨w.heap.size, 0, none⟩) (by exact hzV)).trans a0
  have b1 := (HB1.out.cell (p := ⟨w.heap.size, 1, none⟩) (by exact hzV)).trans a1
  clear hb1
  go_wp2_with fail
  clear hHeld
  refine hK.out _ _ ?_ (fun hHeld => ?_)
  · ((try dsimp only); go_keep)
  clear hK K
  try simp only [Act.put, List.setIfInBounds_toArray, List.set_cons_zero, List.set_cons_succ]
  refine wpAnyH_take (i := 3) (oi := { dst := some 6, op := Op.binOp BinOp.add 9 (Operand.tmp 5) (Operand.const (Value.string { data := #[32] })) 9, type := 9, pos := "l6_log.go:251", after := #[{ on := 2, ground := Ground.data }], guard := none }) (v := ?_) rfl (by kernel_rfl) (by kernel_rfl) (by kernel_rfl) (fun _ _ _ h => h) (Or.inl ⟨by rfl, ?_⟩) (by assumption) ?_
  rotate_left
  · intro wq hSw
    (try dsimp only at hSw)
    go_simp
    try with_reducible rfl
  try simp only [Act.put, List.setIfInBounds_toArray, List.set_cons_zero, List.set_cons_succ]
  refine wpAnyH_ready (rs := [6]) (by kernel_rfl) (by simp) ?_
  refine AllReadyH.cons (o := { dst := some 9, op := Op.call { callee := Callee.value (Operand.func 120), args := #[Operand.tmp 8], argTypes := #[9] }, type := 9, pos := "l6_log.go:251", after := #[{ on := 5, ground := Ground.data }, { on := 2, ground := Ground.chain }], guard := none }) rfl (fun K hK => ?_) AllReadyH.nil
  go_simp
  refine (c120' t _ (by omega)).mono ?_
  rintro e w2 ⟨rfl, hb2⟩
  have HB2 : Hid (Below w1.heap.size w1 w2) := hb2
  have hzw : w.heap.size < w1.heap.size := Nat.lt_of_lt_of_le hzV HB1.out.size
  have d0 := (HB2.out.cell (p := ⟨w.heap.size, 0, none⟩) (by exact hzw)).trans b0
  have d1 := (HB2.out.cell (p := ⟨w.heap.size, 1, none⟩) (by exact hzw)).trans b1
  clear hb2
  go_wp2_with fail
  clear hHeld
  refine hK.out _ _ ?_ (fun hHeld => ?_)
  · ((try dsimp only); go_keep)
  clear hK K
  try simp only [Act.put, List.setIfInBounds_toArray, List.set_cons_zero, List.set_cons_succ]
  refine wpAnyH_take (i := 7) (oi := { dst := some 10, op := Op.binOp BinOp.add 9 (Operand.tmp 6) (Operand.tmp 9) 9, type := 9, pos := "l6_log.go:251", after := #[{ on := 3, ground := Ground.data }, { on := 6, ground := Ground.data }], guard := none }) (v := ?_) rfl (by kernel_rfl) (by kernel_rfl) (by kernel_rfl) (fun _ _ _ h => h) (Or.inl ⟨by rfl, ?_⟩) (by assumption) ?_
  rotate_left
  · intro wq hSw
    (try dsimp only at hSw)
    go_simp
    try with_reducible rfl
  try simp only [Act.put, List.setIfInBounds_toArray, List.set_cons_zero, List.set_cons_succ]
  refine wpAnyH_take (i := 8) (oi := { dst := some 2, op := Op.assign (Operand.tmp 10), type := 9, pos := "l6_log.go:251", after := #[{ on := 7, ground := Ground.data }, { on := 6, ground := Ground.chain }, { on := 0, ground := Ground.phase }, { on := 1, ground := Ground.phase }, { on := 2, ground := Ground.phase }, { on := 3, ground := Ground.phase }, { on := 4, ground := Ground.phase }, { on := 5, ground := Ground.phase }, { on := 6, ground := Ground.phase }, { on := 7, ground := Ground.phase }], guard := none }) (v := ?_) rfl (by kernel_rfl) (by kernel_rfl) (by kernel_rfl) (fun _ _ _ h => h) (Or.inl ⟨by rfl, ?_⟩) (by assumption) ?_
  rotate_left
  · intro wq hSw
    (try dsimp only at hSw)
    go_simp
    try with_reducible rfl
  try simp only [Act.put, List.setIfInBounds_toArray, List.set_cons_zero, List.set_cons_succ]
  refine wpAnyH_done (by kernel_rfl) ?_ _
  have hB2 : Below w.heap.size w w2 := (hBV.trans (HB1.out.mono hBV.size)).trans (HB2.out.mono (hBV.trans (HB1.out.mono hBV.size)).size)
  clear hHeld
  go_wp2
  go_ret
  exact ⟨by rw [← HE.out]; rfl, hB2⟩
end Go.Proofs.YtdcgjdgpiogdaaaGreatDoor

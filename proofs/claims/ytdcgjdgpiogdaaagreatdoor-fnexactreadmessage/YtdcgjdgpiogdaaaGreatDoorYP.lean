import Derived.Test.YtdcgjdgpiogdaaaGreatDoorYO
namespace Go.Proofs.YtdcgjdgpiogdaaaGreatDoor
open Go.RowKit
def firstL (x : G16) : List UInt8 := num3 x.fr x.ep x.ed ++ [32] ++ x.km.nm.data.toList ++ [32] ++ num2 x.ct x.tn.st ++ [10]
theorem firstL_eq (x : G16) : ofL (num3 x.fr x.ep x.ed) ++ ⟨#[32]⟩ ++ x.km.nm ++ ⟨#[32]⟩ ++ ofL (num2 x.ct x.tn.st) ++ ⟨#[10]⟩ = ofL (firstL x) := by
  show ofL (num3 x.fr x.ep x.ed) ++ ofL [32] ++ ofL x.km.nm.data.toList ++ ofL [32] ++ ofL (num2 x.ct x.tn.st) ++ ofL [10] = _
  rw [cat_ofL, cat_ofL, cat_ofL, cat_ofL, cat_ofL]; rfl
/-- What a turn's lines are behind the word. -/
def turnW (x : G16) : List UInt8 := if x.tn.over = true then firstL x ++ [111, 118, 101, 114, 32] ++ resL x.tn.cd x.tn.tx ++ [10] else firstL x ++ (lookW x.tn.has).data.toList ++ [32] ++ x.tn.nm.data.toList ++ [10]
theorem over_eq (f : List UInt8) (c : Int) (s : ByteArray) : ofL f ++ ⟨#[111, 118, 101, 114, 32]⟩ ++ ofL (resL c s) ++ ⟨#[10]⟩ = ofL (f ++ [111, 118, 101, 114, 32] ++ resL c s ++ [10]) := by
  show ofL f ++ ofL [111, 118, 101, 114, 32] ++ ofL (resL c s) ++ ofL [10] = _
  rw [cat_ofL, cat_ofL, cat_ofL]
theorem look_eq (f : List UInt8) (l s : ByteArray) : ofL f ++ l ++ ⟨#[32]⟩ ++ s ++ ⟨#[10]⟩ = ofL (f ++ l.data.toList ++ [32] ++ s.data.toList ++ [10]) := by
  show ofL f ++ ofL l.data.toList ++ ofL [32] ++ ofL s.data.toList ++ ofL [10] = _
  rw [cat_ofL, cat_ofL, cat_ofL, cat_ofL]
set_option maxHeartbeats 16000000 in
set_option maxRecDepth 100000 in
theorem c80 (x : G16) (kd : Int) (ai : Option Addr) (ci : Nat) (w : World) (hp : Pow w) (r1 : 0 ≤ x.fr ∧ x.fr ≤ 1000) (r2 : 0 ≤ x.ep ∧ x.ep ≤ 1000) (r3 : 0 ≤ x.ed ∧ x.ed ≤ 1000) (r4 : 0 ≤ x.ct ∧ x.ct ≤ 1000) (r5 : 0 ≤ x.tn.st ∧ x.tn.st ≤ 1000) (r6 : 0 ≤ x.tn.cd ∧ x.tn.cd ≤ 1000) (s1 : x.km.nm.size ≤ 1048576) (s2 : x.tn.tx.size ≤ 1048576) (s3 : x.tn.nm.size ≤ 1048576) :
    Calls Tryz.prog 80 #[.agg #[.int .i64 kd, .int .i64 x.to, .int .i64 x.fr, .int .i64 x.ep, .int .i64 x.ed, .string x.km.nm, .string x.km.tl, .string x.km.ar, .slice ai x.ls.length ci, .int .i64 x.ct, .bool x.tn.over, .int .i64 x.tn.cd, .string x.tn.tx, .bool x.tn.has, .string x.tn.nm, .int .i64 x.tn.st]] w fun e w' => e = .returned (.string (ofL (turnW x))) ∧ Below w.heap.size w w' := by
  have z3 := num3_size x.fr x.ep x.ed r1 r2 r3
  have z2 := num2_size x.ct x.tn.st r4 r5
  have zr := res_size x.tn.cd x.tn.tx r6.1 r6.2
  have zl : (lookW x.tn.has).size ≤ 3 := Nat.le_of_eq (lookW_size _)
  have HFS : Hid (ofL (num3 x.fr x.ep x.ed) ++ ⟨#[32]⟩ ++ x.km.nm ++ ⟨#[32]⟩ ++ ofL (num2 x.ct x.tn.st) ++ ⟨#[10]⟩ = ofL (firstL x)) := firstL_eq x
  have e32 : (⟨#[32]⟩ : ByteArray).size = 1 := rfl
  have e10 : (⟨#[10]⟩ : ByteArray).size = 1 := rfl
  have zf : (ofL (num3 x.fr x.ep x.ed) ++ ⟨#[32]⟩ ++ x.km.nm ++ ⟨#[32]⟩ ++ ofL (num2 x.ct x.tn.st) ++ ⟨#[10]⟩).size ≤ 1048700 := by simp only [ByteArray.size_append]; omega
  have k0 : ¬ 9223372036854775807 < (ofL (num3 x.fr x.ep x.ed)).size + 1 := by omega
  have k0' : ¬ 9223372036854775807 ≤ (ofL (num3 x.fr x.ep x.ed)).size := by omega
  have k1 : ¬ 9223372036854775807 < (ofL (num3 x.fr x.ep x.ed)).size + 1 + x.km.nm.size := by omega
  have k2 : ¬ 9223372036854775807 < (ofL (num3 x.fr x.ep x.ed)).size + 1 + x.km.nm.size + 1 := by omega
  have k2' : ¬ 9223372036854775807 ≤ (ofL (num3 x.fr x.ep x.ed)).size + 1 + x.km.nm.size := by omega
  have k3 : ¬ 9223372036854775807 < (ofL (num3 x.fr x.ep x.ed)).size + 1 + x.km.nm.size + 1 + (ofL (num2 x.ct x.tn.st)).size := by omega
  have k4 : ¬ 9223372036854775807 < (ofL (num3 x.fr x.ep x.ed)).size + 1 + x.km.nm.size + 1 + (ofL (num2 x.ct x.tn.st)).size + 1 := by omega
  have k4' : ¬ 9223372036854775807 ≤ (ofL (num3 x.fr x.ep x.ed)).size + 1 + x.km.nm.size + 1 + (ofL (num2 x.ct x.tn.st)).size := by omega
  have j0 : ¬ 9223372036854775807 < (ofL (num3 x.fr x.ep x.ed) ++ ⟨#[32]⟩ ++ x.km.nm ++ ⟨#[32]⟩ ++ ofL (num2 x.ct x.tn.st) ++ ⟨#[10]⟩).size + 5 := by omega
  have j1 : ¬ 9223372036854775807 < (ofL (num3 x.fr x.ep x.ed) ++ ⟨#[32]⟩ ++ x.km.nm ++ ⟨#[32]⟩ ++ ofL (num2 x.ct x.tn.st) ++ ⟨#[10]⟩).size + 5 + (ofL (resL x.tn.cd x.tn.tx)).size := by omega
  have j2 : ¬ 9223372036854775807 < (ofL (num3 x.fr x.ep x.ed) ++ ⟨#[32]⟩ ++ x.km.nm ++ ⟨#[32]⟩ ++ ofL (num2 x.ct x.tn.st) ++ ⟨#[10]⟩).size + 5 + (ofL (resL x.tn.cd x.tn.tx)).size + 1 := by omega
  have j2' : ¬ 9223372036854775807 ≤ (ofL (num3 x.fr x.ep x.ed) ++ ⟨#[32]⟩ ++ x.km.nm ++ ⟨#[32]⟩ ++ ofL (num2 x.ct x.tn.st) ++ ⟨#[10]⟩).size + 5 + (ofL (resL x.tn.cd x.tn.tx)).size := by omega
  have j3 : ¬ 9223372036854775807 < (ofL (num3 x.fr x.ep x.ed) ++ ⟨#[32]⟩ ++ x.km.nm ++ ⟨#[32]⟩ ++ ofL (num2 x.ct x.tn.st) ++ ⟨#[10]⟩).size + (lookW x.tn.has).size := by omega
  have j4 : ¬ 9223372036854775807 < (ofL (num3 x.fr x.ep x.ed) ++ ⟨#[32]⟩ ++ x.km.nm ++ ⟨#[32]⟩ ++ ofL (num2 x.ct x.tn.st) ++ ⟨#[10]⟩).size + (lookW x.tn.has).size + 1 := by omega
  have j4' : ¬ 9223372036854775807 ≤ (ofL (num3 x.fr x.ep x.ed) ++ ⟨#[32]⟩ ++ x.km.nm ++ ⟨#[32]⟩ ++ ofL (num2 x.ct x.tn.st) ++ ⟨#[10]⟩).size + (lookW x.tn.has).size := by omega
  have j5 : ¬ 9223372036854775807 < (ofL (num3 x.fr x.ep x.ed) ++ ⟨#[32]⟩ ++ x.km.nm ++ ⟨#[32]⟩ ++ ofL (num2 x.ct x.tn.st) ++ ⟨#[10]⟩).size + (lookW x.tn.has).size + 1 + x.tn.nm.size := by omega
  have j6 : ¬ 9223372036854775807 < (ofL (num3 x.fr x.ep x.ed) ++ ⟨#[32]⟩ ++ x.km.nm ++ ⟨#[32]⟩ ++ ofL (num2 x.ct x.tn.st) ++ ⟨#[10]⟩).size + (lookW x.tn.has).size + 1 + x.tn.nm.size + 1 := by omega
  have j6' : ¬ 9223372036854775807 ≤ (ofL (num3 x.fr x.ep x.ed) ++ ⟨#[32]⟩ ++ x.km.nm ++ ⟨#[32]⟩ ++ ofL (num2 x.ct x.tn.st) ++ ⟨#[10]⟩).size + (lookW x.tn.has).size + 1 + x.tn.nm.size := by omega
  have j9 : ¬ 9223372036854775802 < (ofL (num3 x.fr x.ep x.ed) ++ ⟨#[32]⟩ ++ x.km.nm ++ ⟨#[32]⟩ ++ ofL (num2 x.ct x.tn.st) ++ ⟨#[10]⟩).size := by omega
  go_enter Tryz.func80, Tryz.ntmps80
  go_wp2_with fail
  have hBV : Below w.heap.size w (w.alloc (.cells #[.int .i64 kd, .int .i64 x.to, .int .i64 x.fr, .int .i64 x.ep, .int .i64 x.ed, .string x.km.nm, .string x.km.tl, .string x.km.ar, .slice ai x.ls.length ci, .int .i64 x.ct, .bool x.tn.over, .int .i64 x.tn.cd, .string x.tn.tx, .bool x.tn.has, .string x.tn.nm, .int .i64 x.tn.st] 41)) := (Below.refl _ _).alloc (Nat.le_refl _) _
  have HPV : Hid (Pow (w.alloc (.cells #[.int .i64 kd, .int .i64 x.to, .int .i64 x.fr, .int .i64 x.ep, .int .i64 x.ed, .string x.km.nm, .string x.km.tl, .string x.km.ar, .slice ai x.ls.length ci, .int .i64 x.ct, .bool x.tn.over, .int .i64 x.tn.cd, .string x.tn.tx, .bool x.tn.has, .string x.tn.nm, .int .i64 x.tn.st] 41))) := pow_below hp hBV
  clear hp
  have hz0 : w.heap.size < (w.alloc (.cells #[.int .i64 kd, .int .i64 x.to, .int .i64 x.fr, .int .i64 x.ep, .int .i64 x.ed, .string x.km.nm, .string x.km.tl, .string x.km.ar, .slice ai x.ls.length ci, .int .i64 x.ct, .bool x.tn.over, .int .i64 x.tn.cd, .string x.tn.tx, .bool x.tn.has, .string x.tn.nm, .int .i64 x.tn.st] 41)).heap.size := by simp
  have c0_2 : (w.alloc (.cells #[.int .i64 kd, .int .i64 x.to, .int .i64 x.fr, .int .i64 x.ep, .int .i64 x.ed, .string x.km.nm, .string x.km.tl, .string x.km.ar, .slice ai x.ls.length ci, .int .i64 x.ct, .bool x.tn.over, .int .i64 x.tn.cd, .string x.tn.tx, .bool x.tn.has, .string x.tn.nm, .int .i64 x.tn.st] 41)).cell? ⟨w.heap.size, 2, none⟩ = some (.int .i64 x.fr) := by simp [go_sem]
  have c0_3 : (w.alloc (.cells #[.int .i64 kd, .int .i64 x.to, .int .i64 x.fr, .int .i64 x.ep, .int .i64 x.ed, .string x.km.nm, .string x.km.tl, .string x.km.ar, .slice ai x.ls.length ci, .int .i64 x.ct, .bool x.tn.over, .int .i64 x.tn.cd, .string x.tn.tx, .bool x.tn.has, .string x.tn.nm, .int .i64 x.tn.st] 41)).cell? ⟨w.heap.size, 3, none⟩ = some (.int .i64 x.ep) := by simp [go_sem]
  have c0_4 : (w.alloc (.cells #[.int .i64 kd, .int .i64 x.to, .int .i64 x.fr, .int .i64 x.ep, .int .i64 x.ed, .string x.km.nm, .string x.km.tl, .string x.km.ar, .slice ai x.ls.length ci, .int .i64 x.ct, .bool x.tn.over, .int .i64 x.tn.cd, .string x.tn.tx, .bool x.tn.has, .string x.tn.nm, .int .i64 x.tn.st] 41)).cell? ⟨w.heap.size, 4, none⟩ = some (.int .i64 x.ed) := by simp [go_sem]
  have c0_5 : (w.alloc (.cells #[.int .i64 kd, .int .i64 x.to, .int .i64 x.fr, .int .i64 x.ep, .int .i64 x.ed, .string x.km.nm, .string x.km.tl, .string x.km.ar, .slice ai x.ls.length ci, .int .i64 x.ct, .bool x.tn.over, .int .i64 x.tn.cd, .string x.tn.tx, .bool x.tn.has, .string x.tn.nm, .int .i64 x.tn.st] 41)).cell? ⟨w.heap.size, 5, none⟩ = some (.string x.km.nm) := by simp [go_sem]
  have c0_9 : (w.alloc (.cells #[.int .i64 kd, .int .i64 x.to, .int .i64 x.fr, .int .i64 x.ep, .int .i64 x.ed, .string x.km.nm, .string x.km.tl, .string x.km.ar, .slice ai x.ls.length ci, .int .i64 x.ct, .bool x.tn.over, .int .i64 x.tn.cd, .string x.tn.tx, .bool x.tn.has, .string x.tn.nm, .int .i64 x.tn.st] 41)).cell? ⟨w.heap.size, 9, none⟩ = some (.int .i64 x.ct) := by simp [go_sem]
  have c0_10 : (w.alloc (.cells #[.int .i64 kd, .int .i64 x.to, .int .i64 x.fr, .int .i64 x.ep, .int .i64 x.ed, .string x.km.nm, .string x.km.tl, .string x.km.ar, .slice ai x.ls.length ci, .int .i64 x.ct, .bool x.tn.over, .int .i64 x.tn.cd, .string x.tn.tx, .bool x.tn.has, .string x.tn.nm, .int .i64 x.tn.st] 41)).cell? ⟨w.heap.size, 10, none⟩ = some (.bool x.tn.over) := by simp [go_sem]
  have c0_11 : (w.alloc (.cells #[.int .i64 kd, .int .i64 x.to, .int .i64 x.fr, .int .i64 x.ep, .int .i64 x.ed, .string x.km.nm, .string x.km.tl, .string x.km.ar, .slice ai x.ls.length ci, .int .i64 x.ct, .bool x.tn.over, .int .i64 x.tn.cd, .string x.tn.tx, .bool x.tn.has, .string x.tn.nm, .int .i64 x.tn.st] 41)).cell? ⟨w.heap.size, 11, none⟩ = some (.int .i64 x.tn.cd) := by simp [go_sem]
  have c0_12 : (w.alloc (.cells #[.int .i64 kd, .int .i64 x.to, .int .i64 x.fr, .int .i64 x.ep, .int .i64 x.ed, .string x.km.nm, .string x.km.tl, .string x.km.ar, .slice ai x.ls.length ci, .int .i64 x.ct, .bool x.tn.over, .int .i64 x.tn.cd, .string x.tn.tx, .bool x.tn.has, .string x.tn.nm, .int .i64 x.tn.st] 41)).cell? ⟨w.heap.size, 12, none⟩ = some (.string x.tn.tx) := by simp [go_sem]
  have c0_13 : (w.alloc (.cells #[.int .i64 kd, .int .i64 x.to, .int .i64 x.fr, .int .i64 x.ep, .int .i64 x.ed, .string x.km.nm, .string x.km.tl, .string x.km.ar, .slice ai x.ls.length ci, .int .i64 x.ct, .bool x.tn.over, .int .i64 x.tn.cd, .string x.tn.tx, .bool x.tn.has, .string x.tn.nm, .int .i64 x.tn.st] 41)).cell? ⟨w.heap.size, 13, none⟩ = some (.bool x.tn.has) := by simp [go_sem]
  have c0_14 : (w.alloc (.cells #[.int .i64 kd, .int .i64 x.to, .int .i64 x.fr, .int .i64 x.ep, .int .i64 x.ed, .string x.km.nm, .string x.km.tl, .string x.km.ar, .slice ai x.ls.length ci, .int .i64 x.ct, .bool x.tn.over, .int .i64 x.tn.cd, .string x.tn.tx, .bool x.tn.has, .string x.tn.nm, .int .i64 x.tn.st] 41)).cell? ⟨w.heap.size, 14, none⟩ = some (.string x.tn.nm) := by simp [go_sem]
  have c0_15 : (w.alloc (.cells #[.int .i64 kd, .int .i64 x.to, .int .i64 x.fr, .int .i64 x.ep, .int .i64 x.ed, .string x.km.nm, .string x.km.tl, .string x.km.ar, .slice ai x.ls.length ci, .int .i64 x.ct, .bool x.tn.over, .int .i64 x.tn.cd, .string x.tn.tx, .bool x.tn.has, .string x.tn.nm, .int .i64 x.tn.st] 41)).cell? ⟨w.heap.size, 15, none⟩ = some (.int .i64 x.tn.st) := by simp [go_sem]
  generalize (w.alloc (.cells #[.int .i64 kd, .int .i64 x.to, .int .i64 x.fr, .int .i64 x.ep, .int .i64 x.ed, .string x.km.nm, .string x.km.tl, .string x.km.ar, .slice ai x.ls.length ci, .int .i64 x.ct, .bool x.tn.over, .int .i64 x.tn.cd, .string x.tn.tx, .bool x.tn.has, .string x.tn.nm, .int .i64 x.tn.st] 41)) = V at *
  refine wp_region_held_drew (S := (fun u => u.cell? ⟨w.heap.size, 2, none⟩ = some (.int .i64 x.fr) ∧ u.cell? ⟨w.heap.size, 3, none⟩ = some (.int .i64 x.ep) ∧ u.cell? ⟨w.heap.size, 4, none⟩ = some (.int .i64 x.ed) ∧ u.cell? ⟨w.heap.size, 5, none⟩ = some (.string x.km.nm) ∧ u.cell? ⟨w.heap.size, 9, none⟩ = some (.int .i64 x.ct) ∧ u.cell? ⟨w.heap.size, 10, none⟩ = some (.bool x.tn.over) ∧ u.cell? ⟨w.heap.size, 11, none⟩ = some (.int .i64 x.tn.cd) ∧ u.cell? ⟨w.heap.size, 12, none⟩ = some (.string x.tn.tx) ∧ u.cell? ⟨w.heap.size, 13, none⟩ = some (.bool x.tn.has) ∧ u.cell? ⟨w.heap.size, 14, none⟩ = some (.string x.tn.nm) ∧ u.cell? ⟨w.heap.size, 15, none⟩ = some (.int .i64 x.tn.st))) (by kernel_rfl) ?_ (fun hHeld => ?_)
  · ((try dsimp only); go_keep)
  refine wpAnyH_take (i := 0) (oi := { dst := some 4, op := Op.fieldAddr 41 (Operand.tmp 1) 2, type := 0, pos := "l7_mail.go:152", after := #[], guard := none }) (v := ?_) rfl (by kernel_rfl) (by kernel_rfl) (by kernel_rfl) (fun _ _ _ h => h) (Or.inl ⟨by rfl, ?_⟩) (by assumption) ?_
  rotate_left
  · intro wq hSw
    (try dsimp only at hSw)
    go_simp
    try with_reducible rfl
  try simp only [Act.put, List.setIfInBounds_toArray, List.set_cons_zero, List.set_cons_succ]
  refine wpAnyH_take (i := 1) (oi := { dst := some 5, op := Op.load 3 (Operand.tmp 4), type := 3, pos := "l7_mail.go:152", after := #[{ on := 0, ground := Ground.data }], guard := none }) (v := ?_) rfl (by kernel_rfl) (by kernel_rfl) (by kernel_rfl) (fun _ _ _ h => h) (Or.inl ⟨by rfl, ?_⟩) (by assumption) ?_
  rotate_left
  · intro wq hSw
    (try dsimp only at hSw)
    go_simp
    try with_reducible rfl
  try simp only [Act.put, List.setIfInBounds_toArray, List.set_cons_zero, List.set_cons_succ]
  refine wpAnyH_take (i := 2) (oi := { dst := some 6, op := Op.fieldAddr 41 (Operand.tmp 1) 3, type := 0, pos := "l7_mail.go:152", after := #[], guard := none }) (v := ?_) rfl (by kernel_rfl) (by kernel_rfl) (by kernel_rfl) (fun _ _ _ h => h) (Or.inl ⟨by rfl, ?_⟩) (by assumption) ?_
  rotate_left
  · intro wq hSw
    (try dsimp only at hSw)
    go_simp
    try with_reducible rfl
  try simp only [Act.put, List.setIfInBounds_toArray, List.set_cons_zero, List.set_cons_succ]
  refine wpAnyH_take (i := 3) (oi := { dst := some 7, op := Op.load 3 (Operand.tmp 6), type := 3, pos := "l7_mail.go:152", after := #[{ on := 2, ground := Ground.data }], guard := none }) (v := ?_) rfl (by kernel_rfl) (by kernel_rfl) (by kernel_rfl) (fun _ _ _ h => h) (Or.inl ⟨by rfl, ?_⟩) (by assumption) ?_
  rotate_left
  · intro wq hSw
    (try dsimp only at hSw)
    go_simp
    try with_reducible rfl
  try simp only [Act.put, List.setIfInBounds_toArray, List.set_cons_zero, List.set_cons_succ]
  refine wpAnyH_take (i := 4) (oi := { dst := some 8, op := Op.fieldAddr 41 (Operand.tmp 1) 4, type := 0, pos := "l7_mail.go:152", after := #[], guard := none }) (v := ?_) rfl (by kernel_rfl) (by kernel_rfl) (by kernel_rfl) (fun _ _ _ h => h) (Or.inl ⟨by rfl, ?_⟩) (by assumption) ?_
  rotate_left
  · intro wq hSw
    (try dsimp only at hSw)
    go_simp
    try with_reducible rfl
  try simp only [Act.put, List.setIfInBounds_toArray, List.set_cons_zero, List.set_cons_succ]
  refine wpAnyH_take (i := 5) (oi := { dst := some 9, op := Op.load 3 (Operand.tmp 8), type := 3, pos := "l7_mail.go:152", after := #[{ on := 4, ground := Ground.data }], guard := none }) (v := ?_) rfl (by kernel_rfl) (by kernel_rfl) (by kernel_rfl) (fun _ _ _ h => h) (Or.inl ⟨by rfl, ?_⟩) (by assumption) ?_
  rotate_left
  · intro wq hSw
    (try dsimp only at hSw)
    go_simp
    try with_reducible rfl
  try simp only [Act.put, List.setIfInBounds_toArray, List.set_cons_zero, List.set_cons_succ]
  refine wpAnyH_take (i := 9) (oi := { dst := some 13, op := Op.fieldAddr 41 (Operand.tmp 1) 5, type := 0, pos := "l7_mail.go:152", after := #[], guard := none }) (v := ?_) rfl (by kernel_rfl) (by kernel_rfl) (by kernel_rfl) (fun _ _ _ h => h) (Or.inl ⟨by rfl, ?_⟩) (by assumption) ?_
  rotate_left
  · intro wq hSw
    (try dsimp only at hSw)
    go_simp
    try with_reducible rfl
  try simp only [Act.put, List.setIfInBounds_toArray, List.set_cons_zero, List.set_cons_succ]
  refine wpAnyH_take (i := 10) (oi := { dst := some 14, op := Op.fieldAddr 35 (Operand.tmp 13) 0, type := 0, pos := "l7_mail.go:152", after := #[{ on := 9, ground := Ground.data }], guard := none }) (v := ?_) rfl (by kernel_rfl) (by kernel_rfl) (by kernel_rfl) (fun _ _ _ h => h) (Or.inl ⟨by rfl, ?_⟩) (by assumption) ?_
  rotate_left
  · intro wq hSw
    (try dsimp only at hSw)
    go_simp
    try with_reducible rfl
  try simp only [Act.put, List.setIfInBounds_toArray, List.set_cons_zero, List.set_cons_succ]
  refine wpAnyH_take (i := 11) (oi := { dst := some 15, op := Op.load 9 (Operand.tmp 14), type := 9, pos := "l7_mail.go:152", after := #[{ on := 10, ground := Ground.data }], guard := none }) (v := ?_) rfl (by kernel_rfl) (by kernel_rfl) (by kernel_rfl) (fun _ _ _ h => h) (Or.inl ⟨by rfl, ?_⟩) (by assumption) ?_
  rotate_left
  · intro wq hSw
    (try dsimp only at hSw)
    go_simp
    try with_reducible rfl
  try simp only [Act.put, List.setIfInBounds_toArray, List.set_cons_zero, List.set_cons_succ]
  refine wpAnyH_take (i := 14) (oi := { dst := some 18, op := Op.fieldAddr 41 (Operand.tmp 1) 7, type := 0, pos := "l7_mail.go:152", after := #[], guard := none }) (v := ?_) rfl (by kernel_rfl) (by kernel_rfl) (by kernel_rfl) (fun _ _ _ h => h) (Or.inl ⟨by rfl, ?_⟩) (by assumption) ?_
  rotate_left
  · intro wq hSw
    (try dsimp only at hSw)
    go_simp
    try with_reducible rfl
  try simp only [Act.put, List.setIfInBounds_toArray, List.set_cons_zero, List.set_cons_succ]
  refine wpAnyH_take (i := 15) (oi := { dst := some 19, op := Op.load 3 (Operand.tmp 18), type := 3, pos := "l7_mail.go:152", after := #[{ on := 14, ground := Ground.data }], guard := none }) (v := ?_) rfl (by kernel_rfl) (by kernel_rfl) (by kernel_rfl) (fun _ _ _ h => h) (Or.inl ⟨by rfl, ?_⟩) (by assumption) ?_
  rotate_left
  · intro wq hSw
    (try dsimp only at hSw)
    go_simp
    try with_reducible rfl
  try simp only [Act.put, List.setIfInBounds_toArray, List.set_cons_zero, List.set_cons_succ]
  refine wpAnyH_take (i := 16) (oi := { dst := some 20, op := Op.fieldAddr 41 (Operand.tmp 1) 8, type := 0, pos := "l7_mail.go:152", after := #[], guard := none }) (v := ?_) rfl (by kernel_rfl) (by kernel_rfl) (by kernel_rfl) (fun _ _ _ h => h) (Or.inl ⟨by rfl, ?_⟩) (by assumption) ?_
  rotate_left
  · intro wq hSw
    (try dsimp only at hSw)
    go_simp
    try with_reducible rfl
  try simp only [Act.put, List.setIfInBounds_toArray, List.set_cons_zero, List.set_cons_succ]
  refine wpAnyH_take (i := 17) (oi := { dst := some 21, op := Op.fieldAddr 39 (Operand.tmp 20) 4, type := 0, pos := "l7_mail.go:152", after := #[{ on := 16, ground := Ground.data }], guard := none }) (v := ?_) rfl (by kernel_rfl) (by kernel_rfl) (by kernel_rfl) (fun _ _ _ h => h) (Or.inl ⟨by rfl, ?_⟩) (by assumption) ?_
  rotate_left
  · intro wq hSw
    (try dsimp only at hSw)
    go_simp
    try with_reducible rfl
  try simp only [Act.put, List.setIfInBounds_toArray, List.set_cons_zero, List.set_cons_succ]
  refine wpAnyH_take (i := 18) (oi := { dst := some 22, op := Op.load 3 (Operand.tmp 21), type := 3, pos := "l7_mail.go:152", after := #[{ on := 17, ground := Ground.data }], guard := none }) (v := ?_) rfl (by kernel_rfl) (by kernel_rfl) (by kernel_rfl) (fun _ _ _ h => h) (Or.inl ⟨by rfl, ?_⟩) (by assumption) ?_
  rotate_left
  · intro wq hSw
    (try dsimp only at hSw)
    go_simp
    try with_reducible rfl
  try simp only [Act.put, List.setIfInBounds_toArray, List.set_cons_zero, List.set_cons_succ]
  refine wpAnyH_ready (rs := [6, 19]) (by kernel_rfl) (by simp) ?_
  refine AllReadyH.cons (o := { dst := some 10, op := Op.buildSlice 134 3 #[(0, Operand.tmp 5), (1, Operand.tmp 7), (2, Operand.tmp 9)], type := 134, pos := "l7_mail.go:152", after := #[{ on := 1, ground := Ground.data }, { on := 3, ground := Ground.data }, { on := 5, ground := Ground.data }], guard := none }) rfl (fun K hK => ?_) (AllReadyH.cons (o := { dst := some 23, op := Op.buildSlice 134 2 #[(0, Operand.tmp 19), (1, Operand.tmp 22)], type := 134, pos := "l7_mail.go:152", after := #[{ on := 15, ground := Ground.data }, { on := 18, ground := Ground.data }], guard := none }) rfl (fun K hK => ?_) AllReadyH.nil)
  · go_simp
    have HS1 : Hid (Below V.heap.size V (V.alloc (.cells #[.int .i64 x.fr, .int .i64 x.ep, .int .i64 x.ed] 3)).drew) := ((Below.refl _ _).alloc (Nat.le_refl _) _).drew
    have q3_1_0 : (V.alloc (.cells #[.int .i64 x.fr, .int .i64 x.ep, .int .i64 x.ed] 3)).drew.cell? ⟨V.heap.size, 0, none⟩ = some (.int .i64 x.fr) := by simp [go_sem]
    have q3_1_1 : (V.alloc (.cells #[.int .i64 x.fr, .int .i64 x.ep, .int .i64 x.ed] 3)).drew.cell? ⟨V.heap.size, 1, none⟩ = some (.int .i64 x.ep) := by simp [go_sem]
    have q3_1_2 : (V.alloc (.cells #[.int .i64 x.fr, .int .i64 x.ep, .int .i64 x.ed] 3)).drew.cell? ⟨V.heap.size, 2, none⟩ = some (.int .i64 x.ed) := by simp [go_sem]
    have hq3_1 : V.heap.size < (V.alloc (.cells #[.int .i64 x.fr, .int .i64 x.ep, .int .i64 x.ed] 3)).drew.heap.size := by simp
    generalize (V.alloc (.cells #[.int .i64 x.fr, .int .i64 x.ep, .int .i64 x.ed] 3)).drew = p1 at *
    have c1_2 := (HS1.out.cell (p := ⟨w.heap.size, 2, none⟩) (by exact hz0)).trans c0_2
    have c1_3 := (HS1.out.cell (p := ⟨w.heap.size, 3, none⟩) (by exact hz0)).trans c0_3
    have c1_4 := (HS1.out.cell (p := ⟨w.heap.size, 4, none⟩) (by exact hz0)).trans c0_4
    have c1_5 := (HS1.out.cell (p := ⟨w.heap.size, 5, none⟩) (by exact hz0)).trans c0_5
    have c1_9 := (HS1.out.cell (p := ⟨w.heap.size, 9, none⟩) (by exact hz0)).trans c0_9
    have c1_10 := (HS1.out.cell (p := ⟨w.heap.size, 10, none⟩) (by exact hz0)).trans c0_10
    have c1_11 := (HS1.out.cell (p := ⟨w.heap.size, 11, none⟩) (by exact hz0)).trans c0_11
    have c1_12 := (HS1.out.cell (p := ⟨w.heap.size, 12, none⟩) (by exact hz0)).trans c0_12
    have c1_13 := (HS1.out.cell (p := ⟨w.heap.size, 13, none⟩) (by exact hz0)).trans c0_13
    have c1_14 := (HS1.out.cell (p := ⟨w.heap.size, 14, none⟩) (by exact hz0)).trans c0_14
    have c1_15 := (HS1.out.cell (p := ⟨w.heap.size, 15, none⟩) (by exact hz0)).trans c0_15
    clear c0_2 c0_3 c0_4 c0_5 c0_9 c0_10 c0_11 c0_12 c0_13 c0_14 c0_15
    have hz1 : w.heap.size < p1.heap.size := Nat.lt_of_lt_of_le hz0 HS1.out.size
    have HV1 : Hid (Below V.heap.size V p1) := HS1
    clear hHeld
    refine hK.out _ _ ?_ (fun hHeld => ?_)
    · ((try dsimp only); go_keep)
    clear hK K
    try simp only [Act.put, List.setIfInBounds_toArray, List.set_cons_zero, List.set_cons_succ]
    refine wpAnyH_ready (rs := [7, 19]) (by kernel_rfl) (by simp) ?_
    refine AllReadyH.cons (o := { dst := some 11, op := Op.call { callee := Callee.value (Operand.func 99), args := #[Operand.tmp 10], argTypes := #[134] }, type := 9, pos := "l7_mail.go:152", after := #[{ on := 6, ground := Ground.data }], guard := none }) rfl (fun K hK => ?_) (AllReadyH.cons (o := { dst := some 23, op := Op.buildSlice 134 2 #[(0, Operand.tmp 19), (1, Operand.tmp 22)], type := 134, pos := "l7_mail.go:152", after := #[{ on := 15, ground := Ground.data }, { on := 18, ground := Ground.data }], guard := none }) rfl (fun K hK => ?_) AllReadyH.nil)
    · go_simp
      refine (c99_3 (V.heap.size) x.fr x.ep x.ed _ (pow_below HPV.out HV1.out) q3_1_0 q3_1_1 q3_1_2 hq3_1 r1 r2 r3).mono ?_
      rintro e p2 ⟨rfl, hb2⟩
      have HS2 : Hid (Below p1.heap.size p1 p2) := hb2
      clear hb2
      have c2_2 := (HS2.out.cell (p := ⟨w.heap.size, 2, none⟩) (by exact hz1)).trans c1_2
      have c2_3 := (HS2.out.cell (p := ⟨w.heap.size, 3, none⟩) (by exact hz1)).trans c1_3
      have c2_4 := (HS2.out.cell (p := ⟨w.heap.size, 4, none⟩) (by exact hz1)).trans c1_4
      have c2_5 := (HS2.out.cell (p := ⟨w.heap.size, 5, none⟩) (by exact hz1)).trans c1_5
      have c2_9 := (HS2.out.cell (p := ⟨w.heap.size, 9, none⟩) (by exact hz1)).trans c1_9
      have c2_10 := (HS2.out.cell (p := ⟨w.heap.size, 10, none⟩) (by exact hz1)).trans c1_10
      have c2_11 := (HS2.out.cell (p := ⟨w.heap.size, 11, none⟩) (by exact hz1)).trans c1_11
      have c2_12 := (HS2.out.cell (p := ⟨w.heap.size, 12, none⟩) (by exact hz1)).trans c1_12
      have c2_13 := (HS2.out.cell (p := ⟨w.heap.size, 13, none⟩) (by exact hz1)).trans c1_13
      have c2_14 := (HS2.out.cell (p := ⟨w.heap.size, 14, none⟩) (by exact hz1)).trans c1_14
      have c2_15 := (HS2.out.cell (p := ⟨w.heap.size, 15, none⟩) (by exact hz1)).trans c1_15
      clear c1_2 c1_3 c1_4 c1_5 c1_9 c1_10 c1_11 c1_12 c1_13 c1_14 c1_15
      have hz2 : w.heap.size < p2.heap.size := Nat.lt_of_lt_of_le hz1 HS2.out.size
      have HV2 : Hid (Below V.heap.size V p2) := HV1.out.trans (HS2.out.mono HV1.out.size)
      go_wp2_with fail
      clear hHeld
      refine hK.out _ _ ?_ (fun hHeld => ?_)
      · ((try dsimp only); go_keep)
      clear hK K
      try simp only [Act.put, List.setIfInBounds_toArray, List.set_cons_zero, List.set_cons_succ]
      refine wpAnyH_take (i := 8) (oi := { dst := some 12, op := Op.binOp BinOp.add 9 (Operand.tmp 11) (Operand.const (Value.string { data := #[32] })) 9, type := 9, pos := "l7_mail.go:152", after := #[{ on := 7, ground := Ground.data }], guard := none }) (v := ?_) rfl (by kernel_rfl) (by kernel_rfl) (by kernel_rfl) (fun _ _ _ h => h) (Or.inl ⟨by rfl, ?_⟩) (by assumption) ?_
      rotate_left
      · intro wq hSw
        (try dsimp only at hSw)
        go_simp
        try with_reducible rfl
      try simp only [Act.put, List.setIfInBounds_toArray, List.set_cons_zero, List.set_cons_succ]
      refine wpAnyH_take (i := 12) (oi := { dst := some 16, op := Op.binOp BinOp.add 9 (Operand.tmp 12) (Operand.tmp 15) 9, type := 9, pos := "l7_mail.go:152", after := #[{ on := 8, ground := Ground.data }, { on := 11, ground := Ground.data }], guard := none }) (v := ?_) rfl (by kernel_rfl) (by kernel_rfl) (by kernel_rfl) (fun _ _ _ h => h) (Or.inl ⟨by rfl, ?_⟩) (by assumption) ?_
      rotate_left
      · intro wq hSw
        (try dsimp only at hSw)
        go_simp
        try with_reducible rfl
      try simp only [Act.put, List.setIfInBounds_toArray, List.set_cons_zero, List.set_cons_succ]
      refine wpAnyH_take (i := 13) (oi := { dst := some 17, op := Op.binOp BinOp.add 9 (Operand.tmp 16) (Operand.const (Value.string { data := #[32] })) 9, type := 9, pos := "l7_mail.go:152", after := #[{ on := 12, ground := Ground.data }], guard := none }) (v := ?_) rfl (by kernel_rfl) (by kernel_rfl) (by kernel_rfl) (fun _ _ _ h => h) (Or.inl ⟨by rfl, ?_⟩) (by assumption) ?_
      rotate_left
      · intro wq hSw
        (try dsimp only at hSw)
        go_simp
        try with_reducible rfl
      try simp only [Act.put, List.setIfInBounds_toArray, List.set_cons_zero, List.set_cons_succ]
      refine wpAnyH_ready (rs := [19]) (by kernel_rfl) (by simp) ?_
      refine AllReadyH.cons (o := { dst := some 23, op := Op.buildSlice 134 2 #[(0, Operand.tmp 19), (1, Operand.tmp 22)], type := 134, pos := "l7_mail.go:152", after := #[{ on := 15, ground := Ground.data }, { on := 18, ground := Ground.data }], guard := none }) rfl (fun K hK => ?_) AllReadyH.nil
      go_simp
      have HS3 : Hid (Below p2.heap.size p2 (p2.alloc (.cells #[.int .i64 x.ct, .int .i64 x.tn.st] 3))) := (Below.refl _ _).alloc (Nat.le_refl _) _
      have q2_3_0 : (p2.alloc (.cells #[.int .i64 x.ct, .int .i64 x.tn.st] 3)).cell? ⟨p2.heap.size, 0, none⟩ = some (.int .i64 x.ct) := by simp [go_sem]
      have q2_3_1 : (p2.alloc (.cells #[.int .i64 x.ct, .int .i64 x.tn.st] 3)).cell? ⟨p2.heap.size, 1, none⟩ = some (.int .i64 x.tn.st) := by simp [go_sem]
      have hq2_3 : p2.heap.size < (p2.alloc (.cells #[.int .i64 x.ct, .int .i64 x.tn.st] 3)).heap.size := by simp
      generalize (p2.alloc (.cells #[.int .i64 x.ct, .int .i64 x.tn.st] 3)) = p3 at *
      have c3_2 := (HS3.out.cell (p := ⟨w.heap.size, 2, none⟩) (by exact hz2)).trans c2_2
      have c3_3 := (HS3.out.cell (p := ⟨w.heap.size, 3, none⟩) (by exact hz2)).trans c2_3
      have c3_4 := (HS3.out.cell (p := ⟨w.heap.size, 4, none⟩) (by exact hz2)).trans c2_4
      have c3_5 := (HS3.out.cell (p := ⟨w.heap.size, 5, none⟩) (by exact hz2)).trans c2_5
      have c3_9 := (HS3.out.cell (p := ⟨w.heap.size, 9, none⟩) (by exact hz2)).trans c2_9
      have c3_10 := (HS3.out.cell (p := ⟨w.heap.size, 10, none⟩) (by exact hz2)).trans c2_10
      have c3_11 := (HS3.out.cell (p := ⟨w.heap.size, 11, none⟩) (by exact hz2)).trans c2_11
      have c3_12 := (HS3.out.cell (p := ⟨w.heap.size, 12, none⟩) (by exact hz2)).trans c2_12
      have c3_13 := (HS3.out.cell (p := ⟨w.heap.size, 13, none⟩) (by exact hz2)).trans c2_13
      have c3_14 := (HS3.out.cell (p := ⟨w.heap.size, 14, none⟩) (by exact hz2)).trans c2_14
      have c3_15 := (HS3.out.cell (p := ⟨w.heap.size, 15, none⟩) (by exact hz2)).trans c2_15
      clear c2_2 c2_3 c2_4 c2_5 c2_9 c2_10 c2_11 c2_12 c2_13 c2_14 c2_15
      have hz3 : w.heap.size < p3.heap.size := Nat.lt_of_lt_of_le hz2 HS3.out.size
      have HV3 : Hid (Below V.heap.size V p3) := HV2.out.trans (HS3.out.mono HV2.out.size)
      clear hHeld
      refine hK.out _ _ ?_ (fun hHeld => ?_)
      · ((try dsimp only); go_keep)
      clear hK K
      try simp only [Act.put, List.setIfInBounds_toArray, List.set_cons_zero, List.set_cons_succ]
      refine wpAnyH_ready (rs := [20]) (by kernel_rfl) (by simp) ?_
      refine AllReadyH.cons (o := { dst := some 24, op := Op.call { callee := Callee.value (Operand.func 99), args := #[Operand.tmp 23], argTypes := #[134] }, type := 9, pos := "l7_mail.go:152", after := #[{ on := 19, ground := Ground.data }, { on := 7, ground := Ground.chain }], guard := none }) rfl (fun K hK => ?_) AllReadyH.nil
      go_simp
      refine (c99_2 (p2.heap.size) x.ct x.tn.st _ (pow_below HPV.out HV3.out) q2_3_0 q2_3_1 hq2_3 r4 r5).mono ?_
      rintro e p4 ⟨rfl, hb4⟩
      have HS4 : Hid (Below p3.heap.size p3 p4) := hb4
      clear hb4
      have c4_2 := (HS4.out.cell (p := ⟨w.heap.size, 2, none⟩) (by exact hz3)).trans c3_2
      have c4_3 := (HS4.out.cell (p := ⟨w.heap.size, 3, none⟩) (by exact hz3)).trans c3_3
      have c4_4 := (HS4.out.cell (p := ⟨w.heap.size, 4, none⟩) (by exact hz3)).trans c3_4
      have c4_5 := (HS4.out.cell (p := ⟨w.heap.size, 5, none⟩) (by exact hz3)).trans c3_5
      have c4_9 := (HS4.out.cell (p := ⟨w.heap.size, 9, none⟩) (by exact hz3)).trans c3_9
      have c4_10 := (HS4.out.cell (p := ⟨w.heap.size, 10, none⟩) (by exact hz3)).trans c3_10
      have c4_11 := (HS4.out.cell (p := ⟨w.heap.size, 11, none⟩) (by exact hz3)).trans c3_11
      have c4_12 := (HS4.out.cell (p := ⟨w.heap.size, 12, none⟩) (by exact hz3)).trans c3_12
      have c4_13 := (HS4.out.cell (p := ⟨w.heap.size, 13, none⟩) (by exact hz3)).trans c3_13
      have c4_14 := (HS4.out.cell (p := ⟨w.heap.size, 14, none⟩) (by exact hz3)).trans c3_14
      have c4_15 := (HS4.out.cell (p := ⟨w.heap.size, 15, none⟩) (by exact hz3)).trans c3_15
      clear c3_2 c3_3 c3_4 c3_5 c3_9 c3_10 c3_11 c3_12 c3_13 c3_14 c3_15
      have hz4 : w.heap.size < p4.heap.size := Nat.lt_of_lt_of_le hz3 HS4.out.size
      have HV4 : Hid (Below V.heap.size V p4) := HV3.out.trans (HS4.out.mono HV3.out.size)
      go_wp2_with fail
      clear hHeld
      refine hK.out _ _ ?_ (fun hHeld => ?_)
      · ((try dsimp only); go_keep)
      clear hK K
      try simp only [Act.put, List.setIfInBounds_toArray, List.set_cons_zero, List.set_cons_succ]
      refine wpAnyH_take (i := 21) (oi := { dst := some 25, op := Op.binOp BinOp.add 9 (Operand.tmp 17) (Operand.tmp 24) 9, type := 9, pos := "l7_mail.go:152", after := #[{ on := 13, ground := Ground.data }, { on := 20, ground := Ground.data }], guard := none }) (v := ?_) rfl (by kernel_rfl) (by kernel_rfl) (by kernel_rfl) (fun _ _ _ h => h) (Or.inl ⟨by rfl, ?_⟩) (by assumption) ?_
      rotate_left
      · intro wq hSw
        (try dsimp only at hSw)
        go_simp
        try with_reducible rfl
      try simp only [Act.put, List.setIfInBounds_toArray, List.set_cons_zero, List.set_cons_succ]
      refine wpAnyH_take (i := 22) (oi := { dst := some 26, op := Op.binOp BinOp.add 9 (Operand.tmp 25) (Operand.const (Value.string { data := #[10] })) 9, type := 9, pos := "l7_mail.go:152", after := #[{ on := 21, ground := Ground.data }], guard := none }) (v := ?_) rfl (by kernel_rfl) (by kernel_rfl) (by kernel_rfl) (fun _ _ _ h => h) (Or.inl ⟨by rfl, ?_⟩) (by assumption) ?_
      rotate_left
      · intro wq hSw
        (try dsimp only at hSw)
        go_simp
        try with_reducible rfl
      try simp only [Act.put, List.setIfInBounds_toArray, List.set_cons_zero, List.set_cons_succ]
      refine wpAnyH_take (i := 23) (oi := { dst := some 3, op := Op.assign (Operand.tmp 26), type := 9, pos := "l7_mail.go:152", after := #[{ on := 22, ground := Ground.data }, { on := 20, ground := Ground.chain }, { on := 0, ground := Ground.phase }, { on := 1, ground := Ground.phase }, { on := 2, ground := Ground.phase }, { on := 3, ground := Ground.phase }, { on := 4, ground := Ground.phase }, { on := 5, ground := Ground.phase }, { on := 6, ground := Ground.phase }, { on := 7, ground := Ground.phase }, { on := 8, ground := Ground.phase }, { on := 9, ground := Ground.phase }, { on := 10, ground := Ground.phase }, { on := 11, ground := Ground.phase }, { on := 12, ground := Ground.phase }, { on := 13, ground := Ground.phase }, { on := 14, ground := Ground.phase }, { on := 15, ground := Ground.phase }, { on := 16, ground := Ground.phase }, { on := 17, ground := Ground.phase }, { on := 18, ground := Ground.phase }, { on := 19, ground := Ground.phase }, { on := 20, ground := Ground.phase }, { on := 21, ground := Ground.phase }, { on := 22, ground := Ground.phase }], guard := none }) (v := ?_) rfl (by kernel_rfl) (by kernel_rfl) (by kernel_rfl) (fun _ _ _ h => h) (Or.inl ⟨by rfl, ?_⟩) (by assumption) ?_
      rotate_left
      · intro wq hSw
        (try dsimp only at hSw)
        go_simp
        try with_reducible rfl
      try simp only [Act.put, List.setIfInBounds_toArray, List.set_cons_zero, List.set_cons_succ]
      refine wpAnyH_done (by kernel_rfl) ?_ _
      clear hHeld
      generalize ofL (num3 x.fr x.ep x.ed) ++ ⟨#[32]⟩ ++ x.km.nm ++ ⟨#[32]⟩ ++ ofL (num2 x.ct x.tn.st) ++ ⟨#[10]⟩ = fs at *
      by_cases hov : x.tn.over = true
      · have c10 : p4.cell? ⟨w.heap.size, 10, none⟩ = some (.bool true) := by rw [c4_10, hov]
        have HE : Hid (turnW x = firstL x ++ [111, 118, 101, 114, 32] ++ resL x.tn.cd x.tn.tx ++ [10]) := by unfold turnW; rw [if_pos hov]; rfl
        clear c4_10 hov
        go_wp2_with fail
        refine (c108 x.tn.cd x.tn.tx _ (pow_below HPV.out HV4.out) r6.1 r6.2 (by omega)).mono ?_
        rintro e p5 ⟨rfl, hb5⟩
        have HS5 : Hid (Below p4.heap.size p4 p5) := hb5
        have d11 := (HS5.out.cell (p := ⟨w.heap.size, 11, none⟩) (by exact hz4)).trans c4_11
        have d12 := (HS5.out.cell (p := ⟨w.heap.size, 12, none⟩) (by exact hz4)).trans c4_12
        have d13 := (HS5.out.cell (p := ⟨w.heap.size, 13, none⟩) (by exact hz4)).trans c4_13
        have d14 := (HS5.out.cell (p := ⟨w.heap.size, 14, none⟩) (by exact hz4)).trans c4_14
        clear hb5
        go_wp2
        go_ret
        exact ⟨ret_str (by rw [HFS.out, HE.out]; exact over_eq _ _ _), (hBV.trans (HV4.out.mono hBV.size)).trans (HS5.out.mono (by omega))⟩
      · have c10 : p4.cell? ⟨w.heap.size, 10, none⟩ = some (.bool false) := by rw [c4_10]; simpa using hov
        have HE : Hid (turnW x = firstL x ++ (lookW x.tn.has).data.toList ++ [32] ++ x.tn.nm.data.toList ++ [10]) := by unfold turnW; rw [if_neg hov]; rfl
        clear c4_10 hov
        go_wp2_with fail
        refine wp_region_held_drew (S := (fun u => u.cell? ⟨w.heap.size, 11, none⟩ = some (.int .i64 x.tn.cd) ∧ u.cell? ⟨w.heap.size, 12, none⟩ = some (.string x.tn.tx) ∧ u.cell? ⟨w.heap.size, 13, none⟩ = some (.bool x.tn.has) ∧ u.cell? ⟨w.heap.size, 14, none⟩ = some (.string x.tn.nm))) (by kernel_rfl) ?_ (fun hHeld => ?_)
        · ((try dsimp only); go_keep)
        refine wpAnyH_take (i := 0) (oi := { dst := some 38, op := Op.move (Operand.tmp 3), type := 9, pos := "l7_mail.go:156", after := #[], guard := none }) (v := ?_) rfl (by kernel_rfl) (by kernel_rfl) (by kernel_rfl) (fun _ _ _ h => h) (Or.inl ⟨by rfl, ?_⟩) (by assumption) ?_
        rotate_left
        · intro wq hSw
          (try dsimp only at hSw)
          go_simp
          try with_reducible rfl
        try simp only [Act.put, List.setIfInBounds_toArray, List.set_cons_zero, List.set_cons_succ]
        refine wpAnyH_take (i := 1) (oi := { dst := some 39, op := Op.fieldAddr 41 (Operand.tmp 1) 8, type := 0, pos := "l7_mail.go:156", after := #[], guard := none }) (v := ?_) rfl (by kernel_rfl) (by kernel_rfl) (by kernel_rfl) (fun _ _ _ h => h) (Or.inl ⟨by rfl, ?_⟩) (by assumption) ?_
        rotate_left
        · intro wq hSw
          (try dsimp only at hSw)
          go_simp
          try with_reducible rfl
        try simp only [Act.put, List.setIfInBounds_toArray, List.set_cons_zero, List.set_cons_succ]
        refine wpAnyH_take (i := 2) (oi := { dst := some 40, op := Op.fieldAddr 39 (Operand.tmp 39) 2, type := 0, pos := "l7_mail.go:156", after := #[{ on := 1, ground := Ground.data }], guard := none }) (v := ?_) rfl (by kernel_rfl) (by kernel_rfl) (by kernel_rfl) (fun _ _ _ h => h) (Or.inl ⟨by rfl, ?_⟩) (by assumption) ?_
        rotate_left
        · intro wq hSw
          (try dsimp only at hSw)
          go_simp
          try with_reducible rfl
        try simp only [Act.put, List.setIfInBounds_toArray, List.set_cons_zero, List.set_cons_succ]
        refine wpAnyH_take (i := 3) (oi := { dst := some 41, op := Op.load 4 (Operand.tmp 40), type := 4, pos := "l7_mail.go:156", after := #[{ on := 2, ground := Ground.data }], guard := none }) (v := ?_) rfl (by kernel_rfl) (by kernel_rfl) (by kernel_rfl) (fun _ _ _ h => h) (Or.inl ⟨by rfl, ?_⟩) (by assumption) ?_
        rotate_left
        · intro wq hSw
          (try dsimp only at hSw)
          go_simp
          try with_reducible rfl
        try simp only [Act.put, List.setIfInBounds_toArray, List.set_cons_zero, List.set_cons_succ]
        refine wpAnyH_take (i := 7) (oi := { dst := some 45, op := Op.fieldAddr 41 (Operand.tmp 1) 8, type := 0, pos := "l7_mail.go:156", after := #[], guard := none }) (v := ?_) rfl (by kernel_rfl) (by kernel_rfl) (by kernel_rfl) (fun _ _ _ h => h) (Or.inl ⟨by rfl, ?_⟩) (by assumption) ?_
        rotate_left
        · intro wq hSw
          (try dsimp only at hSw)
          go_simp
          try with_reducible rfl
        try simp only [Act.put, List.setIfInBounds_toArray, List.set_cons_zero, List.set_cons_succ]
        refine wpAnyH_take (i := 8) (oi := { dst := some 46, op := Op.fieldAddr 39 (Operand.tmp 45) 3, type := 0, pos := "l7_mail.go:156", after := #[{ on := 7, ground := Ground.data }], guard := none }) (v := ?_) rfl (by kernel_rfl) (by kernel_rfl) (by kernel_rfl) (fun _ _ _ h => h) (Or.inl ⟨by rfl, ?_⟩) (by assumption) ?_
        rotate_left
        · intro wq hSw
          (try dsimp only at hSw)
          go_simp
          try with_reducible rfl
        try simp only [Act.put, List.setIfInBounds_toArray, List.set_cons_zero, List.set_cons_succ]
        refine wpAnyH_take (i := 9) (oi := { dst := some 47, op := Op.load 9 (Operand.tmp 46), type := 9, pos := "l7_mail.go:156", after := #[{ on := 8, ground := Ground.data }], guard := none }) (v := ?_) rfl (by kernel_rfl) (by kernel_rfl) (by kernel_rfl) (fun _ _ _ h => h) (Or.inl ⟨by rfl, ?_⟩) (by assumption) ?_
        rotate_left
        · intro wq hSw
          (try dsimp only at hSw)
          go_simp
          try with_reducible rfl
        try simp only [Act.put, List.setIfInBounds_toArray, List.set_cons_zero, List.set_cons_succ]
        refine wpAnyH_ready (rs := [4]) (by kernel_rfl) (by simp) ?_
        refine AllReadyH.cons (o := { dst := some 42, op := Op.call { callee := Callee.value (Operand.func 109), args := #[Operand.tmp 41], argTypes := #[4] }, type := 9, pos := "l7_mail.go:156", after := #[{ on := 3, ground := Ground.data }], guard := none }) rfl (fun K hK => ?_) AllReadyH.nil
        go_simp
        refine (c109 x.tn.has _).mono ?_
        rintro e p5 ⟨rfl, hw5⟩
        have HS5 : Hid (Below p4.heap.size p4 p5) := by rw [hw5]; exact (Below.refl _ _).drew
        have d11 := (HS5.out.cell (p := ⟨w.heap.size, 11, none⟩) (by exact hz4)).trans c4_11
        have d12 := (HS5.out.cell (p := ⟨w.heap.size, 12, none⟩) (by exact hz4)).trans c4_12
        have d13 := (HS5.out.cell (p := ⟨w.heap.size, 13, none⟩) (by exact hz4)).trans c4_13
        have d14 := (HS5.out.cell (p := ⟨w.heap.size, 14, none⟩) (by exact hz4)).trans c4_14
        clear hw5
        go_wp2_with fail
        clear hHeld
        refine hK.out _ _ ?_ (fun hHeld => ?_)
        · ((try dsimp only); go_keep)
        clear hK K
        try simp only [Act.put, List.setIfInBounds_toArray, List.set_cons_zero, List.set_cons_succ]
        refine wpAnyH_take (i := 5) (oi := { dst := some 43, op := Op.binOp BinOp.add 9 (Operand.tmp 38) (Operand.tmp 42) 9, type := 9, pos := "l7_mail.go:156", after := #[{ on := 0, ground := Ground.data }, { on := 4, ground := Ground.data }], guard := none }) (v := ?_) rfl (by kernel_rfl) (by kernel_rfl) (by kernel_rfl) (fun _ _ _ h => h) (Or.inl ⟨by rfl, ?_⟩) (by assumption) ?_
        rotate_left
        · intro wq hSw
          (try dsimp only at hSw)
          go_simp
          try with_reducible rfl
        try simp only [Act.put, List.setIfInBounds_toArray, List.set_cons_zero, List.set_cons_succ]
        refine wpAnyH_take (i := 6) (oi := { dst := some 44, op := Op.binOp BinOp.add 9 (Operand.tmp 43) (Operand.const (Value.string { data := #[32] })) 9, type := 9, pos := "l7_mail.go:156", after := #[{ on := 5, ground := Ground.data }], guard := none }) (v := ?_) rfl (by kernel_rfl) (by kernel_rfl) (by kernel_rfl) (fun _ _ _ h => h) (Or.inl ⟨by rfl, ?_⟩) (by assumption) ?_
        rotate_left
        · intro wq hSw
          (try dsimp only at hSw)
          go_simp
          try with_reducible rfl
        try simp only [Act.put, List.setIfInBounds_toArray, List.set_cons_zero, List.set_cons_succ]
        refine wpAnyH_take (i := 10) (oi := { dst := some 48, op := Op.binOp BinOp.add 9 (Operand.tmp 44) (Operand.tmp 47) 9, type := 9, pos := "l7_mail.go:156", after := #[{ on := 6, ground := Ground.data }, { on := 9, ground := Ground.data }], guard := none }) (v := ?_) rfl (by kernel_rfl) (by kernel_rfl) (by kernel_rfl) (fun _ _ _ h => h) (Or.inl ⟨by rfl, ?_⟩) (by assumption) ?_
        rotate_left
        · intro wq hSw
          (try dsimp only at hSw)
          go_simp
          try with_reducible rfl
        try simp only [Act.put, List.setIfInBounds_toArray, List.set_cons_zero, List.set_cons_succ]
        refine wpAnyH_take (i := 11) (oi := { dst := some 49, op := Op.binOp BinOp.add 9 (Operand.tmp 48) (Operand.const (Value.string { data := #[10] })) 9, type := 9, pos := "l7_mail.go:156", after := #[{ on := 10, ground := Ground.data }], guard := none }) (v := ?_) rfl (by kernel_rfl) (by kernel_rfl) (by kernel_rfl) (fun _ _ _ h => h) (Or.inl ⟨by rfl, ?_⟩) (by assumption) ?_
        rotate_left
        · intro wq hSw
          (try dsimp only at hSw)
          go_simp
          try with_reducible rfl
        try simp only [Act.put, List.setIfInBounds_toArray, List.set_cons_zero, List.set_cons_succ]
        refine wpAnyH_take (i := 12) (oi := { dst := some 2, op := Op.assign (Operand.tmp 49), type := 9, pos := "l7_mail.go:156", after := #[{ on := 11, ground := Ground.data }, { on := 4, ground := Ground.chain }, { on := 0, ground := Ground.phase }, { on := 1, ground := Ground.phase }, { on := 2, ground := Ground.phase }, { on := 3, ground := Ground.phase }, { on := 4, ground := Ground.phase }, { on := 5, ground := Ground.phase }, { on := 6, ground := Ground.phase }, { on := 7, ground := Ground.phase }, { on := 8, ground := Ground.phase }, { on := 9, ground := Ground.phase }, { on := 10, ground := Ground.phase }, { on := 11, ground := Ground.phase }], guard := none }) (v := ?_) rfl (by kernel_rfl) (by kernel_rfl) (by kernel_rfl) (fun _ _ _ h => h) (Or.inl ⟨by rfl, ?_⟩) (by assumption) ?_
        rotate_left
        · intro wq hSw
          (try dsimp only at hSw)
          go_simp
          try with_reducible rfl
        try simp only [Act.put, List.setIfInBounds_toArray, List.set_cons_zero, List.set_cons_succ]
        refine wpAnyH_done (by kernel_rfl) ?_ _
        clear hHeld
        go_wp2
        go_ret
        exact ⟨ret_str (by rw [HFS.out, HE.out]; exact look_eq _ _ _), (hBV.trans (HV4.out.mono hBV.size)).trans (HS5.out.mono (by omega))⟩
    · go_simp
      have HS2 : Hid (Below p1.heap.size p1 (p1.alloc (.cells #[.int .i64 x.ct, .int .i64 x.tn.st] 3))) := (Below.refl _ _).alloc (Nat.le_refl _) _
      have q2_2_0 : (p1.alloc (.cells #[.int .i64 x.ct, .int .i64 x.tn.st] 3)).cell? ⟨p1.heap.size, 0, none⟩ = some (.int .i64 x.ct) := by simp [go_sem]
      have q2_2_1 : (p1.alloc (.cells #[.int .i64 x.ct, .int .i64 x.tn.st] 3)).cell? ⟨p1.heap.size, 1, none⟩ = some (.int .i64 x.tn.st) := by simp [go_sem]
      have hq2_2 : p1.heap.size < (p1.alloc (.cells #[.int .i64 x.ct, .int .i64 x.tn.st] 3)).heap.size := by simp
      generalize (p1.alloc (.cells #[.int .i64 x.ct, .int .i64 x.tn.st] 3)) = p2 at *
      have c2_2 := (HS2.out.cell (p := ⟨w.heap.size, 2, none⟩) (by exact hz1)).trans c1_2
      have c2_3 := (HS2.out.cell (p := ⟨w.heap.size, 3, none⟩) (by exact hz1)).trans c1_3
      have c2_4 := (HS2.out.cell (p := ⟨w.heap.size, 4, none⟩) (by exact hz1)).trans c1_4
      have c2_5 := (HS2.out.cell (p := ⟨w.heap.size, 5, none⟩) (by exact hz1)).trans c1_5
      have c2_9 := (HS2.out.cell (p := ⟨w.heap.size, 9, none⟩) (by exact hz1)).trans c1_9
      have c2_10 := (HS2.out.cell (p := ⟨w.heap.size, 10, none⟩) (by exact hz1)).trans c1_10
      have c2_11 := (HS2.out.cell (p := ⟨w.heap.size, 11, none⟩) (by exact hz1)).trans c1_11
      have c2_12 := (HS2.out.cell (p := ⟨w.heap.size, 12, none⟩) (by exact hz1)).trans c1_12
      have c2_13 := (HS2.out.cell (p := ⟨w.heap.size, 13, none⟩) (by exact hz1)).trans c1_13
      have c2_14 := (HS2.out.cell (p := ⟨w.heap.size, 14, none⟩) (by exact hz1)).trans c1_14
      have c2_15 := (HS2.out.cell (p := ⟨w.heap.size, 15, none⟩) (by exact hz1)).trans c1_15
      clear c1_2 c1_3 c1_4 c1_5 c1_9 c1_10 c1_11 c1_12 c1_13 c1_14 c1_15
      have q3_2_0 := (HS2.out.cell (p := ⟨V.heap.size, 0, none⟩) (by exact hq3_1)).trans q3_1_0
      have q3_2_1 := (HS2.out.cell (p := ⟨V.heap.size, 1, none⟩) (by exact hq3_1)).trans q3_1_1
      have q3_2_2 := (HS2.out.cell (p := ⟨V.heap.size, 2, none⟩) (by exact hq3_1)).trans q3_1_2
      have hq3_2 := Nat.lt_of_lt_of_le hq3_1 HS2.out.size
      have hz2 : w.heap.size < p2.heap.size := Nat.lt_of_lt_of_le hz1 HS2.out.size
      have HV2 : Hid (Below V.heap.size V p2) := HV1.out.trans (HS2.out.mono HV1.out.size)
      clear hHeld
      refine hK.out _ _ ?_ (fun hHeld => ?_)
      · ((try dsimp only); go_keep)
      clear hK K
      try simp only [Act.put, List.setIfInBounds_toArray, List.set_cons_zero, List.set_cons_succ]
      refine wpAnyH_ready (rs := [7]) (by kernel_rfl) (by simp) ?_
      refine AllReadyH.cons (o := { dst := some 11, op := Op.call { callee := Callee.value (Operand.func 99), args := #[Operand.tmp 10], argTypes := #[134] }, type := 9, pos := "l7_mail.go:152", after := #[{ on := 6, ground := Ground.data }], guard := none }) rfl (fun K hK => ?_) AllReadyH.nil
      go_simp
      refine (c99_3 (V.heap.size) x.fr x.ep x.ed _ (pow_below HPV.out HV2.out) q3_2_0 q3_2_1 q3_2_2 hq3_2 r1 r2 r3).mono ?_
      rintro e p3 ⟨rfl, hb3⟩
      have HS3 : Hid (Below p2.heap.size p2 p3) := hb3
      clear hb3
      have c3_2 := (HS3.out.cell (p := ⟨w.heap.size, 2, none⟩) (by exact hz2)).trans c2_2
      have c3_3 := (HS3.out.cell (p := ⟨w.heap.size, 3, none⟩) (by exact hz2)).trans c2_3
      have c3_4 := (HS3.out.cell (p := ⟨w.heap.size, 4, none⟩) (by exact hz2)).trans c2_4
      have c3_5 := (HS3.out.cell (p := ⟨w.heap.size, 5, none⟩) (by exact hz2)).trans c2_5
      have c3_9 := (HS3.out.cell (p := ⟨w.heap.size, 9, none⟩) (by exact hz2)).trans c2_9
      have c3_10 := (HS3.out.cell (p := ⟨w.heap.size, 10, none⟩) (by exact hz2)).trans c2_10
      have c3_11 := (HS3.out.cell (p := ⟨w.heap.size, 11, none⟩) (by exact hz2)).trans c2_11
      have c3_12 := (HS3.out.cell (p := ⟨w.heap.size, 12, none⟩) (by exact hz2)).trans c2_12
      have c3_13 := (HS3.out.cell (p := ⟨w.heap.size, 13, none⟩) (by exact hz2)).trans c2_13
      have c3_14 := (HS3.out.cell (p := ⟨w.heap.size, 14, none⟩) (by exact hz2)).trans c2_14
      have c3_15 := (HS3.out.cell (p := ⟨w.heap.size, 15, none⟩) (by exact hz2)).trans c2_15
      clear c2_2 c2_3 c2_4 c2_5 c2_9 c2_10 c2_11 c2_12 c2_13 c2_14 c2_15
      have q2_3_0 := (HS3.out.cell (p := ⟨p1.heap.size, 0, none⟩) (by exact hq2_2)).trans q2_2_0
      have q2_3_1 := (HS3.out.cell (p := ⟨p1.heap.size, 1, none⟩) (by exact hq2_2)).trans q2_2_1
      have hq2_3 := Nat.lt_of_lt_of_le hq2_2 HS3.out.size
      have hz3 : w.heap.size < p3.heap.size := Nat.lt_of_lt_of_le hz2 HS3.out.size
      have HV3 : Hid (Below V.heap.size V p3) := HV2.out.trans (HS3.out.mono HV2.out.size)
      go_wp2_with fail
      clear hHeld
      refine hK.out _ _ ?_ (fun hHeld => ?_)
      · ((try dsimp only); go_keep)
      clear hK K
      try simp only [Act.put, List.setIfInBounds_toArray, List.set_cons_zero, List.set_cons_succ]
      refine wpAnyH_take (i := 8) (oi := { dst := some 12, op := Op.binOp BinOp.add 9 (Operand.tmp 11) (Operand.const (Value.string { data := #[32] })) 9, type := 9, pos := "l7_mail.go:152", after := #[{ on := 7, ground := Ground.data }], guard := none }) (v := ?_) rfl (by kernel_rfl) (by kernel_rfl) (by kernel_rfl) (fun _ _ _ h => h) (Or.inl ⟨by rfl, ?_⟩) (by assumption) ?_
      rotate_left
      · intro wq hSw
        (try dsimp only at hSw)
        go_simp
        try with_reducible rfl
      try simp only [Act.put, List.setIfInBounds_toArray, List.set_cons_zero, List.set_cons_succ]
      refine wpAnyH_take (i := 12) (oi := { dst := some 16, op := Op.binOp BinOp.add 9 (Operand.tmp 12) (Operand.tmp 15) 9, type := 9, pos := "l7_mail.go:152", after := #[{ on := 8, ground := Ground.data }, { on := 11, ground := Ground.data }], guard := none }) (v := ?_) rfl (by kernel_rfl) (by kernel_rfl) (by kernel_rfl) (fun _ _ _ h => h) (Or.inl ⟨by rfl, ?_⟩) (by assumption) ?_
      rotate_left
      · intro wq hSw
        (try dsimp only at hSw)
        go_simp
        try with_reducible rfl
      try simp only [Act.put, List.setIfInBounds_toArray, List.set_cons_zero, List.set_cons_succ]
      refine wpAnyH_take (i := 13) (oi := { dst := some 17, op := Op.binOp BinOp.add 9 (Operand.tmp 16) (Operand.const (Value.string { data := #[32] })) 9, type := 9, pos := "l7_mail.go:152", after := #[{ on := 12, ground := Ground.data }], guard := none }) (v := ?_) rfl (by kernel_rfl) (by kernel_rfl) (by kernel_rfl) (fun _ _ _ h => h) (Or.inl ⟨by rfl, ?_⟩) (by assumption) ?_
      rotate_left
      · intro wq hSw
        (try dsimp only at hSw)
        go_simp
        try with_reducible rfl
      try simp only [Act.put, List.setIfInBounds_toArray, List.set_cons_zero, List.set_cons_succ]
      refine wpAnyH_ready (rs := [20]) (by kernel_rfl) (by simp) ?_
      refine AllReadyH.cons (o := { dst := some 24, op := Op.call { callee := Callee.value (Operand.func 99), args := #[Operand.tmp 23], argTypes := #[134] }, type := 9, pos := "l7_mail.go:152", after := #[{ on := 19, ground := Ground.data }, { on := 7, ground := Ground.chain }], guard := none }) rfl (fun K hK => ?_) AllReadyH.nil
      go_simp
      refine (c99_2 (p1.heap.size) x.ct x.tn.st _ (pow_below HPV.out HV3.out) q2_3_0 q2_3_1 hq2_3 r4 r5).mono ?_
      rintro e p4 ⟨rfl, hb4⟩
      have HS4 : Hid (Below p3.heap.size p3 p4) := hb4
      clear hb4
      have c4_2 := (HS4.out.cell (p := ⟨w.heap.size, 2, none⟩) (by exact hz3)).trans c3_2
      have c4_3 := (HS4.out.cell (p := ⟨w.heap.size, 3, none⟩) (by exact hz3)).trans c3_3
      have c4_4 := (HS4.out.cell (p := ⟨w.heap.size, 4, none⟩) (by exact hz3)).trans c3_4
      have c4_5 := (HS4.out.cell (p := ⟨w.heap.size, 5, none⟩) (by exact hz3)).trans c3_5
      have c4_9 := (HS4.out.cell (p := ⟨w.heap.size, 9, none⟩) (by exact hz3)).trans c3_9
      have c4_10 := (HS4.out.cell (p := ⟨w.heap.size, 10, none⟩) (by exact hz3)).trans c3_10
      have c4_11 := (HS4.out.cell (p := ⟨w.heap.size, 11, none⟩) (by exact hz3)).trans c3_11
      have c4_12 := (HS4.out.cell (p := ⟨w.heap.size, 12, none⟩) (by exact hz3)).trans c3_12
      have c4_13 := (HS4.out.cell (p := ⟨w.heap.size, 13, none⟩) (by exact hz3)).trans c3_13
      have c4_14 := (HS4.out.cell (p := ⟨w.heap.size, 14, none⟩) (by exact hz3)).trans c3_14
      have c4_15 := (HS4.out.cell (p := ⟨w.heap.size, 15, none⟩) (by exact hz3)).trans c3_15
      clear c3_2 c3_3 c3_4 c3_5 c3_9 c3_10 c3_11 c3_12 c3_13 c3_14 c3_15
      have hz4 : w.heap.size < p4.heap.size := Nat.lt_of_lt_of_le hz3 HS4.out.size
      have HV4 : Hid (Below V.heap.size V p4) := HV3.out.trans (HS4.out.mono HV3.out.size)
      go_wp2_with fail
      clear hHeld
      refine hK.out _ _ ?_ (fun hHeld => ?_)
      · ((try dsimp only); go_keep)
      clear hK K
      try simp only [Act.put, List.setIfInBounds_toArray, List.set_cons_zero, List.set_cons_succ]
      refine wpAnyH_take (i := 21) (oi := { dst := some 25, op := Op.binOp BinOp.add 9 (Operand.tmp 17) (Operand.tmp 24) 9, type := 9, pos := "l7_mail.go:152", after := #[{ on := 13, ground := Ground.data }, { on := 20, ground := Ground.data }], guard := none }) (v := ?_) rfl (by kernel_rfl) (by kernel_rfl) (by kernel_rfl) (fun _ _ _ h => h) (Or.inl ⟨by rfl, ?_⟩) (by assumption) ?_
      rotate_left
      · intro wq hSw
        (try dsimp only at hSw)
        go_simp
        try with_reducible rfl
      try simp only [Act.put, List.setIfInBounds_toArray, List.set_cons_zero, List.set_cons_succ]
      refine wpAnyH_take (i := 22) (oi := { dst := some 26, op := Op.binOp BinOp.add 9 (Operand.tmp 25) (Operand.const (Value.string { data := #[10] })) 9, type := 9, pos := "l7_mail.go:152", after := #[{ on := 21, ground := Ground.data }], guard := none }) (v := ?_) rfl (by kernel_rfl) (by kernel_rfl) (by kernel_rfl) (fun _ _ _ h => h) (Or.inl ⟨by rfl, ?_⟩) (by assumption) ?_
      rotate_left
      · intro wq hSw
        (try dsimp only at hSw)
        go_simp
        try with_reducible rfl
      try simp only [Act.put, List.setIfInBounds_toArray, List.set_cons_zero, List.set_cons_succ]
      refine wpAnyH_take (i := 23) (oi := { dst := some 3, op := Op.assign (Operand.tmp 26), type := 9, pos := "l7_mail.go:152", after := #[{ on := 22, ground := Ground.data }, { on := 20, ground := Ground.chain }, { on := 0, ground := Ground.phase }, { on := 1, ground := Ground.phase }, { on := 2, ground := Ground.phase }, { on := 3, ground := Ground.phase }, { on := 4, ground := Ground.phase }, { on := 5, ground := Ground.phase }, { on := 6, ground := Ground.phase }, { on := 7, ground := Ground.phase }, { on := 8, ground := Ground.phase }, { on := 9, ground := Ground.phase }, { on := 10, ground := Ground.phase }, { on := 11, ground := Ground.phase }, { on := 12, ground := Ground.phase }, { on := 13, ground := Ground.phase }, { on := 14, ground := Ground.phase }, { on := 15, ground := Ground.phase }, { on := 16, ground := Ground.phase }, { on := 17, ground := Ground.phase }, { on := 18, ground := Ground.phase }, { on := 19, ground := Ground.phase }, { on := 20, ground := Ground.phase }, { on := 21, ground := Ground.phase }, { on := 22, ground := Ground.phase }], guard := none }) (v := ?_) rfl (by kernel_rfl) (by kernel_rfl) (by kernel_rfl) (fun _ _ _ h => h) (Or.inl ⟨by rfl, ?_⟩) (by assumption) ?_
      rotate_left
      · intro wq hSw
        (try dsimp only at hSw)
        go_simp
        try with_reducible rfl
      try simp only [Act.put, List.setIfInBounds_toArray, List.set_cons_zero, List.set_cons_succ]
      refine wpAnyH_done (by kernel_rfl) ?_ _
      clear hHeld
      generalize ofL (num3 x.fr x.ep x.ed) ++ ⟨#[32]⟩ ++ x.km.nm ++ ⟨#[32]⟩ ++ ofL (num2 x.ct x.tn.st) ++ ⟨#[10]⟩ = fs at *
      by_cases hov : x.tn.over = true
      · have c10 : p4.cell? ⟨w.heap.size, 10, none⟩ = some (.bool true) := by rw [c4_10, hov]
        have HE : Hid (turnW x = firstL x ++ [111, 118, 101, 114, 32] ++ resL x.tn.cd x.tn.tx ++ [10]) := by unfold turnW; rw [if_pos hov]; rfl
        clear c4_10 hov
        go_wp2_with fail
        refine (c108 x.tn.cd x.tn.tx _ (pow_below HPV.out HV4.out) r6.1 r6.2 (by omega)).mono ?_
        rintro e p5 ⟨rfl, hb5⟩
        have HS5 : Hid (Below p4.heap.size p4 p5) := hb5
        have d11 := (HS5.out.cell (p := ⟨w.heap.size, 11, none⟩) (by exact hz4)).trans c4_11
        have d12 := (HS5.out.cell (p := ⟨w.heap.size, 12, none⟩) (by exact hz4)).trans c4_12
        have d13 := (HS5.out.cell (p := ⟨w.heap.size, 13, none⟩) (by exact hz4)).trans c4_13
        have d14 := (HS5.out.cell (p := ⟨w.heap.size, 14, none⟩) (by exact hz4)).trans c4_14
        clear hb5
        go_wp2
        go_ret
        exact ⟨ret_str (by rw [HFS.out, HE.out]; exact over_eq _ _ _), (hBV.trans (HV4.out.mono hBV.size)).trans (HS5.out.mono (by omega))⟩
      · have c10 : p4.cell? ⟨w.heap.size, 10, none⟩ = some (.bool false) := by rw [c4_10]; simpa using hov
        have HE : Hid (turnW x = firstL x ++ (lookW x.tn.has).data.toList ++ [32] ++ x.tn.nm.data.toList ++ [10]) := by unfold turnW; rw [if_neg hov]; rfl
        clear c4_10 hov
        go_wp2_with fail
        refine wp_region_held_drew (S := (fun u => u.cell? ⟨w.heap.size, 11, none⟩ = some (.int .i64 x.tn.cd) ∧ u.cell? ⟨w.heap.size, 12, none⟩ = some (.string x.tn.tx) ∧ u.cell? ⟨w.heap.size, 13, none⟩ = some (.bool x.tn.has) ∧ u.cell? ⟨w.heap.size, 14, none⟩ = some (.string x.tn.nm))) (by kernel_rfl) ?_ (fun hHeld => ?_)
        · ((try dsimp only); go_keep)
        refine wpAnyH_take (i := 0) (oi := { dst := some 38, op := Op.move (Operand.tmp 3), type := 9, pos := "l7_mail.go:156", after := #[], guard := none }) (v := ?_) rfl (by kernel_rfl) (by kernel_rfl) (by kernel_rfl) (fun _ _ _ h => h) (Or.inl ⟨by rfl, ?_⟩) (by assumption) ?_
        rotate_left
        · intro wq hSw
          (try dsimp only at hSw)
          go_simp
          try with_reducible rfl
        try simp only [Act.put, List.setIfInBounds_toArray, List.set_cons_zero, List.set_cons_succ]
        refine wpAnyH_take (i := 1) (oi := { dst := some 39, op := Op.fieldAddr 41 (Operand.tmp 1) 8, type := 0, pos := "l7_mail.go:156", after := #[], guard := none }) (v := ?_) rfl (by kernel_rfl) (by kernel_rfl) (by kernel_rfl) (fun _ _ _ h => h) (Or.inl ⟨by rfl, ?_⟩) (by assumption) ?_
        rotate_left
        · intro wq hSw
          (try dsimp only at hSw)
          go_simp
          try with_reducible rfl
        try simp only [Act.put, List.setIfInBounds_toArray, List.set_cons_zero, List.set_cons_succ]
        refine wpAnyH_take (i := 2) (oi := { dst := some 40, op := Op.fieldAddr 39 (Operand.tmp 39) 2, type := 0, pos := "l7_mail.go:156", after := #[{ on := 1, ground := Ground.data }], guard := none }) (v := ?_) rfl (by kernel_rfl) (by kernel_rfl) (by kernel_rfl) (fun _ _ _ h => h) (Or.inl ⟨by rfl, ?_⟩) (by assumption) ?_
        rotate_left
        · intro wq hSw
          (try dsimp only at hSw)
          go_simp
          try with_reducible rfl
        try simp only [Act.put, List.setIfInBounds_toArray, List.set_cons_zero, List.set_cons_succ]
        refine wpAnyH_take (i := 3) (oi := { dst := some 41, op := Op.load 4 (Operand.tmp 40), type := 4, pos := "l7_mail.go:156", after := #[{ on := 2, ground := Ground.data }], guard := none }) (v := ?_) rfl (by kernel_rfl) (by kernel_rfl) (by kernel_rfl) (fun _ _ _ h => h) (Or.inl ⟨by rfl, ?_⟩) (by assumption) ?_
        rotate_left
        · intro wq hSw
          (try dsimp only at hSw)
          go_simp
          try with_reducible rfl
        try simp only [Act.put, List.setIfInBounds_toArray, List.set_cons_zero, List.set_cons_succ]
        refine wpAnyH_take (i := 7) (oi := { dst := some 45, op := Op.fieldAddr 41 (Operand.tmp 1) 8, type := 0, pos := "l7_mail.go:156", after := #[], guard := none }) (v := ?_) rfl (by kernel_rfl) (by kernel_rfl) (by kernel_rfl) (fun _ _ _ h => h) (Or.inl ⟨by rfl, ?_⟩) (by assumption) ?_
        rotate_left
        · intro wq hSw
          (try dsimp only at hSw)
          go_simp
          try with_reducible rfl
        try simp only [Act.put, List.setIfInBounds_toArray, List.set_cons_zero, List.set_cons_succ]
        refine wpAnyH_take (i := 8) (oi := { dst := some 46, op := Op.fieldAddr 39 (Operand.tmp 45) 3, type := 0, pos := "l7_mail.go:156", after := #[{ on := 7, ground := Ground.data }], guard := none }) (v := ?_) rfl (by kernel_rfl) (by kernel_rfl) (by kernel_rfl) (fun _ _ _ h => h) (Or.inl ⟨by rfl, ?_⟩) (by assumption) ?_
        rotate_left
        · intro wq hSw
          (try dsimp only at hSw)
          go_simp
          try with_reducible rfl
        try simp only [Act.put, List.setIfInBounds_toArray, List.set_cons_zero, List.set_cons_succ]
        refine wpAnyH_take (i := 9) (oi := { dst := some 47, op := Op.load 9 (Operand.tmp 46), type := 9, pos := "l7_mail.go:156", after := #[{ on := 8, ground := Ground.data }], guard := none }) (v := ?_) rfl (by kernel_rfl) (by kernel_rfl) (by kernel_rfl) (fun _ _ _ h => h) (Or.inl ⟨by rfl, ?_⟩) (by assumption) ?_
        rotate_left
        · intro wq hSw
          (try dsimp only at hSw)
          go_simp
          try with_reducible rfl
        try simp only [Act.put, List.setIfInBounds_toArray, List.set_cons_zero, List.set_cons_succ]
        refine wpAnyH_ready (rs := [4]) (by kernel_rfl) (by simp) ?_
        refine AllReadyH.cons (o := { dst := some 42, op := Op.call { callee := Callee.value (Operand.func 109), args := #[Operand.tmp 41], argTypes := #[4] }, type := 9, pos := "l7_mail.go:156", after := #[{ on := 3, ground := Ground.data }], guard := none }) rfl (fun K hK => ?_) AllReadyH.nil
        go_simp
        refine (c109 x.tn.has _).mono ?_
        rintro e p5 ⟨rfl, hw5⟩
        have HS5 : Hid (Below p4.heap.size p4 p5) := by rw [hw5]; exact (Below.refl _ _).drew
        have d11 := (HS5.out.cell (p := ⟨w.heap.size, 11, none⟩) (by exact hz4)).trans c4_11
        have d12 := (HS5.out.cell (p := ⟨w.heap.size, 12, none⟩) (by exact hz4)).trans c4_12
        have d13 := (HS5.out.cell (p := ⟨w.heap.size, 13, none⟩) (by exact hz4)).trans c4_13
        have d14 := (HS5.out.cell (p := ⟨w.heap.size, 14, none⟩) (by exact hz4)).trans c4_14
        clear hw5
        go_wp2_with fail
        clear hHeld
        refine hK.out _ _ ?_ (fun hHeld => ?_)
        · ((try dsimp only); go_keep)
        clear hK K
        try simp only [Act.put, List.setIfInBounds_toArray, List.set_cons_zero, List.set_cons_succ]
        refine wpAnyH_take (i := 5) (oi := { dst := some 43, op := Op.binOp BinOp.add 9 (Operand.tmp 38) (Operand.tmp 42) 9, type := 9, pos := "l7_mail.go:156", after := #[{ on := 0, ground := Ground.data }, { on := 4, ground := Ground.data }], guard := none }) (v := ?_) rfl (by kernel_rfl) (by kernel_rfl) (by kernel_rfl) (fun _ _ _ h => h) (Or.inl ⟨by rfl, ?_⟩) (by assumption) ?_
        rotate_left
        · intro wq hSw
          (try dsimp only at hSw)
          go_simp
          try with_reducible rfl
        try simp only [Act.put, List.setIfInBounds_toArray, List.set_cons_zero, List.set_cons_succ]
        refine wpAnyH_take (i := 6) (oi := { dst := some 44, op := Op.binOp BinOp.add 9 (Operand.tmp 43) (Operand.const (Value.string { data := #[32] })) 9, type := 9, pos := "l7_mail.go:156", after := #[{ on := 5, ground := Ground.data }], guard := none }) (v := ?_) rfl (by kernel_rfl) (by kernel_rfl) (by kernel_rfl) (fun _ _ _ h => h) (Or.inl ⟨by rfl, ?_⟩) (by assumption) ?_
        rotate_left
        · intro wq hSw
          (try dsimp only at hSw)
          go_simp
          try with_reducible rfl
        try simp only [Act.put, List.setIfInBounds_toArray, List.set_cons_zero, List.set_cons_succ]
        refine wpAnyH_take (i := 10) (oi := { dst := some 48, op := Op.binOp BinOp.add 9 (Operand.tmp 44) (Operand.tmp 47) 9, type := 9, pos := "l7_mail.go:156", after := #[{ on := 6, ground := Ground.data }, { on := 9, ground := Ground.data }], guard := none }) (v := ?_) rfl (by kernel_rfl) (by kernel_rfl) (by kernel_rfl) (fun _ _ _ h => h) (Or.inl ⟨by rfl, ?_⟩) (by assumption) ?_
        rotate_left
        · intro wq hSw
          (try dsimp only at hSw)
          go_simp
          try with_reducible rfl
        try simp only [Act.put, List.setIfInBounds_toArray, List.set_cons_zero, List.set_cons_succ]
        refine wpAnyH_take (i := 11) (oi := { dst := some 49, op := Op.binOp BinOp.add 9 (Operand.tmp 48) (Operand.const (Value.string { data := #[10] })) 9, type := 9, pos := "l7_mail.go:156", after := #[{ on := 10, ground := Ground.data }], guard := none }) (v := ?_) rfl (by kernel_rfl) (by kernel_rfl) (by kernel_rfl) (fun _ _ _ h => h) (Or.inl ⟨by rfl, ?_⟩) (by assumption) ?_
        rotate_left
        · intro wq hSw
          (try dsimp only at hSw)
          go_simp
          try with_reducible rfl
        try simp only [Act.put, List.setIfInBounds_toArray, List.set_cons_zero, List.set_cons_succ]
        refine wpAnyH_take (i := 12) (oi := { dst := some 2, op := Op.assign (Operand.tmp 49), type := 9, pos := "l7_mail.go:156", after := #[{ on := 11, ground := Ground.data }, { on := 4, ground := Ground.chain }, { on := 0, ground := Ground.phase }, { on := 1, ground := Ground.phase }, { on := 2, ground := Ground.phase }, { on := 3, ground := Ground.phase }, { on := 4, ground := Ground.phase }, { on := 5, ground := Ground.phase }, { on := 6, ground := Ground.phase }, { on := 7, ground := Ground.phase }, { on := 8, ground := Ground.phase }, { on := 9, ground := Ground.phase }, { on := 10, ground := Ground.phase }, { on := 11, ground := Ground.phase }], guard := none }) (v := ?_) rfl (by kernel_rfl) (by kernel_rfl) (by kernel_rfl) (fun _ _ _ h => h) (Or.inl ⟨by rfl, ?_⟩) (by assumption) ?_
        rotate_left
        · intro wq hSw
          (try dsimp only at hSw)
          go_simp
          try with_reducible rfl
        try simp only [Act.put, List.setIfInBounds_toArray, List.set_cons_zero, List.set_cons_succ]
        refine wpAnyH_done (by kernel_rfl) ?_ _
        clear hHeld
        go_wp2
        go_ret
        exact ⟨ret_str (by rw [HFS.out, HE.out]; exact look_eq _ _ _), (hBV.trans (HV4.out.mono hBV.size)).trans (HS5.out.mono (by omega))⟩
  · go_simp
    have HS1 : Hid (Below V.heap.size V (V.alloc (.cells #[.int .i64 x.ct, .int .i64 x.tn.st] 3)).drew) := ((Below.refl _ _).alloc (Nat.le_refl _) _).drew
    have q2_1_0 : (V.alloc (.cells #[.int .i64 x.ct, .int .i64 x.tn.st] 3)).drew.cell? ⟨V.heap.size, 0, none⟩ = some (.int .i64 x.ct) := by simp [go_sem]
    have q2_1_1 : (V.alloc (.cells #[.int .i64 x.ct, .int .i64 x.tn.st] 3)).drew.cell? ⟨V.heap.size, 1, none⟩ = some (.int .i64 x.tn.st) := by simp [go_sem]
    have hq2_1 : V.heap.size < (V.alloc (.cells #[.int .i64 x.ct, .int .i64 x.tn.st] 3)).drew.heap.size := by simp
    generalize (V.alloc (.cells #[.int .i64 x.ct, .int .i64 x.tn.st] 3)).drew = p1 at *
    have c1_2 := (HS1.out.cell (p := ⟨w.heap.size, 2, none⟩) (by exact hz0)).trans c0_2
    have c1_3 := (HS1.out.cell (p := ⟨w.heap.size, 3, none⟩) (by exact hz0)).trans c0_3
    have c1_4 := (HS1.out.cell (p := ⟨w.heap.size, 4, none⟩) (by exact hz0)).trans c0_4
    have c1_5 := (HS1.out.cell (p := ⟨w.heap.size, 5, none⟩) (by exact hz0)).trans c0_5
    have c1_9 := (HS1.out.cell (p := ⟨w.heap.size, 9, none⟩) (by exact hz0)).trans c0_9
    have c1_10 := (HS1.out.cell (p := ⟨w.heap.size, 10, none⟩) (by exact hz0)).trans c0_10
    have c1_11 := (HS1.out.cell (p := ⟨w.heap.size, 11, none⟩) (by exact hz0)).trans c0_11
    have c1_12 := (HS1.out.cell (p := ⟨w.heap.size, 12, none⟩) (by exact hz0)).trans c0_12
    have c1_13 := (HS1.out.cell (p := ⟨w.heap.size, 13, none⟩) (by exact hz0)).trans c0_13
    have c1_14 := (HS1.out.cell (p := ⟨w.heap.size, 14, none⟩) (by exact hz0)).trans c0_14
    have c1_15 := (HS1.out.cell (p := ⟨w.heap.size, 15, none⟩) (by exact hz0)).trans c0_15
    clear c0_2 c0_3 c0_4 c0_5 c0_9 c0_10 c0_11 c0_12 c0_13 c0_14 c0_15
    have hz1 : w.heap.size < p1.heap.size := Nat.lt_of_lt_of_le hz0 HS1.out.size
    have HV1 : Hid (Below V.heap.size V p1) := HS1
    clear hHeld
    refine hK.out _ _ ?_ (fun hHeld => ?_)
    · ((try dsimp only); go_keep)
    clear hK K
    try simp only [Act.put, List.setIfInBounds_toArray, List.set_cons_zero, List.set_cons_succ]
    refine wpAnyH_ready (rs := [6]) (by kernel_rfl) (by simp) ?_
    refine AllReadyH.cons (o := { dst := some 10, op := Op.buildSlice 134 3 #[(0, Operand.tmp 5), (1, Operand.tmp 7), (2, Operand.tmp 9)], type := 134, pos := "l7_mail.go:152", after := #[{ on := 1, ground := Ground.data }, { on := 3, ground := Ground.data }, { on := 5, ground := Ground.data }], guard := none }) rfl (fun K hK => ?_) AllReadyH.nil
    go_simp
    have HS2 : Hid (Below p1.heap.size p1 (p1.alloc (.cells #[.int .i64 x.fr, .int .i64 x.ep, .int .i64 x.ed] 3))) := (Below.refl _ _).alloc (Nat.le_refl _) _
    have q3_2_0 : (p1.alloc (.cells #[.int .i64 x.fr, .int .i64 x.ep, .int .i64 x.ed] 3)).cell? ⟨p1.heap.size, 0, none⟩ = some (.int .i64 x.fr) := by simp [go_sem]
    have q3_2_1 : (p1.alloc (.cells #[.int .i64 x.fr, .int .i64 x.ep, .int .i64 x.ed] 3)).cell? ⟨p1.heap.size, 1, none⟩ = some (.int .i64 x.ep) := by simp [go_sem]
    have q3_2_2 : (p1.alloc (.cells #[.int .i64 x.fr, .int .i64 x.ep, .int .i64 x.ed] 3)).cell? ⟨p1.heap.size, 2, none⟩ = some (.int .i64 x.ed) := by simp [go_sem]
    have hq3_2 : p1.heap.size < (p1.alloc (.cells #[.int .i64 x.fr, .int .i64 x.ep, .int .i64 x.ed] 3)).heap.size := by simp
    generalize (p1.alloc (.cells #[.int .i64 x.fr, .int .i64 x.ep, .int .i64 x.ed] 3)) = p2 at *
    have c2_2 := (HS2.out.cell (p := ⟨w.heap.size, 2, none⟩) (by exact hz1)).trans c1_2
    have c2_3 := (HS2.out.cell (p := ⟨w.heap.size, 3, none⟩) (by exact hz1)).trans c1_3
    have c2_4 := (HS2.out.cell (p := ⟨w.heap.size, 4, none⟩) (by exact hz1)).trans c1_4
    have c2_5 := (HS2.out.cell (p := ⟨w.heap.size, 5, none⟩) (by exact hz1)).trans c1_5
    have c2_9 := (HS2.out.cell (p := ⟨w.heap.size, 9, none⟩) (by exact hz1)).trans c1_9
    have c2_10 := (HS2.out.cell (p := ⟨w.heap.size, 10, none⟩) (by exact hz1)).trans c1_10
    have c2_11 := (HS2.out.cell (p := ⟨w.heap.size, 11, none⟩) (by exact hz1)).trans c1_11
    have c2_12 := (HS2.out.cell (p := ⟨w.heap.size, 12, none⟩) (by exact hz1)).trans c1_12
    have c2_13 := (HS2.out.cell (p := ⟨w.heap.size, 13, none⟩) (by exact hz1)).trans c1_13
    have c2_14 := (HS2.out.cell (p := ⟨w.heap.size, 14, none⟩) (by exact hz1)).trans c1_14
    have c2_15 := (HS2.out.cell (p := ⟨w.heap.size, 15, none⟩) (by exact hz1)).trans c1_15
    clear c1_2 c1_3 c1_4 c1_5 c1_9 c1_10 c1_11 c1_12 c1_13 c1_14 c1_15
    have q2_2_0 := (HS2.out.cell (p := ⟨V.heap.size, 0, none⟩) (by exact hq2_1)).trans q2_1_0
    have q2_2_1 := (HS2.out.cell (p := ⟨V.heap.size, 1, none⟩) (by exact hq2_1)).trans q2_1_1
    have hq2_2 := Nat.lt_of_lt_of_le hq2_1 HS2.out.size
    have hz2 : w.heap.size < p2.heap.size := Nat.lt_of_lt_of_le hz1 HS2.out.size
    have HV2 : Hid (Below V.heap.size V p2) := HV1.out.trans (HS2.out.mono HV1.out.size)
    clear hHeld
    refine hK.out _ _ ?_ (fun hHeld => ?_)
    · ((try dsimp only); go_keep)
    clear hK K
    try simp only [Act.put, List.setIfInBounds_toArray, List.set_cons_zero, List.set_cons_succ]
    refine wpAnyH_ready (rs := [7]) (by kernel_rfl) (by simp) ?_
    refine AllReadyH.cons (o := { dst := some 11, op := Op.call { callee := Callee.value (Operand.func 99), args := #[Operand.tmp 10], argTypes := #[134] }, type := 9, pos := "l7_mail.go:152", after := #[{ on := 6, ground := Ground.data }], guard := none }) rfl (fun K hK => ?_) AllReadyH.nil
    go_simp
    refine (c99_3 (p1.heap.size) x.fr x.ep x.ed _ (pow_below HPV.out HV2.out) q3_2_0 q3_2_1 q3_2_2 hq3_2 r1 r2 r3).mono ?_
    rintro e p3 ⟨rfl, hb3⟩
    have HS3 : Hid (Below p2.heap.size p2 p3) := hb3
    clear hb3
    have c3_2 := (HS3.out.cell (p := ⟨w.heap.size, 2, none⟩) (by exact hz2)).trans c2_2
    have c3_3 := (HS3.out.cell (p := ⟨w.heap.size, 3, none⟩) (by exact hz2)).trans c2_3
    have c3_4 := (HS3.out.cell (p := ⟨w.heap.size, 4, none⟩) (by exact hz2)).trans c2_4
    have c3_5 := (HS3.out.cell (p := ⟨w.heap.size, 5, none⟩) (by exact hz2)).trans c2_5
    have c3_9 := (HS3.out.cell (p := ⟨w.heap.size, 9, none⟩) (by exact hz2)).trans c2_9
    have c3_10 := (HS3.out.cell (p := ⟨w.heap.size, 10, none⟩) (by exact hz2)).trans c2_10
    have c3_11 := (HS3.out.cell (p := ⟨w.heap.size, 11, none⟩) (by exact hz2)).trans c2_11
    have c3_12 := (HS3.out.cell (p := ⟨w.heap.size, 12, none⟩) (by exact hz2)).trans c2_12
    have c3_13 := (HS3.out.cell (p := ⟨w.heap.size, 13, none⟩) (by exact hz2)).trans c2_13
    have c3_14 := (HS3.out.cell (p := ⟨w.heap.size, 14, none⟩) (by exact hz2)).trans c2_14
    have c3_15 := (HS3.out.cell (p := ⟨w.heap.size, 15, none⟩) (by exact hz2)).trans c2_15
    clear c2_2 c2_3 c2_4 c2_5 c2_9 c2_10 c2_11 c2_12 c2_13 c2_14 c2_15
    have q2_3_0 := (HS3.out.cell (p := ⟨V.heap.size, 0, none⟩) (by exact hq2_2)).trans q2_2_0
    have q2_3_1 := (HS3.out.cell (p := ⟨V.heap.size, 1, none⟩) (by exact hq2_2)).trans q2_2_1
    have hq2_3 := Nat.lt_of_lt_of_le hq2_2 HS3.out.size
    have hz3 : w.heap.size < p3.heap.size := Nat.lt_of_lt_of_le hz2 HS3.out.size
    have HV3 : Hid (Below V.heap.size V p3) := HV2.out.trans (HS3.out.mono HV2.out.size)
    go_wp2_with fail
    clear hHeld
    refine hK.out _ _ ?_ (fun hHeld => ?_)
    · ((try dsimp only); go_keep)
    clear hK K
    try simp only [Act.put, List.setIfInBounds_toArray, List.set_cons_zero, List.set_cons_succ]
    refine wpAnyH_take (i := 8) (oi := { dst := some 12, op := Op.binOp BinOp.add 9 (Operand.tmp 11) (Operand.const (Value.string { data := #[32] })) 9, type := 9, pos := "l7_mail.go:152", after := #[{ on := 7, ground := Ground.data }], guard := none }) (v := ?_) rfl (by kernel_rfl) (by kernel_rfl) (by kernel_rfl) (fun _ _ _ h => h) (Or.inl ⟨by rfl, ?_⟩) (by assumption) ?_
    rotate_left
    · intro wq hSw
      (try dsimp only at hSw)
      go_simp
      try with_reducible rfl
    try simp only [Act.put, List.setIfInBounds_toArray, List.set_cons_zero, List.set_cons_succ]
    refine wpAnyH_take (i := 12) (oi := { dst := some 16, op := Op.binOp BinOp.add 9 (Operand.tmp 12) (Operand.tmp 15) 9, type := 9, pos := "l7_mail.go:152", after := #[{ on := 8, ground := Ground.data }, { on := 11, ground := Ground.data }], guard := none }) (v := ?_) rfl (by kernel_rfl) (by kernel_rfl) (by kernel_rfl) (fun _ _ _ h => h) (Or.inl ⟨by rfl, ?_⟩) (by assumption) ?_
    rotate_left
    · intro wq hSw
      (try dsimp only at hSw)
      go_simp
      try with_reducible rfl
    try simp only [Act.put, List.setIfInBounds_toArray, List.set_cons_zero, List.set_cons_succ]
    refine wpAnyH_take (i := 13) (oi := { dst := some 17, op := Op.binOp BinOp.add 9 (Operand.tmp 16) (Operand.const (Value.string { data := #[32] })) 9, type := 9, pos := "l7_mail.go:152", after := #[{ on := 12, ground := Ground.data }], guard := none }) (v := ?_) rfl (by kernel_rfl) (by kernel_rfl) (by kernel_rfl) (fun _ _ _ h => h) (Or.inl ⟨by rfl, ?_⟩) (by assumption) ?_
    rotate_left
    · intro wq hSw
      (try dsimp only at hSw)
      go_simp
      try with_reducible rfl
    try simp only [Act.put, List.setIfInBounds_toArray, List.set_cons_zero, List.set_cons_succ]
    refine wpAnyH_ready (rs := [20]) (by kernel_rfl) (by simp) ?_
    refine AllReadyH.cons (o := { dst := some 24, op := Op.call { callee := Callee.value (Operand.func 99), args := #[Operand.tmp 23], argTypes := #[134] }, type := 9, pos := "l7_mail.go:152", after := #[{ on := 19, ground := Ground.data }, { on := 7, ground := Ground.chain }], guard := none }) rfl (fun K hK => ?_) AllReadyH.nil
    go_simp
    refine (c99_2 (V.heap.size) x.ct x.tn.st _ (pow_below HPV.out HV3.out) q2_3_0 q2_3_1 hq2_3 r4 r5).mono ?_
    rintro e p4 ⟨rfl, hb4⟩
    have HS4 : Hid (Below p3.heap.size p3 p4) := hb4
    clear hb4
    have c4_2 := (HS4.out.cell (p := ⟨w.heap.size, 2, none⟩) (by exact hz3)).trans c3_2
    have c4_3 := (HS4.out.cell (p := ⟨w.heap.size, 3, none⟩) (by exact hz3)).trans c3_3
    have c4_4 := (HS4.out.cell (p := ⟨w.heap.size, 4, none⟩) (by exact hz3)).trans c3_4
    have c4_5 := (HS4.out.cell (p := ⟨w.heap.size, 5, none⟩) (by exact hz3)).trans c3_5
    have c4_9 := (HS4.out.cell (p := ⟨w.heap.size, 9, none⟩) (by exact hz3)).trans c3_9
    have c4_10 := (HS4.out.cell (p := ⟨w.heap.size, 10, none⟩) (by exact hz3)).trans c3_10
    have c4_11 := (HS4.out.cell (p := ⟨w.heap.size, 11, none⟩) (by exact hz3)).trans c3_11
    have c4_12 := (HS4.out.cell (p := ⟨w.heap.size, 12, none⟩) (by exact hz3)).trans c3_12
    have c4_13 := (HS4.out.cell (p := ⟨w.heap.size, 13, none⟩) (by exact hz3)).trans c3_13
    have c4_14 := (HS4.out.cell (p := ⟨w.heap.size, 14, none⟩) (by exact hz3)).trans c3_14
    have c4_15 := (HS4.out.cell (p := ⟨w.heap.size, 15, none⟩) (by exact hz3)).trans c3_15
    clear c3_2 c3_3 c3_4 c3_5 c3_9 c3_10 c3_11 c3_12 c3_13 c3_14 c3_15
    have hz4 : w.heap.size < p4.heap.size := Nat.lt_of_lt_of_le hz3 HS4.out.size
    have HV4 : Hid (Below V.heap.size V p4) := HV3.out.trans (HS4.out.mono HV3.out.size)
    go_wp2_with fail
    clear hHeld
    refine hK.out _ _ ?_ (fun hHeld => ?_)
    · ((try dsimp only); go_keep)
    clear hK K
    try simp only [Act.put, List.setIfInBounds_toArray, List.set_cons_zero, List.set_cons_succ]
    refine wpAnyH_take (i := 21) (oi := { dst := some 25, op := Op.binOp BinOp.add 9 (Operand.tmp 17) (Operand.tmp 24) 9, type := 9, pos := "l7_mail.go:152", after := #[{ on := 13, ground := Ground.data }, { on := 20, ground := Ground.data }], guard := none }) (v := ?_) rfl (by kernel_rfl) (by kernel_rfl) (by kernel_rfl) (fun _ _ _ h => h) (Or.inl ⟨by rfl, ?_⟩) (by assumption) ?_
    rotate_left
    · intro wq hSw
      (try dsimp only at hSw)
      go_simp
      try with_reducible rfl
    try simp only [Act.put, List.setIfInBounds_toArray, List.set_cons_zero, List.set_cons_succ]
    refine wpAnyH_take (i := 22) (oi := { dst := some 26, op := Op.binOp BinOp.add 9 (Operand.tmp 25) (Operand.const (Value.string { data := #[10] })) 9, type := 9, pos := "l7_mail.go:152", after := #[{ on := 21, ground := Ground.data }], guard := none }) (v := ?_) rfl (by kernel_rfl) (by kernel_rfl) (by kernel_rfl) (fun _ _ _ h => h) (Or.inl ⟨by rfl, ?_⟩) (by assumption) ?_
    rotate_left
    · intro wq hSw
      (try dsimp only at hSw)
      go_simp
      try with_reducible rfl
    try simp only [Act.put, List.setIfInBounds_toArray, List.set_cons_zero, List.set_cons_succ]
    refine wpAnyH_take (i := 23) (oi := { dst := some 3, op := Op.assign (Operand.tmp 26), type := 9, pos := "l7_mail.go:152", after := #[{ on := 22, ground := Ground.data }, { on := 20, ground := Ground.chain }, { on := 0, ground := Ground.phase }, { on := 1, ground := Ground.phase }, { on := 2, ground := Ground.phase }, { on := 3, ground := Ground.phase }, { on := 4, ground := Ground.phase }, { on := 5, ground := Ground.phase }, { on := 6, ground := Ground.phase }, { on := 7, ground := Ground.phase }, { on := 8, ground := Ground.phase }, { on := 9, ground := Ground.phase }, { on := 10, ground := Ground.phase }, { on := 11, ground := Ground.phase }, { on := 12, ground := Ground.phase }, { on := 13, ground := Ground.phase }, { on := 14, ground := Ground.phase }, { on := 15, ground := Ground.phase }, { on := 16, ground := Ground.phase }, { on := 17, ground := Ground.phase }, { on := 18, ground := Ground.phase }, { on := 19, ground := Ground.phase }, { on := 20, ground := Ground.phase }, { on := 21, ground := Ground.phase }, { on := 22, ground := Ground.phase }], guard := none }) (v := ?_) rfl (by kernel_rfl) (by kernel_rfl) (by kernel_rfl) (fun _ _ _ h => h) (Or.inl ⟨by rfl, ?_⟩) (by assumption) ?_
    rotate_left
    · intro wq hSw
      (try dsimp only at hSw)
      go_simp
      try with_reducible rfl
    try simp only [Act.put, List.setIfInBounds_toArray, List.set_cons_zero, List.set_cons_succ]
    refine wpAnyH_done (by kernel_rfl) ?_ _
    clear hHeld
    generalize ofL (num3 x.fr x.ep x.ed) ++ ⟨#[32]⟩ ++ x.km.nm ++ ⟨#[32]⟩ ++ ofL (num2 x.ct x.tn.st) ++ ⟨#[10]⟩ = fs at *
    by_cases hov : x.tn.over = true
    · have c10 : p4.cell? ⟨w.heap.size, 10, none⟩ = some (.bool true) := by rw [c4_10, hov]
      have HE : Hid (turnW x = firstL x ++ [111, 118, 101, 114, 32] ++ resL x.tn.cd x.tn.tx ++ [10]) := by unfold turnW; rw [if_pos hov]; rfl
      clear c4_10 hov
      go_wp2_with fail
      refine (c108 x.tn.cd x.tn.tx _ (pow_below HPV.out HV4.out) r6.1 r6.2 (by omega)).mono ?_
      rintro e p5 ⟨rfl, hb5⟩
      have HS5 : Hid (Below p4.heap.size p4 p5) := hb5
      have d11 := (HS5.out.cell (p := ⟨w.heap.size, 11, none⟩) (by exact hz4)).trans c4_11
      have d12 := (HS5.out.cell (p := ⟨w.heap.size, 12, none⟩) (by exact hz4)).trans c4_12
      have d13 := (HS5.out.cell (p := ⟨w.heap.size, 13, none⟩) (by exact hz4)).trans c4_13
      have d14 := (HS5.out.cell (p := ⟨w.heap.size, 14, none⟩) (by exact hz4)).trans c4_14
      clear hb5
      go_wp2
      go_ret
      exact ⟨ret_str (by rw [HFS.out, HE.out]; exact over_eq _ _ _), (hBV.trans (HV4.out.mono hBV.size)).trans (HS5.out.mono (by omega))⟩
    · have c10 : p4.cell? ⟨w.heap.size, 10, none⟩ = some (.bool false) := by rw [c4_10]; simpa using hov
      have HE : Hid (turnW x = firstL x ++ (lookW x.tn.has).data.toList ++ [32] ++ x.tn.nm.data.toList ++ [10]) := by unfold turnW; rw [if_neg hov]; rfl
      clear c4_10 hov
      go_wp2_with fail
      refine wp_region_held_drew (S := (fun u => u.cell? ⟨w.heap.size, 11, none⟩ = some (.int .i64 x.tn.cd) ∧ u.cell? ⟨w.heap.size, 12, none⟩ = some (.string x.tn.tx) ∧ u.cell? ⟨w.heap.size, 13, none⟩ = some (.bool x.tn.has) ∧ u.cell? ⟨w.heap.size, 14, none⟩ = some (.string x.tn.nm))) (by kernel_rfl) ?_ (fun hHeld => ?_)
      · ((try dsimp only); go_keep)
      refine wpAnyH_take (i := 0) (oi := { dst := some 38, op := Op.move (Operand.tmp 3), type := 9, pos := "l7_mail.go:156", after := #[], guard := none }) (v := ?_) rfl (by kernel_rfl) (by kernel_rfl) (by kernel_rfl) (fun _ _ _ h => h) (Or.inl ⟨by rfl, ?_⟩) (by assumption) ?_
      rotate_left
      · intro wq hSw
        (try dsimp only at hSw)
        go_simp
        try with_reducible rfl
      try simp only [Act.put, List.setIfInBounds_toArray, List.set_cons_zero, List.set_cons_succ]
      refine wpAnyH_take (i := 1) (oi := { dst := some 39, op := Op.fieldAddr 41 (Operand.tmp 1) 8, type := 0, pos := "l7_mail.go:156", after := #[], guard := none }) (v := ?_) rfl (by kernel_rfl) (by kernel_rfl) (by kernel_rfl) (fun _ _ _ h => h) (Or.inl ⟨by rfl, ?_⟩) (by assumption) ?_
      rotate_left
      · intro wq hSw
        (try dsimp only at hSw)
        go_simp
        try with_reducible rfl
      try simp only [Act.put, List.setIfInBounds_toArray, List.set_cons_zero, List.set_cons_succ]
      refine wpAnyH_take (i := 2) (oi := { dst := some 40, op := Op.fieldAddr 39 (Operand.tmp 39) 2, type := 0, pos := "l7_mail.go:156", after := #[{ on := 1, ground := Ground.data }], guard := none }) (v := ?_) rfl (by kernel_rfl) (by kernel_rfl) (by kernel_rfl) (fun _ _ _ h => h) (Or.inl ⟨by rfl, ?_⟩) (by assumption) ?_
      rotate_left
      · intro wq hSw
        (try dsimp only at hSw)
        go_simp
        try with_reducible rfl
      try simp only [Act.put, List.setIfInBounds_toArray, List.set_cons_zero, List.set_cons_succ]
      refine wpAnyH_take (i := 3) (oi := { dst := some 41, op := Op.load 4 (Operand.tmp 40), type := 4, pos := "l7_mail.go:156", after := #[{ on := 2, ground := Ground.data }], guard := none }) (v := ?_) rfl (by kernel_rfl) (by kernel_rfl) (by kernel_rfl) (fun _ _ _ h => h) (Or.inl ⟨by rfl, ?_⟩) (by assumption) ?_
      rotate_left
      · intro wq hSw
        (try dsimp only at hSw)
        go_simp
        try with_reducible rfl
      try simp only [Act.put, List.setIfInBounds_toArray, List.set_cons_zero, List.set_cons_succ]
      refine wpAnyH_take (i := 7) (oi := { dst := some 45, op := Op.fieldAddr 41 (Operand.tmp 1) 8, type := 0, pos := "l7_mail.go:156", after := #[], guard := none }) (v := ?_) rfl (by kernel_rfl) (by kernel_rfl) (by kernel_rfl) (fun _ _ _ h => h) (Or.inl ⟨by rfl, ?_⟩) (by assumption) ?_
      rotate_left
      · intro wq hSw
        (try dsimp only at hSw)
        go_simp
        try with_reducible rfl
      try simp only [Act.put, List.setIfInBounds_toArray, List.set_cons_zero, List.set_cons_succ]
      refine wpAnyH_take (i := 8) (oi := { dst := some 46, op := Op.fieldAddr 39 (Operand.tmp 45) 3, type := 0, pos := "l7_mail.go:156", after := #[{ on := 7, ground := Ground.data }], guard := none }) (v := ?_) rfl (by kernel_rfl) (by kernel_rfl) (by kernel_rfl) (fun _ _ _ h => h) (Or.inl ⟨by rfl, ?_⟩) (by assumption) ?_
      rotate_left
      · intro wq hSw
        (try dsimp only at hSw)
        go_simp
        try with_reducible rfl
      try simp only [Act.put, List.setIfInBounds_toArray, List.set_cons_zero, List.set_cons_succ]
      refine wpAnyH_take (i := 9) (oi := { dst := some 47, op := Op.load 9 (Operand.tmp 46), type := 9, pos := "l7_mail.go:156", after := #[{ on := 8, ground := Ground.data }], guard := none }) (v := ?_) rfl (by kernel_rfl) (by kernel_rfl) (by kernel_rfl) (fun _ _ _ h => h) (Or.inl ⟨by rfl, ?_⟩) (by assumption) ?_
      rotate_left
      · intro wq hSw
        (try dsimp only at hSw)
        go_simp
        try with_reducible rfl
      try simp only [Act.put, List.setIfInBounds_toArray, List.set_cons_zero, List.set_cons_succ]
      refine wpAnyH_ready (rs := [4]) (by kernel_rfl) (by simp) ?_
      refine AllReadyH.cons (o := { dst := some 42, op := Op.call { callee := Callee.value (Operand.func 109), args := #[Operand.tmp 41], argTypes := #[4] }, type := 9, pos := "l7_mail.go:156", after := #[{ on := 3, ground := Ground.data }], guard := none }) rfl (fun K hK => ?_) AllReadyH.nil
      go_simp
      refine (c109 x.tn.has _).mono ?_
      rintro e p5 ⟨rfl, hw5⟩
      have HS5 : Hid (Below p4.heap.size p4 p5) := by rw [hw5]; exact (Below.refl _ _).drew
      have d11 := (HS5.out.cell (p := ⟨w.heap.size, 11, none⟩) (by exact hz4)).trans c4_11
      have d12 := (HS5.out.cell (p := ⟨w.heap.size, 12, none⟩) (by exact hz4)).trans c4_12
      have d13 := (HS5.out.cell (p := ⟨w.heap.size, 13, none⟩) (by exact hz4)).trans c4_13
      have d14 := (HS5.out.cell (p := ⟨w.heap.size, 14, none⟩) (by exact hz4)).trans c4_14
      clear hw5
      go_wp2_with fail
      clear hHeld
      refine hK.out _ _ ?_ (fun hHeld => ?_)
      · ((try dsimp only); go_keep)
      clear hK K
      try simp only [Act.put, List.setIfInBounds_toArray, List.set_cons_zero, List.set_cons_succ]
      refine wpAnyH_take (i := 5) (oi := { dst := some 43, op := Op.binOp BinOp.add 9 (Operand.tmp 38) (Operand.tmp 42) 9, type := 9, pos := "l7_mail.go:156", after := #[{ on := 0, ground := Ground.data }, { on := 4, ground := Ground.data }], guard := none }) (v := ?_) rfl (by kernel_rfl) (by kernel_rfl) (by kernel_rfl) (fun _ _ _ h => h) (Or.inl ⟨by rfl, ?_⟩) (by assumption) ?_
      rotate_left
      · intro wq hSw
        (try dsimp only at hSw)
        go_simp
        try with_reducible rfl
      try simp only [Act.put, List.setIfInBounds_toArray, List.set_cons_zero, List.set_cons_succ]
      refine wpAnyH_take (i := 6) (oi := { dst := some 44, op := Op.binOp BinOp.add 9 (Operand.tmp 43) (Operand.const (Value.string { data := #[32] })) 9, type := 9, pos := "l7_mail.go:156", after := #[{ on := 5, ground := Ground.data }], guard := none }) (v := ?_) rfl (by kernel_rfl) (by kernel_rfl) (by kernel_rfl) (fun _ _ _ h => h) (Or.inl ⟨by rfl, ?_⟩) (by assumption) ?_
      rotate_left
      · intro wq hSw
        (try dsimp only at hSw)
        go_simp
        try with_reducible rfl
      try simp only [Act.put, List.setIfInBounds_toArray, List.set_cons_zero, List.set_cons_succ]
      refine wpAnyH_take (i := 10) (oi := { dst := some 48, op := Op.binOp BinOp.add 9 (Operand.tmp 44) (Operand.tmp 47) 9, type := 9, pos := "l7_mail.go:156", after := #[{ on := 6, ground := Ground.data }, { on := 9, ground := Ground.data }], guard := none }) (v := ?_) rfl (by kernel_rfl) (by kernel_rfl) (by kernel_rfl) (fun _ _ _ h => h) (Or.inl ⟨by rfl, ?_⟩) (by assumption) ?_
      rotate_left
      · intro wq hSw
        (try dsimp only at hSw)
        go_simp
        try with_reducible rfl
      try simp only [Act.put, List.setIfInBounds_toArray, List.set_cons_zero, List.set_cons_succ]
      refine wpAnyH_take (i := 11) (oi := { dst := some 49, op := Op.binOp BinOp.add 9 (Operand.tmp 48) (Operand.const (Value.string { data := #[10] })) 9, type := 9, pos := "l7_mail.go:156", after := #[{ on := 10, ground := Ground.data }], guard := none }) (v := ?_) rfl (by kernel_rfl) (by kernel_rfl) (by kernel_rfl) (fun _ _ _ h => h) (Or.inl ⟨by rfl, ?_⟩) (by assumption) ?_
      rotate_left
      · intro wq hSw
        (try dsimp only at hSw)
        go_simp
        try with_reducible rfl
      try simp only [Act.put, List.setIfInBounds_toArray, List.set_cons_zero, List.set_cons_succ]
      refine wpAnyH_take (i := 12) (oi := { dst := some 2, op := Op.assign (Operand.tmp 49), type := 9, pos := "l7_mail.go:156", after := #[{ on := 11, ground := Ground.data }, { on := 4, ground := Ground.chain }, { on := 0, ground := Ground.phase }, { on := 1, ground := Ground.phase }, { on := 2, ground := Ground.phase }, { on := 3, ground := Ground.phase }, { on := 4, ground := Ground.phase }, { on := 5, ground := Ground.phase }, { on := 6, ground := Ground.phase }, { on := 7, ground := Ground.phase }, { on := 8, ground := Ground.phase }, { on := 9, ground := Ground.phase }, { on := 10, ground := Ground.phase }, { on := 11, ground := Ground.phase }], guard := none }) (v := ?_) rfl (by kernel_rfl) (by kernel_rfl) (by kernel_rfl) (fun _ _ _ h => h) (Or.inl ⟨by rfl, ?_⟩) (by assumption) ?_
      rotate_left
      · intro wq hSw
        (try dsimp only at hSw)
        go_simp
        try with_reducible rfl
      try simp only [Act.put, List.setIfInBounds_toArray, List.set_cons_zero, List.set_cons_succ]
      refine wpAnyH_done (by kernel_rfl) ?_ _
      clear hHeld
      go_wp2
      go_ret
      exact ⟨ret_str (by rw [HFS.out, HE.out]; exact look_eq _ _ _), (hBV.trans (HV4.out.mono hBV.size)).trans (HS5.out.mono (by omega))⟩
end Go.Proofs.YtdcgjdgpiogdaaaGreatDoor

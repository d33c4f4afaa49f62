import Derived.Test.YtdcgjdgpiogdaaaGreatDoorG17
namespace Go.Proofs.YtdcgjdgpiogdaaaGreatDoor
open Go.RowKit
theorem join3 (a b c : Int) : Lib.join ([a, b, c].map dec) [32] = dec a ++ [32] ++ dec b ++ [32] ++ dec c := by simp [Lib.join]
theorem join2 (a b : Int) : Lib.join ([a, b].map dec) [32] = dec a ++ [32] ++ dec b := by simp [Lib.join]
def num3 (a b c : Int) : List UInt8 := dec a ++ [32] ++ dec b ++ [32] ++ dec c
def num2 (a b : Int) : List UInt8 := dec a ++ [32] ++ dec b
theorem num3_size (a b c : Int) (ha : 0 ≤ a ∧ a ≤ 1000) (hb : 0 ≤ b ∧ b ≤ 1000) (hc : 0 ≤ c ∧ c ≤ 1000) : (ofL (num3 a b c)).size ≤ 14 := by
  have h1 := dec_small a ha.1 ha.2
  have h2 := dec_small b hb.1 hb.2
  have h3 := dec_small c hc.1 hc.2
  rw [ofL_size]; unfold num3; simp only [List.length_append, List.length_cons, List.length_nil]; omega
theorem num2_size (a b : Int) (ha : 0 ≤ a ∧ a ≤ 1000) (hb : 0 ≤ b ∧ b ≤ 1000) : (ofL (num2 a b)).size ≤ 9 := by
  have h1 := dec_small a ha.1 ha.2
  have h2 := dec_small b hb.1 hb.2
  rw [ofL_size]; unfold num2; simp only [List.length_append, List.length_cons, List.length_nil]; omega
theorem c99_3 (bk : Nat) (a b c : Int) (w : World) (hp : Pow w) (h0 : w.cell? ⟨bk, 0, none⟩ = some (.int .i64 a)) (h1 : w.cell? ⟨bk, 1, none⟩ = some (.int .i64 b)) (h2 : w.cell? ⟨bk, 2, none⟩ = some (.int .i64 c)) (hbk : bk < w.heap.size) (ha : 0 ≤ a ∧ a ≤ 1000) (hb : 0 ≤ b ∧ b ≤ 1000) (hc : 0 ≤ c ∧ c ≤ 1000) :
    Calls Tryz.prog 99 #[.slice (some ⟨bk, 0, none⟩) 3 3] w fun e w' => e = .returned (.string (ofL (num3 a b c))) ∧ Below w.heap.size w w' := by
  have h := c99 bk 0 3 [a, b, c] w hp ?cl hbk ?rg (by simp) (by simp)
  · rw [join3] at h; exact h
  case cl =>
    intro j n hj
    match j with
    | 0 => simp at hj; subst hj; exact h0
    | 1 => simp at hj; subst hj; exact h1
    | 2 => simp at hj; subst hj; exact h2
    | j + 3 => simp at hj
  case rg => intro n hn; simp at hn; rcases hn with rfl | rfl | rfl <;> assumption
theorem c99_2 (bk : Nat) (a b : Int) (w : World) (hp : Pow w) (h0 : w.cell? ⟨bk, 0, none⟩ = some (.int .i64 a)) (h1 : w.cell? ⟨bk, 1, none⟩ = some (.int .i64 b)) (hbk : bk < w.heap.size) (ha : 0 ≤ a ∧ a ≤ 1000) (hb : 0 ≤ b ∧ b ≤ 1000) :
    Calls Tryz.prog 99 #[.slice (some ⟨bk, 0, none⟩) 2 2] w fun e w' => e = .returned (.string (ofL (num2 a b))) ∧ Below w.heap.size w w' := by
  have h := c99 bk 0 2 [a, b] w hp ?cl hbk ?rg (by simp) (by simp)
  · rw [join2] at h; exact h
  case cl =>
    intro j n hj
    match j with
    | 0 => simp at hj; subst hj; exact h0
    | 1 => simp at hj; subst hj; exact h1
    | j + 2 => simp at hj
  case rg => intro n hn; simp at hn; rcases hn with rfl | rfl <;> assumption
/-- What an offer's lines are behind the word. -/
def offerW (x : G16) : List UInt8 := num3 x.to x.ep x.ed ++ [32] ++ bodyL x.km ++ [10] ++ looksL x.ls
theorem offerW_eq (x : G16) : ofL (num3 x.to x.ep x.ed) ++ ⟨#[32]⟩ ++ ofL (bodyL x.km) ++ ⟨#[10]⟩ ++ ofL (looksL x.ls) = ofL (offerW x) := by
  show ofL (num3 x.to x.ep x.ed) ++ ofL [32] ++ ofL (bodyL x.km) ++ ofL [10] ++ ofL (looksL x.ls) = _
  rw [cat_ofL, cat_ofL, cat_ofL, cat_ofL]; rfl
theorem offerW_offerL (x : G16) : [111, 102, 102, 101, 114, 32] ++ offerW x = offerL x := by
  unfold offerW offerL num3 bodyL whenL
  simp only [List.append_assoc]
set_option maxHeartbeats 8000000 in
set_option maxRecDepth 100000 in
theorem c77 (x : G16) (kd : Int) (ai : Option Addr) (ci : Nat) (w : World) (hp : Pow w) (r1 : 0 ≤ x.to ∧ x.to ≤ 1000) (r2 : 0 ≤ x.ep ∧ x.ep ≤ 1000) (r3 : 0 ≤ x.ed ∧ x.ed ≤ 1000) (hom : okM x.km = true) (hol : LksOk x.ls) (hs : ∀ i, (x.ls.getD i l4z).le 1048576) (hat : LksAt w ai x.ls) (zb : (ofL (bodyL x.km)).size ≤ 10000000) (zl : (ofL (looksL x.ls)).size ≤ 10000000) :
    Calls Tryz.prog 77 #[.agg #[.int .i64 kd, .int .i64 x.to, .int .i64 x.fr, .int .i64 x.ep, .int .i64 x.ed, .string x.km.nm, .string x.km.tl, .string x.km.ar, .slice ai x.ls.length ci, .int .i64 x.ct, .bool x.tn.over, .int .i64 x.tn.cd, .string x.tn.tx, .bool x.tn.has, .string x.tn.nm, .int .i64 x.tn.st]] w fun e w' => e = .returned (.string (ofL (offerW x))) ∧ Below w.heap.size w w' := by
  have z3 := num3_size x.to x.ep x.ed r1 r2 r3
  have HE : Hid (ofL (num3 x.to x.ep x.ed) ++ ⟨#[32]⟩ ++ ofL (bodyL x.km) ++ ⟨#[10]⟩ ++ ofL (looksL x.ls) = ofL (offerW x)) := offerW_eq x
  have HOM : Hid (okM x.km = true) := hom
  have HOL : Hid (LksOk x.ls) := hol
  have HS : Hid (∀ i, (x.ls.getD i l4z).le 1048576) := hs
  have HAT : Hid (LksAt w ai x.ls) := hat
  clear hom hol hs hat
  have k1 : ¬ 9223372036854775807 < (ofL (num3 x.to x.ep x.ed)).size + 1 := by omega
  have k1' : ¬ 9223372036854775807 ≤ (ofL (num3 x.to x.ep x.ed)).size := by omega
  have k2 : ¬ 9223372036854775807 < (ofL (num3 x.to x.ep x.ed)).size + 1 + (ofL (bodyL x.km)).size := by omega
  have k3 : ¬ 9223372036854775807 < (ofL (num3 x.to x.ep x.ed)).size + 1 + (ofL (bodyL x.km)).size + 1 := by omega
  have k3' : ¬ 9223372036854775807 ≤ (ofL (num3 x.to x.ep x.ed)).size + 1 + (ofL (bodyL x.km)).size := by omega
  have k4 : ¬ 9223372036854775807 < (ofL (num3 x.to x.ep x.ed)).size + 1 + (ofL (bodyL x.km)).size + 1 + (ofL (looksL x.ls)).size := by omega
  go_enter Tryz.func77, Tryz.ntmps77
  go_wp2_with fail
  have hBV : Below w.heap.size w (w.alloc (.cells #[.int .i64 kd, .int .i64 x.to, .int .i64 x.fr, .int .i64 x.ep, .int .i64 x.ed, .string x.km.nm, .string x.km.tl, .string x.km.ar, .slice ai x.ls.length ci, .int .i64 x.ct, .bool x.tn.over, .int .i64 x.tn.cd, .string x.tn.tx, .bool x.tn.has, .string x.tn.nm, .int .i64 x.tn.st] 41)) := (Below.refl _ _).alloc (Nat.le_refl _) _
  have HPV : Hid (Pow (w.alloc (.cells #[.int .i64 kd, .int .i64 x.to, .int .i64 x.fr, .int .i64 x.ep, .int .i64 x.ed, .string x.km.nm, .string x.km.tl, .string x.km.ar, .slice ai x.ls.length ci, .int .i64 x.ct, .bool x.tn.over, .int .i64 x.tn.cd, .string x.tn.tx, .bool x.tn.has, .string x.tn.nm, .int .i64 x.tn.st] 41))) := pow_below hp hBV
  clear hp
  have hzV : w.heap.size < (w.alloc (.cells #[.int .i64 kd, .int .i64 x.to, .int .i64 x.fr, .int .i64 x.ep, .int .i64 x.ed, .string x.km.nm, .string x.km.tl, .string x.km.ar, .slice ai x.ls.length ci, .int .i64 x.ct, .bool x.tn.over, .int .i64 x.tn.cd, .string x.tn.tx, .bool x.tn.has, .string x.tn.nm, .int .i64 x.tn.st] 41)).heap.size := by simp
  have a1 : (w.alloc (.cells #[.int .i64 kd, .int .i64 x.to, .int .i64 x.fr, .int .i64 x.ep, .int .i64 x.ed, .string x.km.nm, .string x.km.tl, .string x.km.ar, .slice ai x.ls.length ci, .int .i64 x.ct, .bool x.tn.over, .int .i64 x.tn.cd, .string x.tn.tx, .bool x.tn.has, .string x.tn.nm, .int .i64 x.tn.st] 41)).cell? ⟨w.heap.size, 1, none⟩ = some (.int .i64 x.to) := by simp [go_sem]
  have a3 : (w.alloc (.cells #[.int .i64 kd, .int .i64 x.to, .int .i64 x.fr, .int .i64 x.ep, .int .i64 x.ed, .string x.km.nm, .string x.km.tl, .string x.km.ar, .slice ai x.ls.length ci, .int .i64 x.ct, .bool x.tn.over, .int .i64 x.tn.cd, .string x.tn.tx, .bool x.tn.has, .string x.tn.nm, .int .i64 x.tn.st] 41)).cell? ⟨w.heap.size, 3, none⟩ = some (.int .i64 x.ep) := by simp [go_sem]
  have a4 : (w.alloc (.cells #[.int .i64 kd, .int .i64 x.to, .int .i64 x.fr, .int .i64 x.ep, .int .i64 x.ed, .string x.km.nm, .string x.km.tl, .string x.km.ar, .slice ai x.ls.length ci, .int .i64 x.ct, .bool x.tn.over, .int .i64 x.tn.cd, .string x.tn.tx, .bool x.tn.has, .string x.tn.nm, .int .i64 x.tn.st] 41)).cell? ⟨w.heap.size, 4, none⟩ = some (.int .i64 x.ed) := by simp [go_sem]
  have a5 : (w.alloc (.cells #[.int .i64 kd, .int .i64 x.to, .int .i64 x.fr, .int .i64 x.ep, .int .i64 x.ed, .string x.km.nm, .string x.km.tl, .string x.km.ar, .slice ai x.ls.length ci, .int .i64 x.ct, .bool x.tn.over, .int .i64 x.tn.cd, .string x.tn.tx, .bool x.tn.has, .string x.tn.nm, .int .i64 x.tn.st] 41)).cell? ⟨w.heap.size, 5, none⟩ = some (.string x.km.nm) := by simp [go_sem]
  have a6 : (w.alloc (.cells #[.int .i64 kd, .int .i64 x.to, .int .i64 x.fr, .int .i64 x.ep, .int .i64 x.ed, .string x.km.nm, .string x.km.tl, .string x.km.ar, .slice ai x.ls.length ci, .int .i64 x.ct, .bool x.tn.over, .int .i64 x.tn.cd, .string x.tn.tx, .bool x.tn.has, .string x.tn.nm, .int .i64 x.tn.st] 41)).cell? ⟨w.heap.size, 6, none⟩ = some (.string x.km.tl) := by simp [go_sem]
  have a7 : (w.alloc (.cells #[.int .i64 kd, .int .i64 x.to, .int .i64 x.fr, .int .i64 x.ep, .int .i64 x.ed, .string x.km.nm, .string x.km.tl, .string x.km.ar, .slice ai x.ls.length ci, .int .i64 x.ct, .bool x.tn.over, .int .i64 x.tn.cd, .string x.tn.tx, .bool x.tn.has, .string x.tn.nm, .int .i64 x.tn.st] 41)).cell? ⟨w.heap.size, 7, none⟩ = some (.string x.km.ar) := by simp [go_sem]
  have a8 : (w.alloc (.cells #[.int .i64 kd, .int .i64 x.to, .int .i64 x.fr, .int .i64 x.ep, .int .i64 x.ed, .string x.km.nm, .string x.km.tl, .string x.km.ar, .slice ai x.ls.length ci, .int .i64 x.ct, .bool x.tn.over, .int .i64 x.tn.cd, .string x.tn.tx, .bool x.tn.has, .string x.tn.nm, .int .i64 x.tn.st] 41)).cell? ⟨w.heap.size, 8, none⟩ = some (.slice ai x.ls.length ci) := by simp [go_sem]
  generalize (w.alloc (.cells #[.int .i64 kd, .int .i64 x.to, .int .i64 x.fr, .int .i64 x.ep, .int .i64 x.ed, .string x.km.nm, .string x.km.tl, .string x.km.ar, .slice ai x.ls.length ci, .int .i64 x.ct, .bool x.tn.over, .int .i64 x.tn.cd, .string x.tn.tx, .bool x.tn.has, .string x.tn.nm, .int .i64 x.tn.st] 41)) = V at *
  refine wp_region_held_drew (S := (fun u => u.cell? ⟨w.heap.size, 1, none⟩ = some (.int .i64 x.to) ∧ u.cell? ⟨w.heap.size, 3, none⟩ = some (.int .i64 x.ep) ∧ u.cell? ⟨w.heap.size, 4, none⟩ = some (.int .i64 x.ed) ∧ u.cell? ⟨w.heap.size, 5, none⟩ = some (.string x.km.nm) ∧ u.cell? ⟨w.heap.size, 6, none⟩ = some (.string x.km.tl) ∧ u.cell? ⟨w.heap.size, 7, none⟩ = some (.string x.km.ar) ∧ u.cell? ⟨w.heap.size, 8, none⟩ = some (.slice ai x.ls.length ci))) (by kernel_rfl) ?_ (fun hHeld => ?_)
  · ((try dsimp only); go_keep)
  refine wpAnyH_take (i := 0) (oi := { dst := some 3, op := Op.fieldAddr 41 (Operand.tmp 1) 1, type := 0, pos := "l7_mail.go:148", after := #[], guard := none }) (v := ?_) rfl (by kernel_rfl) (by kernel_rfl) (by kernel_rfl) (fun _ _ _ h => h) (Or.inl ⟨by rfl, ?_⟩) (by assumption) ?_
  rotate_left
  · intro wq hSw
    (try dsimp only at hSw)
    go_simp
    try with_reducible rfl
  try simp only [Act.put, List.setIfInBounds_toArray, List.set_cons_zero, List.set_cons_succ]
  refine wpAnyH_take (i := 1) (oi := { dst := some 4, op := Op.load 3 (Operand.tmp 3), type := 3, pos := "l7_mail.go:148", after := #[{ on := 0, ground := Ground.data }], guard := none }) (v := ?_) rfl (by kernel_rfl) (by kernel_rfl) (by kernel_rfl) (fun _ _ _ h => h) (Or.inl ⟨by rfl, ?_⟩) (by assumption) ?_
  rotate_left
  · intro wq hSw
    (try dsimp only at hSw)
    go_simp
    try with_reducible rfl
  try simp only [Act.put, List.setIfInBounds_toArray, List.set_cons_zero, List.set_cons_succ]
  refine wpAnyH_take (i := 2) (oi := { dst := some 5, op := Op.fieldAddr 41 (Operand.tmp 1) 3, type := 0, pos := "l7_mail.go:148", after := #[], guard := none }) (v := ?_) rfl (by kernel_rfl) (by kernel_rfl) (by kernel_rfl) (fun _ _ _ h => h) (Or.inl ⟨by rfl, ?_⟩) (by assumption) ?_
  rotate_left
  · intro wq hSw
    (try dsimp only at hSw)
    go_simp
    try with_reducible rfl
  try simp only [Act.put, List.setIfInBounds_toArray, List.set_cons_zero, List.set_cons_succ]
  refine wpAnyH_take (i := 3) (oi := { dst := some 6, op := Op.load 3 (Operand.tmp 5), type := 3, pos := "l7_mail.go:148", after := #[{ on := 2, ground := Ground.data }], guard := none }) (v := ?_) rfl (by kernel_rfl) (by kernel_rfl) (by kernel_rfl) (fun _ _ _ h => h) (Or.inl ⟨by rfl, ?_⟩) (by assumption) ?_
  rotate_left
  · intro wq hSw
    (try dsimp only at hSw)
    go_simp
    try with_reducible rfl
  try simp only [Act.put, List.setIfInBounds_toArray, List.set_cons_zero, List.set_cons_succ]
  refine wpAnyH_take (i := 4) (oi := { dst := some 7, op := Op.fieldAddr 41 (Operand.tmp 1) 4, type := 0, pos := "l7_mail.go:148", after := #[], guard := none }) (v := ?_) rfl (by kernel_rfl) (by kernel_rfl) (by kernel_rfl) (fun _ _ _ h => h) (Or.inl ⟨by rfl, ?_⟩) (by assumption) ?_
  rotate_left
  · intro wq hSw
    (try dsimp only at hSw)
    go_simp
    try with_reducible rfl
  try simp only [Act.put, List.setIfInBounds_toArray, List.set_cons_zero, List.set_cons_succ]
  refine wpAnyH_take (i := 5) (oi := { dst := some 8, op := Op.load 3 (Operand.tmp 7), type := 3, pos := "l7_mail.go:148", after := #[{ on := 4, ground := Ground.data }], guard := none }) (v := ?_) rfl (by kernel_rfl) (by kernel_rfl) (by kernel_rfl) (fun _ _ _ h => h) (Or.inl ⟨by rfl, ?_⟩) (by assumption) ?_
  rotate_left
  · intro wq hSw
    (try dsimp only at hSw)
    go_simp
    try with_reducible rfl
  try simp only [Act.put, List.setIfInBounds_toArray, List.set_cons_zero, List.set_cons_succ]
  refine wpAnyH_take (i := 9) (oi := { dst := some 12, op := Op.fieldAddr 41 (Operand.tmp 1) 5, type := 0, pos := "l7_mail.go:148", after := #[], guard := none }) (v := ?_) rfl (by kernel_rfl) (by kernel_rfl) (by kernel_rfl) (fun _ _ _ h => h) (Or.inl ⟨by rfl, ?_⟩) (by assumption) ?_
  rotate_left
  · intro wq hSw
    (try dsimp only at hSw)
    go_simp
    try with_reducible rfl
  try simp only [Act.put, List.setIfInBounds_toArray, List.set_cons_zero, List.set_cons_succ]
  refine wpAnyH_take (i := 10) (oi := { dst := some 13, op := Op.load 35 (Operand.tmp 12), type := 35, pos := "l7_mail.go:148", after := #[{ on := 9, ground := Ground.data }], guard := none }) (v := ?_) rfl (by kernel_rfl) (by kernel_rfl) (by kernel_rfl) (fun _ _ _ h => h) (Or.inl ⟨by rfl, ?_⟩) (by assumption) ?_
  rotate_left
  · intro wq hSw
    (try dsimp only at hSw)
    go_simp
    try with_reducible rfl
  try simp only [Act.put, List.setIfInBounds_toArray, List.set_cons_zero, List.set_cons_succ]
  refine wpAnyH_take (i := 14) (oi := { dst := some 17, op := Op.fieldAddr 41 (Operand.tmp 1) 6, type := 0, pos := "l7_mail.go:148", after := #[], guard := none }) (v := ?_) rfl (by kernel_rfl) (by kernel_rfl) (by kernel_rfl) (fun _ _ _ h => h) (Or.inl ⟨by rfl, ?_⟩) (by assumption) ?_
  rotate_left
  · intro wq hSw
    (try dsimp only at hSw)
    go_simp
    try with_reducible rfl
  try simp only [Act.put, List.setIfInBounds_toArray, List.set_cons_zero, List.set_cons_succ]
  refine wpAnyH_take (i := 15) (oi := { dst := some 18, op := Op.load 36 (Operand.tmp 17), type := 36, pos := "l7_mail.go:148", after := #[{ on := 14, ground := Ground.data }], guard := none }) (v := ?_) rfl (by kernel_rfl) (by kernel_rfl) (by kernel_rfl) (fun _ _ _ h => h) (Or.inl ⟨by rfl, ?_⟩) (by assumption) ?_
  rotate_left
  · intro wq hSw
    (try dsimp only at hSw)
    go_simp
    try with_reducible rfl
  try simp only [Act.put, List.setIfInBounds_toArray, List.set_cons_zero, List.set_cons_succ]
  refine wpAnyH_ready (rs := [6]) (by kernel_rfl) (by simp) ?_
  refine AllReadyH.cons (o := { dst := some 9, op := Op.buildSlice 134 3 #[(0, Operand.tmp 4), (1, Operand.tmp 6), (2, Operand.tmp 8)], type := 134, pos := "l7_mail.go:148", after := #[{ on := 1, ground := Ground.data }, { on := 3, ground := Ground.data }, { on := 5, ground := Ground.data }], guard := none }) rfl (fun K hK => ?_) AllReadyH.nil
  go_simp
  have HB1 : Hid (Below V.heap.size V (V.alloc (.cells #[.int .i64 x.to, .int .i64 x.ep, .int .i64 x.ed] 3)).drew) := ((Below.refl _ _).alloc (Nat.le_refl _) _).drew
  have q0 : (V.alloc (.cells #[.int .i64 x.to, .int .i64 x.ep, .int .i64 x.ed] 3)).drew.cell? ⟨V.heap.size, 0, none⟩ = some (.int .i64 x.to) := by simp [go_sem]
  have q1 : (V.alloc (.cells #[.int .i64 x.to, .int .i64 x.ep, .int .i64 x.ed] 3)).drew.cell? ⟨V.heap.size, 1, none⟩ = some (.int .i64 x.ep) := by simp [go_sem]
  have q2 : (V.alloc (.cells #[.int .i64 x.to, .int .i64 x.ep, .int .i64 x.ed] 3)).drew.cell? ⟨V.heap.size, 2, none⟩ = some (.int .i64 x.ed) := by simp [go_sem]
  have hzq : V.heap.size < (V.alloc (.cells #[.int .i64 x.to, .int .i64 x.ep, .int .i64 x.ed] 3)).drew.heap.size := by simp
  generalize (V.alloc (.cells #[.int .i64 x.to, .int .i64 x.ep, .int .i64 x.ed] 3)).drew = w1 at *
  have b1 := (HB1.out.cell (p := ⟨w.heap.size, 1, none⟩) (by exact hzV)).trans a1
  have b3 := (HB1.out.cell (p := ⟨w.heap.size, 3, none⟩) (by exact hzV)).trans a3
  have b4 := (HB1.out.cell (p := ⟨w.heap.size, 4, none⟩) (by exact hzV)).trans a4
  have b5 := (HB1.out.cell (p := ⟨w.heap.size, 5, none⟩) (by exact hzV)).trans a5
  have b6 := (HB1.out.cell (p := ⟨w.heap.size, 6, none⟩) (by exact hzV)).trans a6
  have b7 := (HB1.out.cell (p := ⟨w.heap.size, 7, none⟩) (by exact hzV)).trans a7
  have b8 := (HB1.out.cell (p := ⟨w.heap.size, 8, none⟩) (by exact hzV)).trans a8
  have hz1 : w.heap.size < w1.heap.size := Nat.lt_of_lt_of_le hzV HB1.out.size
  clear hHeld
  refine hK.out _ _ ?_ (fun hHeld => ?_)
  · ((try dsimp only); go_keep)
  clear hK K
  try simp only [Act.put, List.setIfInBounds_toArray, List.set_cons_zero, List.set_cons_succ]
  refine wpAnyH_ready (rs := [7]) (by kernel_rfl) (by simp) ?_
  refine AllReadyH.cons (o := { dst := some 10, op := Op.call { callee := Callee.value (Operand.func 99), args := #[Operand.tmp 9], argTypes := #[134] }, type := 9, pos := "l7_mail.go:148", after := #[{ on := 6, ground := Ground.data }], guard := none }) rfl (fun K hK => ?_) AllReadyH.nil
  go_simp
  refine (c99_3 V.heap.size x.to x.ep x.ed _ (pow_below HPV.out HB1.out) q0 q1 q2 hzq r1 r2 r3).mono ?_
  rintro e w2 ⟨rfl, hb2⟩
  have HB2 : Hid (Below w1.heap.size w1 w2) := hb2
  have d1 := (HB2.out.cell (p := ⟨w.heap.size, 1, none⟩) (by exact hz1)).trans b1
  have d3 := (HB2.out.cell (p := ⟨w.heap.size, 3, none⟩) (by exact hz1)).trans b3
  have d4 := (HB2.out.cell (p := ⟨w.heap.size, 4, none⟩) (by exact hz1)).trans b4
  have d5 := (HB2.out.cell (p := ⟨w.heap.size, 5, none⟩) (by exact hz1)).trans b5
  have d6 := (HB2.out.cell (p := ⟨w.heap.size, 6, none⟩) (by exact hz1)).trans b6
  have d7 := (HB2.out.cell (p := ⟨w.heap.size, 7, none⟩) (by exact hz1)).trans b7
  have d8 := (HB2.out.cell (p := ⟨w.heap.size, 8, none⟩) (by exact hz1)).trans b8
  have hz2 : w.heap.size < w2.heap.size := Nat.lt_of_lt_of_le hz1 HB2.out.size
  have HV2 : Hid (Below V.heap.size V w2) := HB1.out.trans (HB2.out.mono HB1.out.size)
  clear hb2
  go_wp2_with fail
  clear hHeld
  refine hK.out _ _ ?_ (fun hHeld => ?_)
  · ((try dsimp only); go_keep)
  clear hK K
  try simp only [Act.put, List.setIfInBounds_toArray, List.set_cons_zero, List.set_cons_succ]
  refine wpAnyH_take (i := 8) (oi := { dst := some 11, op := Op.binOp BinOp.add 9 (Operand.tmp 10) (Operand.const (Value.string { data := #[32] })) 9, type := 9, pos := "l7_mail.go:148", after := #[{ on := 7, ground := Ground.data }], guard := none }) (v := ?_) rfl (by kernel_rfl) (by kernel_rfl) (by kernel_rfl) (fun _ _ _ h => h) (Or.inl ⟨by rfl, ?_⟩) (by assumption) ?_
  rotate_left
  · intro wq hSw
    (try dsimp only at hSw)
    go_simp
    try with_reducible rfl
  try simp only [Act.put, List.setIfInBounds_toArray, List.set_cons_zero, List.set_cons_succ]
  refine wpAnyH_ready (rs := [11]) (by kernel_rfl) (by simp) ?_
  refine AllReadyH.cons (o := { dst := some 14, op := Op.call { callee := Callee.value (Operand.func 100), args := #[Operand.tmp 13], argTypes := #[35] }, type := 9, pos := "l7_mail.go:148", after := #[{ on := 10, ground := Ground.data }, { on := 7, ground := Ground.chain }], guard := none }) rfl (fun K hK => ?_) AllReadyH.nil
  go_simp
  refine (c100 x.km _ HOM.out).mono ?_
  rintro e w3 ⟨rfl, hb3⟩
  have HB3 : Hid (Below w2.heap.size w2 w3) := hb3
  have f1 := (HB3.out.cell (p := ⟨w.heap.size, 1, none⟩) (by exact hz2)).trans d1
  have f3 := (HB3.out.cell (p := ⟨w.heap.size, 3, none⟩) (by exact hz2)).trans d3
  have f4 := (HB3.out.cell (p := ⟨w.heap.size, 4, none⟩) (by exact hz2)).trans d4
  have f5 := (HB3.out.cell (p := ⟨w.heap.size, 5, none⟩) (by exact hz2)).trans d5
  have f6 := (HB3.out.cell (p := ⟨w.heap.size, 6, none⟩) (by exact hz2)).trans d6
  have f7 := (HB3.out.cell (p := ⟨w.heap.size, 7, none⟩) (by exact hz2)).trans d7
  have f8 := (HB3.out.cell (p := ⟨w.heap.size, 8, none⟩) (by exact hz2)).trans d8
  have hz3 : w.heap.size < w3.heap.size := Nat.lt_of_lt_of_le hz2 HB3.out.size
  have HV3 : Hid (Below V.heap.size V w3) := HV2.out.trans (HB3.out.mono HV2.out.size)
  clear hb3
  go_wp2_with fail
  clear hHeld
  refine hK.out _ _ ?_ (fun hHeld => ?_)
  · ((try dsimp only); go_keep)
  clear hK K
  try simp only [Act.put, List.setIfInBounds_toArray, List.set_cons_zero, List.set_cons_succ]
  refine wpAnyH_take (i := 12) (oi := { dst := some 15, op := Op.binOp BinOp.add 9 (Operand.tmp 11) (Operand.tmp 14) 9, type := 9, pos := "l7_mail.go:148", after := #[{ on := 8, ground := Ground.data }, { on := 11, ground := Ground.data }], guard := none }) (v := ?_) rfl (by kernel_rfl) (by kernel_rfl) (by kernel_rfl) (fun _ _ _ h => h) (Or.inl ⟨by rfl, ?_⟩) (by assumption) ?_
  rotate_left
  · intro wq hSw
    (try dsimp only at hSw)
    go_simp
    try with_reducible rfl
  try simp only [Act.put, List.setIfInBounds_toArray, List.set_cons_zero, List.set_cons_succ]
  refine wpAnyH_take (i := 13) (oi := { dst := some 16, op := Op.binOp BinOp.add 9 (Operand.tmp 15) (Operand.const (Value.string { data := #[10] })) 9, type := 9, pos := "l7_mail.go:148", after := #[{ on := 12, ground := Ground.data }], guard := none }) (v := ?_) rfl (by kernel_rfl) (by kernel_rfl) (by kernel_rfl) (fun _ _ _ h => h) (Or.inl ⟨by rfl, ?_⟩) (by assumption) ?_
  rotate_left
  · intro wq hSw
    (try dsimp only at hSw)
    go_simp
    try with_reducible rfl
  try simp only [Act.put, List.setIfInBounds_toArray, List.set_cons_zero, List.set_cons_succ]
  refine wpAnyH_ready (rs := [16]) (by kernel_rfl) (by simp) ?_
  refine AllReadyH.cons (o := { dst := some 19, op := Op.call { callee := Callee.value (Operand.func 101), args := #[Operand.tmp 18], argTypes := #[36] }, type := 9, pos := "l7_mail.go:148", after := #[{ on := 15, ground := Ground.data }, { on := 11, ground := Ground.chain }], guard := none }) rfl (fun K hK => ?_) AllReadyH.nil
  go_simp
  refine (c101 ai ci x.ls _ (pow_below HPV.out HV3.out) HOL.out HS.out (lks_below HAT.out (hBV.trans (HV3.out.mono hBV.size)))).mono ?_
  rintro e w4 ⟨rfl, hb4⟩
  have HB4 : Hid (Below w3.heap.size w3 w4) := hb4
  have g1 := (HB4.out.cell (p := ⟨w.heap.size, 1, none⟩) (by exact hz3)).trans f1
  have g3 := (HB4.out.cell (p := ⟨w.heap.size, 3, none⟩) (by exact hz3)).trans f3
  have g4 := (HB4.out.cell (p := ⟨w.heap.size, 4, none⟩) (by exact hz3)).trans f4
  have g5 := (HB4.out.cell (p := ⟨w.heap.size, 5, none⟩) (by exact hz3)).trans f5
  have g6 := (HB4.out.cell (p := ⟨w.heap.size, 6, none⟩) (by exact hz3)).trans f6
  have g7 := (HB4.out.cell (p := ⟨w.heap.size, 7, none⟩) (by exact hz3)).trans f7
  have g8 := (HB4.out.cell (p := ⟨w.heap.size, 8, none⟩) (by exact hz3)).trans f8
  have HV4 : Hid (Below V.heap.size V w4) := HV3.out.trans (HB4.out.mono HV3.out.size)
  clear hb4
  go_wp2_with fail
  clear hHeld
  refine hK.out _ _ ?_ (fun hHeld => ?_)
  · ((try dsimp only); go_keep)
  clear hK K
  try simp only [Act.put, List.setIfInBounds_toArray, List.set_cons_zero, List.set_cons_succ]
  refine wpAnyH_take (i := 17) (oi := { dst := some 20, op := Op.binOp BinOp.add 9 (Operand.tmp 16) (Operand.tmp 19) 9, type := 9, pos := "l7_mail.go:148", after := #[{ on := 13, ground := Ground.data }, { on := 16, ground := Ground.data }], guard := none }) (v := ?_) rfl (by kernel_rfl) (by kernel_rfl) (by kernel_rfl) (fun _ _ _ h => h) (Or.inl ⟨by rfl, ?_⟩) (by assumption) ?_
  rotate_left
  · intro wq hSw
    (try dsimp only at hSw)
    go_simp
    try with_reducible rfl
  try simp only [Act.put, List.setIfInBounds_toArray, List.set_cons_zero, List.set_cons_succ]
  refine wpAnyH_take (i := 18) (oi := { dst := some 2, op := Op.assign (Operand.tmp 20), type := 9, pos := "l7_mail.go:148", after := #[{ on := 17, ground := Ground.data }, { on := 16, ground := Ground.chain }, { on := 0, ground := Ground.phase }, { on := 1, ground := Ground.phase }, { on := 2, ground := Ground.phase }, { on := 3, ground := Ground.phase }, { on := 4, ground := Ground.phase }, { on := 5, ground := Ground.phase }, { on := 6, ground := Ground.phase }, { on := 7, ground := Ground.phase }, { on := 8, ground := Ground.phase }, { on := 9, ground := Ground.phase }, { on := 10, ground := Ground.phase }, { on := 11, ground := Ground.phase }, { on := 12, ground := Ground.phase }, { on := 13, ground := Ground.phase }, { on := 14, ground := Ground.phase }, { on := 15, ground := Ground.phase }, { on := 16, ground := Ground.phase }, { on := 17, ground := Ground.phase }], guard := none }) (v := ?_) rfl (by kernel_rfl) (by kernel_rfl) (by kernel_rfl) (fun _ _ _ h => h) (Or.inl ⟨by rfl, ?_⟩) (by assumption) ?_
  rotate_left
  · intro wq hSw
    (try dsimp only at hSw)
    go_simp
    try with_reducible rfl
  try simp only [Act.put, List.setIfInBounds_toArray, List.set_cons_zero, List.set_cons_succ]
  refine wpAnyH_done (by kernel_rfl) ?_ _
  have hB4 : Below w.heap.size w w4 := hBV.trans (HV4.out.mono hBV.size)
  clear hHeld
  go_wp2
  go_ret
  exact ⟨by rw [← HE.out]; rfl, hB4⟩
end Go.Proofs.YtdcgjdgpiogdaaaGreatDoor

import Derived.Test.YtdcgjdgpiogdaaaGreatDoorZC
import Derived.Test.YtdcgjdgpiogdaaaGreatDoorY7
namespace Go.Proofs.YtdcgjdgpiogdaaaGreatDoor
open Go.RowKit
theorem but_fill {B : Nat} {w : World} (vs : List Value) : ∀ {u : World} (j : Nat), But B w u → But B w (fill u B j vs) := by
  induction vs with
  | nil => intro u j h; exact h
  | cons v vs ih => intro u j h; exact ih (j + 1) (h.setCell _ _)
set_option maxHeartbeats 4000000 in
set_option maxRecDepth 100000 in
theorem c57 (x : W19) (m : G16) (B b n b2 n2 : Nat) (w : World) (hs : m.le 1048576) (Z : BlkAt w B [.int .i64 x.no, .bool x.up, .bool x.has, .int .i64 x.of.kd, .int .i64 x.of.to, .int .i64 x.of.fr, .int .i64 x.of.ep, .int .i64 x.of.ed, .string x.of.km.nm, .string x.of.km.tl, .string x.of.km.ar, .slice (some ⟨b, 0, none⟩) x.of.ls.length n, .int .i64 x.of.ct, .bool x.of.tn.over, .int .i64 x.of.tn.cd, .string x.of.tn.tx, .bool x.of.tn.has, .string x.of.tn.nm, .int .i64 x.of.tn.st, .int .i64 m.kd, .int .i64 m.to, .int .i64 m.fr, .int .i64 m.ep, .int .i64 m.ed, .string m.km.nm, .string m.km.tl, .string m.km.ar, .slice (some ⟨b2, 0, none⟩) m.ls.length n2, .int .i64 m.ct, .bool m.tn.over, .int .i64 m.tn.cd, .string m.tn.tx, .bool m.tn.has, .string m.tn.nm, .int .i64 m.tn.st, .slice none 0 0]) (hB : B < w.heap.size) (hat : LksAt w (some ⟨b2, 0, none⟩) m.ls) :
    Calls Tryz.prog 57 #[.pointer (some ⟨B, 0, none⟩)] w fun e w' => ((x.up = true ∧ OfferTo x.no m ∧ e = .returned (.func (.func 92) #[.pointer (some ⟨B, 0, none⟩)] #[])) ∨ (¬ (x.up = true ∧ OfferTo x.no m) ∧ e = .returned .nilFunc)) ∧ Below w.heap.size w w' := by
  have HS : Hid (m.le 1048576) := hs
  have HAT : Hid (LksAt w (some ⟨b2, 0, none⟩) m.ls) := hat
  have a0 := Z 0 _ rfl
  have a1 := Z 1 _ rfl
  have a19 := Z 19 _ rfl
  have a20 := Z 20 _ rfl
  have a21 := Z 21 _ rfl
  have a22 := Z 22 _ rfl
  have a23 := Z 23 _ rfl
  have a24 := Z 24 _ rfl
  have a25 := Z 25 _ rfl
  have a26 := Z 26 _ rfl
  have a27 := Z 27 _ rfl
  have a28 := Z 28 _ rfl
  have a29 := Z 29 _ rfl
  have a30 := Z 30 _ rfl
  have a31 := Z 31 _ rfl
  have a32 := Z 32 _ rfl
  have a33 := Z 33 _ rfl
  have a34 := Z 34 _ rfl
  clear hs hat Z
  cases hup : x.up
  · rw [hup] at a1
    go_enter Tryz.func57, Tryz.ntmps57
    go_wp2_with fail
    refine wp_region_held_drew (S := (fun u => u.cell? ⟨B, 0, none⟩ = some (.int .i64 x.no) ∧ u.cell? ⟨B, 1, none⟩ = some (.bool false) ∧ u.cell? ⟨B, 19, none⟩ = some (.int .i64 m.kd) ∧ u.cell? ⟨B, 20, none⟩ = some (.int .i64 m.to) ∧ u.cell? ⟨B, 21, none⟩ = some (.int .i64 m.fr) ∧ u.cell? ⟨B, 22, none⟩ = some (.int .i64 m.ep) ∧ u.cell? ⟨B, 23, none⟩ = some (.int .i64 m.ed) ∧ u.cell? ⟨B, 24, none⟩ = some (.string m.km.nm) ∧ u.cell? ⟨B, 25, none⟩ = some (.string m.km.tl) ∧ u.cell? ⟨B, 26, none⟩ = some (.string m.km.ar) ∧ u.cell? ⟨B, 27, none⟩ = some (.slice (some ⟨b2, 0, none⟩) m.ls.length n2) ∧ u.cell? ⟨B, 28, none⟩ = some (.int .i64 m.ct) ∧ u.cell? ⟨B, 29, none⟩ = some (.bool m.tn.over) ∧ u.cell? ⟨B, 30, none⟩ = some (.int .i64 m.tn.cd) ∧ u.cell? ⟨B, 31, none⟩ = some (.string m.tn.tx) ∧ u.cell? ⟨B, 32, none⟩ = some (.bool m.tn.has) ∧ u.cell? ⟨B, 33, none⟩ = some (.string m.tn.nm) ∧ u.cell? ⟨B, 34, none⟩ = some (.int .i64 m.tn.st))) (by kernel_rfl) ?_ (fun hHeld => ?_)
    · ((try dsimp only); go_keep)
    refine wpAnyH_take (i := 0) (oi := { dst := some 3, op := Op.move (Operand.tmp 0), type := 125, pos := "l8_worker.go:73", after := #[], guard := none }) (v := ?_) rfl (by kernel_rfl) (by kernel_rfl) (by kernel_rfl) (fun _ _ _ h => h) (Or.inl ⟨by rfl, ?_⟩) (by assumption) ?_
    rotate_left
    · intro wq hSw
      (try dsimp only at hSw)
      go_simp
      try with_reducible rfl
    try simp only [Act.put, List.setIfInBounds_toArray, List.set_cons_zero, List.set_cons_succ]
    refine wpAnyH_take (i := 1) (oi := { dst := some 4, op := Op.nilCheck (Operand.tmp 3), type := 0, pos := "l8_worker.go:73", after := #[{ on := 0, ground := Ground.data }], guard := none }) (v := ?_) rfl (by kernel_rfl) (by kernel_rfl) (by kernel_rfl) (fun _ _ _ h => h) (Or.inl ⟨by rfl, ?_⟩) (by assumption) ?_
    rotate_left
    · intro wq hSw
      (try dsimp only at hSw)
      go_simp
      try with_reducible rfl
    try simp only [Act.put, List.setIfInBounds_toArray, List.set_cons_zero, List.set_cons_succ]
    refine wpAnyH_take (i := 2) (oi := { dst := some 5, op := Op.fieldAddr 97 (Operand.tmp 4) 0, type := 0, pos := "l8_worker.go:73", after := #[{ on := 1, ground := Ground.data }], guard := none }) (v := ?_) rfl (by kernel_rfl) (by kernel_rfl) (by kernel_rfl) (fun _ _ _ h => h) (Or.inl ⟨by rfl, ?_⟩) (by assumption) ?_
    rotate_left
    · intro wq hSw
      (try dsimp only at hSw)
      go_simp
      try with_reducible rfl
    try simp only [Act.put, List.setIfInBounds_toArray, List.set_cons_zero, List.set_cons_succ]
    refine wpAnyH_take (i := 3) (oi := { dst := some 6, op := Op.fieldAddr 43 (Operand.tmp 5) 1, type := 0, pos := "l8_worker.go:73", after := #[{ on := 2, ground := Ground.data }], guard := none }) (v := ?_) rfl (by kernel_rfl) (by kernel_rfl) (by kernel_rfl) (fun _ _ _ h => h) (Or.inl ⟨by rfl, ?_⟩) (by assumption) ?_
    rotate_left
    · intro wq hSw
      (try dsimp only at hSw)
      go_simp
      try with_reducible rfl
    try simp only [Act.put, List.setIfInBounds_toArray, List.set_cons_zero, List.set_cons_succ]
    refine wpAnyH_take (i := 4) (oi := { dst := some 7, op := Op.load 4 (Operand.tmp 6), type := 4, pos := "l8_worker.go:73", after := #[{ on := 3, ground := Ground.data }], guard := none }) (v := ?_) rfl (by kernel_rfl) (by kernel_rfl) (by kernel_rfl) (fun _ _ _ h => h) (Or.inl ⟨by rfl, ?_⟩) (by assumption) ?_
    rotate_left
    · intro wq hSw
      (try dsimp only at hSw)
      go_simp
      try with_reducible rfl
    try simp only [Act.put, List.setIfInBounds_toArray, List.set_cons_zero, List.set_cons_succ]
    refine wpAnyH_take (i := 5) (oi := { dst := some 8, op := Op.unOp UnOp.not 4 (Operand.tmp 7), type := 4, pos := "l8_worker.go:73", after := #[{ on := 4, ground := Ground.data }], guard := none }) (v := ?_) rfl (by kernel_rfl) (by kernel_rfl) (by kernel_rfl) (fun _ _ _ h => h) (Or.inl ⟨by rfl, ?_⟩) (by assumption) ?_
    rotate_left
    · intro wq hSw
      (try dsimp only at hSw)
      go_simp
      try with_reducible rfl
    try simp only [Act.put, List.setIfInBounds_toArray, List.set_cons_zero, List.set_cons_succ]
    refine wpAnyH_take (i := 6) (oi := { dst := some 9, op := Op.move (Operand.tmp 8), type := 4, pos := "l8_worker.go:73", after := #[{ on := 5, ground := Ground.data }], guard := none }) (v := ?_) rfl (by kernel_rfl) (by kernel_rfl) (by kernel_rfl) (fun _ _ _ h => h) (Or.inl ⟨by rfl, ?_⟩) (by assumption) ?_
    rotate_left
    · intro wq hSw
      (try dsimp only at hSw)
      go_simp
      try with_reducible rfl
    try simp only [Act.put, List.setIfInBounds_toArray, List.set_cons_zero, List.set_cons_succ]
    refine wpAnyH_take (i := 7) (oi := { dst := some 10, op := Op.move (Operand.tmp 0), type := 125, pos := "l8_worker.go:73", after := #[{ on := 6, ground := Ground.guard }], guard := some (6, false) }) (v := undef) rfl (by kernel_rfl) (by kernel_rfl) (by kernel_rfl) (fun _ _ _ h => h) (Or.inr ⟨by rfl, rfl⟩) (by assumption) ?_
    try simp only [Act.put, List.setIfInBounds_toArray, List.set_cons_zero, List.set_cons_succ]
    refine wpAnyH_take (i := 8) (oi := { dst := some 11, op := Op.nilCheck (Operand.tmp 10), type := 0, pos := "l8_worker.go:73", after := #[{ on := 7, ground := Ground.data }, { on := 6, ground := Ground.guard }], guard := some (6, false) }) (v := undef) rfl (by kernel_rfl) (by kernel_rfl) (by kernel_rfl) (fun _ _ _ h => h) (Or.inr ⟨by rfl, rfl⟩) (by assumption) ?_
    try simp only [Act.put, List.setIfInBounds_toArray, List.set_cons_zero, List.set_cons_succ]
    refine wpAnyH_take (i := 9) (oi := { dst := some 12, op := Op.fieldAddr 97 (Operand.tmp 11) 0, type := 0, pos := "l8_worker.go:73", after := #[{ on := 8, ground := Ground.data }, { on := 6, ground := Ground.guard }], guard := some (6, false) }) (v := undef) rfl (by kernel_rfl) (by kernel_rfl) (by kernel_rfl) (fun _ _ _ h => h) (Or.inr ⟨by rfl, rfl⟩) (by assumption) ?_
    try simp only [Act.put, List.setIfInBounds_toArray, List.set_cons_zero, List.set_cons_succ]
    refine wpAnyH_take (i := 10) (oi := { dst := some 13, op := Op.fieldAddr 43 (Operand.tmp 12) 0, type := 0, pos := "l8_worker.go:73", after := #[{ on := 9, ground := Ground.data }, { on := 6, ground := Ground.guard }], guard := some (6, false) }) (v := undef) rfl (by kernel_rfl) (by kernel_rfl) (by kernel_rfl) (fun _ _ _ h => h) (Or.inr ⟨by rfl, rfl⟩) (by assumption) ?_
    try simp only [Act.put, List.setIfInBounds_toArray, List.set_cons_zero, List.set_cons_succ]
    refine wpAnyH_take (i := 11) (oi := { dst := some 14, op := Op.load 3 (Operand.tmp 13), type := 3, pos := "l8_worker.go:73", after := #[{ on := 10, ground := Ground.data }, { on := 6, ground := Ground.guard }], guard := some (6, false) }) (v := undef) rfl (by kernel_rfl) (by kernel_rfl) (by kernel_rfl) (fun _ _ _ h => h) (Or.inr ⟨by rfl, rfl⟩) (by assumption) ?_
    try simp only [Act.put, List.setIfInBounds_toArray, List.set_cons_zero, List.set_cons_succ]
    refine wpAnyH_take (i := 12) (oi := { dst := some 15, op := Op.move (Operand.tmp 0), type := 125, pos := "l8_worker.go:73", after := #[{ on := 6, ground := Ground.guard }], guard := some (6, false) }) (v := undef) rfl (by kernel_rfl) (by kernel_rfl) (by kernel_rfl) (fun _ _ _ h => h) (Or.inr ⟨by rfl, rfl⟩) (by assumption) ?_
    try simp only [Act.put, List.setIfInBounds_toArray, List.set_cons_zero, List.set_cons_succ]
    refine wpAnyH_take (i := 13) (oi := { dst := some 16, op := Op.nilCheck (Operand.tmp 15), type := 0, pos := "l8_worker.go:73", after := #[{ on := 12, ground := Ground.data }, { on := 6, ground := Ground.guard }], guard := some (6, false) }) (v := undef) rfl (by kernel_rfl) (by kernel_rfl) (by kernel_rfl) (fun _ _ _ h => h) (Or.inr ⟨by rfl, rfl⟩) (by assumption) ?_
    try simp only [Act.put, List.setIfInBounds_toArray, List.set_cons_zero, List.set_cons_succ]
    refine wpAnyH_take (i := 14) (oi := { dst := some 17, op := Op.fieldAddr 97 (Operand.tmp 16) 1, type := 0, pos := "l8_worker.go:73", after := #[{ on := 13, ground := Ground.data }, { on := 6, ground := Ground.guard }], guard := some (6, false) }) (v := undef) rfl (by kernel_rfl) (by kernel_rfl) (by kernel_rfl) (fun _ _ _ h => h) (Or.inr ⟨by rfl, rfl⟩) (by assumption) ?_
    try simp only [Act.put, List.setIfInBounds_toArray, List.set_cons_zero, List.set_cons_succ]
    refine wpAnyH_take (i := 15) (oi := { dst := some 18, op := Op.load 41 (Operand.tmp 17), type := 41, pos := "l8_worker.go:73", after := #[{ on := 14, ground := Ground.data }, { on := 6, ground := Ground.guard }], guard := some (6, false) }) (v := undef) rfl (by kernel_rfl) (by kernel_rfl) (by kernel_rfl) (fun _ _ _ h => h) (Or.inr ⟨by rfl, rfl⟩) (by assumption) ?_
    try simp only [Act.put, List.setIfInBounds_toArray, List.set_cons_zero, List.set_cons_succ]
    refine wpAnyH_take (i := 16) (oi := { dst := some 19, op := Op.call { callee := Callee.value (Operand.func 29), args := #[Operand.tmp 14, Operand.tmp 18], argTypes := #[3, 41] }, type := 4, pos := "l8_worker.go:73", after := #[{ on := 11, ground := Ground.data }, { on := 15, ground := Ground.data }, { on := 6, ground := Ground.chain }, { on := 6, ground := Ground.guard }], guard := some (6, false) }) (v := undef) rfl (by kernel_rfl) (by kernel_rfl) (by kernel_rfl) (fun _ _ _ h => h) (Or.inr ⟨by rfl, rfl⟩) (by assumption) ?_
    try simp only [Act.put, List.setIfInBounds_toArray, List.set_cons_zero, List.set_cons_succ]
    refine wpAnyH_take (i := 17) (oi := { dst := some 20, op := Op.unOp UnOp.not 4 (Operand.tmp 19), type := 4, pos := "l8_worker.go:73", after := #[{ on := 16, ground := Ground.data }, { on := 6, ground := Ground.guard }], guard := some (6, false) }) (v := undef) rfl (by kernel_rfl) (by kernel_rfl) (by kernel_rfl) (fun _ _ _ h => h) (Or.inr ⟨by rfl, rfl⟩) (by assumption) ?_
    try simp only [Act.put, List.setIfInBounds_toArray, List.set_cons_zero, List.set_cons_succ]
    refine wpAnyH_take (i := 18) (oi := { dst := some 21, op := Op.pick (Operand.tmp 9) (Operand.const (Value.bool true)) (Operand.tmp 20), type := 4, pos := "l8_worker.go:73", after := #[{ on := 6, ground := Ground.data }, { on := 17, ground := Ground.data }], guard := none }) (v := ?_) rfl (by kernel_rfl) (by kernel_rfl) (by kernel_rfl) (fun _ _ _ h => h) (Or.inl ⟨by rfl, ?_⟩) (by assumption) ?_
    rotate_left
    · intro wq hSw
      (try dsimp only at hSw)
      go_simp
      try with_reducible rfl
    try simp only [Act.put, List.setIfInBounds_toArray, List.set_cons_zero, List.set_cons_succ]
    refine wpAnyH_done (by kernel_rfl) ?_ _
    clear hHeld
    go_wp2
    go_ret
    exact ⟨.inr ⟨fun h => Bool.false_ne_true h.1, rfl⟩, (Below.refl _ _).drew⟩
  · rw [hup] at a1
    go_enter Tryz.func57, Tryz.ntmps57
    go_wp2_with fail
    refine wp_region_held_drew (S := (fun u => u.cell? ⟨B, 0, none⟩ = some (.int .i64 x.no) ∧ u.cell? ⟨B, 1, none⟩ = some (.bool true) ∧ u.cell? ⟨B, 19, none⟩ = some (.int .i64 m.kd) ∧ u.cell? ⟨B, 20, none⟩ = some (.int .i64 m.to) ∧ u.cell? ⟨B, 21, none⟩ = some (.int .i64 m.fr) ∧ u.cell? ⟨B, 22, none⟩ = some (.int .i64 m.ep) ∧ u.cell? ⟨B, 23, none⟩ = some (.int .i64 m.ed) ∧ u.cell? ⟨B, 24, none⟩ = some (.string m.km.nm) ∧ u.cell? ⟨B, 25, none⟩ = some (.string m.km.tl) ∧ u.cell? ⟨B, 26, none⟩ = some (.string m.km.ar) ∧ u.cell? ⟨B, 27, none⟩ = some (.slice (some ⟨b2, 0, none⟩) m.ls.length n2) ∧ u.cell? ⟨B, 28, none⟩ = some (.int .i64 m.ct) ∧ u.cell? ⟨B, 29, none⟩ = some (.bool m.tn.over) ∧ u.cell? ⟨B, 30, none⟩ = some (.int .i64 m.tn.cd) ∧ u.cell? ⟨B, 31, none⟩ = some (.string m.tn.tx) ∧ u.cell? ⟨B, 32, none⟩ = some (.bool m.tn.has) ∧ u.cell? ⟨B, 33, none⟩ = some (.string m.tn.nm) ∧ u.cell? ⟨B, 34, none⟩ = some (.int .i64 m.tn.st))) (by kernel_rfl) ?_ (fun hHeld => ?_)
    · ((try dsimp only); go_keep)
    refine wpAnyH_take (i := 0) (oi := { dst := some 3, op := Op.move (Operand.tmp 0), type := 125, pos := "l8_worker.go:73", after := #[], guard := none }) (v := ?_) rfl (by kernel_rfl) (by kernel_rfl) (by kernel_rfl) (fun _ _ _ h => h) (Or.inl ⟨by rfl, ?_⟩) (by assumption) ?_
    rotate_left
    · intro wq hSw
      (try dsimp only at hSw)
      go_simp
      try with_reducible rfl
    try simp only [Act.put, List.setIfInBounds_toArray, List.set_cons_zero, List.set_cons_succ]
    refine wpAnyH_take (i := 1) (oi := { dst := some 4, op := Op.nilCheck (Operand.tmp 3), type := 0, pos := "l8_worker.go:73", after := #[{ on := 0, ground := Ground.data }], guard := none }) (v := ?_) rfl (by kernel_rfl) (by kernel_rfl) (by kernel_rfl) (fun _ _ _ h => h) (Or.inl ⟨by rfl, ?_⟩) (by assumption) ?_
    rotate_left
    · intro wq hSw
      (try dsimp only at hSw)
      go_simp
      try with_reducible rfl
    try simp only [Act.put, List.setIfInBounds_toArray, List.set_cons_zero, List.set_cons_succ]
    refine wpAnyH_take (i := 2) (oi := { dst := some 5, op := Op.fieldAddr 97 (Operand.tmp 4) 0, type := 0, pos := "l8_worker.go:73", after := #[{ on := 1, ground := Ground.data }], guard := none }) (v := ?_) rfl (by kernel_rfl) (by kernel_rfl) (by kernel_rfl) (fun _ _ _ h => h) (Or.inl ⟨by rfl, ?_⟩) (by assumption) ?_
    rotate_left
    · intro wq hSw
      (try dsimp only at hSw)
      go_simp
      try with_reducible rfl
    try simp only [Act.put, List.setIfInBounds_toArray, List.set_cons_zero, List.set_cons_succ]
    refine wpAnyH_take (i := 3) (oi := { dst := some 6, op := Op.fieldAddr 43 (Operand.tmp 5) 1, type := 0, pos := "l8_worker.go:73", after := #[{ on := 2, ground := Ground.data }], guard := none }) (v := ?_) rfl (by kernel_rfl) (by kernel_rfl) (by kernel_rfl) (fun _ _ _ h => h) (Or.inl ⟨by rfl, ?_⟩) (by assumption) ?_
    rotate_left
    · intro wq hSw
      (try dsimp only at hSw)
      go_simp
      try with_reducible rfl
    try simp only [Act.put, List.setIfInBounds_toArray, List.set_cons_zero, List.set_cons_succ]
    refine wpAnyH_take (i := 4) (oi := { dst := some 7, op := Op.load 4 (Operand.tmp 6), type := 4, pos := "l8_worker.go:73", after := #[{ on := 3, ground := Ground.data }], guard := none }) (v := ?_) rfl (by kernel_rfl) (by kernel_rfl) (by kernel_rfl) (fun _ _ _ h => h) (Or.inl ⟨by rfl, ?_⟩) (by assumption) ?_
    rotate_left
    · intro wq hSw
      (try dsimp only at hSw)
      go_simp
      try with_reducible rfl
    try simp only [Act.put, List.setIfInBounds_toArray, List.set_cons_zero, List.set_cons_succ]
    refine wpAnyH_take (i := 5) (oi := { dst := some 8, op := Op.unOp UnOp.not 4 (Operand.tmp 7), type := 4, pos := "l8_worker.go:73", after := #[{ on := 4, ground := Ground.data }], guard := none }) (v := ?_) rfl (by kernel_rfl) (by kernel_rfl) (by kernel_rfl) (fun _ _ _ h => h) (Or.inl ⟨by rfl, ?_⟩) (by assumption) ?_
    rotate_left
    · intro wq hSw
      (try dsimp only at hSw)
      go_simp
      try with_reducible rfl
    try simp only [Act.put, List.setIfInBounds_toArray, List.set_cons_zero, List.set_cons_succ]
    refine wpAnyH_take (i := 6) (oi := { dst := some 9, op := Op.move (Operand.tmp 8), type := 4, pos := "l8_worker.go:73", after := #[{ on := 5, ground := Ground.data }], guard := none }) (v := ?_) rfl (by kernel_rfl) (by kernel_rfl) (by kernel_rfl) (fun _ _ _ h => h) (Or.inl ⟨by rfl, ?_⟩) (by assumption) ?_
    rotate_left
    · intro wq hSw
      (try dsimp only at hSw)
      go_simp
      try with_reducible rfl
    try simp only [Act.put, List.setIfInBounds_toArray, List.set_cons_zero, List.set_cons_succ]
    refine wpAnyH_take (i := 7) (oi := { dst := some 10, op := Op.move (Operand.tmp 0), type := 125, pos := "l8_worker.go:73", after := #[{ on := 6, ground := Ground.guard }], guard := some (6, false) }) (v := ?_) rfl (by kernel_rfl) (by kernel_rfl) (by kernel_rfl) (fun _ _ _ h => h) (Or.inl ⟨by rfl, ?_⟩) (by assumption) ?_
    rotate_left
    · intro wq hSw
      (try dsimp only at hSw)
      go_simp
      try with_reducible rfl
    try simp only [Act.put, List.setIfInBounds_toArray, List.set_cons_zero, List.set_cons_succ]
    refine wpAnyH_take (i := 8) (oi := { dst := some 11, op := Op.nilCheck (Operand.tmp 10), type := 0, pos := "l8_worker.go:73", after := #[{ on := 7, ground := Ground.data }, { on := 6, ground := Ground.guard }], guard := some (6, false) }) (v := ?_) rfl (by kernel_rfl) (by kernel_rfl) (by kernel_rfl) (fun _ _ _ h => h) (Or.inl ⟨by rfl, ?_⟩) (by assumption) ?_
    rotate_left
    · intro wq hSw
      (try dsimp only at hSw)
      go_simp
      try with_reducible rfl
    try simp only [Act.put, List.setIfInBounds_toArray, List.set_cons_zero, List.set_cons_succ]
    refine wpAnyH_take (i := 9) (oi := { dst := some 12, op := Op.fieldAddr 97 (Operand.tmp 11) 0, type := 0, pos := "l8_worker.go:73", after := #[{ on := 8, ground := Ground.data }, { on := 6, ground := Ground.guard }], guard := some (6, false) }) (v := ?_) rfl (by kernel_rfl) (by kernel_rfl) (by kernel_rfl) (fun _ _ _ h => h) (Or.inl ⟨by rfl, ?_⟩) (by assumption) ?_
    rotate_left
    · intro wq hSw
      (try dsimp only at hSw)
      go_simp
      try with_reducible rfl
    try simp only [Act.put, List.setIfInBounds_toArray, List.set_cons_zero, List.set_cons_succ]
    refine wpAnyH_take (i := 10) (oi := { dst := some 13, op := Op.fieldAddr 43 (Operand.tmp 12) 0, type := 0, pos := "l8_worker.go:73", after := #[{ on := 9, ground := Ground.data }, { on := 6, ground := Ground.guard }], guard := some (6, false) }) (v := ?_) rfl (by kernel_rfl) (by kernel_rfl) (by kernel_rfl) (fun _ _ _ h => h) (Or.inl ⟨by rfl, ?_⟩) (by assumption) ?_
    rotate_left
    · intro wq hSw
      (try dsimp only at hSw)
      go_simp
      try with_reducible rfl
    try simp only [Act.put, List.setIfInBounds_toArray, List.set_cons_zero, List.set_cons_succ]
    refine wpAnyH_take (i := 11) (oi := { dst := some 14, op := Op.load 3 (Operand.tmp 13), type := 3, pos := "l8_worker.go:73", after := #[{ on := 10, ground := Ground.data }, { on := 6, ground := Ground.guard }], guard := some (6, false) }) (v := ?_) rfl (by kernel_rfl) (by kernel_rfl) (by kernel_rfl) (fun _ _ _ h => h) (Or.inl ⟨by rfl, ?_⟩) (by assumption) ?_
    rotate_left
    · intro wq hSw
      (try dsimp only at hSw)
      go_simp
      try with_reducible rfl
    try simp only [Act.put, List.setIfInBounds_toArray, List.set_cons_zero, List.set_cons_succ]
    refine wpAnyH_take (i := 12) (oi := { dst := some 15, op := Op.move (Operand.tmp 0), type := 125, pos := "l8_worker.go:73", after := #[{ on := 6, ground := Ground.guard }], guard := some (6, false) }) (v := ?_) rfl (by kernel_rfl) (by kernel_rfl) (by kernel_rfl) (fun _ _ _ h => h) (Or.inl ⟨by rfl, ?_⟩) (by assumption) ?_
    rotate_left
    · intro wq hSw
      (try dsimp only at hSw)
      go_simp
      try with_reducible rfl
    try simp only [Act.put, List.setIfInBounds_toArray, List.set_cons_zero, List.set_cons_succ]
    refine wpAnyH_take (i := 13) (oi := { dst := some 16, op := Op.nilCheck (Operand.tmp 15), type := 0, pos := "l8_worker.go:73", after := #[{ on := 12, ground := Ground.data }, { on := 6, ground := Ground.guard }], guard := some (6, false) }) (v := ?_) rfl (by kernel_rfl) (by kernel_rfl) (by kernel_rfl) (fun _ _ _ h => h) (Or.inl ⟨by rfl, ?_⟩) (by assumption) ?_
    rotate_left
    · intro wq hSw
      (try dsimp only at hSw)
      go_simp
      try with_reducible rfl
    try simp only [Act.put, List.setIfInBounds_toArray, List.set_cons_zero, List.set_cons_succ]
    refine wpAnyH_take (i := 14) (oi := { dst := some 17, op := Op.fieldAddr 97 (Operand.tmp 16) 1, type := 0, pos := "l8_worker.go:73", after := #[{ on := 13, ground := Ground.data }, { on := 6, ground := Ground.guard }], guard := some (6, false) }) (v := ?_) rfl (by kernel_rfl) (by kernel_rfl) (by kernel_rfl) (fun _ _ _ h => h) (Or.inl ⟨by rfl, ?_⟩) (by assumption) ?_
    rotate_left
    · intro wq hSw
      (try dsimp only at hSw)
      go_simp
      try with_reducible rfl
    try simp only [Act.put, List.setIfInBounds_toArray, List.set_cons_zero, List.set_cons_succ]
    refine wpAnyH_take (i := 15) (oi := { dst := some 18, op := Op.load 41 (Operand.tmp 17), type := 41, pos := "l8_worker.go:73", after := #[{ on := 14, ground := Ground.data }, { on := 6, ground := Ground.guard }], guard := some (6, false) }) (v := ?_) rfl (by kernel_rfl) (by kernel_rfl) (by kernel_rfl) (fun _ _ _ h => h) (Or.inl ⟨by rfl, ?_⟩) (by assumption) ?_
    rotate_left
    · intro wq hSw
      (try dsimp only at hSw)
      go_simp
      try with_reducible rfl
    try simp only [Act.put, List.setIfInBounds_toArray, List.set_cons_zero, List.set_cons_succ]
    refine wpAnyH_ready (rs := [16]) (by kernel_rfl) (by simp) ?_
    refine AllReadyH.cons (o := { dst := some 19, op := Op.call { callee := Callee.value (Operand.func 29), args := #[Operand.tmp 14, Operand.tmp 18], argTypes := #[3, 41] }, type := 4, pos := "l8_worker.go:73", after := #[{ on := 11, ground := Ground.data }, { on := 15, ground := Ground.data }, { on := 6, ground := Ground.chain }, { on := 6, ground := Ground.guard }], guard := some (6, false) }) rfl (fun K hK => ?_) AllReadyH.nil
    go_simp
    refine (c29 x.no m (some ⟨b2, 0, none⟩) n2 _ HS.out (lks_below HAT.out ((Below.refl _ _).drew))).mono ?_
    rintro e w1 ⟨⟨r, rfl, hr⟩, hb1⟩
    have HB1 : Hid (Below w.heap.size w w1) := ((Below.refl _ _).drew).trans hb1
    have HR : Hid (r = true ↔ OfferTo x.no m) := hr
    have d0 := (HB1.out.cell (p := ⟨B, 0, none⟩) (by exact hB)).trans a0
    have d1 := (HB1.out.cell (p := ⟨B, 1, none⟩) (by exact hB)).trans a1
    have d19 := (HB1.out.cell (p := ⟨B, 19, none⟩) (by exact hB)).trans a19
    have d20 := (HB1.out.cell (p := ⟨B, 20, none⟩) (by exact hB)).trans a20
    have d21 := (HB1.out.cell (p := ⟨B, 21, none⟩) (by exact hB)).trans a21
    have d22 := (HB1.out.cell (p := ⟨B, 22, none⟩) (by exact hB)).trans a22
    have d23 := (HB1.out.cell (p := ⟨B, 23, none⟩) (by exact hB)).trans a23
    have d24 := (HB1.out.cell (p := ⟨B, 24, none⟩) (by exact hB)).trans a24
    have d25 := (HB1.out.cell (p := ⟨B, 25, none⟩) (by exact hB)).trans a25
    have d26 := (HB1.out.cell (p := ⟨B, 26, none⟩) (by exact hB)).trans a26
    have d27 := (HB1.out.cell (p := ⟨B, 27, none⟩) (by exact hB)).trans a27
    have d28 := (HB1.out.cell (p := ⟨B, 28, none⟩) (by exact hB)).trans a28
    have d29 := (HB1.out.cell (p := ⟨B, 29, none⟩) (by exact hB)).trans a29
    have d30 := (HB1.out.cell (p := ⟨B, 30, none⟩) (by exact hB)).trans a30
    have d31 := (HB1.out.cell (p := ⟨B, 31, none⟩) (by exact hB)).trans a31
    have d32 := (HB1.out.cell (p := ⟨B, 32, none⟩) (by exact hB)).trans a32
    have d33 := (HB1.out.cell (p := ⟨B, 33, none⟩) (by exact hB)).trans a33
    have d34 := (HB1.out.cell (p := ⟨B, 34, none⟩) (by exact hB)).trans a34
    clear hr hb1
    go_wp2_with fail
    clear hHeld
    refine hK.out _ _ ?_ (fun hHeld => ?_)
    · ((try dsimp only); go_keep)
    clear hK K
    try simp only [Act.put, List.setIfInBounds_toArray, List.set_cons_zero, List.set_cons_succ]
    refine wpAnyH_take (i := 17) (oi := { dst := some 20, op := Op.unOp UnOp.not 4 (Operand.tmp 19), type := 4, pos := "l8_worker.go:73", after := #[{ on := 16, ground := Ground.data }, { on := 6, ground := Ground.guard }], guard := some (6, false) }) (v := ?_) rfl (by kernel_rfl) (by kernel_rfl) (by kernel_rfl) (fun _ _ _ h => h) (Or.inl ⟨by rfl, ?_⟩) (by assumption) ?_
    rotate_left
    · intro wq hSw
      (try dsimp only at hSw)
      go_simp
      try with_reducible rfl
    try simp only [Act.put, List.setIfInBounds_toArray, List.set_cons_zero, List.set_cons_succ]
    refine wpAnyH_take (i := 18) (oi := { dst := some 21, op := Op.pick (Operand.tmp 9) (Operand.const (Value.bool true)) (Operand.tmp 20), type := 4, pos := "l8_worker.go:73", after := #[{ on := 6, ground := Ground.data }, { on := 17, ground := Ground.data }], guard := none }) (v := ?_) rfl (by kernel_rfl) (by kernel_rfl) (by kernel_rfl) (fun _ _ _ h => h) (Or.inl ⟨by rfl, ?_⟩) (by assumption) ?_
    rotate_left
    · intro wq hSw
      (try dsimp only at hSw)
      go_simp
      try with_reducible rfl
    try simp only [Act.put, List.setIfInBounds_toArray, List.set_cons_zero, List.set_cons_succ]
    refine wpAnyH_done (by kernel_rfl) ?_ _
    clear hHeld
    cases r
    · go_wp2
      go_ret
      exact ⟨.inr ⟨fun h => Bool.false_ne_true (HR.out.2 h.2), rfl⟩, HB1.out⟩
    · go_wp2
      go_ret
      exact ⟨.inl ⟨HR.out.1 (by first | rfl | trivial), rfl⟩, HB1.out⟩
set_option maxHeartbeats 4000000 in
set_option maxRecDepth 100000 in
theorem c92 (x : W19) (m : G16) (B b n b2 n2 : Nat) (w : World) (Z : BlkAt w B [.int .i64 x.no, .bool x.up, .bool x.has, .int .i64 x.of.kd, .int .i64 x.of.to, .int .i64 x.of.fr, .int .i64 x.of.ep, .int .i64 x.of.ed, .string x.of.km.nm, .string x.of.km.tl, .string x.of.km.ar, .slice (some ⟨b, 0, none⟩) x.of.ls.length n, .int .i64 x.of.ct, .bool x.of.tn.over, .int .i64 x.of.tn.cd, .string x.of.tn.tx, .bool x.of.tn.has, .string x.of.tn.nm, .int .i64 x.of.tn.st, .int .i64 m.kd, .int .i64 m.to, .int .i64 m.fr, .int .i64 m.ep, .int .i64 m.ed, .string m.km.nm, .string m.km.tl, .string m.km.ar, .slice (some ⟨b2, 0, none⟩) m.ls.length n2, .int .i64 m.ct, .bool m.tn.over, .int .i64 m.tn.cd, .string m.tn.tx, .bool m.tn.has, .string m.tn.nm, .int .i64 m.tn.st, .slice none 0 0]) (f : OpnAt w B) :
    Calls Tryz.prog 92 #[.pointer (some ⟨B, 0, none⟩)] w fun e w' => e = .returned .nilFunc ∧ But B w w' ∧ BlkAt w' B [.int .i64 x.no, .bool x.up, .bool true, .int .i64 m.kd, .int .i64 m.to, .int .i64 m.fr, .int .i64 m.ep, .int .i64 m.ed, .string m.km.nm, .string m.km.tl, .string m.km.ar, .slice (some ⟨b2, 0, none⟩) m.ls.length n2, .int .i64 m.ct, .bool m.tn.over, .int .i64 m.tn.cd, .string m.tn.tx, .bool m.tn.has, .string m.tn.nm, .int .i64 m.tn.st, .int .i64 m.kd, .int .i64 m.to, .int .i64 m.fr, .int .i64 m.ep, .int .i64 m.ed, .string m.km.nm, .string m.km.tl, .string m.km.ar, .slice (some ⟨b2, 0, none⟩) m.ls.length n2, .int .i64 m.ct, .bool m.tn.over, .int .i64 m.tn.cd, .string m.tn.tx, .bool m.tn.has, .string m.tn.nm, .int .i64 m.tn.st, .slice none 0 0] ∧ OpnAt w' B := by
  have a2 := Z 2 _ rfl
  have f2 := f 2
  have Z1 : BlkAt (w.setCell ⟨B, 2, none⟩ (.bool true)) B [.int .i64 x.no, .bool x.up, .bool true, .int .i64 x.of.kd, .int .i64 x.of.to, .int .i64 x.of.fr, .int .i64 x.of.ep, .int .i64 x.of.ed, .string x.of.km.nm, .string x.of.km.tl, .string x.of.km.ar, .slice (some ⟨b, 0, none⟩) x.of.ls.length n, .int .i64 x.of.ct, .bool x.of.tn.over, .int .i64 x.of.tn.cd, .string x.of.tn.tx, .bool x.of.tn.has, .string x.of.tn.nm, .int .i64 x.of.tn.st, .int .i64 m.kd, .int .i64 m.to, .int .i64 m.fr, .int .i64 m.ep, .int .i64 m.ed, .string m.km.nm, .string m.km.tl, .string m.km.ar, .slice (some ⟨b2, 0, none⟩) m.ls.length n2, .int .i64 m.ct, .bool m.tn.over, .int .i64 m.tn.cd, .string m.tn.tx, .bool m.tn.has, .string m.tn.nm, .int .i64 m.tn.st, .slice none 0 0] := Z.set 2 (.bool true) (by simp)
  have f1 : OpnAt (w.setCell ⟨B, 2, none⟩ (.bool true)) B := f.set _ _
  have hb1 : But B w (w.setCell ⟨B, 2, none⟩ (.bool true)) := (But.refl _ _).setCell _ _
  have c19 := Z1 19 _ rfl
  have c20 := Z1 20 _ rfl
  have c21 := Z1 21 _ rfl
  have c22 := Z1 22 _ rfl
  have c23 := Z1 23 _ rfl
  have c24 := Z1 24 _ rfl
  have c25 := Z1 25 _ rfl
  have c26 := Z1 26 _ rfl
  have c27 := Z1 27 _ rfl
  have c28 := Z1 28 _ rfl
  have c29 := Z1 29 _ rfl
  have c30 := Z1 30 _ rfl
  have c31 := Z1 31 _ rfl
  have c32 := Z1 32 _ rfl
  have c33 := Z1 33 _ rfl
  have c34 := Z1 34 _ rfl
  have hSome : ∀ i, i < ([.int .i64 m.kd, .int .i64 m.to, .int .i64 m.fr, .int .i64 m.ep, .int .i64 m.ed, .string m.km.nm, .string m.km.tl, .string m.km.ar, .slice (some ⟨b2, 0, none⟩) m.ls.length n2, .int .i64 m.ct, .bool m.tn.over, .int .i64 m.tn.cd, .string m.tn.tx, .bool m.tn.has, .string m.tn.nm, .int .i64 m.tn.st] : List Value).length → ((w.setCell ⟨B, 2, none⟩ (.bool true)).cell? ⟨B, 3 + i, none⟩).isSome = true := fun i hi => by
    have hz : 3 + i < ([.int .i64 x.no, .bool x.up, .bool true, .int .i64 x.of.kd, .int .i64 x.of.to, .int .i64 x.of.fr, .int .i64 x.of.ep, .int .i64 x.of.ed, .string x.of.km.nm, .string x.of.km.tl, .string x.of.km.ar, .slice (some ⟨b, 0, none⟩) x.of.ls.length n, .int .i64 x.of.ct, .bool x.of.tn.over, .int .i64 x.of.tn.cd, .string x.of.tn.tx, .bool x.of.tn.has, .string x.of.tn.nm, .int .i64 x.of.tn.st, .int .i64 m.kd, .int .i64 m.to, .int .i64 m.fr, .int .i64 m.ep, .int .i64 m.ed, .string m.km.nm, .string m.km.tl, .string m.km.ar, .slice (some ⟨b2, 0, none⟩) m.ls.length n2, .int .i64 m.ct, .bool m.tn.over, .int .i64 m.tn.cd, .string m.tn.tx, .bool m.tn.has, .string m.tn.nm, .int .i64 m.tn.st, .slice none 0 0] : List Value).length := by simp at hi ⊢; omega
    rw [Z1 (3 + i) _ (List.getElem?_eq_getElem hz)]
    rfl
  have Z3 : BlkAt (fill (w.setCell ⟨B, 2, none⟩ (.bool true)) B 3 [.int .i64 m.kd, .int .i64 m.to, .int .i64 m.fr, .int .i64 m.ep, .int .i64 m.ed, .string m.km.nm, .string m.km.tl, .string m.km.ar, .slice (some ⟨b2, 0, none⟩) m.ls.length n2, .int .i64 m.ct, .bool m.tn.over, .int .i64 m.tn.cd, .string m.tn.tx, .bool m.tn.has, .string m.tn.nm, .int .i64 m.tn.st]) B [.int .i64 x.no, .bool x.up, .bool true, .int .i64 m.kd, .int .i64 m.to, .int .i64 m.fr, .int .i64 m.ep, .int .i64 m.ed, .string m.km.nm, .string m.km.tl, .string m.km.ar, .slice (some ⟨b2, 0, none⟩) m.ls.length n2, .int .i64 m.ct, .bool m.tn.over, .int .i64 m.tn.cd, .string m.tn.tx, .bool m.tn.has, .string m.tn.nm, .int .i64 m.tn.st, .int .i64 m.kd, .int .i64 m.to, .int .i64 m.fr, .int .i64 m.ep, .int .i64 m.ed, .string m.km.nm, .string m.km.tl, .string m.km.ar, .slice (some ⟨b2, 0, none⟩) m.ls.length n2, .int .i64 m.ct, .bool m.tn.over, .int .i64 m.tn.cd, .string m.tn.tx, .bool m.tn.has, .string m.tn.nm, .int .i64 m.tn.st, .slice none 0 0] := BlkAt.fill [.int .i64 m.kd, .int .i64 m.to, .int .i64 m.fr, .int .i64 m.ep, .int .i64 m.ed, .string m.km.nm, .string m.km.tl, .string m.km.ar, .slice (some ⟨b2, 0, none⟩) m.ls.length n2, .int .i64 m.ct, .bool m.tn.over, .int .i64 m.tn.cd, .string m.tn.tx, .bool m.tn.has, .string m.tn.nm, .int .i64 m.tn.st] [.int .i64 x.no, .bool x.up, .bool true] [.int .i64 x.of.kd, .int .i64 x.of.to, .int .i64 x.of.fr, .int .i64 x.of.ep, .int .i64 x.of.ed, .string x.of.km.nm, .string x.of.km.tl, .string x.of.km.ar, .slice (some ⟨b, 0, none⟩) x.of.ls.length n, .int .i64 x.of.ct, .bool x.of.tn.over, .int .i64 x.of.tn.cd, .string x.of.tn.tx, .bool x.of.tn.has, .string x.of.tn.nm, .int .i64 x.of.tn.st] [.int .i64 m.kd, .int .i64 m.to, .int .i64 m.fr, .int .i64 m.ep, .int .i64 m.ed, .string m.km.nm, .string m.km.tl, .string m.km.ar, .slice (some ⟨b2, 0, none⟩) m.ls.length n2, .int .i64 m.ct, .bool m.tn.over, .int .i64 m.tn.cd, .string m.tn.tx, .bool m.tn.has, .string m.tn.nm, .int .i64 m.tn.st, .slice none 0 0] 3 Z1 rfl rfl
  have f3 : OpnAt (fill (w.setCell ⟨B, 2, none⟩ (.bool true)) B 3 [.int .i64 m.kd, .int .i64 m.to, .int .i64 m.fr, .int .i64 m.ep, .int .i64 m.ed, .string m.km.nm, .string m.km.tl, .string m.km.ar, .slice (some ⟨b2, 0, none⟩) m.ls.length n2, .int .i64 m.ct, .bool m.tn.over, .int .i64 m.tn.cd, .string m.tn.tx, .bool m.tn.has, .string m.tn.nm, .int .i64 m.tn.st]) B := OpnAt.fill _ _ f1
  have hb3 : But B w (fill (w.setCell ⟨B, 2, none⟩ (.bool true)) B 3 [.int .i64 m.kd, .int .i64 m.to, .int .i64 m.fr, .int .i64 m.ep, .int .i64 m.ed, .string m.km.nm, .string m.km.tl, .string m.km.ar, .slice (some ⟨b2, 0, none⟩) m.ls.length n2, .int .i64 m.ct, .bool m.tn.over, .int .i64 m.tn.cd, .string m.tn.tx, .bool m.tn.has, .string m.tn.nm, .int .i64 m.tn.st]) := but_fill _ _ hb1
  clear Z f
  go_enter Tryz.func92, Tryz.ntmps92
  have hmark : True := trivial
  go_wp2_with (refine wpList_store_blk rfl 41 (.tmp 14) (.tmp 11) rfl B 3 rfl [.int .i64 m.kd, .int .i64 m.to, .int .i64 m.fr, .int .i64 m.ep, .int .i64 m.ed, .string m.km.nm, .string m.km.tl, .string m.km.ar, .slice (some ⟨b2, 0, none⟩) m.ls.length n2, .int .i64 m.ct, .bool m.tn.over, .int .i64 m.tn.cd, .string m.tn.tx, .bool m.tn.has, .string m.tn.nm, .int .i64 m.tn.st] rfl hSome f1 (by simp [Value.oneCell']) (by kernel_rfl) rfl ?_; revert hmark)
  try intro _
  clear hSome f1 Z1
  generalize (fill (w.setCell ⟨B, 2, none⟩ (.bool true)) B 3 [.int .i64 m.kd, .int .i64 m.to, .int .i64 m.fr, .int .i64 m.ep, .int .i64 m.ed, .string m.km.nm, .string m.km.tl, .string m.km.ar, .slice (some ⟨b2, 0, none⟩) m.ls.length n2, .int .i64 m.ct, .bool m.tn.over, .int .i64 m.tn.cd, .string m.tn.tx, .bool m.tn.has, .string m.tn.nm, .int .i64 m.tn.st]) = U at *
  try go_wp2
  go_ret
  exact ⟨rfl, hb3, Z3, f3⟩
end Go.Proofs.YtdcgjdgpiogdaaaGreatDoor

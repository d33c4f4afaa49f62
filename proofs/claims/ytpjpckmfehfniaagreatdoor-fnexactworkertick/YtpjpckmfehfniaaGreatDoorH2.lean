import Derived.Test.YtpjpckmfehfniaaGreatDoorZC45
import Derived.Test.YtpjpckmfehfniaaGreatDoorH1
namespace Go.Proofs.YtpjpckmfehfniaaGreatDoor
open Go.RowKit
theorem hidI {p : Prop} (h : p) : Hid p := h
set_option maxHeartbeats 8000000 in
set_option maxRecDepth 100000 in
theorem c124 (x : M.W19) (t : TN) (B b n : Nat) (ao : Option Addr) (cp : Nat) (w : World) (Z : M.BlkAt w B [.int .i64 x.no, .bool x.up, .bool x.has, .int .i64 x.of.kd, .int .i64 x.of.to, .int .i64 x.of.fr, .int .i64 x.of.ep, .int .i64 x.of.ed, .string x.of.km.nm, .string x.of.km.tl, .string x.of.km.ar, .slice (some ⟨b, 0, none⟩) x.of.ls.length n, .int .i64 x.of.ct, .bool x.of.tn.over, .int .i64 x.of.tn.cd, .string x.of.tn.tx, .bool x.of.tn.has, .string x.of.tn.nm, .int .i64 x.of.tn.st, .int .i64 0, .int .i64 0, .int .i64 0, .int .i64 0, .int .i64 0, .string ⟨#[]⟩, .string ⟨#[]⟩, .string ⟨#[]⟩, .slice none 0 0, .int .i64 0, .bool false, .int .i64 0, .string ⟨#[]⟩, .bool false, .string ⟨#[]⟩, .int .i64 0, .slice ao 1 cp]) (f : M.OpnAt w B) (hB : B < w.heap.size) (hO : w.ownsRow (B + 1) 48 16 (.slice ao 1 cp) 1 [.int .i64 3, .int .i64 0, .int .i64 x.no, .int .i64 0, .int .i64 0, .string ⟨#[]⟩, .string ⟨#[]⟩, .string ⟨#[]⟩, .slice none 0 0, .int .i64 0, .bool false, .int .i64 0, .string ⟨#[]⟩, .bool false, .string ⟨#[]⟩, .int .i64 0]) (hm : x.of.km.le 1048576) (hl : x.of.ls.length ≤ 1048576) (hs : ∀ i, (x.of.ls.getD i M.l4z).le 1048576) (hat : M.LksAt w (some ⟨b, 0, none⟩) x.of.ls) (hsh : ShapesAt w) (hmx : MaxAt w) (ht : goT x.of.km x.of.ls = t) :
 Calls Tryz.prog 124 #[.pointer (some ⟨B, 0, none⟩)] w fun e w' => e = .returned (.func (.func 139) #[.pointer (some ⟨B, 0, none⟩)] #[]) ∧ (∃ v, M.BlkAt w' B [.int .i64 x.no, .bool x.up, .bool x.has, .int .i64 x.of.kd, .int .i64 x.of.to, .int .i64 x.of.fr, .int .i64 x.of.ep, .int .i64 x.of.ed, .string x.of.km.nm, .string x.of.km.tl, .string x.of.km.ar, .slice (some ⟨b, 0, none⟩) x.of.ls.length n, .int .i64 x.of.ct, .bool x.of.tn.over, .int .i64 x.of.tn.cd, .string x.of.tn.tx, .bool x.of.tn.has, .string x.of.tn.nm, .int .i64 x.of.tn.st, .int .i64 0, .int .i64 0, .int .i64 0, .int .i64 0, .int .i64 0, .string ⟨#[]⟩, .string ⟨#[]⟩, .string ⟨#[]⟩, .slice none 0 0, .int .i64 0, .bool false, .int .i64 0, .string ⟨#[]⟩, .bool false, .string ⟨#[]⟩, .int .i64 0, v] ∧ w'.ownsRow (B + 1) 48 16 v 2 ([.int .i64 3, .int .i64 0, .int .i64 x.no, .int .i64 0, .int .i64 0, .string ⟨#[]⟩, .string ⟨#[]⟩, .string ⟨#[]⟩, .slice none 0 0, .int .i64 0, .bool false, .int .i64 0, .string ⟨#[]⟩, .bool false, .string ⟨#[]⟩, .int .i64 0] ++ [.int .i64 2, .int .i64 0, .int .i64 x.no, .int .i64 x.of.ep, .int .i64 x.of.ed, .string x.of.km.nm, .string ⟨#[]⟩, .string ⟨#[]⟩, .slice none 0 0, .int .i64 x.of.ls.length, .bool t.over, .int .i64 t.code, .string t.text, .bool t.has, .string t.name, .int .i64 t.steps])) ∧ M.OpnAt w' B ∧ Below B w w' := by
 have a3 := Z 3 _ rfl
 have a4 := Z 4 _ rfl
 have a5 := Z 5 _ rfl
 have a6 := Z 6 _ rfl
 have a7 := Z 7 _ rfl
 have a8 := Z 8 _ rfl
 have a9 := Z 9 _ rfl
 have a10 := Z 10 _ rfl
 have a11 := Z 11 _ rfl
 have a12 := Z 12 _ rfl
 have a13 := Z 13 _ rfl
 have a14 := Z 14 _ rfl
 have a15 := Z 15 _ rfl
 have a16 := Z 16 _ rfl
 have a17 := Z 17 _ rfl
 have a18 := Z 18 _ rfl
 obtain ⟨i0, hi, hz0, hz1, hz2⟩ := info_parts info48
 obtain ⟨wA, hwA⟩ : ∃ wA, wA = w.alloc (.cells #[.int .i64 x.of.kd, .int .i64 x.of.to, .int .i64 x.of.fr, .int .i64 x.of.ep, .int .i64 x.of.ed, .string x.of.km.nm, .string x.of.km.tl, .string x.of.km.ar, .slice (some ⟨b, 0, none⟩) x.of.ls.length n, .int .i64 x.of.ct, .bool x.of.tn.over, .int .i64 x.of.tn.cd, .string x.of.tn.tx, .bool x.of.tn.has, .string x.of.tn.nm, .int .i64 x.of.tn.st] 48) := ⟨_, rfl⟩
 have HWA := hidI hwA
 obtain ⟨Of, hOe⟩ : ∃ Of, Of = w.heap.size := ⟨_, rfl⟩
 have HOE : Hid (Of = w.heap.size) := hOe
 have hzA : wA.heap.size = w.heap.size + 1 := by rw [hwA]; simp
 have hbA : Below w.heap.size w wA := by rw [hwA]; exact (Below.refl _ _).alloc (Nat.le_refl _) _
 have HBA : Hid (Below w.heap.size w wA) := hbA
 have HZ := hidI (Z.below hbA hB)
 have HF : Hid (M.OpnAt wA B) := f.below hbA hB
 have HQ : Hid (M.BlkAt wA Of [.int .i64 x.of.kd, .int .i64 x.of.to, .int .i64 x.of.fr, .int .i64 x.of.ep, .int .i64 x.of.ed, .string x.of.km.nm, .string x.of.km.tl, .string x.of.km.ar, .slice (some ⟨b, 0, none⟩) x.of.ls.length n, .int .i64 x.of.ct, .bool x.of.tn.over, .int .i64 x.of.tn.cd, .string x.of.tn.tx, .bool x.of.tn.has, .string x.of.tn.nm, .int .i64 x.of.tn.st]) := by
  show M.BlkAt wA Of _
  rw [hwA, hOe]; exact M.blk_new w [.int .i64 x.of.kd, .int .i64 x.of.to, .int .i64 x.of.fr, .int .i64 x.of.ep, .int .i64 x.of.ed, .string x.of.km.nm, .string x.of.km.tl, .string x.of.km.ar, .slice (some ⟨b, 0, none⟩) x.of.ls.length n, .int .i64 x.of.ct, .bool x.of.tn.over, .int .i64 x.of.tn.cd, .string x.of.tn.tx, .bool x.of.tn.has, .string x.of.tn.nm, .int .i64 x.of.tn.st] 48
 have HOW := hidI hO
 have HO := hidI (ownsRow_below hO hbA)
 have HAT : Hid (M.LksAt wA.drew (some ⟨b, 0, none⟩) x.of.ls) := M.lks_below (M.lks_below hat hbA) (Below.refl _ _).drew
 have HSH : Hid (ShapesAt wA.drew) := shapes_below (shapes_below hsh hbA) (Below.refl _ _).drew
 have HMX : Hid (MaxAt wA.drew) := max_below (max_below hmx hbA) (Below.refl _ _).drew
 have HM : Hid (x.of.km.le 1048576) := hm
 have HS : Hid (∀ i, (x.of.ls.getD i M.l4z).le 1048576) := hs
 have HT : Hid (goT x.of.km x.of.ls = t) := ht
 have hBA : B < wA.heap.size := by omega
 have hOf : Of < wA.heap.size := by omega
 clear Z f hat hsh hmx hm hs ht hO hwA hbA hOe
 go_enter Tryz.func124, Tryz.ntmps124
 go_wp2_with fail
 rw [← HWA.out]
 clear a3 a4 a5 a6 a7 a8 a9 a10 a11 a12 a13 a14 a15 a16 a17 a18
 rw [← HOE.out]
 have q35 := HZ.out 35 _ rfl
 have d35 : wA.drew.cell? ⟨B, 35, none⟩ = some (.slice ao 1 cp) := by simpa using q35
 have b0 : wA.drew.cell? ⟨B, 0, none⟩ = some (.int .i64 x.no) := by simpa using HZ.out 0 _ rfl
 have o3 : wA.drew.cell? ⟨Of, 3, none⟩ = some (.int .i64 x.of.ep) := by simpa using HQ.out 3 _ rfl
 have o4 : wA.drew.cell? ⟨Of, 4, none⟩ = some (.int .i64 x.of.ed) := by simpa using HQ.out 4 _ rfl
 have o5 : wA.drew.cell? ⟨Of, 5, none⟩ = some (.string x.of.km.nm) := by simpa using HQ.out 5 _ rfl
 have o6 : wA.drew.cell? ⟨Of, 6, none⟩ = some (.string x.of.km.tl) := by simpa using HQ.out 6 _ rfl
 have o7 : wA.drew.cell? ⟨Of, 7, none⟩ = some (.string x.of.km.ar) := by simpa using HQ.out 7 _ rfl
 have o8 : wA.drew.cell? ⟨Of, 8, none⟩ = some (.slice (some ⟨b, 0, none⟩) x.of.ls.length n) := by simpa using HQ.out 8 _ rfl
 refine wp_region_held_drew (S := (fun u => u.cell? ⟨B, 0, none⟩ = some (.int .i64 x.no) ∧ u.cell? ⟨Of, 3, none⟩ = some (.int .i64 x.of.ep) ∧ u.cell? ⟨Of, 4, none⟩ = some (.int .i64 x.of.ed) ∧ u.cell? ⟨Of, 5, none⟩ = some (.string x.of.km.nm) ∧ u.cell? ⟨Of, 6, none⟩ = some (.string x.of.km.tl) ∧ u.cell? ⟨Of, 7, none⟩ = some (.string x.of.km.ar) ∧ u.cell? ⟨Of, 8, none⟩ = some (.slice (some ⟨b, 0, none⟩) x.of.ls.length n))) (by kernel_rfl) ?_ (fun hHeld => ?_)
 · ((try dsimp only); go_keep)
 refine wpAnyH_take (i := 0) (oi := { dst := some 9, op := Op.move (Operand.tmp 0), type := 137, pos := "l8_worker.go:102", after := #[], guard := none }) (v := ?_) rfl (by kernel_rfl) (by kernel_rfl) (by kernel_rfl) (fun _ _ _ h => h) (Or.inl ⟨by rfl, ?_⟩) (by assumption) ?_
 rotate_left
 · intro wq hSw
   (try dsimp only at hSw)
   go_simp
   try with_reducible rfl
 try simp only [Act.put, List.setIfInBounds_toArray, List.set_cons_zero, List.set_cons_succ]
 refine wpAnyH_take (i := 1) (oi := { dst := some 10, op := Op.move (Operand.tmp 0), type := 137, pos := "l8_worker.go:102", after := #[], guard := none }) (v := ?_) rfl (by kernel_rfl) (by kernel_rfl) (by kernel_rfl) (fun _ _ _ h => h) (Or.inl ⟨by rfl, ?_⟩) (by assumption) ?_
 rotate_left
 · intro wq hSw
   (try dsimp only at hSw)
   go_simp
   try with_reducible rfl
 try simp only [Act.put, List.setIfInBounds_toArray, List.set_cons_zero, List.set_cons_succ]
 refine wpAnyH_take (i := 2) (oi := { dst := some 11, op := Op.nilCheck (Operand.tmp 10), type := 0, pos := "l8_worker.go:102", after := #[{ on := 1, ground := Ground.data }], guard := none }) (v := ?_) rfl (by kernel_rfl) (by kernel_rfl) (by kernel_rfl) (fun _ _ _ h => h) (Or.inl ⟨by rfl, ?_⟩) (by assumption) ?_
 rotate_left
 · intro wq hSw
   (try dsimp only at hSw)
   go_simp
   try with_reducible rfl
 try simp only [Act.put, List.setIfInBounds_toArray, List.set_cons_zero, List.set_cons_succ]
 refine wpAnyH_take (i := 3) (oi := { dst := some 12, op := Op.fieldAddr 92 (Operand.tmp 11) 2, type := 0, pos := "l8_worker.go:102", after := #[{ on := 2, ground := Ground.data }], guard := none }) (v := ?_) rfl (by kernel_rfl) (by kernel_rfl) (by kernel_rfl) (fun _ _ _ h => h) (Or.inl ⟨by rfl, ?_⟩) (by assumption) ?_
 rotate_left
 · intro wq hSw
   (try dsimp only at hSw)
   go_simp
   try with_reducible rfl
 try simp only [Act.put, List.setIfInBounds_toArray, List.set_cons_zero, List.set_cons_succ]
 refine wpAnyH_take (i := 5) (oi := { dst := some 14, op := Op.move (Operand.tmp 0), type := 137, pos := "l8_worker.go:102", after := #[], guard := none }) (v := ?_) rfl (by kernel_rfl) (by kernel_rfl) (by kernel_rfl) (fun _ _ _ h => h) (Or.inl ⟨by rfl, ?_⟩) (by assumption) ?_
 rotate_left
 · intro wq hSw
   (try dsimp only at hSw)
   go_simp
   try with_reducible rfl
 try simp only [Act.put, List.setIfInBounds_toArray, List.set_cons_zero, List.set_cons_succ]
 refine wpAnyH_take (i := 6) (oi := { dst := some 15, op := Op.nilCheck (Operand.tmp 14), type := 0, pos := "l8_worker.go:102", after := #[{ on := 5, ground := Ground.data }], guard := none }) (v := ?_) rfl (by kernel_rfl) (by kernel_rfl) (by kernel_rfl) (fun _ _ _ h => h) (Or.inl ⟨by rfl, ?_⟩) (by assumption) ?_
 rotate_left
 · intro wq hSw
   (try dsimp only at hSw)
   go_simp
   try with_reducible rfl
 try simp only [Act.put, List.setIfInBounds_toArray, List.set_cons_zero, List.set_cons_succ]
 refine wpAnyH_take (i := 7) (oi := { dst := some 16, op := Op.fieldAddr 92 (Operand.tmp 15) 0, type := 0, pos := "l8_worker.go:102", after := #[{ on := 6, ground := Ground.data }], guard := none }) (v := ?_) rfl (by kernel_rfl) (by kernel_rfl) (by kernel_rfl) (fun _ _ _ h => h) (Or.inl ⟨by rfl, ?_⟩) (by assumption) ?_
 rotate_left
 · intro wq hSw
   (try dsimp only at hSw)
   go_simp
   try with_reducible rfl
 try simp only [Act.put, List.setIfInBounds_toArray, List.set_cons_zero, List.set_cons_succ]
 refine wpAnyH_take (i := 8) (oi := { dst := some 17, op := Op.fieldAddr 50 (Operand.tmp 16) 0, type := 0, pos := "l8_worker.go:102", after := #[{ on := 7, ground := Ground.data }], guard := none }) (v := ?_) rfl (by kernel_rfl) (by kernel_rfl) (by kernel_rfl) (fun _ _ _ h => h) (Or.inl ⟨by rfl, ?_⟩) (by assumption) ?_
 rotate_left
 · intro wq hSw
   (try dsimp only at hSw)
   go_simp
   try with_reducible rfl
 try simp only [Act.put, List.setIfInBounds_toArray, List.set_cons_zero, List.set_cons_succ]
 refine wpAnyH_take (i := 9) (oi := { dst := some 18, op := Op.load 3 (Operand.tmp 17), type := 3, pos := "l8_worker.go:102", after := #[{ on := 8, ground := Ground.data }], guard := none }) (v := ?_) rfl (by kernel_rfl) (by kernel_rfl) (by kernel_rfl) (fun _ _ _ h => h) (Or.inl ⟨by rfl, ?_⟩) (by assumption) ?_
 rotate_left
 · intro wq hSw
   (try dsimp only at hSw)
   go_simp
   try with_reducible rfl
 try simp only [Act.put, List.setIfInBounds_toArray, List.set_cons_zero, List.set_cons_succ]
 refine wpAnyH_take (i := 10) (oi := { dst := some 19, op := Op.fieldAddr 48 (Operand.tmp 3) 3, type := 0, pos := "l8_worker.go:102", after := #[], guard := none }) (v := ?_) rfl (by kernel_rfl) (by kernel_rfl) (by kernel_rfl) (fun _ _ _ h => h) (Or.inl ⟨by rfl, ?_⟩) (by assumption) ?_
 rotate_left
 · intro wq hSw
   (try dsimp only at hSw)
   go_simp
   try with_reducible rfl
 try simp only [Act.put, List.setIfInBounds_toArray, List.set_cons_zero, List.set_cons_succ]
 refine wpAnyH_take (i := 11) (oi := { dst := some 20, op := Op.load 3 (Operand.tmp 19), type := 3, pos := "l8_worker.go:102", after := #[{ on := 10, ground := Ground.data }], guard := none }) (v := ?_) rfl (by kernel_rfl) (by kernel_rfl) (by kernel_rfl) (fun _ _ _ h => h) (Or.inl ⟨by rfl, ?_⟩) (by assumption) ?_
 rotate_left
 · intro wq hSw
   (try dsimp only at hSw)
   go_simp
   try with_reducible rfl
 try simp only [Act.put, List.setIfInBounds_toArray, List.set_cons_zero, List.set_cons_succ]
 refine wpAnyH_take (i := 12) (oi := { dst := some 21, op := Op.fieldAddr 48 (Operand.tmp 3) 4, type := 0, pos := "l8_worker.go:102", after := #[], guard := none }) (v := ?_) rfl (by kernel_rfl) (by kernel_rfl) (by kernel_rfl) (fun _ _ _ h => h) (Or.inl ⟨by rfl, ?_⟩) (by assumption) ?_
 rotate_left
 · intro wq hSw
   (try dsimp only at hSw)
   go_simp
   try with_reducible rfl
 try simp only [Act.put, List.setIfInBounds_toArray, List.set_cons_zero, List.set_cons_succ]
 refine wpAnyH_take (i := 13) (oi := { dst := some 22, op := Op.load 3 (Operand.tmp 21), type := 3, pos := "l8_worker.go:102", after := #[{ on := 12, ground := Ground.data }], guard := none }) (v := ?_) rfl (by kernel_rfl) (by kernel_rfl) (by kernel_rfl) (fun _ _ _ h => h) (Or.inl ⟨by rfl, ?_⟩) (by assumption) ?_
 rotate_left
 · intro wq hSw
   (try dsimp only at hSw)
   go_simp
   try with_reducible rfl
 try simp only [Act.put, List.setIfInBounds_toArray, List.set_cons_zero, List.set_cons_succ]
 refine wpAnyH_take (i := 14) (oi := { dst := some 23, op := Op.fieldAddr 48 (Operand.tmp 3) 5, type := 0, pos := "l8_worker.go:102", after := #[], guard := none }) (v := ?_) rfl (by kernel_rfl) (by kernel_rfl) (by kernel_rfl) (fun _ _ _ h => h) (Or.inl ⟨by rfl, ?_⟩) (by assumption) ?_
 rotate_left
 · intro wq hSw
   (try dsimp only at hSw)
   go_simp
   try with_reducible rfl
 try simp only [Act.put, List.setIfInBounds_toArray, List.set_cons_zero, List.set_cons_succ]
 refine wpAnyH_take (i := 15) (oi := { dst := some 24, op := Op.fieldAddr 32 (Operand.tmp 23) 0, type := 0, pos := "l8_worker.go:102", after := #[{ on := 14, ground := Ground.data }], guard := none }) (v := ?_) rfl (by kernel_rfl) (by kernel_rfl) (by kernel_rfl) (fun _ _ _ h => h) (Or.inl ⟨by rfl, ?_⟩) (by assumption) ?_
 rotate_left
 · intro wq hSw
   (try dsimp only at hSw)
   go_simp
   try with_reducible rfl
 try simp only [Act.put, List.setIfInBounds_toArray, List.set_cons_zero, List.set_cons_succ]
 refine wpAnyH_take (i := 16) (oi := { dst := some 25, op := Op.load 9 (Operand.tmp 24), type := 9, pos := "l8_worker.go:102", after := #[{ on := 15, ground := Ground.data }], guard := none }) (v := ?_) rfl (by kernel_rfl) (by kernel_rfl) (by kernel_rfl) (fun _ _ _ h => h) (Or.inl ⟨by rfl, ?_⟩) (by assumption) ?_
 rotate_left
 · intro wq hSw
   (try dsimp only at hSw)
   go_simp
   try with_reducible rfl
 try simp only [Act.put, List.setIfInBounds_toArray, List.set_cons_zero, List.set_cons_succ]
 refine wpAnyH_take (i := 17) (oi := { dst := some 26, op := Op.build 32 #[(0, Operand.tmp 25)], type := 32, pos := "l8_worker.go:102", after := #[{ on := 16, ground := Ground.data }], guard := none }) (v := ?_) rfl (by kernel_rfl) (by kernel_rfl) (by kernel_rfl) (fun _ _ _ h => h) (Or.inl ⟨by rfl, ?_⟩) (by assumption) ?_
 rotate_left
 · intro wq hSw
   (try dsimp only at hSw)
   go_simp
   try with_reducible rfl
 try simp only [Act.put, List.setIfInBounds_toArray, List.set_cons_zero, List.set_cons_succ]
 refine wpAnyH_take (i := 18) (oi := { dst := some 27, op := Op.fieldAddr 48 (Operand.tmp 3) 6, type := 0, pos := "l8_worker.go:102", after := #[], guard := none }) (v := ?_) rfl (by kernel_rfl) (by kernel_rfl) (by kernel_rfl) (fun _ _ _ h => h) (Or.inl ⟨by rfl, ?_⟩) (by assumption) ?_
 rotate_left
 · intro wq hSw
   (try dsimp only at hSw)
   go_simp
   try with_reducible rfl
 try simp only [Act.put, List.setIfInBounds_toArray, List.set_cons_zero, List.set_cons_succ]
 refine wpAnyH_take (i := 19) (oi := { dst := some 28, op := Op.load 34 (Operand.tmp 27), type := 34, pos := "l8_worker.go:102", after := #[{ on := 18, ground := Ground.data }], guard := none }) (v := ?_) rfl (by kernel_rfl) (by kernel_rfl) (by kernel_rfl) (fun _ _ _ h => h) (Or.inl ⟨by rfl, ?_⟩) (by assumption) ?_
 rotate_left
 · intro wq hSw
   (try dsimp only at hSw)
   go_simp
   try with_reducible rfl
 try simp only [Act.put, List.setIfInBounds_toArray, List.set_cons_zero, List.set_cons_succ]
 refine wpAnyH_take (i := 20) (oi := { dst := some 29, op := Op.call { callee := Callee.builtin Builtin.len, args := #[Operand.tmp 28], argTypes := #[34] }, type := 3, pos := "l8_worker.go:102", after := #[{ on := 19, ground := Ground.data }], guard := none }) (v := ?_) rfl (by kernel_rfl) (by kernel_rfl) (by kernel_rfl) (fun _ _ _ h => h) (Or.inl ⟨by rfl, ?_⟩) (by assumption) ?_
 rotate_left
 · intro wq hSw
   (try dsimp only at hSw)
   go_simp
   try with_reducible rfl
 try simp only [Act.put, List.setIfInBounds_toArray, List.set_cons_zero, List.set_cons_succ]
 refine wpAnyH_take (i := 21) (oi := { dst := some 30, op := Op.fieldAddr 48 (Operand.tmp 3) 5, type := 0, pos := "l8_worker.go:102", after := #[], guard := none }) (v := ?_) rfl (by kernel_rfl) (by kernel_rfl) (by kernel_rfl) (fun _ _ _ h => h) (Or.inl ⟨by rfl, ?_⟩) (by assumption) ?_
 rotate_left
 · intro wq hSw
   (try dsimp only at hSw)
   go_simp
   try with_reducible rfl
 try simp only [Act.put, List.setIfInBounds_toArray, List.set_cons_zero, List.set_cons_succ]
 refine wpAnyH_take (i := 22) (oi := { dst := some 31, op := Op.load 32 (Operand.tmp 30), type := 32, pos := "l8_worker.go:102", after := #[{ on := 21, ground := Ground.data }], guard := none }) (v := ?_) rfl (by kernel_rfl) (by kernel_rfl) (by kernel_rfl) (fun _ _ _ h => h) (Or.inl ⟨by rfl, ?_⟩) (by assumption) ?_
 rotate_left
 · intro wq hSw
   (try dsimp only at hSw)
   go_simp
   try with_reducible rfl
 try simp only [Act.put, List.setIfInBounds_toArray, List.set_cons_zero, List.set_cons_succ]
 refine wpAnyH_take (i := 23) (oi := { dst := some 32, op := Op.fieldAddr 48 (Operand.tmp 3) 6, type := 0, pos := "l8_worker.go:102", after := #[], guard := none }) (v := ?_) rfl (by kernel_rfl) (by kernel_rfl) (by kernel_rfl) (fun _ _ _ h => h) (Or.inl ⟨by rfl, ?_⟩) (by assumption) ?_
 rotate_left
 · intro wq hSw
   (try dsimp only at hSw)
   go_simp
   try with_reducible rfl
 try simp only [Act.put, List.setIfInBounds_toArray, List.set_cons_zero, List.set_cons_succ]
 refine wpAnyH_take (i := 24) (oi := { dst := some 33, op := Op.load 34 (Operand.tmp 32), type := 34, pos := "l8_worker.go:102", after := #[{ on := 23, ground := Ground.data }], guard := none }) (v := ?_) rfl (by kernel_rfl) (by kernel_rfl) (by kernel_rfl) (fun _ _ _ h => h) (Or.inl ⟨by rfl, ?_⟩) (by assumption) ?_
 rotate_left
 · intro wq hSw
   (try dsimp only at hSw)
   go_simp
   try with_reducible rfl
 try simp only [Act.put, List.setIfInBounds_toArray, List.set_cons_zero, List.set_cons_succ]
 refine wpAnyH_ready (rs := [4, 25]) (by kernel_rfl) (by simp) ?_
 refine AllReadyH.cons (o := { dst := some 13, op := Op.load 51 (Operand.tmp 12), type := 51, pos := "l8_worker.go:102", after := #[{ on := 3, ground := Ground.data }], guard := none }) rfl (fun K hK => ?_) (AllReadyH.cons (o := { dst := some 34, op := Op.call { callee := Callee.value (Operand.func 11), args := #[Operand.tmp 31, Operand.tmp 33], argTypes := #[32, 34] }, type := 30, pos := "l8_worker.go:109", after := #[{ on := 22, ground := Ground.data }, { on := 24, ground := Ground.data }], guard := none }) rfl (fun K hK => ?_) AllReadyH.nil)
 · go_simp
   clear hHeld
   refine hK.out _ _ ?_ (fun hHeld => ?_)
   · ((try dsimp only); go_keep)
   clear hK K
   try simp only [Act.put, List.setIfInBounds_toArray, List.set_cons_zero, List.set_cons_succ]
   refine wpAnyH_ready (rs := [25]) (by kernel_rfl) (by simp) ?_
   refine AllReadyH.cons (o := { dst := some 34, op := Op.call { callee := Callee.value (Operand.func 11), args := #[Operand.tmp 31, Operand.tmp 33], argTypes := #[32, 34] }, type := 30, pos := "l8_worker.go:109", after := #[{ on := 22, ground := Ground.data }, { on := 24, ground := Ground.data }], guard := none }) rfl (fun K hK => ?_) AllReadyH.nil
   go_simp
   refine (c11t x.of.km (some ⟨b, 0, none⟩) n x.of.ls wA.drew HM.out hl HS.out HAT.out HSH.out HMX.out HT.out).mono ?_
   rintro e w3 ⟨rfl, hb3⟩
   have HB3 : Hid (Below wA.heap.size wA w3) := (Below.refl _ _).drew.trans hb3
   have HZ3 := hidI (HZ.out.below HB3.out hBA)
   have HF3 : Hid (M.OpnAt w3 B) := HF.out.below HB3.out hBA
   have HQ3 := hidI (HQ.out.below HB3.out hOf)
   have HO3 := hidI (ownsRow_below HO.out HB3.out)
   have hz3 : wA.heap.size ≤ w3.heap.size := HB3.out.size
   have c0 := HZ3.out 0 _ rfl
   have co3 := HQ3.out 3 _ rfl
   have co4 := HQ3.out 4 _ rfl
   have co5 := HQ3.out 5 _ rfl
   have co6 := HQ3.out 6 _ rfl
   have co7 := HQ3.out 7 _ rfl
   have co8 := HQ3.out 8 _ rfl
   have c35 := HZ3.out 35 _ rfl
   clear hb3
   go_wp2_with fail
   clear hHeld
   refine hK.out _ _ ?_ (fun hHeld => ?_)
   · ((try dsimp only); go_keep)
   clear hK K
   try simp only [Act.put, List.setIfInBounds_toArray, List.set_cons_zero, List.set_cons_succ]
   refine wpAnyH_take (i := 26) (oi := { dst := some 35, op := Op.build 48 #[(0, Operand.const (Value.int IntKind.i64 2)), (2, Operand.tmp 18), (3, Operand.tmp 20), (4, Operand.tmp 22), (5, Operand.tmp 26), (7, Operand.tmp 29), (8, Operand.tmp 34)], type := 48, pos := "l8_worker.go:102", after := #[{ on := 9, ground := Ground.data }, { on := 11, ground := Ground.data }, { on := 13, ground := Ground.data }, { on := 17, ground := Ground.data }, { on := 20, ground := Ground.data }, { on := 25, ground := Ground.data }], guard := none }) (v := ?_) rfl (by kernel_rfl) (by kernel_rfl) (by kernel_rfl) (fun _ _ _ h => h) (Or.inl ⟨by rfl, ?_⟩) (by assumption) ?_
   rotate_left
   · intro wq hSw
     (try dsimp only at hSw)
     go_simp
     try with_reducible rfl
   try simp only [Act.put, List.setIfInBounds_toArray, List.set_cons_zero, List.set_cons_succ]
   refine wpAnyH_ready (rs := [27]) (by kernel_rfl) (by simp) ?_
   refine AllReadyH.cons (o := { dst := some 36, op := Op.buildSlice 51 1 #[(0, Operand.tmp 35)], type := 51, pos := "l8_worker.go:102", after := #[{ on := 26, ground := Ground.data }], guard := none }) rfl (fun K hK => ?_) AllReadyH.nil
   go_simp
   have HZ4 : Hid (M.BlkAt (w3.alloc (.cells #[.int .i64 2, .int .i64 0, .int .i64 x.no, .int .i64 x.of.ep, .int .i64 x.of.ed, .string x.of.km.nm, .string ⟨#[]⟩, .string ⟨#[]⟩, .slice none 0 0, .int .i64 x.of.ls.length, .bool t.over, .int .i64 t.code, .string t.text, .bool t.has, .string t.name, .int .i64 t.steps] 48)) B [.int .i64 x.no, .bool x.up, .bool x.has, .int .i64 x.of.kd, .int .i64 x.of.to, .int .i64 x.of.fr, .int .i64 x.of.ep, .int .i64 x.of.ed, .string x.of.km.nm, .string x.of.km.tl, .string x.of.km.ar, .slice (some ⟨b, 0, none⟩) x.of.ls.length n, .int .i64 x.of.ct, .bool x.of.tn.over, .int .i64 x.of.tn.cd, .string x.of.tn.tx, .bool x.of.tn.has, .string x.of.tn.nm, .int .i64 x.of.tn.st, .int .i64 0, .int .i64 0, .int .i64 0, .int .i64 0, .int .i64 0, .string ⟨#[]⟩, .string ⟨#[]⟩, .string ⟨#[]⟩, .slice none 0 0, .int .i64 0, .bool false, .int .i64 0, .string ⟨#[]⟩, .bool false, .string ⟨#[]⟩, .int .i64 0, .slice ao 1 cp]) := HZ3.out.below ((Below.refl _ _).alloc (Nat.le_refl _) _) (by omega)
   have HF4 : Hid (M.OpnAt (w3.alloc (.cells #[.int .i64 2, .int .i64 0, .int .i64 x.no, .int .i64 x.of.ep, .int .i64 x.of.ed, .string x.of.km.nm, .string ⟨#[]⟩, .string ⟨#[]⟩, .slice none 0 0, .int .i64 x.of.ls.length, .bool t.over, .int .i64 t.code, .string t.text, .bool t.has, .string t.name, .int .i64 t.steps] 48)) B) := HF3.out.below ((Below.refl _ _).alloc (Nat.le_refl _) _) (by omega)
   have HQ4 : Hid (M.BlkAt (w3.alloc (.cells #[.int .i64 2, .int .i64 0, .int .i64 x.no, .int .i64 x.of.ep, .int .i64 x.of.ed, .string x.of.km.nm, .string ⟨#[]⟩, .string ⟨#[]⟩, .slice none 0 0, .int .i64 x.of.ls.length, .bool t.over, .int .i64 t.code, .string t.text, .bool t.has, .string t.name, .int .i64 t.steps] 48)) Of [.int .i64 x.of.kd, .int .i64 x.of.to, .int .i64 x.of.fr, .int .i64 x.of.ep, .int .i64 x.of.ed, .string x.of.km.nm, .string x.of.km.tl, .string x.of.km.ar, .slice (some ⟨b, 0, none⟩) x.of.ls.length n, .int .i64 x.of.ct, .bool x.of.tn.over, .int .i64 x.of.tn.cd, .string x.of.tn.tx, .bool x.of.tn.has, .string x.of.tn.nm, .int .i64 x.of.tn.st]) := HQ3.out.below ((Below.refl _ _).alloc (Nat.le_refl _) _) (by omega)
   have HO4 : Hid ((w3.alloc (.cells #[.int .i64 2, .int .i64 0, .int .i64 x.no, .int .i64 x.of.ep, .int .i64 x.of.ed, .string x.of.km.nm, .string ⟨#[]⟩, .string ⟨#[]⟩, .slice none 0 0, .int .i64 x.of.ls.length, .bool t.over, .int .i64 t.code, .string t.text, .bool t.has, .string t.name, .int .i64 t.steps] 48)).ownsRow (B + 1) 48 16 (.slice ao 1 cp) 1 [.int .i64 3, .int .i64 0, .int .i64 x.no, .int .i64 0, .int .i64 0, .string ⟨#[]⟩, .string ⟨#[]⟩, .string ⟨#[]⟩, .slice none 0 0, .int .i64 0, .bool false, .int .i64 0, .string ⟨#[]⟩, .bool false, .string ⟨#[]⟩, .int .i64 0]) := World.ownsRow.alloc HO3.out _
   have HB4 : Hid (Below wA.heap.size wA (w3.alloc (.cells #[.int .i64 2, .int .i64 0, .int .i64 x.no, .int .i64 x.of.ep, .int .i64 x.of.ed, .string x.of.km.nm, .string ⟨#[]⟩, .string ⟨#[]⟩, .slice none 0 0, .int .i64 x.of.ls.length, .bool t.over, .int .i64 t.code, .string t.text, .bool t.has, .string t.name, .int .i64 t.steps] 48))) := HB3.out.alloc hz3 _
   have HR4 : Hid (∀ j u, ([.int .i64 2, .int .i64 0, .int .i64 x.no, .int .i64 x.of.ep, .int .i64 x.of.ed, .string x.of.km.nm, .string ⟨#[]⟩, .string ⟨#[]⟩, .slice none 0 0, .int .i64 x.of.ls.length, .bool t.over, .int .i64 t.code, .string t.text, .bool t.has, .string t.name, .int .i64 t.steps] : List Value)[j]? = some u → (w3.alloc (.cells #[.int .i64 2, .int .i64 0, .int .i64 x.no, .int .i64 x.of.ep, .int .i64 x.of.ed, .string x.of.km.nm, .string ⟨#[]⟩, .string ⟨#[]⟩, .slice none 0 0, .int .i64 x.of.ls.length, .bool t.over, .int .i64 t.code, .string t.text, .bool t.has, .string t.name, .int .i64 t.steps] 48)).cell? ((⟨w3.heap.size, 0, none⟩ : Addr).add j) = some u) := row16n rfl [.int .i64 2, .int .i64 0, .int .i64 x.no, .int .i64 x.of.ep, .int .i64 x.of.ed, .string x.of.km.nm, .string ⟨#[]⟩, .string ⟨#[]⟩, .slice none 0 0, .int .i64 x.of.ls.length, .bool t.over, .int .i64 t.code, .string t.text, .bool t.has, .string t.name, .int .i64 t.steps] 48
   have hz4 : (w3.alloc (.cells #[.int .i64 2, .int .i64 0, .int .i64 x.no, .int .i64 x.of.ep, .int .i64 x.of.ed, .string x.of.km.nm, .string ⟨#[]⟩, .string ⟨#[]⟩, .slice none 0 0, .int .i64 x.of.ls.length, .bool t.over, .int .i64 t.code, .string t.text, .bool t.has, .string t.name, .int .i64 t.steps] 48)).heap.size = w3.heap.size + 1 := by simp
   have e0 := HZ4.out 0 _ rfl
   have eo3 := HQ4.out 3 _ rfl
   have eo4 := HQ4.out 4 _ rfl
   have eo5 := HQ4.out 5 _ rfl
   have eo6 := HQ4.out 6 _ rfl
   have eo7 := HQ4.out 7 _ rfl
   have eo8 := HQ4.out 8 _ rfl
   have e35 := HZ4.out 35 _ rfl
   clear hHeld
   refine hK.out _ _ ?_ (fun hHeld => ?_)
   · ((try dsimp only); go_keep)
   clear hK K
   try simp only [Act.put, List.setIfInBounds_toArray, List.set_cons_zero, List.set_cons_succ]
   generalize (w3.alloc (.cells #[.int .i64 2, .int .i64 0, .int .i64 x.no, .int .i64 x.of.ep, .int .i64 x.of.ed, .string x.of.km.nm, .string ⟨#[]⟩, .string ⟨#[]⟩, .slice none 0 0, .int .i64 x.of.ls.length, .bool t.over, .int .i64 t.code, .string t.text, .bool t.has, .string t.name, .int .i64 t.steps] 48)) = w4 at *
   refine wpAnyH_ready (rs := [28]) (by kernel_rfl) (by simp) ?_
   refine AllReadyH.cons (o := { dst := some 37, op := Op.call { callee := Callee.builtin Builtin.append, args := #[Operand.tmp 13, Operand.tmp 36], argTypes := #[51, 51] }, type := 51, pos := "l8_worker.go:102", after := #[{ on := 4, ground := Ground.data }, { on := 27, ground := Ground.data }, { on := 25, ground := Ground.chain }], guard := none }) rfl (fun K hK => ?_) AllReadyH.nil
   refine M.step_app rfl (.tmp 13) (.tmp 36) 51 rfl (B + 1) 48 i0 (.agg #[.int .i64 0, .int .i64 0, .int .i64 0, .int .i64 0, .int .i64 0, .string ⟨#[]⟩, .string ⟨#[]⟩, .string ⟨#[]⟩, .slice none 0 0, .int .i64 0, .bool false, .int .i64 0, .string ⟨#[]⟩, .bool false, .string ⟨#[]⟩, .int .i64 0]) 16 184 Tryz.underlying51 hi hz0 hz1 hz2 rfl (by decide) _ _ _ rfl HO4.out ⟨w3.heap.size, 0, none⟩ 1 1 [.int .i64 2, .int .i64 0, .int .i64 x.no, .int .i64 x.of.ep, .int .i64 x.of.ed, .string x.of.km.nm, .string ⟨#[]⟩, .string ⟨#[]⟩, .slice none 0 0, .int .i64 x.of.ls.length, .bool t.over, .int .i64 t.code, .string t.text, .bool t.has, .string t.name, .int .i64 t.steps] rfl rfl HR4.out (by simp [Value.oneCell']) (by unfold maxLen; omega) (by omega) (by omega) ?_
   intro v' w5 hown5 hgrow
   have hrow : ∀ k, (Value.slice ao 1 cp).ownBlock = some k → B + 1 ≤ k := fun k hk => (own_block HO4.out hk).1
   have hOfr : ∀ k, (Value.slice ao 1 cp).ownBlock = some k → k < w.heap.size := fun k hk => by obtain ⟨_, cur, hc⟩ := own_block HOW.out hk; exact blk_lt hc
   have hbl : ∀ k, k < w4.heap.size → some k ≠ (Value.slice ao 1 cp).ownBlock → w5.heap[k]? = w4.heap[k]? := fun k hk hne => hgrow.block k hk hne
   have HB5 : Hid (Below B w w5) := ((HBA.out.mono (by omega)).trans (HB4.out.mono (by omega))).grown hgrow (by omega) (fun k hk => by have := hrow k hk; omega)
   have hBB : w5.heap[B]? = w4.heap[B]? := hbl B (by omega) (fun e => by have := hrow B e.symm; omega)
   have hOO : w5.heap[Of]? = w4.heap[Of]? := hbl Of (by omega) (fun e => by have := hOfr Of e.symm; have := HOE.out; omega)
   have HZ5 : Hid (M.BlkAt w5 B [.int .i64 x.no, .bool x.up, .bool x.has, .int .i64 x.of.kd, .int .i64 x.of.to, .int .i64 x.of.fr, .int .i64 x.of.ep, .int .i64 x.of.ed, .string x.of.km.nm, .string x.of.km.tl, .string x.of.km.ar, .slice (some ⟨b, 0, none⟩) x.of.ls.length n, .int .i64 x.of.ct, .bool x.of.tn.over, .int .i64 x.of.tn.cd, .string x.of.tn.tx, .bool x.of.tn.has, .string x.of.tn.nm, .int .i64 x.of.tn.st, .int .i64 0, .int .i64 0, .int .i64 0, .int .i64 0, .int .i64 0, .string ⟨#[]⟩, .string ⟨#[]⟩, .string ⟨#[]⟩, .slice none 0 0, .int .i64 0, .bool false, .int .i64 0, .string ⟨#[]⟩, .bool false, .string ⟨#[]⟩, .int .i64 0, .slice ao 1 cp]) := fun j v e => (World.cell?_of_block (a := ⟨B, j, none⟩) hBB).trans (HZ4.out j v e)
   have HF5 : Hid (M.OpnAt w5 B) := fun j => (World.frozen?_of_block (a := ⟨B, j, none⟩) hBB).trans (HF4.out j)
   have HQ5 : Hid (M.BlkAt w5 Of [.int .i64 x.of.kd, .int .i64 x.of.to, .int .i64 x.of.fr, .int .i64 x.of.ep, .int .i64 x.of.ed, .string x.of.km.nm, .string x.of.km.tl, .string x.of.km.ar, .slice (some ⟨b, 0, none⟩) x.of.ls.length n, .int .i64 x.of.ct, .bool x.of.tn.over, .int .i64 x.of.tn.cd, .string x.of.tn.tx, .bool x.of.tn.has, .string x.of.tn.nm, .int .i64 x.of.tn.st]) := fun j v e => (World.cell?_of_block (a := ⟨Of, j, none⟩) hOO).trans (HQ4.out j v e)
   obtain ⟨a5, c5, rfl⟩ := row_formN hown5
   have HO5 := hidI hown5
   have g0 := HZ5.out 0 _ rfl
   have go3 := HQ5.out 3 _ rfl
   have go4 := HQ5.out 4 _ rfl
   have go5 := HQ5.out 5 _ rfl
   have go6 := HQ5.out 6 _ rfl
   have go7 := HQ5.out 7 _ rfl
   have go8 := HQ5.out 8 _ rfl
   have g35 := HZ5.out 35 _ rfl
   have gf35 := HF5.out 35
   clear hgrow hown5 hbl hBB hOO hrow hOfr
   clear hHeld
   refine hK.out _ _ ?_ (fun hHeld => ?_)
   · ((try dsimp only); go_keep)
   clear hK K
   try simp only [Act.put, List.setIfInBounds_toArray, List.set_cons_zero, List.set_cons_succ]
   refine wpAnyH_take (i := 29) (oi := { dst := some 38, op := Op.nilCheck (Operand.tmp 9), type := 0, pos := "l8_worker.go:102", after := #[{ on := 0, ground := Ground.data }, { on := 0, ground := Ground.phase }, { on := 1, ground := Ground.phase }, { on := 2, ground := Ground.phase }, { on := 3, ground := Ground.phase }, { on := 4, ground := Ground.phase }, { on := 5, ground := Ground.phase }, { on := 6, ground := Ground.phase }, { on := 7, ground := Ground.phase }, { on := 8, ground := Ground.phase }, { on := 9, ground := Ground.phase }, { on := 10, ground := Ground.phase }, { on := 11, ground := Ground.phase }, { on := 12, ground := Ground.phase }, { on := 13, ground := Ground.phase }, { on := 14, ground := Ground.phase }, { on := 15, ground := Ground.phase }, { on := 16, ground := Ground.phase }, { on := 17, ground := Ground.phase }, { on := 18, ground := Ground.phase }, { on := 19, ground := Ground.phase }, { on := 20, ground := Ground.phase }, { on := 21, ground := Ground.phase }, { on := 22, ground := Ground.phase }, { on := 23, ground := Ground.phase }, { on := 24, ground := Ground.phase }, { on := 25, ground := Ground.phase }, { on := 26, ground := Ground.phase }, { on := 27, ground := Ground.phase }, { on := 28, ground := Ground.phase }], guard := none }) (v := ?_) rfl (by kernel_rfl) (by kernel_rfl) (by kernel_rfl) (fun _ _ _ h => h) (Or.inl ⟨by rfl, ?_⟩) (by assumption) ?_
   rotate_left
   · intro wq hSw
     (try dsimp only at hSw)
     go_simp
     try with_reducible rfl
   try simp only [Act.put, List.setIfInBounds_toArray, List.set_cons_zero, List.set_cons_succ]
   refine wpAnyH_take (i := 30) (oi := { dst := some 39, op := Op.fieldAddr 92 (Operand.tmp 38) 2, type := 0, pos := "l8_worker.go:102", after := #[{ on := 29, ground := Ground.data }, { on := 0, ground := Ground.phase }, { on := 1, ground := Ground.phase }, { on := 2, ground := Ground.phase }, { on := 3, ground := Ground.phase }, { on := 4, ground := Ground.phase }, { on := 5, ground := Ground.phase }, { on := 6, ground := Ground.phase }, { on := 7, ground := Ground.phase }, { on := 8, ground := Ground.phase }, { on := 9, ground := Ground.phase }, { on := 10, ground := Ground.phase }, { on := 11, ground := Ground.phase }, { on := 12, ground := Ground.phase }, { on := 13, ground := Ground.phase }, { on := 14, ground := Ground.phase }, { on := 15, ground := Ground.phase }, { on := 16, ground := Ground.phase }, { on := 17, ground := Ground.phase }, { on := 18, ground := Ground.phase }, { on := 19, ground := Ground.phase }, { on := 20, ground := Ground.phase }, { on := 21, ground := Ground.phase }, { on := 22, ground := Ground.phase }, { on := 23, ground := Ground.phase }, { on := 24, ground := Ground.phase }, { on := 25, ground := Ground.phase }, { on := 26, ground := Ground.phase }, { on := 27, ground := Ground.phase }, { on := 28, ground := Ground.phase }], guard := none }) (v := ?_) rfl (by kernel_rfl) (by kernel_rfl) (by kernel_rfl) (fun _ _ _ h => h) (Or.inl ⟨by rfl, ?_⟩) (by assumption) ?_
   rotate_left
   · intro wq hSw
     (try dsimp only at hSw)
     go_simp
     try with_reducible rfl
   try simp only [Act.put, List.setIfInBounds_toArray, List.set_cons_zero, List.set_cons_succ]
   refine wpAnyH_ready (rs := [31]) (by kernel_rfl) (by simp) ?_
   refine AllReadyH.cons (o := { dst := none, op := Op.store 51 (Operand.tmp 39) (Operand.tmp 37), type := 0, pos := "l8_worker.go:102", after := #[{ on := 30, ground := Ground.data }, { on := 28, ground := Ground.data }, { on := 28, ground := Ground.chain }, { on := 0, ground := Ground.phase }, { on := 1, ground := Ground.phase }, { on := 2, ground := Ground.phase }, { on := 3, ground := Ground.phase }, { on := 4, ground := Ground.phase }, { on := 5, ground := Ground.phase }, { on := 6, ground := Ground.phase }, { on := 7, ground := Ground.phase }, { on := 8, ground := Ground.phase }, { on := 9, ground := Ground.phase }, { on := 10, ground := Ground.phase }, { on := 11, ground := Ground.phase }, { on := 12, ground := Ground.phase }, { on := 13, ground := Ground.phase }, { on := 14, ground := Ground.phase }, { on := 15, ground := Ground.phase }, { on := 16, ground := Ground.phase }, { on := 17, ground := Ground.phase }, { on := 18, ground := Ground.phase }, { on := 19, ground := Ground.phase }, { on := 20, ground := Ground.phase }, { on := 21, ground := Ground.phase }, { on := 22, ground := Ground.phase }, { on := 23, ground := Ground.phase }, { on := 24, ground := Ground.phase }, { on := 25, ground := Ground.phase }, { on := 26, ground := Ground.phase }, { on := 27, ground := Ground.phase }, { on := 28, ground := Ground.phase }], guard := none }) rfl (fun K hK => ?_) AllReadyH.nil
   go_simp
   have HZ6 : Hid (M.BlkAt (w5.setCell ⟨B, 35, none⟩ (.slice a5 2 c5)) B [.int .i64 x.no, .bool x.up, .bool x.has, .int .i64 x.of.kd, .int .i64 x.of.to, .int .i64 x.of.fr, .int .i64 x.of.ep, .int .i64 x.of.ed, .string x.of.km.nm, .string x.of.km.tl, .string x.of.km.ar, .slice (some ⟨b, 0, none⟩) x.of.ls.length n, .int .i64 x.of.ct, .bool x.of.tn.over, .int .i64 x.of.tn.cd, .string x.of.tn.tx, .bool x.of.tn.has, .string x.of.tn.nm, .int .i64 x.of.tn.st, .int .i64 0, .int .i64 0, .int .i64 0, .int .i64 0, .int .i64 0, .string ⟨#[]⟩, .string ⟨#[]⟩, .string ⟨#[]⟩, .slice none 0 0, .int .i64 0, .bool false, .int .i64 0, .string ⟨#[]⟩, .bool false, .string ⟨#[]⟩, .int .i64 0, .slice a5 2 c5]) := HZ5.out.set 35 (.slice a5 2 c5) (by simp)
   have HQ6 : Hid (M.BlkAt (w5.setCell ⟨B, 35, none⟩ (.slice a5 2 c5)) Of [.int .i64 x.of.kd, .int .i64 x.of.to, .int .i64 x.of.fr, .int .i64 x.of.ep, .int .i64 x.of.ed, .string x.of.km.nm, .string x.of.km.tl, .string x.of.km.ar, .slice (some ⟨b, 0, none⟩) x.of.ls.length n, .int .i64 x.of.ct, .bool x.of.tn.over, .int .i64 x.of.tn.cd, .string x.of.tn.tx, .bool x.of.tn.has, .string x.of.tn.nm, .int .i64 x.of.tn.st]) := HQ5.out.other ⟨B, 35, none⟩ _ (by show B ≠ Of; have := HOE.out; omega)
   have k0 := HZ6.out 0 _ rfl
   have ko3 := HQ6.out 3 _ rfl
   have ko4 := HQ6.out 4 _ rfl
   have ko5 := HQ6.out 5 _ rfl
   have ko6 := HQ6.out 6 _ rfl
   have ko7 := HQ6.out 7 _ rfl
   have ko8 := HQ6.out 8 _ rfl
   clear hHeld
   refine hK.out _ _ ?_ (fun hHeld => ?_)
   · ((try dsimp only); go_keep)
   clear hK K
   try simp only [Act.put, List.setIfInBounds_toArray, List.set_cons_zero, List.set_cons_succ]
   refine wpAnyH_done (by kernel_rfl) ?_ _
   clear hHeld
   have HF6 : Hid (M.OpnAt (w5.setCell ⟨B, 35, none⟩ (.slice a5 2 c5)) B) := HF5.out.set _ _
   have HO6 : Hid ((w5.setCell ⟨B, 35, none⟩ (.slice a5 2 c5)).ownsRow (B + 1) 48 16 (.slice a5 2 c5) 2 ([.int .i64 3, .int .i64 0, .int .i64 x.no, .int .i64 0, .int .i64 0, .string ⟨#[]⟩, .string ⟨#[]⟩, .string ⟨#[]⟩, .slice none 0 0, .int .i64 0, .bool false, .int .i64 0, .string ⟨#[]⟩, .bool false, .string ⟨#[]⟩, .int .i64 0] ++ [.int .i64 2, .int .i64 0, .int .i64 x.no, .int .i64 x.of.ep, .int .i64 x.of.ed, .string x.of.km.nm, .string ⟨#[]⟩, .string ⟨#[]⟩, .slice none 0 0, .int .i64 x.of.ls.length, .bool t.over, .int .i64 t.code, .string t.text, .bool t.has, .string t.name, .int .i64 t.steps])) := ownsRow_setCell_below HO5.out (by show B < B + 1; omega) _
   have HB6 : Hid (Below B w (w5.setCell ⟨B, 35, none⟩ (.slice a5 2 c5))) := HB5.out.setCell (by exact Nat.le_refl B) _
   go_wp2
   go_ret
   exact ⟨rfl, ⟨_, HZ6.out, HO6.out⟩, HF6.out, HB6.out⟩
 · go_simp
   refine (c11t x.of.km (some ⟨b, 0, none⟩) n x.of.ls wA.drew HM.out hl HS.out HAT.out HSH.out HMX.out HT.out).mono ?_
   rintro e w3 ⟨rfl, hb3⟩
   have HB3 : Hid (Below wA.heap.size wA w3) := (Below.refl _ _).drew.trans hb3
   have HZ3 := hidI (HZ.out.below HB3.out hBA)
   have HF3 : Hid (M.OpnAt w3 B) := HF.out.below HB3.out hBA
   have HQ3 := hidI (HQ.out.below HB3.out hOf)
   have HO3 := hidI (ownsRow_below HO.out HB3.out)
   have hz3 : wA.heap.size ≤ w3.heap.size := HB3.out.size
   have c0 := HZ3.out 0 _ rfl
   have co3 := HQ3.out 3 _ rfl
   have co4 := HQ3.out 4 _ rfl
   have co5 := HQ3.out 5 _ rfl
   have co6 := HQ3.out 6 _ rfl
   have co7 := HQ3.out 7 _ rfl
   have co8 := HQ3.out 8 _ rfl
   have c35 := HZ3.out 35 _ rfl
   clear hb3
   go_wp2_with fail
   clear hHeld
   refine hK.out _ _ ?_ (fun hHeld => ?_)
   · ((try dsimp only); go_keep)
   clear hK K
   try simp only [Act.put, List.setIfInBounds_toArray, List.set_cons_zero, List.set_cons_succ]
   refine wpAnyH_take (i := 26) (oi := { dst := some 35, op := Op.build 48 #[(0, Operand.const (Value.int IntKind.i64 2)), (2, Operand.tmp 18), (3, Operand.tmp 20), (4, Operand.tmp 22), (5, Operand.tmp 26), (7, Operand.tmp 29), (8, Operand.tmp 34)], type := 48, pos := "l8_worker.go:102", after := #[{ on := 9, ground := Ground.data }, { on := 11, ground := Ground.data }, { on := 13, ground := Ground.data }, { on := 17, ground := Ground.data }, { on := 20, ground := Ground.data }, { on := 25, ground := Ground.data }], guard := none }) (v := ?_) rfl (by kernel_rfl) (by kernel_rfl) (by kernel_rfl) (fun _ _ _ h => h) (Or.inl ⟨by rfl, ?_⟩) (by assumption) ?_
   rotate_left
   · intro wq hSw
     (try dsimp only at hSw)
     go_simp
     try with_reducible rfl
   try simp only [Act.put, List.setIfInBounds_toArray, List.set_cons_zero, List.set_cons_succ]
   refine wpAnyH_ready (rs := [4, 27]) (by kernel_rfl) (by simp) ?_
   refine AllReadyH.cons (o := { dst := some 13, op := Op.load 51 (Operand.tmp 12), type := 51, pos := "l8_worker.go:102", after := #[{ on := 3, ground := Ground.data }], guard := none }) rfl (fun K hK => ?_) (AllReadyH.cons (o := { dst := some 36, op := Op.buildSlice 51 1 #[(0, Operand.tmp 35)], type := 51, pos := "l8_worker.go:102", after := #[{ on := 26, ground := Ground.data }], guard := none }) rfl (fun K hK => ?_) AllReadyH.nil)
   · go_simp
     clear hHeld
     refine hK.out _ _ ?_ (fun hHeld => ?_)
     · ((try dsimp only); go_keep)
     clear hK K
     try simp only [Act.put, List.setIfInBounds_toArray, List.set_cons_zero, List.set_cons_succ]
     refine wpAnyH_ready (rs := [27]) (by kernel_rfl) (by simp) ?_
     refine AllReadyH.cons (o := { dst := some 36, op := Op.buildSlice 51 1 #[(0, Operand.tmp 35)], type := 51, pos := "l8_worker.go:102", after := #[{ on := 26, ground := Ground.data }], guard := none }) rfl (fun K hK => ?_) AllReadyH.nil
     go_simp
     have HZ4 : Hid (M.BlkAt (w3.alloc (.cells #[.int .i64 2, .int .i64 0, .int .i64 x.no, .int .i64 x.of.ep, .int .i64 x.of.ed, .string x.of.km.nm, .string ⟨#[]⟩, .string ⟨#[]⟩, .slice none 0 0, .int .i64 x.of.ls.length, .bool t.over, .int .i64 t.code, .string t.text, .bool t.has, .string t.name, .int .i64 t.steps] 48)) B [.int .i64 x.no, .bool x.up, .bool x.has, .int .i64 x.of.kd, .int .i64 x.of.to, .int .i64 x.of.fr, .int .i64 x.of.ep, .int .i64 x.of.ed, .string x.of.km.nm, .string x.of.km.tl, .string x.of.km.ar, .slice (some ⟨b, 0, none⟩) x.of.ls.length n, .int .i64 x.of.ct, .bool x.of.tn.over, .int .i64 x.of.tn.cd, .string x.of.tn.tx, .bool x.of.tn.has, .string x.of.tn.nm, .int .i64 x.of.tn.st, .int .i64 0, .int .i64 0, .int .i64 0, .int .i64 0, .int .i64 0, .string ⟨#[]⟩, .string ⟨#[]⟩, .string ⟨#[]⟩, .slice none 0 0, .int .i64 0, .bool false, .int .i64 0, .string ⟨#[]⟩, .bool false, .string ⟨#[]⟩, .int .i64 0, .slice ao 1 cp]) := HZ3.out.below ((Below.refl _ _).alloc (Nat.le_refl _) _) (by omega)
     have HF4 : Hid (M.OpnAt (w3.alloc (.cells #[.int .i64 2, .int .i64 0, .int .i64 x.no, .int .i64 x.of.ep, .int .i64 x.of.ed, .string x.of.km.nm, .string ⟨#[]⟩, .string ⟨#[]⟩, .slice none 0 0, .int .i64 x.of.ls.length, .bool t.over, .int .i64 t.code, .string t.text, .bool t.has, .string t.name, .int .i64 t.steps] 48)) B) := HF3.out.below ((Below.refl _ _).alloc (Nat.le_refl _) _) (by omega)
     have HQ4 : Hid (M.BlkAt (w3.alloc (.cells #[.int .i64 2, .int .i64 0, .int .i64 x.no, .int .i64 x.of.ep, .int .i64 x.of.ed, .string x.of.km.nm, .string ⟨#[]⟩, .string ⟨#[]⟩, .slice none 0 0, .int .i64 x.of.ls.length, .bool t.over, .int .i64 t.code, .string t.text, .bool t.has, .string t.name, .int .i64 t.steps] 48)) Of [.int .i64 x.of.kd, .int .i64 x.of.to, .int .i64 x.of.fr, .int .i64 x.of.ep, .int .i64 x.of.ed, .string x.of.km.nm, .string x.of.km.tl, .string x.of.km.ar, .slice (some ⟨b, 0, none⟩) x.of.ls.length n, .int .i64 x.of.ct, .bool x.of.tn.over, .int .i64 x.of.tn.cd, .string x.of.tn.tx, .bool x.of.tn.has, .string x.of.tn.nm, .int .i64 x.of.tn.st]) := HQ3.out.below ((Below.refl _ _).alloc (Nat.le_refl _) _) (by omega)
     have HO4 : Hid ((w3.alloc (.cells #[.int .i64 2, .int .i64 0, .int .i64 x.no, .int .i64 x.of.ep, .int .i64 x.of.ed, .string x.of.km.nm, .string ⟨#[]⟩, .string ⟨#[]⟩, .slice none 0 0, .int .i64 x.of.ls.length, .bool t.over, .int .i64 t.code, .string t.text, .bool t.has, .string t.name, .int .i64 t.steps] 48)).ownsRow (B + 1) 48 16 (.slice ao 1 cp) 1 [.int .i64 3, .int .i64 0, .int .i64 x.no, .int .i64 0, .int .i64 0, .string ⟨#[]⟩, .string ⟨#[]⟩, .string ⟨#[]⟩, .slice none 0 0, .int .i64 0, .bool false, .int .i64 0, .string ⟨#[]⟩, .bool false, .string ⟨#[]⟩, .int .i64 0]) := World.ownsRow.alloc HO3.out _
     have HB4 : Hid (Below wA.heap.size wA (w3.alloc (.cells #[.int .i64 2, .int .i64 0, .int .i64 x.no, .int .i64 x.of.ep, .int .i64 x.of.ed, .string x.of.km.nm, .string ⟨#[]⟩, .string ⟨#[]⟩, .slice none 0 0, .int .i64 x.of.ls.length, .bool t.over, .int .i64 t.code, .string t.text, .bool t.has, .string t.name, .int .i64 t.steps] 48))) := HB3.out.alloc hz3 _
     have HR4 : Hid (∀ j u, ([.int .i64 2, .int .i64 0, .int .i64 x.no, .int .i64 x.of.ep, .int .i64 x.of.ed, .string x.of.km.nm, .string ⟨#[]⟩, .string ⟨#[]⟩, .slice none 0 0, .int .i64 x.of.ls.length, .bool t.over, .int .i64 t.code, .string t.text, .bool t.has, .string t.name, .int .i64 t.steps] : List Value)[j]? = some u → (w3.alloc (.cells #[.int .i64 2, .int .i64 0, .int .i64 x.no, .int .i64 x.of.ep, .int .i64 x.of.ed, .string x.of.km.nm, .string ⟨#[]⟩, .string ⟨#[]⟩, .slice none 0 0, .int .i64 x.of.ls.length, .bool t.over, .int .i64 t.code, .string t.text, .bool t.has, .string t.name, .int .i64 t.steps] 48)).cell? ((⟨w3.heap.size, 0, none⟩ : Addr).add j) = some u) := row16n rfl [.int .i64 2, .int .i64 0, .int .i64 x.no, .int .i64 x.of.ep, .int .i64 x.of.ed, .string x.of.km.nm, .string ⟨#[]⟩, .string ⟨#[]⟩, .slice none 0 0, .int .i64 x.of.ls.length, .bool t.over, .int .i64 t.code, .string t.text, .bool t.has, .string t.name, .int .i64 t.steps] 48
     have hz4 : (w3.alloc (.cells #[.int .i64 2, .int .i64 0, .int .i64 x.no, .int .i64 x.of.ep, .int .i64 x.of.ed, .string x.of.km.nm, .string ⟨#[]⟩, .string ⟨#[]⟩, .slice none 0 0, .int .i64 x.of.ls.length, .bool t.over, .int .i64 t.code, .string t.text, .bool t.has, .string t.name, .int .i64 t.steps] 48)).heap.size = w3.heap.size + 1 := by simp
     have e0 := HZ4.out 0 _ rfl
     have eo3 := HQ4.out 3 _ rfl
     have eo4 := HQ4.out 4 _ rfl
     have eo5 := HQ4.out 5 _ rfl
     have eo6 := HQ4.out 6 _ rfl
     have eo7 := HQ4.out 7 _ rfl
     have eo8 := HQ4.out 8 _ rfl
     have e35 := HZ4.out 35 _ rfl
     clear hHeld
     refine hK.out _ _ ?_ (fun hHeld => ?_)
     · ((try dsimp only); go_keep)
     clear hK K
     try simp only [Act.put, List.setIfInBounds_toArray, List.set_cons_zero, List.set_cons_succ]
     generalize (w3.alloc (.cells #[.int .i64 2, .int .i64 0, .int .i64 x.no, .int .i64 x.of.ep, .int .i64 x.of.ed, .string x.of.km.nm, .string ⟨#[]⟩, .string ⟨#[]⟩, .slice none 0 0, .int .i64 x.of.ls.length, .bool t.over, .int .i64 t.code, .string t.text, .bool t.has, .string t.name, .int .i64 t.steps] 48)) = w4 at *
     refine wpAnyH_ready (rs := [28]) (by kernel_rfl) (by simp) ?_
     refine AllReadyH.cons (o := { dst := some 37, op := Op.call { callee := Callee.builtin Builtin.append, args := #[Operand.tmp 13, Operand.tmp 36], argTypes := #[51, 51] }, type := 51, pos := "l8_worker.go:102", after := #[{ on := 4, ground := Ground.data }, { on := 27, ground := Ground.data }, { on := 25, ground := Ground.chain }], guard := none }) rfl (fun K hK => ?_) AllReadyH.nil
     refine M.step_app rfl (.tmp 13) (.tmp 36) 51 rfl (B + 1) 48 i0 (.agg #[.int .i64 0, .int .i64 0, .int .i64 0, .int .i64 0, .int .i64 0, .string ⟨#[]⟩, .string ⟨#[]⟩, .string ⟨#[]⟩, .slice none 0 0, .int .i64 0, .bool false, .int .i64 0, .string ⟨#[]⟩, .bool false, .string ⟨#[]⟩, .int .i64 0]) 16 184 Tryz.underlying51 hi hz0 hz1 hz2 rfl (by decide) _ _ _ rfl HO4.out ⟨w3.heap.size, 0, none⟩ 1 1 [.int .i64 2, .int .i64 0, .int .i64 x.no, .int .i64 x.of.ep, .int .i64 x.of.ed, .string x.of.km.nm, .string ⟨#[]⟩, .string ⟨#[]⟩, .slice none 0 0, .int .i64 x.of.ls.length, .bool t.over, .int .i64 t.code, .string t.text, .bool t.has, .string t.name, .int .i64 t.steps] rfl rfl HR4.out (by simp [Value.oneCell']) (by unfold maxLen; omega) (by omega) (by omega) ?_
     intro v' w5 hown5 hgrow
     have hrow : ∀ k, (Value.slice ao 1 cp).ownBlock = some k → B + 1 ≤ k := fun k hk => (own_block HO4.out hk).1
     have hOfr : ∀ k, (Value.slice ao 1 cp).ownBlock = some k → k < w.heap.size := fun k hk => by obtain ⟨_, cur, hc⟩ := own_block HOW.out hk; exact blk_lt hc
     have hbl : ∀ k, k < w4.heap.size → some k ≠ (Value.slice ao 1 cp).ownBlock → w5.heap[k]? = w4.heap[k]? := fun k hk hne => hgrow.block k hk hne
     have HB5 : Hid (Below B w w5) := ((HBA.out.mono (by omega)).trans (HB4.out.mono (by omega))).grown hgrow (by omega) (fun k hk => by have := hrow k hk; omega)
     have hBB : w5.heap[B]? = w4.heap[B]? := hbl B (by omega) (fun e => by have := hrow B e.symm; omega)
     have hOO : w5.heap[Of]? = w4.heap[Of]? := hbl Of (by omega) (fun e => by have := hOfr Of e.symm; have := HOE.out; omega)
     have HZ5 : Hid (M.BlkAt w5 B [.int .i64 x.no, .bool x.up, .bool x.has, .int .i64 x.of.kd, .int .i64 x.of.to, .int .i64 x.of.fr, .int .i64 x.of.ep, .int .i64 x.of.ed, .string x.of.km.nm, .string x.of.km.tl, .string x.of.km.ar, .slice (some ⟨b, 0, none⟩) x.of.ls.length n, .int .i64 x.of.ct, .bool x.of.tn.over, .int .i64 x.of.tn.cd, .string x.of.tn.tx, .bool x.of.tn.has, .string x.of.tn.nm, .int .i64 x.of.tn.st, .int .i64 0, .int .i64 0, .int .i64 0, .int .i64 0, .int .i64 0, .string ⟨#[]⟩, .string ⟨#[]⟩, .string ⟨#[]⟩, .slice none 0 0, .int .i64 0, .bool false, .int .i64 0, .string ⟨#[]⟩, .bool false, .string ⟨#[]⟩, .int .i64 0, .slice ao 1 cp]) := fun j v e => (World.cell?_of_block (a := ⟨B, j, none⟩) hBB).trans (HZ4.out j v e)
     have HF5 : Hid (M.OpnAt w5 B) := fun j => (World.frozen?_of_block (a := ⟨B, j, none⟩) hBB).trans (HF4.out j)
     have HQ5 : Hid (M.BlkAt w5 Of [.int .i64 x.of.kd, .int .i64 x.of.to, .int .i64 x.of.fr, .int .i64 x.of.ep, .int .i64 x.of.ed, .string x.of.km.nm, .string x.of.km.tl, .string x.of.km.ar, .slice (some ⟨b, 0, none⟩) x.of.ls.length n, .int .i64 x.of.ct, .bool x.of.tn.over, .int .i64 x.of.tn.cd, .string x.of.tn.tx, .bool x.of.tn.has, .string x.of.tn.nm, .int .i64 x.of.tn.st]) := fun j v e => (World.cell?_of_block (a := ⟨Of, j, none⟩) hOO).trans (HQ4.out j v e)
     obtain ⟨a5, c5, rfl⟩ := row_formN hown5
     have HO5 := hidI hown5
     have g0 := HZ5.out 0 _ rfl
     have go3 := HQ5.out 3 _ rfl
     have go4 := HQ5.out 4 _ rfl
     have go5 := HQ5.out 5 _ rfl
     have go6 := HQ5.out 6 _ rfl
     have go7 := HQ5.out 7 _ rfl
     have go8 := HQ5.out 8 _ rfl
     have g35 := HZ5.out 35 _ rfl
     have gf35 := HF5.out 35
     clear hgrow hown5 hbl hBB hOO hrow hOfr
     clear hHeld
     refine hK.out _ _ ?_ (fun hHeld => ?_)
     · ((try dsimp only); go_keep)
     clear hK K
     try simp only [Act.put, List.setIfInBounds_toArray, List.set_cons_zero, List.set_cons_succ]
     refine wpAnyH_take (i := 29) (oi := { dst := some 38, op := Op.nilCheck (Operand.tmp 9), type := 0, pos := "l8_worker.go:102", after := #[{ on := 0, ground := Ground.data }, { on := 0, ground := Ground.phase }, { on := 1, ground := Ground.phase }, { on := 2, ground := Ground.phase }, { on := 3, ground := Ground.phase }, { on := 4, ground := Ground.phase }, { on := 5, ground := Ground.phase }, { on := 6, ground := Ground.phase }, { on := 7, ground := Ground.phase }, { on := 8, ground := Ground.phase }, { on := 9, ground := Ground.phase }, { on := 10, ground := Ground.phase }, { on := 11, ground := Ground.phase }, { on := 12, ground := Ground.phase }, { on := 13, ground := Ground.phase }, { on := 14, ground := Ground.phase }, { on := 15, ground := Ground.phase }, { on := 16, ground := Ground.phase }, { on := 17, ground := Ground.phase }, { on := 18, ground := Ground.phase }, { on := 19, ground := Ground.phase }, { on := 20, ground := Ground.phase }, { on := 21, ground := Ground.phase }, { on := 22, ground := Ground.phase }, { on := 23, ground := Ground.phase }, { on := 24, ground := Ground.phase }, { on := 25, ground := Ground.phase }, { on := 26, ground := Ground.phase }, { on := 27, ground := Ground.phase }, { on := 28, ground := Ground.phase }], guard := none }) (v := ?_) rfl (by kernel_rfl) (by kernel_rfl) (by kernel_rfl) (fun _ _ _ h => h) (Or.inl ⟨by rfl, ?_⟩) (by assumption) ?_
     rotate_left
     · intro wq hSw
       (try dsimp only at hSw)
       go_simp
       try with_reducible rfl
     try simp only [Act.put, List.setIfInBounds_toArray, List.set_cons_zero, List.set_cons_succ]
     refine wpAnyH_take (i := 30) (oi := { dst := some 39, op := Op.fieldAddr 92 (Operand.tmp 38) 2, type := 0, pos := "l8_worker.go:102", after := #[{ on := 29, ground := Ground.data }, { on := 0, ground := Ground.phase }, { on := 1, ground := Ground.phase }, { on := 2, ground := Ground.phase }, { on := 3, ground := Ground.phase }, { on := 4, ground := Ground.phase }, { on := 5, ground := Ground.phase }, { on := 6, ground := Ground.phase }, { on := 7, ground := Ground.phase }, { on := 8, ground := Ground.phase }, { on := 9, ground := Ground.phase }, { on := 10, ground := Ground.phase }, { on := 11, ground := Ground.phase }, { on := 12, ground := Ground.phase }, { on := 13, ground := Ground.phase }, { on := 14, ground := Ground.phase }, { on := 15, ground := Ground.phase }, { on := 16, ground := Ground.phase }, { on := 17, ground := Ground.phase }, { on := 18, ground := Ground.phase }, { on := 19, ground := Ground.phase }, { on := 20, ground := Ground.phase }, { on := 21, ground := Ground.phase }, { on := 22, ground := Ground.phase }, { on := 23, ground := Ground.phase }, { on := 24, ground := Ground.phase }, { on := 25, ground := Ground.phase }, { on := 26, ground := Ground.phase }, { on := 27, ground := Ground.phase }, { on := 28, ground := Ground.phase }], guard := none }) (v := ?_) rfl (by kernel_rfl) (by kernel_rfl) (by kernel_rfl) (fun _ _ _ h => h) (Or.inl ⟨by rfl, ?_⟩) (by assumption) ?_
     rotate_left
     · intro wq hSw
       (try dsimp only at hSw)
       go_simp
       try with_reducible rfl
     try simp only [Act.put, List.setIfInBounds_toArray, List.set_cons_zero, List.set_cons_succ]
     refine wpAnyH_ready (rs := [31]) (by kernel_rfl) (by simp) ?_
     refine AllReadyH.cons (o := { dst := none, op := Op.store 51 (Operand.tmp 39) (Operand.tmp 37), type := 0, pos := "l8_worker.go:102", after := #[{ on := 30, ground := Ground.data }, { on := 28, ground := Ground.data }, { on := 28, ground := Ground.chain }, { on := 0, ground := Ground.phase }, { on := 1, ground := Ground.phase }, { on := 2, ground := Ground.phase }, { on := 3, ground := Ground.phase }, { on := 4, ground := Ground.phase }, { on := 5, ground := Ground.phase }, { on := 6, ground := Ground.phase }, { on := 7, ground := Ground.phase }, { on := 8, ground := Ground.phase }, { on := 9, ground := Ground.phase }, { on := 10, ground := Ground.phase }, { on := 11, ground := Ground.phase }, { on := 12, ground := Ground.phase }, { on := 13, ground := Ground.phase }, { on := 14, ground := Ground.phase }, { on := 15, ground := Ground.phase }, { on := 16, ground := Ground.phase }, { on := 17, ground := Ground.phase }, { on := 18, ground := Ground.phase }, { on := 19, ground := Ground.phase }, { on := 20, ground := Ground.phase }, { on := 21, ground := Ground.phase }, { on := 22, ground := Ground.phase }, { on := 23, ground := Ground.phase }, { on := 24, ground := Ground.phase }, { on := 25, ground := Ground.phase }, { on := 26, ground := Ground.phase }, { on := 27, ground := Ground.phase }, { on := 28, ground := Ground.phase }], guard := none }) rfl (fun K hK => ?_) AllReadyH.nil
     go_simp
     have HZ6 : Hid (M.BlkAt (w5.setCell ⟨B, 35, none⟩ (.slice a5 2 c5)) B [.int .i64 x.no, .bool x.up, .bool x.has, .int .i64 x.of.kd, .int .i64 x.of.to, .int .i64 x.of.fr, .int .i64 x.of.ep, .int .i64 x.of.ed, .string x.of.km.nm, .string x.of.km.tl, .string x.of.km.ar, .slice (some ⟨b, 0, none⟩) x.of.ls.length n, .int .i64 x.of.ct, .bool x.of.tn.over, .int .i64 x.of.tn.cd, .string x.of.tn.tx, .bool x.of.tn.has, .string x.of.tn.nm, .int .i64 x.of.tn.st, .int .i64 0, .int .i64 0, .int .i64 0, .int .i64 0, .int .i64 0, .string ⟨#[]⟩, .string ⟨#[]⟩, .string ⟨#[]⟩, .slice none 0 0, .int .i64 0, .bool false, .int .i64 0, .string ⟨#[]⟩, .bool false, .string ⟨#[]⟩, .int .i64 0, .slice a5 2 c5]) := HZ5.out.set 35 (.slice a5 2 c5) (by simp)
     have HQ6 : Hid (M.BlkAt (w5.setCell ⟨B, 35, none⟩ (.slice a5 2 c5)) Of [.int .i64 x.of.kd, .int .i64 x.of.to, .int .i64 x.of.fr, .int .i64 x.of.ep, .int .i64 x.of.ed, .string x.of.km.nm, .string x.of.km.tl, .string x.of.km.ar, .slice (some ⟨b, 0, none⟩) x.of.ls.length n, .int .i64 x.of.ct, .bool x.of.tn.over, .int .i64 x.of.tn.cd, .string x.of.tn.tx, .bool x.of.tn.has, .string x.of.tn.nm, .int .i64 x.of.tn.st]) := HQ5.out.other ⟨B, 35, none⟩ _ (by show B ≠ Of; have := HOE.out; omega)
     have k0 := HZ6.out 0 _ rfl
     have ko3 := HQ6.out 3 _ rfl
     have ko4 := HQ6.out 4 _ rfl
     have ko5 := HQ6.out 5 _ rfl
     have ko6 := HQ6.out 6 _ rfl
     have ko7 := HQ6.out 7 _ rfl
     have ko8 := HQ6.out 8 _ rfl
     clear hHeld
     refine hK.out _ _ ?_ (fun hHeld => ?_)
     · ((try dsimp only); go_keep)
     clear hK K
     try simp only [Act.put, List.setIfInBounds_toArray, List.set_cons_zero, List.set_cons_succ]
     refine wpAnyH_done (by kernel_rfl) ?_ _
     clear hHeld
     have HF6 : Hid (M.OpnAt (w5.setCell ⟨B, 35, none⟩ (.slice a5 2 c5)) B) := HF5.out.set _ _
     have HO6 : Hid ((w5.setCell ⟨B, 35, none⟩ (.slice a5 2 c5)).ownsRow (B + 1) 48 16 (.slice a5 2 c5) 2 ([.int .i64 3, .int .i64 0, .int .i64 x.no, .int .i64 0, .int .i64 0, .string ⟨#[]⟩, .string ⟨#[]⟩, .string ⟨#[]⟩, .slice none 0 0, .int .i64 0, .bool false, .int .i64 0, .string ⟨#[]⟩, .bool false, .string ⟨#[]⟩, .int .i64 0] ++ [.int .i64 2, .int .i64 0, .int .i64 x.no, .int .i64 x.of.ep, .int .i64 x.of.ed, .string x.of.km.nm, .string ⟨#[]⟩, .string ⟨#[]⟩, .slice none 0 0, .int .i64 x.of.ls.length, .bool t.over, .int .i64 t.code, .string t.text, .bool t.has, .string t.name, .int .i64 t.steps])) := ownsRow_setCell_below HO5.out (by show B < B + 1; omega) _
     have HB6 : Hid (Below B w (w5.setCell ⟨B, 35, none⟩ (.slice a5 2 c5))) := HB5.out.setCell (by exact Nat.le_refl B) _
     go_wp2
     go_ret
     exact ⟨rfl, ⟨_, HZ6.out, HO6.out⟩, HF6.out, HB6.out⟩
   · go_simp
     have HZ4 : Hid (M.BlkAt (w3.alloc (.cells #[.int .i64 2, .int .i64 0, .int .i64 x.no, .int .i64 x.of.ep, .int .i64 x.of.ed, .string x.of.km.nm, .string ⟨#[]⟩, .string ⟨#[]⟩, .slice none 0 0, .int .i64 x.of.ls.length, .bool t.over, .int .i64 t.code, .string t.text, .bool t.has, .string t.name, .int .i64 t.steps] 48)) B [.int .i64 x.no, .bool x.up, .bool x.has, .int .i64 x.of.kd, .int .i64 x.of.to, .int .i64 x.of.fr, .int .i64 x.of.ep, .int .i64 x.of.ed, .string x.of.km.nm, .string x.of.km.tl, .string x.of.km.ar, .slice (some ⟨b, 0, none⟩) x.of.ls.length n, .int .i64 x.of.ct, .bool x.of.tn.over, .int .i64 x.of.tn.cd, .string x.of.tn.tx, .bool x.of.tn.has, .string x.of.tn.nm, .int .i64 x.of.tn.st, .int .i64 0, .int .i64 0, .int .i64 0, .int .i64 0, .int .i64 0, .string ⟨#[]⟩, .string ⟨#[]⟩, .string ⟨#[]⟩, .slice none 0 0, .int .i64 0, .bool false, .int .i64 0, .string ⟨#[]⟩, .bool false, .string ⟨#[]⟩, .int .i64 0, .slice ao 1 cp]) := HZ3.out.below ((Below.refl _ _).alloc (Nat.le_refl _) _) (by omega)
     have HF4 : Hid (M.OpnAt (w3.alloc (.cells #[.int .i64 2, .int .i64 0, .int .i64 x.no, .int .i64 x.of.ep, .int .i64 x.of.ed, .string x.of.km.nm, .string ⟨#[]⟩, .string ⟨#[]⟩, .slice none 0 0, .int .i64 x.of.ls.length, .bool t.over, .int .i64 t.code, .string t.text, .bool t.has, .string t.name, .int .i64 t.steps] 48)) B) := HF3.out.below ((Below.refl _ _).alloc (Nat.le_refl _) _) (by omega)
     have HQ4 : Hid (M.BlkAt (w3.alloc (.cells #[.int .i64 2, .int .i64 0, .int .i64 x.no, .int .i64 x.of.ep, .int .i64 x.of.ed, .string x.of.km.nm, .string ⟨#[]⟩, .string ⟨#[]⟩, .slice none 0 0, .int .i64 x.of.ls.length, .bool t.over, .int .i64 t.code, .string t.text, .bool t.has, .string t.name, .int .i64 t.steps] 48)) Of [.int .i64 x.of.kd, .int .i64 x.of.to, .int .i64 x.of.fr, .int .i64 x.of.ep, .int .i64 x.of.ed, .string x.of.km.nm, .string x.of.km.tl, .string x.of.km.ar, .slice (some ⟨b, 0, none⟩) x.of.ls.length n, .int .i64 x.of.ct, .bool x.of.tn.over, .int .i64 x.of.tn.cd, .string x.of.tn.tx, .bool x.of.tn.has, .string x.of.tn.nm, .int .i64 x.of.tn.st]) := HQ3.out.below ((Below.refl _ _).alloc (Nat.le_refl _) _) (by omega)
     have HO4 : Hid ((w3.alloc (.cells #[.int .i64 2, .int .i64 0, .int .i64 x.no, .int .i64 x.of.ep, .int .i64 x.of.ed, .string x.of.km.nm, .string ⟨#[]⟩, .string ⟨#[]⟩, .slice none 0 0, .int .i64 x.of.ls.length, .bool t.over, .int .i64 t.code, .string t.text, .bool t.has, .string t.name, .int .i64 t.steps] 48)).ownsRow (B + 1) 48 16 (.slice ao 1 cp) 1 [.int .i64 3, .int .i64 0, .int .i64 x.no, .int .i64 0, .int .i64 0, .string ⟨#[]⟩, .string ⟨#[]⟩, .string ⟨#[]⟩, .slice none 0 0, .int .i64 0, .bool false, .int .i64 0, .string ⟨#[]⟩, .bool false, .string ⟨#[]⟩, .int .i64 0]) := World.ownsRow.alloc HO3.out _
     have HB4 : Hid (Below wA.heap.size wA (w3.alloc (.cells #[.int .i64 2, .int .i64 0, .int .i64 x.no, .int .i64 x.of.ep, .int .i64 x.of.ed, .string x.of.km.nm, .string ⟨#[]⟩, .string ⟨#[]⟩, .slice none 0 0, .int .i64 x.of.ls.length, .bool t.over, .int .i64 t.code, .string t.text, .bool t.has, .string t.name, .int .i64 t.steps] 48))) := HB3.out.alloc hz3 _
     have HR4 : Hid (∀ j u, ([.int .i64 2, .int .i64 0, .int .i64 x.no, .int .i64 x.of.ep, .int .i64 x.of.ed, .string x.of.km.nm, .string ⟨#[]⟩, .string ⟨#[]⟩, .slice none 0 0, .int .i64 x.of.ls.length, .bool t.over, .int .i64 t.code, .string t.text, .bool t.has, .string t.name, .int .i64 t.steps] : List Value)[j]? = some u → (w3.alloc (.cells #[.int .i64 2, .int .i64 0, .int .i64 x.no, .int .i64 x.of.ep, .int .i64 x.of.ed, .string x.of.km.nm, .string ⟨#[]⟩, .string ⟨#[]⟩, .slice none 0 0, .int .i64 x.of.ls.length, .bool t.over, .int .i64 t.code, .string t.text, .bool t.has, .string t.name, .int .i64 t.steps] 48)).cell? ((⟨w3.heap.size, 0, none⟩ : Addr).add j) = some u) := row16n rfl [.int .i64 2, .int .i64 0, .int .i64 x.no, .int .i64 x.of.ep, .int .i64 x.of.ed, .string x.of.km.nm, .string ⟨#[]⟩, .string ⟨#[]⟩, .slice none 0 0, .int .i64 x.of.ls.length, .bool t.over, .int .i64 t.code, .string t.text, .bool t.has, .string t.name, .int .i64 t.steps] 48
     have hz4 : (w3.alloc (.cells #[.int .i64 2, .int .i64 0, .int .i64 x.no, .int .i64 x.of.ep, .int .i64 x.of.ed, .string x.of.km.nm, .string ⟨#[]⟩, .string ⟨#[]⟩, .slice none 0 0, .int .i64 x.of.ls.length, .bool t.over, .int .i64 t.code, .string t.text, .bool t.has, .string t.name, .int .i64 t.steps] 48)).heap.size = w3.heap.size + 1 := by simp
     have e0 := HZ4.out 0 _ rfl
     have eo3 := HQ4.out 3 _ rfl
     have eo4 := HQ4.out 4 _ rfl
     have eo5 := HQ4.out 5 _ rfl
     have eo6 := HQ4.out 6 _ rfl
     have eo7 := HQ4.out 7 _ rfl
     have eo8 := HQ4.out 8 _ rfl
     have e35 := HZ4.out 35 _ rfl
     clear hHeld
     refine hK.out _ _ ?_ (fun hHeld => ?_)
     · ((try dsimp only); go_keep)
     clear hK K
     try simp only [Act.put, List.setIfInBounds_toArray, List.set_cons_zero, List.set_cons_succ]
     generalize (w3.alloc (.cells #[.int .i64 2, .int .i64 0, .int .i64 x.no, .int .i64 x.of.ep, .int .i64 x.of.ed, .string x.of.km.nm, .string ⟨#[]⟩, .string ⟨#[]⟩, .slice none 0 0, .int .i64 x.of.ls.length, .bool t.over, .int .i64 t.code, .string t.text, .bool t.has, .string t.name, .int .i64 t.steps] 48)) = w4 at *
     refine wpAnyH_ready (rs := [4]) (by kernel_rfl) (by simp) ?_
     refine AllReadyH.cons (o := { dst := some 13, op := Op.load 51 (Operand.tmp 12), type := 51, pos := "l8_worker.go:102", after := #[{ on := 3, ground := Ground.data }], guard := none }) rfl (fun K hK => ?_) AllReadyH.nil
     go_simp
     clear hHeld
     refine hK.out _ _ ?_ (fun hHeld => ?_)
     · ((try dsimp only); go_keep)
     clear hK K
     try simp only [Act.put, List.setIfInBounds_toArray, List.set_cons_zero, List.set_cons_succ]
     refine wpAnyH_ready (rs := [28]) (by kernel_rfl) (by simp) ?_
     refine AllReadyH.cons (o := { dst := some 37, op := Op.call { callee := Callee.builtin Builtin.append, args := #[Operand.tmp 13, Operand.tmp 36], argTypes := #[51, 51] }, type := 51, pos := "l8_worker.go:102", after := #[{ on := 4, ground := Ground.data }, { on := 27, ground := Ground.data }, { on := 25, ground := Ground.chain }], guard := none }) rfl (fun K hK => ?_) AllReadyH.nil
     refine M.step_app rfl (.tmp 13) (.tmp 36) 51 rfl (B + 1) 48 i0 (.agg #[.int .i64 0, .int .i64 0, .int .i64 0, .int .i64 0, .int .i64 0, .string ⟨#[]⟩, .string ⟨#[]⟩, .string ⟨#[]⟩, .slice none 0 0, .int .i64 0, .bool false, .int .i64 0, .string ⟨#[]⟩, .bool false, .string ⟨#[]⟩, .int .i64 0]) 16 184 Tryz.underlying51 hi hz0 hz1 hz2 rfl (by decide) _ _ _ rfl HO4.out ⟨w3.heap.size, 0, none⟩ 1 1 [.int .i64 2, .int .i64 0, .int .i64 x.no, .int .i64 x.of.ep, .int .i64 x.of.ed, .string x.of.km.nm, .string ⟨#[]⟩, .string ⟨#[]⟩, .slice none 0 0, .int .i64 x.of.ls.length, .bool t.over, .int .i64 t.code, .string t.text, .bool t.has, .string t.name, .int .i64 t.steps] rfl rfl HR4.out (by simp [Value.oneCell']) (by unfold maxLen; omega) (by omega) (by omega) ?_
     intro v' w5 hown5 hgrow
     have hrow : ∀ k, (Value.slice ao 1 cp).ownBlock = some k → B + 1 ≤ k := fun k hk => (own_block HO4.out hk).1
     have hOfr : ∀ k, (Value.slice ao 1 cp).ownBlock = some k → k < w.heap.size := fun k hk => by obtain ⟨_, cur, hc⟩ := own_block HOW.out hk; exact blk_lt hc
     have hbl : ∀ k, k < w4.heap.size → some k ≠ (Value.slice ao 1 cp).ownBlock → w5.heap[k]? = w4.heap[k]? := fun k hk hne => hgrow.block k hk hne
     have HB5 : Hid (Below B w w5) := ((HBA.out.mono (by omega)).trans (HB4.out.mono (by omega))).grown hgrow (by omega) (fun k hk => by have := hrow k hk; omega)
     have hBB : w5.heap[B]? = w4.heap[B]? := hbl B (by omega) (fun e => by have := hrow B e.symm; omega)
     have hOO : w5.heap[Of]? = w4.heap[Of]? := hbl Of (by omega) (fun e => by have := hOfr Of e.symm; have := HOE.out; omega)
     have HZ5 : Hid (M.BlkAt w5 B [.int .i64 x.no, .bool x.up, .bool x.has, .int .i64 x.of.kd, .int .i64 x.of.to, .int .i64 x.of.fr, .int .i64 x.of.ep, .int .i64 x.of.ed, .string x.of.km.nm, .string x.of.km.tl, .string x.of.km.ar, .slice (some ⟨b, 0, none⟩) x.of.ls.length n, .int .i64 x.of.ct, .bool x.of.tn.over, .int .i64 x.of.tn.cd, .string x.of.tn.tx, .bool x.of.tn.has, .string x.of.tn.nm, .int .i64 x.of.tn.st, .int .i64 0, .int .i64 0, .int .i64 0, .int .i64 0, .int .i64 0, .string ⟨#[]⟩, .string ⟨#[]⟩, .string ⟨#[]⟩, .slice none 0 0, .int .i64 0, .bool false, .int .i64 0, .string ⟨#[]⟩, .bool false, .string ⟨#[]⟩, .int .i64 0, .slice ao 1 cp]) := fun j v e => (World.cell?_of_block (a := ⟨B, j, none⟩) hBB).trans (HZ4.out j v e)
     have HF5 : Hid (M.OpnAt w5 B) := fun j => (World.frozen?_of_block (a := ⟨B, j, none⟩) hBB).trans (HF4.out j)
     have HQ5 : Hid (M.BlkAt w5 Of [.int .i64 x.of.kd, .int .i64 x.of.to, .int .i64 x.of.fr, .int .i64 x.of.ep, .int .i64 x.of.ed, .string x.of.km.nm, .string x.of.km.tl, .string x.of.km.ar, .slice (some ⟨b, 0, none⟩) x.of.ls.length n, .int .i64 x.of.ct, .bool x.of.tn.over, .int .i64 x.of.tn.cd, .string x.of.tn.tx, .bool x.of.tn.has, .string x.of.tn.nm, .int .i64 x.of.tn.st]) := fun j v e => (World.cell?_of_block (a := ⟨Of, j, none⟩) hOO).trans (HQ4.out j v e)
     obtain ⟨a5, c5, rfl⟩ := row_formN hown5
     have HO5 := hidI hown5
     have g0 := HZ5.out 0 _ rfl
     have go3 := HQ5.out 3 _ rfl
     have go4 := HQ5.out 4 _ rfl
     have go5 := HQ5.out 5 _ rfl
     have go6 := HQ5.out 6 _ rfl
     have go7 := HQ5.out 7 _ rfl
     have go8 := HQ5.out 8 _ rfl
     have g35 := HZ5.out 35 _ rfl
     have gf35 := HF5.out 35
     clear hgrow hown5 hbl hBB hOO hrow hOfr
     clear hHeld
     refine hK.out _ _ ?_ (fun hHeld => ?_)
     · ((try dsimp only); go_keep)
     clear hK K
     try simp only [Act.put, List.setIfInBounds_toArray, List.set_cons_zero, List.set_cons_succ]
     refine wpAnyH_take (i := 29) (oi := { dst := some 38, op := Op.nilCheck (Operand.tmp 9), type := 0, pos := "l8_worker.go:102", after := #[{ on := 0, ground := Ground.data }, { on := 0, ground := Ground.phase }, { on := 1, ground := Ground.phase }, { on := 2, ground := Ground.phase }, { on := 3, ground := Ground.phase }, { on := 4, ground := Ground.phase }, { on := 5, ground := Ground.phase }, { on := 6, ground := Ground.phase }, { on := 7, ground := Ground.phase }, { on := 8, ground := Ground.phase }, { on := 9, ground := Ground.phase }, { on := 10, ground := Ground.phase }, { on := 11, ground := Ground.phase }, { on := 12, ground := Ground.phase }, { on := 13, ground := Ground.phase }, { on := 14, ground := Ground.phase }, { on := 15, ground := Ground.phase }, { on := 16, ground := Ground.phase }, { on := 17, ground := Ground.phase }, { on := 18, ground := Ground.phase }, { on := 19, ground := Ground.phase }, { on := 20, ground := Ground.phase }, { on := 21, ground := Ground.phase }, { on := 22, ground := Ground.phase }, { on := 23, ground := Ground.phase }, { on := 24, ground := Ground.phase }, { on := 25, ground := Ground.phase }, { on := 26, ground := Ground.phase }, { on := 27, ground := Ground.phase }, { on := 28, ground := Ground.phase }], guard := none }) (v := ?_) rfl (by kernel_rfl) (by kernel_rfl) (by kernel_rfl) (fun _ _ _ h => h) (Or.inl ⟨by rfl, ?_⟩) (by assumption) ?_
     rotate_left
     · intro wq hSw
       (try dsimp only at hSw)
       go_simp
       try with_reducible rfl
     try simp only [Act.put, List.setIfInBounds_toArray, List.set_cons_zero, List.set_cons_succ]
     refine wpAnyH_take (i := 30) (oi := { dst := some 39, op := Op.fieldAddr 92 (Operand.tmp 38) 2, type := 0, pos := "l8_worker.go:102", after := #[{ on := 29, ground := Ground.data }, { on := 0, ground := Ground.phase }, { on := 1, ground := Ground.phase }, { on := 2, ground := Ground.phase }, { on := 3, ground := Ground.phase }, { on := 4, ground := Ground.phase }, { on := 5, ground := Ground.phase }, { on := 6, ground := Ground.phase }, { on := 7, ground := Ground.phase }, { on := 8, ground := Ground.phase }, { on := 9, ground := Ground.phase }, { on := 10, ground := Ground.phase }, { on := 11, ground := Ground.phase }, { on := 12, ground := Ground.phase }, { on := 13, ground := Ground.phase }, { on := 14, ground := Ground.phase }, { on := 15, ground := Ground.phase }, { on := 16, ground := Ground.phase }, { on := 17, ground := Ground.phase }, { on := 18, ground := Ground.phase }, { on := 19, ground := Ground.phase }, { on := 20, ground := Ground.phase }, { on := 21, ground := Ground.phase }, { on := 22, ground := Ground.phase }, { on := 23, ground := Ground.phase }, { on := 24, ground := Ground.phase }, { on := 25, ground := Ground.phase }, { on := 26, ground := Ground.phase }, { on := 27, ground := Ground.phase }, { on := 28, ground := Ground.phase }], guard := none }) (v := ?_) rfl (by kernel_rfl) (by kernel_rfl) (by kernel_rfl) (fun _ _ _ h => h) (Or.inl ⟨by rfl, ?_⟩) (by assumption) ?_
     rotate_left
     · intro wq hSw
       (try dsimp only at hSw)
       go_simp
       try with_reducible rfl
     try simp only [Act.put, List.setIfInBounds_toArray, List.set_cons_zero, List.set_cons_succ]
     refine wpAnyH_ready (rs := [31]) (by kernel_rfl) (by simp) ?_
     refine AllReadyH.cons (o := { dst := none, op := Op.store 51 (Operand.tmp 39) (Operand.tmp 37), type := 0, pos := "l8_worker.go:102", after := #[{ on := 30, ground := Ground.data }, { on := 28, ground := Ground.data }, { on := 28, ground := Ground.chain }, { on := 0, ground := Ground.phase }, { on := 1, ground := Ground.phase }, { on := 2, ground := Ground.phase }, { on := 3, ground := Ground.phase }, { on := 4, ground := Ground.phase }, { on := 5, ground := Ground.phase }, { on := 6, ground := Ground.phase }, { on := 7, ground := Ground.phase }, { on := 8, ground := Ground.phase }, { on := 9, ground := Ground.phase }, { on := 10, ground := Ground.phase }, { on := 11, ground := Ground.phase }, { on := 12, ground := Ground.phase }, { on := 13, ground := Ground.phase }, { on := 14, ground := Ground.phase }, { on := 15, ground := Ground.phase }, { on := 16, ground := Ground.phase }, { on := 17, ground := Ground.phase }, { on := 18, ground := Ground.phase }, { on := 19, ground := Ground.phase }, { on := 20, ground := Ground.phase }, { on := 21, ground := Ground.phase }, { on := 22, ground := Ground.phase }, { on := 23, ground := Ground.phase }, { on := 24, ground := Ground.phase }, { on := 25, ground := Ground.phase }, { on := 26, ground := Ground.phase }, { on := 27, ground := Ground.phase }, { on := 28, ground := Ground.phase }], guard := none }) rfl (fun K hK => ?_) AllReadyH.nil
     go_simp
     have HZ6 : Hid (M.BlkAt (w5.setCell ⟨B, 35, none⟩ (.slice a5 2 c5)) B [.int .i64 x.no, .bool x.up, .bool x.has, .int .i64 x.of.kd, .int .i64 x.of.to, .int .i64 x.of.fr, .int .i64 x.of.ep, .int .i64 x.of.ed, .string x.of.km.nm, .string x.of.km.tl, .string x.of.km.ar, .slice (some ⟨b, 0, none⟩) x.of.ls.length n, .int .i64 x.of.ct, .bool x.of.tn.over, .int .i64 x.of.tn.cd, .string x.of.tn.tx, .bool x.of.tn.has, .string x.of.tn.nm, .int .i64 x.of.tn.st, .int .i64 0, .int .i64 0, .int .i64 0, .int .i64 0, .int .i64 0, .string ⟨#[]⟩, .string ⟨#[]⟩, .string ⟨#[]⟩, .slice none 0 0, .int .i64 0, .bool false, .int .i64 0, .string ⟨#[]⟩, .bool false, .string ⟨#[]⟩, .int .i64 0, .slice a5 2 c5]) := HZ5.out.set 35 (.slice a5 2 c5) (by simp)
     have HQ6 : Hid (M.BlkAt (w5.setCell ⟨B, 35, none⟩ (.slice a5 2 c5)) Of [.int .i64 x.of.kd, .int .i64 x.of.to, .int .i64 x.of.fr, .int .i64 x.of.ep, .int .i64 x.of.ed, .string x.of.km.nm, .string x.of.km.tl, .string x.of.km.ar, .slice (some ⟨b, 0, none⟩) x.of.ls.length n, .int .i64 x.of.ct, .bool x.of.tn.over, .int .i64 x.of.tn.cd, .string x.of.tn.tx, .bool x.of.tn.has, .string x.of.tn.nm, .int .i64 x.of.tn.st]) := HQ5.out.other ⟨B, 35, none⟩ _ (by show B ≠ Of; have := HOE.out; omega)
     have k0 := HZ6.out 0 _ rfl
     have ko3 := HQ6.out 3 _ rfl
     have ko4 := HQ6.out 4 _ rfl
     have ko5 := HQ6.out 5 _ rfl
     have ko6 := HQ6.out 6 _ rfl
     have ko7 := HQ6.out 7 _ rfl
     have ko8 := HQ6.out 8 _ rfl
     clear hHeld
     refine hK.out _ _ ?_ (fun hHeld => ?_)
     · ((try dsimp only); go_keep)
     clear hK K
     try simp only [Act.put, List.setIfInBounds_toArray, List.set_cons_zero, List.set_cons_succ]
     refine wpAnyH_done (by kernel_rfl) ?_ _
     clear hHeld
     have HF6 : Hid (M.OpnAt (w5.setCell ⟨B, 35, none⟩ (.slice a5 2 c5)) B) := HF5.out.set _ _
     have HO6 : Hid ((w5.setCell ⟨B, 35, none⟩ (.slice a5 2 c5)).ownsRow (B + 1) 48 16 (.slice a5 2 c5) 2 ([.int .i64 3, .int .i64 0, .int .i64 x.no, .int .i64 0, .int .i64 0, .string ⟨#[]⟩, .string ⟨#[]⟩, .string ⟨#[]⟩, .slice none 0 0, .int .i64 0, .bool false, .int .i64 0, .string ⟨#[]⟩, .bool false, .string ⟨#[]⟩, .int .i64 0] ++ [.int .i64 2, .int .i64 0, .int .i64 x.no, .int .i64 x.of.ep, .int .i64 x.of.ed, .string x.of.km.nm, .string ⟨#[]⟩, .string ⟨#[]⟩, .slice none 0 0, .int .i64 x.of.ls.length, .bool t.over, .int .i64 t.code, .string t.text, .bool t.has, .string t.name, .int .i64 t.steps])) := ownsRow_setCell_below HO5.out (by show B < B + 1; omega) _
     have HB6 : Hid (Below B w (w5.setCell ⟨B, 35, none⟩ (.slice a5 2 c5))) := HB5.out.setCell (by exact Nat.le_refl B) _
     go_wp2
     go_ret
     exact ⟨rfl, ⟨_, HZ6.out, HO6.out⟩, HF6.out, HB6.out⟩
end Go.Proofs.YtpjpckmfehfniaaGreatDoor

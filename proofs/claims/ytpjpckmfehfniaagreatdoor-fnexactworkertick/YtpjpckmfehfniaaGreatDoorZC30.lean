import Derived.Test.YtpjpckmfehfniaaGreatDoorZC29
import Derived.Test.YtpjpckmfehfniaaGreatDoorZC25
namespace Go.Proofs.YtpjpckmfehfniaaGreatDoor.M
open Go.RowKit
theorem ix_way (u : World) : (Instr.index 186 (.agg #[.string ⟨#[]⟩, .nilFunc, .nilFunc, .nilFunc, .string ⟨#[111, 102, 102, 101, 114]⟩, .func (.func 145) #[] #[], .func (.func 146) #[] #[], .func (.func 147) #[] #[], .string ⟨#[116, 117, 114, 110]⟩, .func (.func 148) #[] #[], .func (.func 149) #[] #[], .func (.func 150) #[] #[], .string ⟨#[104, 101, 114, 101]⟩, .func (.func 151) #[] #[], .func (.func 152) #[] #[], .func (.func 153) #[] #[]]) (.int .i64 1)).run Tryz.prog u = .ok (.agg #[.string ⟨#[111, 102, 102, 101, 114]⟩, .func (.func 145) #[] #[], .func (.func 146) #[] #[], .func (.func 147) #[] #[]]) u := by kernel_rfl
theorem fd_way (u : World) : (Instr.field 185 (.agg #[.string ⟨#[111, 102, 102, 101, 114]⟩, .func (.func 145) #[] #[], .func (.func 146) #[] #[], .func (.func 147) #[] #[]]) 1).run Tryz.prog u = .ok (.func (.func 145) #[] #[]) u := by kernel_rfl
set_option maxHeartbeats 8000000 in
set_option maxRecDepth 100000 in
theorem c116 (x : G16) (ai : Option Addr) (ci : Nat) (w : World) (hs : x.le 1048576) (hat : LksAt w ai x.ls) :
 Calls Tryz.prog 116 #[.agg #[.int .i64 1, .int .i64 x.to, .int .i64 x.fr, .int .i64 x.ep, .int .i64 x.ed, .string x.km.nm, .string x.km.tl, .string x.km.ar, .slice ai x.ls.length ci, .int .i64 x.ct, .bool x.tn.over, .int .i64 x.tn.cd, .string x.tn.tx, .bool x.tn.has, .string x.tn.nm, .int .i64 x.tn.st]] w fun e w' => IsB (OfferOk x) e ∧ Below w.heap.size w w' := by
 have HA : Hid (LksAt w ai x.ls) := hat
 clear hat
 have hIx := ix_way
 have hFd := fd_way
 go_enter Tryz.func116, Tryz.ntmps116
 go_wp2_with fail
 have hBV : Below w.heap.size w (w.alloc (.cells #[.int .i64 1, .int .i64 x.to, .int .i64 x.fr, .int .i64 x.ep, .int .i64 x.ed, .string x.km.nm, .string x.km.tl, .string x.km.ar, .slice ai x.ls.length ci, .int .i64 x.ct, .bool x.tn.over, .int .i64 x.tn.cd, .string x.tn.tx, .bool x.tn.has, .string x.tn.nm, .int .i64 x.tn.st] 48)) := (Below.refl _ _).alloc (Nat.le_refl _) _
 have hzV : w.heap.size < (w.alloc (.cells #[.int .i64 1, .int .i64 x.to, .int .i64 x.fr, .int .i64 x.ep, .int .i64 x.ed, .string x.km.nm, .string x.km.tl, .string x.km.ar, .slice ai x.ls.length ci, .int .i64 x.ct, .bool x.tn.over, .int .i64 x.tn.cd, .string x.tn.tx, .bool x.tn.has, .string x.tn.nm, .int .i64 x.tn.st] 48)).heap.size := by simp
 have ZA := blk_new w [.int .i64 1, .int .i64 x.to, .int .i64 x.fr, .int .i64 x.ep, .int .i64 x.ed, .string x.km.nm, .string x.km.tl, .string x.km.ar, .slice ai x.ls.length ci, .int .i64 x.ct, .bool x.tn.over, .int .i64 x.tn.cd, .string x.tn.tx, .bool x.tn.has, .string x.tn.nm, .int .i64 x.tn.st] 48
 have ZA : BlkAt (w.alloc (.cells #[.int .i64 1, .int .i64 x.to, .int .i64 x.fr, .int .i64 x.ep, .int .i64 x.ed, .string x.km.nm, .string x.km.tl, .string x.km.ar, .slice ai x.ls.length ci, .int .i64 x.ct, .bool x.tn.over, .int .i64 x.tn.cd, .string x.tn.tx, .bool x.tn.has, .string x.tn.nm, .int .i64 x.tn.st] 48)) w.heap.size [.int .i64 1, .int .i64 x.to, .int .i64 x.fr, .int .i64 x.ep, .int .i64 x.ed, .string x.km.nm, .string x.km.tl, .string x.km.ar, .slice ai x.ls.length ci, .int .i64 x.ct, .bool x.tn.over, .int .i64 x.tn.cd, .string x.tn.tx, .bool x.tn.has, .string x.tn.nm, .int .i64 x.tn.st] := ZA
 have a0 := ZA 0 _ rfl
 have a1 := ZA 1 _ rfl
 have a2 := ZA 2 _ rfl
 have a3 := ZA 3 _ rfl
 have a4 := ZA 4 _ rfl
 have a5 := ZA 5 _ rfl
 have a6 := ZA 6 _ rfl
 have a7 := ZA 7 _ rfl
 have a8 := ZA 8 _ rfl
 have a9 := ZA 9 _ rfl
 have a10 := ZA 10 _ rfl
 have a11 := ZA 11 _ rfl
 have a12 := ZA 12 _ rfl
 have a13 := ZA 13 _ rfl
 have a14 := ZA 14 _ rfl
 have a15 := ZA 15 _ rfl
 generalize (w.alloc (.cells #[.int .i64 1, .int .i64 x.to, .int .i64 x.fr, .int .i64 x.ep, .int .i64 x.ed, .string x.km.nm, .string x.km.tl, .string x.km.ar, .slice ai x.ls.length ci, .int .i64 x.ct, .bool x.tn.over, .int .i64 x.tn.cd, .string x.tn.tx, .bool x.tn.has, .string x.tn.nm, .int .i64 x.tn.st] 48)) = V at *
 clear ZA
 refine wp_region_held_drew (S := (fun u => u.cell? ⟨w.heap.size, 0, none⟩ = some (.int .i64 1) ∧ u.cell? ⟨w.heap.size, 1, none⟩ = some (.int .i64 x.to) ∧ u.cell? ⟨w.heap.size, 2, none⟩ = some (.int .i64 x.fr) ∧ u.cell? ⟨w.heap.size, 3, none⟩ = some (.int .i64 x.ep) ∧ u.cell? ⟨w.heap.size, 4, none⟩ = some (.int .i64 x.ed) ∧ u.cell? ⟨w.heap.size, 5, none⟩ = some (.string x.km.nm) ∧ u.cell? ⟨w.heap.size, 6, none⟩ = some (.string x.km.tl) ∧ u.cell? ⟨w.heap.size, 7, none⟩ = some (.string x.km.ar) ∧ u.cell? ⟨w.heap.size, 8, none⟩ = some (.slice ai x.ls.length ci) ∧ u.cell? ⟨w.heap.size, 9, none⟩ = some (.int .i64 x.ct) ∧ u.cell? ⟨w.heap.size, 10, none⟩ = some (.bool x.tn.over) ∧ u.cell? ⟨w.heap.size, 11, none⟩ = some (.int .i64 x.tn.cd) ∧ u.cell? ⟨w.heap.size, 12, none⟩ = some (.string x.tn.tx) ∧ u.cell? ⟨w.heap.size, 13, none⟩ = some (.bool x.tn.has) ∧ u.cell? ⟨w.heap.size, 14, none⟩ = some (.string x.tn.nm) ∧ u.cell? ⟨w.heap.size, 15, none⟩ = some (.int .i64 x.tn.st))) (by kernel_rfl) ?_ (fun hHeld => ?_)
 · ((try dsimp only); go_keep)
 refine wpAnyH_take (i := 0) (oi := { dst := some 3, op := Op.fieldAddr 48 (Operand.tmp 1) 0, type := 0, pos := "l7_mail.go:83", after := #[], guard := none }) (v := ?_) rfl (by kernel_rfl) (by kernel_rfl) (by kernel_rfl) (fun _ _ _ h => h) (Or.inl ⟨by rfl, ?_⟩) (by assumption) ?_
 rotate_left
 · intro wq hSw
   (try dsimp only at hSw)
   go_simp
   try with_reducible rfl
 try simp only [Act.put, List.setIfInBounds_toArray, List.set_cons_zero, List.set_cons_succ]
 refine wpAnyH_take (i := 1) (oi := { dst := some 4, op := Op.load 3 (Operand.tmp 3), type := 3, pos := "l7_mail.go:83", after := #[{ on := 0, ground := Ground.data }], guard := none }) (v := ?_) rfl (by kernel_rfl) (by kernel_rfl) (by kernel_rfl) (fun _ _ _ h => h) (Or.inl ⟨by rfl, ?_⟩) (by assumption) ?_
 rotate_left
 · intro wq hSw
   (try dsimp only at hSw)
   go_simp
   try with_reducible rfl
 try simp only [Act.put, List.setIfInBounds_toArray, List.set_cons_zero, List.set_cons_succ]
 refine wpAnyH_take (i := 2) (oi := { dst := some 5, op := Op.binOp BinOp.geq 3 (Operand.tmp 4) (Operand.const (Value.int IntKind.i64 1)) 3, type := 4, pos := "l7_mail.go:83", after := #[{ on := 1, ground := Ground.data }], guard := none }) (v := ?_) rfl (by kernel_rfl) (by kernel_rfl) (by kernel_rfl) (fun _ _ _ h => h) (Or.inl ⟨by rfl, ?_⟩) (by assumption) ?_
 rotate_left
 · intro wq hSw
   (try dsimp only at hSw)
   go_simp
   try with_reducible rfl
 try simp only [Act.put, List.setIfInBounds_toArray, List.set_cons_zero, List.set_cons_succ]
 refine wpAnyH_take (i := 3) (oi := { dst := some 6, op := Op.move (Operand.tmp 5), type := 4, pos := "l7_mail.go:83", after := #[{ on := 2, ground := Ground.data }], guard := none }) (v := ?_) rfl (by kernel_rfl) (by kernel_rfl) (by kernel_rfl) (fun _ _ _ h => h) (Or.inl ⟨by rfl, ?_⟩) (by assumption) ?_
 rotate_left
 · intro wq hSw
   (try dsimp only at hSw)
   go_simp
   try with_reducible rfl
 try simp only [Act.put, List.setIfInBounds_toArray, List.set_cons_zero, List.set_cons_succ]
 refine wpAnyH_take (i := 4) (oi := { dst := some 7, op := Op.fieldAddr 48 (Operand.tmp 1) 0, type := 0, pos := "l7_mail.go:83", after := #[{ on := 3, ground := Ground.guard }], guard := some (3, true) }) (v := ?_) rfl (by kernel_rfl) (by kernel_rfl) (by kernel_rfl) (fun _ _ _ h => h) (Or.inl ⟨by rfl, ?_⟩) (by assumption) ?_
 rotate_left
 · intro wq hSw
   (try dsimp only at hSw)
   go_simp
   try with_reducible rfl
 try simp only [Act.put, List.setIfInBounds_toArray, List.set_cons_zero, List.set_cons_succ]
 refine wpAnyH_take (i := 5) (oi := { dst := some 8, op := Op.load 3 (Operand.tmp 7), type := 3, pos := "l7_mail.go:83", after := #[{ on := 4, ground := Ground.data }, { on := 3, ground := Ground.guard }], guard := some (3, true) }) (v := ?_) rfl (by kernel_rfl) (by kernel_rfl) (by kernel_rfl) (fun _ _ _ h => h) (Or.inl ⟨by rfl, ?_⟩) (by assumption) ?_
 rotate_left
 · intro wq hSw
   (try dsimp only at hSw)
   go_simp
   try with_reducible rfl
 try simp only [Act.put, List.setIfInBounds_toArray, List.set_cons_zero, List.set_cons_succ]
 refine wpAnyH_take (i := 6) (oi := { dst := some 9, op := Op.binOp BinOp.leq 3 (Operand.tmp 8) (Operand.const (Value.int IntKind.i64 3)) 3, type := 4, pos := "l7_mail.go:83", after := #[{ on := 5, ground := Ground.data }, { on := 3, ground := Ground.guard }], guard := some (3, true) }) (v := ?_) rfl (by kernel_rfl) (by kernel_rfl) (by kernel_rfl) (fun _ _ _ h => h) (Or.inl ⟨by rfl, ?_⟩) (by assumption) ?_
 rotate_left
 · intro wq hSw
   (try dsimp only at hSw)
   go_simp
   try with_reducible rfl
 try simp only [Act.put, List.setIfInBounds_toArray, List.set_cons_zero, List.set_cons_succ]
 refine wpAnyH_take (i := 7) (oi := { dst := some 10, op := Op.pick (Operand.tmp 6) (Operand.tmp 9) (Operand.const (Value.bool false)), type := 4, pos := "l7_mail.go:83", after := #[{ on := 3, ground := Ground.data }, { on := 6, ground := Ground.data }], guard := none }) (v := ?_) rfl (by kernel_rfl) (by kernel_rfl) (by kernel_rfl) (fun _ _ _ h => h) (Or.inl ⟨by rfl, ?_⟩) (by assumption) ?_
 rotate_left
 · intro wq hSw
   (try dsimp only at hSw)
   go_simp
   try with_reducible rfl
 try simp only [Act.put, List.setIfInBounds_toArray, List.set_cons_zero, List.set_cons_succ]
 refine wpAnyH_take (i := 8) (oi := { dst := some 11, op := Op.move (Operand.tmp 10), type := 4, pos := "l7_mail.go:83", after := #[{ on := 7, ground := Ground.data }, { on := 3, ground := Ground.chain }], guard := none }) (v := ?_) rfl (by kernel_rfl) (by kernel_rfl) (by kernel_rfl) (fun _ _ _ h => h) (Or.inl ⟨by rfl, ?_⟩) (by assumption) ?_
 rotate_left
 · intro wq hSw
   (try dsimp only at hSw)
   go_simp
   try with_reducible rfl
 try simp only [Act.put, List.setIfInBounds_toArray, List.set_cons_zero, List.set_cons_succ]
 refine wpAnyH_take (i := 10) (oi := { dst := some 13, op := Op.fieldAddr 48 (Operand.tmp 1) 0, type := 0, pos := "l7_mail.go:83", after := #[{ on := 8, ground := Ground.guard }], guard := some (8, true) }) (v := ?_) rfl (by kernel_rfl) (by kernel_rfl) (by kernel_rfl) (fun _ _ _ h => h) (Or.inl ⟨by rfl, ?_⟩) (by assumption) ?_
 rotate_left
 · intro wq hSw
   (try dsimp only at hSw)
   go_simp
   try with_reducible rfl
 try simp only [Act.put, List.setIfInBounds_toArray, List.set_cons_zero, List.set_cons_succ]
 refine wpAnyH_take (i := 11) (oi := { dst := some 14, op := Op.load 3 (Operand.tmp 13), type := 3, pos := "l7_mail.go:83", after := #[{ on := 10, ground := Ground.data }, { on := 8, ground := Ground.guard }], guard := some (8, true) }) (v := ?_) rfl (by kernel_rfl) (by kernel_rfl) (by kernel_rfl) (fun _ _ _ h => h) (Or.inl ⟨by rfl, ?_⟩) (by assumption) ?_
 rotate_left
 · intro wq hSw
   (try dsimp only at hSw)
   go_simp
   try with_reducible rfl
 try simp only [Act.put, List.setIfInBounds_toArray, List.set_cons_zero, List.set_cons_succ]
 refine wpAnyH_take (i := 14) (oi := { dst := some 17, op := Op.load 48 (Operand.tmp 1), type := 48, pos := "l7_mail.go:83", after := #[{ on := 8, ground := Ground.guard }], guard := some (8, true) }) (v := ?_) rfl (by kernel_rfl) (by kernel_rfl) (by kernel_rfl) (fun _ _ _ h => h) (Or.inl ⟨by rfl, ?_⟩) (by assumption) ?_
 rotate_left
 · intro wq hSw
   (try dsimp only at hSw)
   go_simp
   try with_reducible rfl
 try simp only [Act.put, List.setIfInBounds_toArray, List.set_cons_zero, List.set_cons_succ]
 refine wpAnyH_ready (rs := [9]) (by kernel_rfl) (by simp) ?_
 refine AllReadyH.cons (o := { dst := some 12, op := Op.call { callee := Callee.value (Operand.func 130), args := #[], argTypes := #[] }, type := 186, pos := "l7_mail.go:83", after := #[{ on := 8, ground := Ground.chain }, { on := 8, ground := Ground.guard }], guard := some (8, true) }) rfl (fun K hK => ?_) AllReadyH.nil
 go_simp
 refine (c130 _).mono ?_
 rintro e w1 ⟨rfl, hb1⟩
 have HB1 : Hid (Below V.heap.size V w1) := ((Below.refl _ _).drew).trans hb1
 have b0 := (HB1.out.cell (p := ⟨w.heap.size, 0, none⟩) (by exact hzV)).trans a0
 have b1 := (HB1.out.cell (p := ⟨w.heap.size, 1, none⟩) (by exact hzV)).trans a1
 have b2 := (HB1.out.cell (p := ⟨w.heap.size, 2, none⟩) (by exact hzV)).trans a2
 have b3 := (HB1.out.cell (p := ⟨w.heap.size, 3, none⟩) (by exact hzV)).trans a3
 have b4 := (HB1.out.cell (p := ⟨w.heap.size, 4, none⟩) (by exact hzV)).trans a4
 have b5 := (HB1.out.cell (p := ⟨w.heap.size, 5, none⟩) (by exact hzV)).trans a5
 have b6 := (HB1.out.cell (p := ⟨w.heap.size, 6, none⟩) (by exact hzV)).trans a6
 have b7 := (HB1.out.cell (p := ⟨w.heap.size, 7, none⟩) (by exact hzV)).trans a7
 have b8 := (HB1.out.cell (p := ⟨w.heap.size, 8, none⟩) (by exact hzV)).trans a8
 have b9 := (HB1.out.cell (p := ⟨w.heap.size, 9, none⟩) (by exact hzV)).trans a9
 have b10 := (HB1.out.cell (p := ⟨w.heap.size, 10, none⟩) (by exact hzV)).trans a10
 have b11 := (HB1.out.cell (p := ⟨w.heap.size, 11, none⟩) (by exact hzV)).trans a11
 have b12 := (HB1.out.cell (p := ⟨w.heap.size, 12, none⟩) (by exact hzV)).trans a12
 have b13 := (HB1.out.cell (p := ⟨w.heap.size, 13, none⟩) (by exact hzV)).trans a13
 have b14 := (HB1.out.cell (p := ⟨w.heap.size, 14, none⟩) (by exact hzV)).trans a14
 have b15 := (HB1.out.cell (p := ⟨w.heap.size, 15, none⟩) (by exact hzV)).trans a15
 clear hb1
 go_wp2_with fail
 clear hHeld
 refine hK.out _ _ ?_ (fun hHeld => ?_)
 · ((try dsimp only); go_keep)
 clear hK K
 try simp only [Act.put, List.setIfInBounds_toArray, List.set_cons_zero, List.set_cons_succ]
 refine wpAnyH_take (i := 12) (oi := { dst := some 15, op := Op.index 186 (Operand.tmp 12) (Operand.tmp 14), type := 185, pos := "l7_mail.go:83", after := #[{ on := 9, ground := Ground.data }, { on := 11, ground := Ground.data }, { on := 8, ground := Ground.guard }], guard := some (8, true) }) (v := ?_) rfl (by kernel_rfl) (by kernel_rfl) (by kernel_rfl) (fun _ _ _ h => h) (Or.inl ⟨by rfl, ?_⟩) (by assumption) ?_
 rotate_left
 · intro wq hSw
   (try dsimp only at hSw)
   go_simp
   try with_reducible rfl
 try simp only [Act.put, List.setIfInBounds_toArray, List.set_cons_zero, List.set_cons_succ]
 refine wpAnyH_take (i := 13) (oi := { dst := some 16, op := Op.field 185 (Operand.tmp 15) 1, type := 114, pos := "l7_mail.go:83", after := #[{ on := 12, ground := Ground.data }, { on := 8, ground := Ground.guard }], guard := some (8, true) }) (v := ?_) rfl (by kernel_rfl) (by kernel_rfl) (by kernel_rfl) (fun _ _ _ h => h) (Or.inl ⟨by rfl, ?_⟩) (by assumption) ?_
 rotate_left
 · intro wq hSw
   (try dsimp only at hSw)
   go_simp
   try with_reducible rfl
 try simp only [Act.put, List.setIfInBounds_toArray, List.set_cons_zero, List.set_cons_succ]
 refine wpAnyH_ready (rs := [15]) (by kernel_rfl) (by simp) ?_
 refine AllReadyH.cons (o := { dst := some 18, op := Op.call { callee := Callee.value (Operand.tmp 16), args := #[Operand.tmp 17], argTypes := #[48] }, type := 4, pos := "l7_mail.go:83", after := #[{ on := 13, ground := Ground.data }, { on := 14, ground := Ground.data }, { on := 9, ground := Ground.chain }, { on := 8, ground := Ground.guard }], guard := some (8, true) }) rfl (fun K hK => ?_) AllReadyH.nil
 go_simp
 refine (c145 x ai ci w1 hs (lks_below HA.out (hBV.trans (HB1.out.mono hBV.size)))).mono ?_
 rintro e w2 ⟨⟨r, rfl, hr⟩, hb2⟩
 have HR : Hid (r = true ↔ OfferOk x) := hr
 have HB2 : Hid (Below w1.heap.size w1 w2) := hb2
 have hzw : w.heap.size < w1.heap.size := Nat.lt_of_lt_of_le hzV HB1.out.size
 have d0 := (HB2.out.cell (p := ⟨w.heap.size, 0, none⟩) (by exact hzw)).trans b0
 have d1 := (HB2.out.cell (p := ⟨w.heap.size, 1, none⟩) (by exact hzw)).trans b1
 have d2 := (HB2.out.cell (p := ⟨w.heap.size, 2, none⟩) (by exact hzw)).trans b2
 have d3 := (HB2.out.cell (p := ⟨w.heap.size, 3, none⟩) (by exact hzw)).trans b3
 have d4 := (HB2.out.cell (p := ⟨w.heap.size, 4, none⟩) (by exact hzw)).trans b4
 have d5 := (HB2.out.cell (p := ⟨w.heap.size, 5, none⟩) (by exact hzw)).trans b5
 have d6 := (HB2.out.cell (p := ⟨w.heap.size, 6, none⟩) (by exact hzw)).trans b6
 have d7 := (HB2.out.cell (p := ⟨w.heap.size, 7, none⟩) (by exact hzw)).trans b7
 have d8 := (HB2.out.cell (p := ⟨w.heap.size, 8, none⟩) (by exact hzw)).trans b8
 have d9 := (HB2.out.cell (p := ⟨w.heap.size, 9, none⟩) (by exact hzw)).trans b9
 have d10 := (HB2.out.cell (p := ⟨w.heap.size, 10, none⟩) (by exact hzw)).trans b10
 have d11 := (HB2.out.cell (p := ⟨w.heap.size, 11, none⟩) (by exact hzw)).trans b11
 have d12 := (HB2.out.cell (p := ⟨w.heap.size, 12, none⟩) (by exact hzw)).trans b12
 have d13 := (HB2.out.cell (p := ⟨w.heap.size, 13, none⟩) (by exact hzw)).trans b13
 have d14 := (HB2.out.cell (p := ⟨w.heap.size, 14, none⟩) (by exact hzw)).trans b14
 have d15 := (HB2.out.cell (p := ⟨w.heap.size, 15, none⟩) (by exact hzw)).trans b15
 clear hr hb2
 go_wp2_with fail
 clear hHeld
 refine hK.out _ _ ?_ (fun hHeld => ?_)
 · ((try dsimp only); go_keep)
 clear hK K
 try simp only [Act.put, List.setIfInBounds_toArray, List.set_cons_zero, List.set_cons_succ]
 refine wpAnyH_take (i := 16) (oi := { dst := some 19, op := Op.pick (Operand.tmp 11) (Operand.tmp 18) (Operand.const (Value.bool false)), type := 4, pos := "l7_mail.go:83", after := #[{ on := 8, ground := Ground.data }, { on := 15, ground := Ground.data }], guard := none }) (v := ?_) rfl (by kernel_rfl) (by kernel_rfl) (by kernel_rfl) (fun _ _ _ h => h) (Or.inl ⟨by rfl, ?_⟩) (by assumption) ?_
 rotate_left
 · intro wq hSw
   (try dsimp only at hSw)
   go_simp
   try with_reducible rfl
 try simp only [Act.put, List.setIfInBounds_toArray, List.set_cons_zero, List.set_cons_succ]
 refine wpAnyH_take (i := 17) (oi := { dst := some 2, op := Op.assign (Operand.tmp 19), type := 4, pos := "l7_mail.go:83", after := #[{ on := 16, ground := Ground.data }, { on := 15, ground := Ground.chain }, { on := 0, ground := Ground.phase }, { on := 1, ground := Ground.phase }, { on := 2, ground := Ground.phase }, { on := 3, ground := Ground.phase }, { on := 4, ground := Ground.phase }, { on := 5, ground := Ground.phase }, { on := 6, ground := Ground.phase }, { on := 7, ground := Ground.phase }, { on := 8, ground := Ground.phase }, { on := 9, ground := Ground.phase }, { on := 10, ground := Ground.phase }, { on := 11, ground := Ground.phase }, { on := 12, ground := Ground.phase }, { on := 13, ground := Ground.phase }, { on := 14, ground := Ground.phase }, { on := 15, ground := Ground.phase }, { on := 16, ground := Ground.phase }], guard := none }) (v := ?_) rfl (by kernel_rfl) (by kernel_rfl) (by kernel_rfl) (fun _ _ _ h => h) (Or.inl ⟨by rfl, ?_⟩) (by assumption) ?_
 rotate_left
 · intro wq hSw
   (try dsimp only at hSw)
   go_simp
   try with_reducible rfl
 try simp only [Act.put, List.setIfInBounds_toArray, List.set_cons_zero, List.set_cons_succ]
 refine wpAnyH_done (by kernel_rfl) ?_ _
 have hB2 : Below w.heap.size w w2 := (hBV.trans (HB1.out.mono hBV.size)).trans (HB2.out.mono (hBV.trans (HB1.out.mono hBV.size)).size)
 clear hHeld
 go_wp2
 go_ret
 exact ⟨⟨r, rfl, HR.out⟩, hB2⟩
def OfferTo (n : Int) (x : G16) : Prop := x.kd = 1 ∧ x.to = n ∧ OfferOk x
set_option maxHeartbeats 4000000 in
set_option maxRecDepth 100000 in
theorem c70 (n : Int) (x : G16) (ai : Option Addr) (ci : Nat) (w : World) (hs : x.le 1048576) (hat : LksAt w ai x.ls) :
 Calls Tryz.prog 70 #[.int .i64 n, .agg #[.int .i64 x.kd, .int .i64 x.to, .int .i64 x.fr, .int .i64 x.ep, .int .i64 x.ed, .string x.km.nm, .string x.km.tl, .string x.km.ar, .slice ai x.ls.length ci, .int .i64 x.ct, .bool x.tn.over, .int .i64 x.tn.cd, .string x.tn.tx, .bool x.tn.has, .string x.tn.nm, .int .i64 x.tn.st]] w fun e w' => IsB (OfferTo n x) e ∧ Below w.heap.size w w' := by
 have hB0 : ∀ o, Below w.heap.size w (w.alloc o) := fun o => (Below.refl _ _).alloc (Nat.le_refl _) _
 obtain ⟨kd, to, fr, ep, ed, km, ls, ct, tn⟩ := x
 rcases (Classical.em (kd = 1)).symm with e1 | e1
 · have HN : Hid (IsB (OfferTo n ⟨kd, to, fr, ep, ed, km, ls, ct, tn⟩) (.returned (.bool false))) := isB_no (fun h => e1 h.1)
   clear hat hs
   go_enter Tryz.func70, Tryz.ntmps70
   go_wp2
   all_goals go_ret
   all_goals exact ⟨HN.out, hB0 _⟩
 · obtain rfl := e1
   rcases (Classical.em (to = n)).symm with e2 | e2
   · have HN : Hid (IsB (OfferTo n ⟨1, to, fr, ep, ed, km, ls, ct, tn⟩) (.returned (.bool false))) := isB_no (fun h => e2 h.2.1)
     clear hat hs
     go_enter Tryz.func70, Tryz.ntmps70
     go_wp2
     all_goals go_ret
     all_goals exact ⟨HN.out, hB0 _⟩
   · obtain rfl := e2
     have h38 := fun u (hb : Below w.heap.size w u) => c116 ⟨1, to, fr, ep, ed, km, ls, ct, tn⟩ ai ci u hs (lks_below hat hb)
     clear hat hs
     go_enter Tryz.func70, Tryz.ntmps70
     go_wp2_with fail
     refine (h38 _ (hB0 _)).mono ?_
     rintro e w1 ⟨⟨r, rfl, hr⟩, hb1⟩
     have hB1 : Below w.heap.size w w1 := (hB0 _).trans (hb1.mono (by simp))
     have HE : Hid (r = true ↔ OfferTo to ⟨1, to, fr, ep, ed, km, ls, ct, tn⟩) := ⟨fun h => ⟨rfl, rfl, hr.1 h⟩, fun h => hr.2 h.2.2⟩
     clear hr h38 hb1
     go_wp2
     go_ret
     exact ⟨⟨r, rfl, HE.out⟩, hB1⟩
def NoOffer (x : G16) : Prop := x.kd = 0 ∧ x.to = 0 ∧ x.fr = 0 ∧ x.ep = 0 ∧ x.ed = 0 ∧ x.km.nm = ⟨#[]⟩ ∧ x.km.tl = ⟨#[]⟩ ∧ x.km.ar = ⟨#[]⟩ ∧ x.ls.length = 0 ∧ x.ct = 0 ∧ x.tn.over = false ∧ x.tn.cd = 0 ∧ x.tn.tx = ⟨#[]⟩ ∧ x.tn.has = false ∧ x.tn.nm = ⟨#[]⟩ ∧ x.tn.st = 0
def WkOk (x : W19) : Prop := (1 ≤ x.no ∧ x.no ≤ 4) ∧ ((x.has = true ∧ x.up = true ∧ OfferTo x.no x.of) ∨ (x.has = false ∧ NoOffer x.of))
theorem sm_none (x : G16) : Sm30 x.kd x.to x.fr x.ep x.ed x.km.nm x.km.tl x.km.ar x.ct x.tn.over x.tn.cd x.tn.tx x.tn.has x.tn.nm x.tn.st 0 0 0 0 0 ⟨#[]⟩ ⟨#[]⟩ ⟨#[]⟩ 0 false 0 ⟨#[]⟩ false ⟨#[]⟩ 0 (decide (x.ls.length = 0)) ↔ NoOffer x := by
 unfold Sm30 NoOffer
 rw [decide_eq_true_eq]
set_option maxHeartbeats 4000000 in
set_option maxRecDepth 100000 in
theorem c30 (x : W19) (ai : Option Addr) (ci : Nat) (w : World) (hs : x.of.le 1048576) (hat : LksAt w ai x.of.ls) :
 Calls Tryz.prog 30 #[.agg #[.int .i64 x.no, .bool x.up, .bool x.has, .int .i64 x.of.kd, .int .i64 x.of.to, .int .i64 x.of.fr, .int .i64 x.of.ep, .int .i64 x.of.ed, .string x.of.km.nm, .string x.of.km.tl, .string x.of.km.ar, .slice ai x.of.ls.length ci, .int .i64 x.of.ct, .bool x.of.tn.over, .int .i64 x.of.tn.cd, .string x.of.tn.tx, .bool x.of.tn.has, .string x.of.tn.nm, .int .i64 x.of.tn.st]] w fun e w' => IsB (WkOk x) e ∧ Below w.heap.size w w' := by
 have hB0 : ∀ o, Below w.heap.size w (w.alloc o) := fun o => (Below.refl _ _).alloc (Nat.le_refl _) _
 have HA : Hid (LksAt w ai x.of.ls) := hat
 have hl : x.of.ls.length ≤ 1048576 := hs.2.1.1
 have HS : Hid (x.of.le 1048576) := hs
 clear hat hs
 obtain ⟨no, up, has, x⟩ := x
 cases h1 : decide (1 ≤ no ∧ no ≤ 4)
 · have HN : Hid (IsB (WkOk ⟨no, up, has, x⟩) (.returned (.bool false))) := isB_no (fun h => of_decide_eq_false h1 h.1)
   go_enter Tryz.func30, Tryz.ntmps30
   go_wp2_with fail
   refine (c69 no _).mono ?_
   rintro e w1 ⟨rfl, hw⟩
   obtain rfl := hw.symm
   rw [h1]
   go_wp2
   go_ret
   exact ⟨HN.out, hB0 _⟩
 · cases has
   · have HE : Hid (WkOk ⟨no, up, false, x⟩ ↔ NoOffer x) := by
      constructor
      · rintro ⟨_, ⟨h, _⟩ | ⟨_, h⟩⟩
        · cases h
        · exact h
      · exact fun h => ⟨of_decide_eq_true h1, .inr ⟨rfl, h⟩⟩
     go_enter Tryz.func30, Tryz.ntmps30
     go_wp2_with fail
     refine (c69 no _).mono ?_
     rintro e w1 ⟨rfl, hw⟩
     obtain rfl := hw.symm
     rw [h1]
     go_wp2_with fail
     refine (c71 x.kd x.to x.fr x.ep x.ed x.ct x.tn.cd x.tn.st x.km.nm x.km.tl x.km.ar x.tn.tx x.tn.nm x.tn.over x.tn.has 0 0 0 0 0 0 0 0 ⟨#[]⟩ ⟨#[]⟩ ⟨#[]⟩ ⟨#[]⟩ ⟨#[]⟩ false false ai none x.ls.length 0 ci 0 (decide (x.ls.length = 0)) _ (fun u hb => c117n ai none ci 0 x.ls u hl)).mono ?_
     rintro e w2 ⟨⟨r, rfl, hr⟩, hb2⟩
     have hB2 : Below w.heap.size w w2 := (hB0 _).trans (hb2.mono (by simp))
     have HR : Hid (r = true ↔ WkOk ⟨no, up, false, x⟩) := (hr.trans (sm_none x)).trans HE.out.symm
     clear hr hb2
     go_wp2
     go_ret
     exact ⟨⟨r, rfl, HR.out⟩, hB2⟩
   · cases up
     · have HN : Hid (IsB (WkOk ⟨no, false, true, x⟩) (.returned (.bool false))) := isB_no (fun h => by
        rcases h.2 with ⟨_, h, _⟩ | ⟨h, _⟩
        · cases h
        · cases h)
       go_enter Tryz.func30, Tryz.ntmps30
       go_wp2_with fail
       refine (c69 no _).mono ?_
       rintro e w1 ⟨rfl, hw⟩
       obtain rfl := hw.symm
       rw [h1]
       go_wp2
       go_ret
       exact ⟨HN.out, hB0 _⟩
     · have HE : Hid (WkOk ⟨no, true, true, x⟩ ↔ OfferTo no x) := by
        constructor
        · rintro ⟨_, ⟨_, _, h⟩ | ⟨h, _⟩⟩
          · exact h
          · cases h
        · exact fun h => ⟨of_decide_eq_true h1, .inl ⟨rfl, rfl, h⟩⟩
       go_enter Tryz.func30, Tryz.ntmps30
       go_wp2_with fail
       refine (c69 no _).mono ?_
       rintro e w1 ⟨rfl, hw⟩
       obtain rfl := hw.symm
       rw [h1]
       go_wp2_with fail
       refine (c70 no x ai ci _ HS.out (lks_below HA.out (hB0 _))).mono ?_
       rintro e w2 ⟨⟨r, rfl, hr⟩, hb2⟩
       have hB2 : Below w.heap.size w w2 := (hB0 _).trans (hb2.mono (by simp))
       have HR : Hid (r = true ↔ WkOk ⟨no, true, true, x⟩) := hr.trans HE.out.symm
       clear hr hb2
       go_wp2
       go_ret
       exact ⟨⟨r, rfl, HR.out⟩, hB2⟩
end Go.Proofs.YtpjpckmfehfniaaGreatDoor.M
namespace Go.Proofs.YtpjpckmfehfniaaGreatDoor.M
open Go.RowKit
theorem but_fill {B : Nat} {w : World} (vs : List Value) : ∀ {u : World} (j : Nat), But B w u → But B w (fill u B j vs) := by
 induction vs with
 | nil => intro u j h; exact h
 | cons v vs ih => intro u j h; exact ih (j + 1) (h.setCell _ _)
end Go.Proofs.YtpjpckmfehfniaaGreatDoor.M

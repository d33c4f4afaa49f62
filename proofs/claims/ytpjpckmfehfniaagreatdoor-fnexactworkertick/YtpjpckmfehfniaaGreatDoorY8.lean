import Derived.Test.YtpjpckmfehfniaaGreatDoorZC29
namespace Go.Proofs.YtpjpckmfehfniaaGreatDoor.M
open Go.RowKit
theorem dec_size (n : Int) (h0 : 0 ≤ n) (h1 : n ≤ 1000000) : (ofL (dec n)).size ≤ 100000001 := by rw [ofL_size]; exact dec_len n h0 (by omega)
theorem quote_size (s : ByteArray) : (ofL (quoteL s.data.toList)).size ≤ 3 * s.size + 2 := by
 rw [ofL_size]
 have := flat_len s.data.toList
 have e : s.data.toList.length = s.size := by simp
 unfold quoteL
 simp only [List.length_cons, List.length_append, List.length_nil]
 omega
def resL (c : Int) (t : ByteArray) : List UInt8 := dec c ++ [32] ++ quoteL t.data.toList
theorem resL_eq (c : Int) (t : ByteArray) : ofL (dec c) ++ ⟨#[32]⟩ ++ ofL (quoteL t.data.toList) = ofL (resL c t) := by
 show ofL (dec c) ++ ofL [32] ++ ofL (quoteL t.data.toList) = _
 rw [cat_ofL, cat_ofL]; rfl
set_option maxHeartbeats 4000000 in
set_option maxRecDepth 100000 in
theorem c114 (c : Int) (t : ByteArray) (w : World) (hc0 : 0 ≤ c) (hc1 : c ≤ 1000) (ht : t.size ≤ 1048600) :
 Calls Tryz.prog 114 #[.agg #[.int .i64 c, .string t]] w fun e w' => e = .returned (.string (ofL (resL c t))) ∧ Below w.heap.size w w' := by
 have z1 := dec_size c hc0 (by omega)
 have z2 := quote_size t
 have HE : Hid (ofL (dec c) ++ ⟨#[32]⟩ ++ ofL (quoteL t.data.toList) = ofL (resL c t)) := resL_eq c t
 have k1 : ¬ 9223372036854775807 < (ofL (dec c)).size + 1 := by omega
 have k1' : ¬ 9223372036854775807 ≤ (ofL (dec c)).size := by omega
 have k2 : ¬ 9223372036854775807 < (ofL (dec c)).size + 1 + (ofL (quoteL t.data.toList)).size := by omega
 go_enter Tryz.func114, Tryz.ntmps114
 go_wp2_with fail
 have hBV : Below w.heap.size w (w.alloc (.cells #[.int .i64 c, .string t] 28)) := (Below.refl _ _).alloc (Nat.le_refl _) _
 have hzV : w.heap.size < (w.alloc (.cells #[.int .i64 c, .string t] 28)).heap.size := by simp
 have a0 : (w.alloc (.cells #[.int .i64 c, .string t] 28)).cell? ⟨w.heap.size, 0, none⟩ = some (.int .i64 c) := by simp [go_sem]
 have a1 : (w.alloc (.cells #[.int .i64 c, .string t] 28)).cell? ⟨w.heap.size, 1, none⟩ = some (.string t) := by simp [go_sem]
 generalize (w.alloc (.cells #[.int .i64 c, .string t] 28)) = V at *
 refine wp_region_held_drew (S := (fun u => u.cell? ⟨w.heap.size, 0, none⟩ = some (.int .i64 c) ∧ u.cell? ⟨w.heap.size, 1, none⟩ = some (.string t))) (by kernel_rfl) ?_ (fun hHeld => ?_)
 · ((try dsimp only); go_keep)
 refine wpAnyH_take (i := 0) (oi := { dst := some 3, op := Op.fieldAddr 28 (Operand.tmp 1) 0, type := 0, pos := "l6_log.go:6", after := #[], guard := none }) (v := ?_) rfl (by kernel_rfl) (by kernel_rfl) (by kernel_rfl) (fun _ _ _ h => h) (Or.inl ⟨by rfl, ?_⟩) (by assumption) ?_
 rotate_left
 · intro wq hSw
   (try dsimp only at hSw)
   go_simp
   try with_reducible rfl
 try simp only [Act.put, List.setIfInBounds_toArray, List.set_cons_zero, List.set_cons_succ]
 refine wpAnyH_take (i := 1) (oi := { dst := some 4, op := Op.load 3 (Operand.tmp 3), type := 3, pos := "l6_log.go:6", after := #[{ on := 0, ground := Ground.data }], guard := none }) (v := ?_) rfl (by kernel_rfl) (by kernel_rfl) (by kernel_rfl) (fun _ _ _ h => h) (Or.inl ⟨by rfl, ?_⟩) (by assumption) ?_
 rotate_left
 · intro wq hSw
   (try dsimp only at hSw)
   go_simp
   try with_reducible rfl
 try simp only [Act.put, List.setIfInBounds_toArray, List.set_cons_zero, List.set_cons_succ]
 refine wpAnyH_take (i := 4) (oi := { dst := some 7, op := Op.fieldAddr 28 (Operand.tmp 1) 1, type := 0, pos := "l6_log.go:6", after := #[], guard := none }) (v := ?_) rfl (by kernel_rfl) (by kernel_rfl) (by kernel_rfl) (fun _ _ _ h => h) (Or.inl ⟨by rfl, ?_⟩) (by assumption) ?_
 rotate_left
 · intro wq hSw
   (try dsimp only at hSw)
   go_simp
   try with_reducible rfl
 try simp only [Act.put, List.setIfInBounds_toArray, List.set_cons_zero, List.set_cons_succ]
 refine wpAnyH_take (i := 5) (oi := { dst := some 8, op := Op.load 9 (Operand.tmp 7), type := 9, pos := "l6_log.go:6", after := #[{ on := 4, ground := Ground.data }], guard := none }) (v := ?_) rfl (by kernel_rfl) (by kernel_rfl) (by kernel_rfl) (fun _ _ _ h => h) (Or.inl ⟨by rfl, ?_⟩) (by assumption) ?_
 rotate_left
 · intro wq hSw
   (try dsimp only at hSw)
   go_simp
   try with_reducible rfl
 try simp only [Act.put, List.setIfInBounds_toArray, List.set_cons_zero, List.set_cons_succ]
 refine wpAnyH_ready (rs := [2]) (by kernel_rfl) (by simp) ?_
 refine AllReadyH.cons (o := { dst := some 5, op := Op.call { callee := Callee.value (Operand.func 77), args := #[Operand.tmp 4], argTypes := #[3] }, type := 9, pos := "l6_log.go:6", after := #[{ on := 1, ground := Ground.data }], guard := none }) rfl (fun K hK => ?_) AllReadyH.nil
 go_simp
 refine (c77 (c.toNat + 1) c _ hc0 (by omega) (Nat.lt_succ_self _)).mono ?_
 rintro e w1 ⟨rfl, hb1⟩
 have HB1 : Hid (Below V.heap.size V w1) := ((Below.refl _ _).drew).trans hb1
 have b0 := (HB1.out.cell (p := ⟨w.heap.size, 0, none⟩) (by exact hzV)).trans a0
 have b1 := (HB1.out.cell (p := ⟨w.heap.size, 1, none⟩) (by exact hzV)).trans a1
 clear hb1
 go_wp2_with fail
 clear hHeld
 refine hK.out _ _ ?_ (fun hHeld => ?_)
 · ((try dsimp only); go_keep)
 clear hK K
 try simp only [Act.put, List.setIfInBounds_toArray, List.set_cons_zero, List.set_cons_succ]
 refine wpAnyH_take (i := 3) (oi := { dst := some 6, op := Op.binOp BinOp.add 9 (Operand.tmp 5) (Operand.const (Value.string { data := #[32] })) 9, type := 9, pos := "l6_log.go:6", after := #[{ on := 2, ground := Ground.data }], guard := none }) (v := ?_) rfl (by kernel_rfl) (by kernel_rfl) (by kernel_rfl) (fun _ _ _ h => h) (Or.inl ⟨by rfl, ?_⟩) (by assumption) ?_
 rotate_left
 · intro wq hSw
   (try dsimp only at hSw)
   go_simp
   try with_reducible rfl
 try simp only [Act.put, List.setIfInBounds_toArray, List.set_cons_zero, List.set_cons_succ]
 refine wpAnyH_ready (rs := [6]) (by kernel_rfl) (by simp) ?_
 refine AllReadyH.cons (o := { dst := some 9, op := Op.call { callee := Callee.value (Operand.func 111), args := #[Operand.tmp 8], argTypes := #[9] }, type := 9, pos := "l6_log.go:6", after := #[{ on := 5, ground := Ground.data }, { on := 2, ground := Ground.chain }], guard := none }) rfl (fun K hK => ?_) AllReadyH.nil
 go_simp
 refine (c111' t _ (by omega)).mono ?_
 rintro e w2 ⟨rfl, hb2⟩
 have HB2 : Hid (Below w1.heap.size w1 w2) := hb2
 have hzw : w.heap.size < w1.heap.size := Nat.lt_of_lt_of_le hzV HB1.out.size
 have d0 := (HB2.out.cell (p := ⟨w.heap.size, 0, none⟩) (by exact hzw)).trans b0
 have d1 := (HB2.out.cell (p := ⟨w.heap.size, 1, none⟩) (by exact hzw)).trans b1
 clear hb2
 go_wp2_with fail
 clear hHeld
 refine hK.out _ _ ?_ (fun hHeld => ?_)
 · ((try dsimp only); go_keep)
 clear hK K
 try simp only [Act.put, List.setIfInBounds_toArray, List.set_cons_zero, List.set_cons_succ]
 refine wpAnyH_take (i := 7) (oi := { dst := some 10, op := Op.binOp BinOp.add 9 (Operand.tmp 6) (Operand.tmp 9) 9, type := 9, pos := "l6_log.go:6", after := #[{ on := 3, ground := Ground.data }, { on := 6, ground := Ground.data }], guard := none }) (v := ?_) rfl (by kernel_rfl) (by kernel_rfl) (by kernel_rfl) (fun _ _ _ h => h) (Or.inl ⟨by rfl, ?_⟩) (by assumption) ?_
 rotate_left
 · intro wq hSw
   (try dsimp only at hSw)
   go_simp
   try with_reducible rfl
 try simp only [Act.put, List.setIfInBounds_toArray, List.set_cons_zero, List.set_cons_succ]
 refine wpAnyH_take (i := 8) (oi := { dst := some 2, op := Op.assign (Operand.tmp 10), type := 9, pos := "l6_log.go:6", after := #[{ on := 7, ground := Ground.data }, { on := 6, ground := Ground.chain }, { on := 0, ground := Ground.phase }, { on := 1, ground := Ground.phase }, { on := 2, ground := Ground.phase }, { on := 3, ground := Ground.phase }, { on := 4, ground := Ground.phase }, { on := 5, ground := Ground.phase }, { on := 6, ground := Ground.phase }, { on := 7, ground := Ground.phase }], guard := none }) (v := ?_) rfl (by kernel_rfl) (by kernel_rfl) (by kernel_rfl) (fun _ _ _ h => h) (Or.inl ⟨by rfl, ?_⟩) (by assumption) ?_
 rotate_left
 · intro wq hSw
   (try dsimp only at hSw)
   go_simp
   try with_reducible rfl
 try simp only [Act.put, List.setIfInBounds_toArray, List.set_cons_zero, List.set_cons_succ]
 refine wpAnyH_done (by kernel_rfl) ?_ _
 have hB2 : Below w.heap.size w w2 := (hBV.trans (HB1.out.mono hBV.size)).trans (HB2.out.mono (hBV.trans (HB1.out.mono hBV.size)).size)
 clear hHeld
 go_wp2
 go_ret
 exact ⟨by rw [← HE.out]; rfl, hB2⟩
def whenL (x : G16) : List UInt8 := [32] ++ dec x.ep ++ [32] ++ dec x.ed ++ [32] ++ x.km.nm.data.toList
theorem whenL_eq (x : G16) : (⟨#[32]⟩ : ByteArray) ++ ofL (dec x.ep) ++ ⟨#[32]⟩ ++ ofL (dec x.ed) ++ ⟨#[32]⟩ ++ x.km.nm = ofL (whenL x) := by
 show ofL [32] ++ ofL (dec x.ep) ++ ofL [32] ++ ofL (dec x.ed) ++ ofL [32] ++ ofL x.km.nm.data.toList = _
 rw [cat_ofL, cat_ofL, cat_ofL, cat_ofL, cat_ofL]; rfl
set_option maxHeartbeats 4000000 in
set_option maxRecDepth 100000 in
theorem c110 (x : G16) (ai : Option Addr) (ci : Nat) (w : World) (h1 : 0 ≤ x.ep) (h2 : x.ep ≤ 1000) (h3 : 0 ≤ x.ed) (h4 : x.ed ≤ 1000) (hn : x.km.nm.size ≤ 1048600) :
 Calls Tryz.prog 110 #[.agg #[.int .i64 x.kd, .int .i64 x.to, .int .i64 x.fr, .int .i64 x.ep, .int .i64 x.ed, .string x.km.nm, .string x.km.tl, .string x.km.ar, .slice ai x.ls.length ci, .int .i64 x.ct, .bool x.tn.over, .int .i64 x.tn.cd, .string x.tn.tx, .bool x.tn.has, .string x.tn.nm, .int .i64 x.tn.st]] w fun e w' => e = .returned (.string (ofL (whenL x))) ∧ Below w.heap.size w w' := by
 have z1 := dec_size x.ep h1 (by omega)
 have z2 := dec_size x.ed h3 (by omega)
 have HE : Hid ((⟨#[32]⟩ : ByteArray) ++ ofL (dec x.ep) ++ ⟨#[32]⟩ ++ ofL (dec x.ed) ++ ⟨#[32]⟩ ++ x.km.nm = ofL (whenL x)) := whenL_eq x
 have k1 : ¬ 9223372036854775807 < 1 + (ofL (dec x.ep)).size := by omega
 have k2 : ¬ 9223372036854775807 < 1 + (ofL (dec x.ep)).size + 1 := by omega
 have k2' : ¬ 9223372036854775807 ≤ 1 + (ofL (dec x.ep)).size := by omega
 have k3 : ¬ 9223372036854775807 < 1 + (ofL (dec x.ep)).size + 1 + (ofL (dec x.ed)).size := by omega
 have k4 : ¬ 9223372036854775807 < 1 + (ofL (dec x.ep)).size + 1 + (ofL (dec x.ed)).size + 1 := by omega
 have k4' : ¬ 9223372036854775807 ≤ 1 + (ofL (dec x.ep)).size + 1 + (ofL (dec x.ed)).size := by omega
 have k5 : ¬ 9223372036854775807 < 1 + (ofL (dec x.ep)).size + 1 + (ofL (dec x.ed)).size + 1 + x.km.nm.size := by omega
 go_enter Tryz.func110, Tryz.ntmps110
 go_wp2_with fail
 have hBV : Below w.heap.size w (w.alloc (.cells #[.int .i64 x.kd, .int .i64 x.to, .int .i64 x.fr, .int .i64 x.ep, .int .i64 x.ed, .string x.km.nm, .string x.km.tl, .string x.km.ar, .slice ai x.ls.length ci, .int .i64 x.ct, .bool x.tn.over, .int .i64 x.tn.cd, .string x.tn.tx, .bool x.tn.has, .string x.tn.nm, .int .i64 x.tn.st] 48)) := (Below.refl _ _).alloc (Nat.le_refl _) _
 have hzV : w.heap.size < (w.alloc (.cells #[.int .i64 x.kd, .int .i64 x.to, .int .i64 x.fr, .int .i64 x.ep, .int .i64 x.ed, .string x.km.nm, .string x.km.tl, .string x.km.ar, .slice ai x.ls.length ci, .int .i64 x.ct, .bool x.tn.over, .int .i64 x.tn.cd, .string x.tn.tx, .bool x.tn.has, .string x.tn.nm, .int .i64 x.tn.st] 48)).heap.size := by simp
 have ZA : BlkAt (w.alloc (.cells #[.int .i64 x.kd, .int .i64 x.to, .int .i64 x.fr, .int .i64 x.ep, .int .i64 x.ed, .string x.km.nm, .string x.km.tl, .string x.km.ar, .slice ai x.ls.length ci, .int .i64 x.ct, .bool x.tn.over, .int .i64 x.tn.cd, .string x.tn.tx, .bool x.tn.has, .string x.tn.nm, .int .i64 x.tn.st] 48)) w.heap.size [.int .i64 x.kd, .int .i64 x.to, .int .i64 x.fr, .int .i64 x.ep, .int .i64 x.ed, .string x.km.nm, .string x.km.tl, .string x.km.ar, .slice ai x.ls.length ci, .int .i64 x.ct, .bool x.tn.over, .int .i64 x.tn.cd, .string x.tn.tx, .bool x.tn.has, .string x.tn.nm, .int .i64 x.tn.st] := blk_new w [.int .i64 x.kd, .int .i64 x.to, .int .i64 x.fr, .int .i64 x.ep, .int .i64 x.ed, .string x.km.nm, .string x.km.tl, .string x.km.ar, .slice ai x.ls.length ci, .int .i64 x.ct, .bool x.tn.over, .int .i64 x.tn.cd, .string x.tn.tx, .bool x.tn.has, .string x.tn.nm, .int .i64 x.tn.st] 48
 have a3 := ZA 3 _ rfl
 have a4 := ZA 4 _ rfl
 have a5 := ZA 5 _ rfl
 generalize (w.alloc (.cells #[.int .i64 x.kd, .int .i64 x.to, .int .i64 x.fr, .int .i64 x.ep, .int .i64 x.ed, .string x.km.nm, .string x.km.tl, .string x.km.ar, .slice ai x.ls.length ci, .int .i64 x.ct, .bool x.tn.over, .int .i64 x.tn.cd, .string x.tn.tx, .bool x.tn.has, .string x.tn.nm, .int .i64 x.tn.st] 48)) = V at *
 clear ZA
 refine wp_region_held_drew (S := (fun u => u.cell? ⟨w.heap.size, 3, none⟩ = some (.int .i64 x.ep) ∧ u.cell? ⟨w.heap.size, 4, none⟩ = some (.int .i64 x.ed) ∧ u.cell? ⟨w.heap.size, 5, none⟩ = some (.string x.km.nm))) (by kernel_rfl) ?_ (fun hHeld => ?_)
 · ((try dsimp only); go_keep)
 refine wpAnyH_take (i := 0) (oi := { dst := some 3, op := Op.fieldAddr 48 (Operand.tmp 1) 3, type := 0, pos := "l7_mail.go:21", after := #[], guard := none }) (v := ?_) rfl (by kernel_rfl) (by kernel_rfl) (by kernel_rfl) (fun _ _ _ h => h) (Or.inl ⟨by rfl, ?_⟩) (by assumption) ?_
 rotate_left
 · intro wq hSw
   (try dsimp only at hSw)
   go_simp
   try with_reducible rfl
 try simp only [Act.put, List.setIfInBounds_toArray, List.set_cons_zero, List.set_cons_succ]
 refine wpAnyH_take (i := 1) (oi := { dst := some 4, op := Op.load 3 (Operand.tmp 3), type := 3, pos := "l7_mail.go:21", after := #[{ on := 0, ground := Ground.data }], guard := none }) (v := ?_) rfl (by kernel_rfl) (by kernel_rfl) (by kernel_rfl) (fun _ _ _ h => h) (Or.inl ⟨by rfl, ?_⟩) (by assumption) ?_
 rotate_left
 · intro wq hSw
   (try dsimp only at hSw)
   go_simp
   try with_reducible rfl
 try simp only [Act.put, List.setIfInBounds_toArray, List.set_cons_zero, List.set_cons_succ]
 refine wpAnyH_take (i := 5) (oi := { dst := some 8, op := Op.fieldAddr 48 (Operand.tmp 1) 4, type := 0, pos := "l7_mail.go:21", after := #[], guard := none }) (v := ?_) rfl (by kernel_rfl) (by kernel_rfl) (by kernel_rfl) (fun _ _ _ h => h) (Or.inl ⟨by rfl, ?_⟩) (by assumption) ?_
 rotate_left
 · intro wq hSw
   (try dsimp only at hSw)
   go_simp
   try with_reducible rfl
 try simp only [Act.put, List.setIfInBounds_toArray, List.set_cons_zero, List.set_cons_succ]
 refine wpAnyH_take (i := 6) (oi := { dst := some 9, op := Op.load 3 (Operand.tmp 8), type := 3, pos := "l7_mail.go:21", after := #[{ on := 5, ground := Ground.data }], guard := none }) (v := ?_) rfl (by kernel_rfl) (by kernel_rfl) (by kernel_rfl) (fun _ _ _ h => h) (Or.inl ⟨by rfl, ?_⟩) (by assumption) ?_
 rotate_left
 · intro wq hSw
   (try dsimp only at hSw)
   go_simp
   try with_reducible rfl
 try simp only [Act.put, List.setIfInBounds_toArray, List.set_cons_zero, List.set_cons_succ]
 refine wpAnyH_take (i := 10) (oi := { dst := some 13, op := Op.fieldAddr 48 (Operand.tmp 1) 5, type := 0, pos := "l7_mail.go:21", after := #[], guard := none }) (v := ?_) rfl (by kernel_rfl) (by kernel_rfl) (by kernel_rfl) (fun _ _ _ h => h) (Or.inl ⟨by rfl, ?_⟩) (by assumption) ?_
 rotate_left
 · intro wq hSw
   (try dsimp only at hSw)
   go_simp
   try with_reducible rfl
 try simp only [Act.put, List.setIfInBounds_toArray, List.set_cons_zero, List.set_cons_succ]
 refine wpAnyH_take (i := 11) (oi := { dst := some 14, op := Op.fieldAddr 32 (Operand.tmp 13) 0, type := 0, pos := "l7_mail.go:21", after := #[{ on := 10, ground := Ground.data }], guard := none }) (v := ?_) rfl (by kernel_rfl) (by kernel_rfl) (by kernel_rfl) (fun _ _ _ h => h) (Or.inl ⟨by rfl, ?_⟩) (by assumption) ?_
 rotate_left
 · intro wq hSw
   (try dsimp only at hSw)
   go_simp
   try with_reducible rfl
 try simp only [Act.put, List.setIfInBounds_toArray, List.set_cons_zero, List.set_cons_succ]
 refine wpAnyH_take (i := 12) (oi := { dst := some 15, op := Op.load 9 (Operand.tmp 14), type := 9, pos := "l7_mail.go:21", after := #[{ on := 11, ground := Ground.data }], guard := none }) (v := ?_) rfl (by kernel_rfl) (by kernel_rfl) (by kernel_rfl) (fun _ _ _ h => h) (Or.inl ⟨by rfl, ?_⟩) (by assumption) ?_
 rotate_left
 · intro wq hSw
   (try dsimp only at hSw)
   go_simp
   try with_reducible rfl
 try simp only [Act.put, List.setIfInBounds_toArray, List.set_cons_zero, List.set_cons_succ]
 refine wpAnyH_ready (rs := [2]) (by kernel_rfl) (by simp) ?_
 refine AllReadyH.cons (o := { dst := some 5, op := Op.call { callee := Callee.value (Operand.func 77), args := #[Operand.tmp 4], argTypes := #[3] }, type := 9, pos := "l7_mail.go:21", after := #[{ on := 1, ground := Ground.data }], guard := none }) rfl (fun K hK => ?_) AllReadyH.nil
 go_simp
 refine (c77 (x.ep.toNat + 1) x.ep _ h1 (by omega) (Nat.lt_succ_self _)).mono ?_
 rintro e w1 ⟨rfl, hb1⟩
 have HB1 : Hid (Below V.heap.size V w1) := ((Below.refl _ _).drew).trans hb1
 have b3 := (HB1.out.cell (p := ⟨w.heap.size, 3, none⟩) (by exact hzV)).trans a3
 have b4 := (HB1.out.cell (p := ⟨w.heap.size, 4, none⟩) (by exact hzV)).trans a4
 have b5 := (HB1.out.cell (p := ⟨w.heap.size, 5, none⟩) (by exact hzV)).trans a5
 clear hb1
 go_wp2_with fail
 clear hHeld
 refine hK.out _ _ ?_ (fun hHeld => ?_)
 · ((try dsimp only); go_keep)
 clear hK K
 try simp only [Act.put, List.setIfInBounds_toArray, List.set_cons_zero, List.set_cons_succ]
 refine wpAnyH_take (i := 3) (oi := { dst := some 6, op := Op.binOp BinOp.add 9 (Operand.const (Value.string { data := #[32] })) (Operand.tmp 5) 9, type := 9, pos := "l7_mail.go:21", after := #[{ on := 2, ground := Ground.data }], guard := none }) (v := ?_) rfl (by kernel_rfl) (by kernel_rfl) (by kernel_rfl) (fun _ _ _ h => h) (Or.inl ⟨by rfl, ?_⟩) (by assumption) ?_
 rotate_left
 · intro wq hSw
   (try dsimp only at hSw)
   go_simp
   try with_reducible rfl
 try simp only [Act.put, List.setIfInBounds_toArray, List.set_cons_zero, List.set_cons_succ]
 refine wpAnyH_take (i := 4) (oi := { dst := some 7, op := Op.binOp BinOp.add 9 (Operand.tmp 6) (Operand.const (Value.string { data := #[32] })) 9, type := 9, pos := "l7_mail.go:21", after := #[{ on := 3, ground := Ground.data }], guard := none }) (v := ?_) rfl (by kernel_rfl) (by kernel_rfl) (by kernel_rfl) (fun _ _ _ h => h) (Or.inl ⟨by rfl, ?_⟩) (by assumption) ?_
 rotate_left
 · intro wq hSw
   (try dsimp only at hSw)
   go_simp
   try with_reducible rfl
 try simp only [Act.put, List.setIfInBounds_toArray, List.set_cons_zero, List.set_cons_succ]
 refine wpAnyH_ready (rs := [7]) (by kernel_rfl) (by simp) ?_
 refine AllReadyH.cons (o := { dst := some 10, op := Op.call { callee := Callee.value (Operand.func 77), args := #[Operand.tmp 9], argTypes := #[3] }, type := 9, pos := "l7_mail.go:21", after := #[{ on := 6, ground := Ground.data }, { on := 2, ground := Ground.chain }], guard := none }) rfl (fun K hK => ?_) AllReadyH.nil
 go_simp
 refine (c77 (x.ed.toNat + 1) x.ed _ h3 (by omega) (Nat.lt_succ_self _)).mono ?_
 rintro e w2 ⟨rfl, hb2⟩
 have HB2 : Hid (Below w1.heap.size w1 w2) := hb2
 have hzw : w.heap.size < w1.heap.size := Nat.lt_of_lt_of_le hzV HB1.out.size
 have d3 := (HB2.out.cell (p := ⟨w.heap.size, 3, none⟩) (by exact hzw)).trans b3
 have d4 := (HB2.out.cell (p := ⟨w.heap.size, 4, none⟩) (by exact hzw)).trans b4
 have d5 := (HB2.out.cell (p := ⟨w.heap.size, 5, none⟩) (by exact hzw)).trans b5
 clear hb2
 go_wp2_with fail
 clear hHeld
 refine hK.out _ _ ?_ (fun hHeld => ?_)
 · ((try dsimp only); go_keep)
 clear hK K
 try simp only [Act.put, List.setIfInBounds_toArray, List.set_cons_zero, List.set_cons_succ]
 refine wpAnyH_take (i := 8) (oi := { dst := some 11, op := Op.binOp BinOp.add 9 (Operand.tmp 7) (Operand.tmp 10) 9, type := 9, pos := "l7_mail.go:21", after := #[{ on := 4, ground := Ground.data }, { on := 7, ground := Ground.data }], guard := none }) (v := ?_) rfl (by kernel_rfl) (by kernel_rfl) (by kernel_rfl) (fun _ _ _ h => h) (Or.inl ⟨by rfl, ?_⟩) (by assumption) ?_
 rotate_left
 · intro wq hSw
   (try dsimp only at hSw)
   go_simp
   try with_reducible rfl
 try simp only [Act.put, List.setIfInBounds_toArray, List.set_cons_zero, List.set_cons_succ]
 refine wpAnyH_take (i := 9) (oi := { dst := some 12, op := Op.binOp BinOp.add 9 (Operand.tmp 11) (Operand.const (Value.string { data := #[32] })) 9, type := 9, pos := "l7_mail.go:21", after := #[{ on := 8, ground := Ground.data }], guard := none }) (v := ?_) rfl (by kernel_rfl) (by kernel_rfl) (by kernel_rfl) (fun _ _ _ h => h) (Or.inl ⟨by rfl, ?_⟩) (by assumption) ?_
 rotate_left
 · intro wq hSw
   (try dsimp only at hSw)
   go_simp
   try with_reducible rfl
 try simp only [Act.put, List.setIfInBounds_toArray, List.set_cons_zero, List.set_cons_succ]
 refine wpAnyH_take (i := 13) (oi := { dst := some 16, op := Op.binOp BinOp.add 9 (Operand.tmp 12) (Operand.tmp 15) 9, type := 9, pos := "l7_mail.go:21", after := #[{ on := 9, ground := Ground.data }, { on := 12, ground := Ground.data }], guard := none }) (v := ?_) rfl (by kernel_rfl) (by kernel_rfl) (by kernel_rfl) (fun _ _ _ h => h) (Or.inl ⟨by rfl, ?_⟩) (by assumption) ?_
 rotate_left
 · intro wq hSw
   (try dsimp only at hSw)
   go_simp
   try with_reducible rfl
 try simp only [Act.put, List.setIfInBounds_toArray, List.set_cons_zero, List.set_cons_succ]
 refine wpAnyH_take (i := 14) (oi := { dst := some 2, op := Op.assign (Operand.tmp 16), type := 9, pos := "l7_mail.go:21", after := #[{ on := 13, ground := Ground.data }, { on := 7, ground := Ground.chain }, { on := 0, ground := Ground.phase }, { on := 1, ground := Ground.phase }, { on := 2, ground := Ground.phase }, { on := 3, ground := Ground.phase }, { on := 4, ground := Ground.phase }, { on := 5, ground := Ground.phase }, { on := 6, ground := Ground.phase }, { on := 7, ground := Ground.phase }, { on := 8, ground := Ground.phase }, { on := 9, ground := Ground.phase }, { on := 10, ground := Ground.phase }, { on := 11, ground := Ground.phase }, { on := 12, ground := Ground.phase }, { on := 13, ground := Ground.phase }], guard := none }) (v := ?_) rfl (by kernel_rfl) (by kernel_rfl) (by kernel_rfl) (fun _ _ _ h => h) (Or.inl ⟨by rfl, ?_⟩) (by assumption) ?_
 rotate_left
 · intro wq hSw
   (try dsimp only at hSw)
   go_simp
   try with_reducible rfl
 try simp only [Act.put, List.setIfInBounds_toArray, List.set_cons_zero, List.set_cons_succ]
 refine wpAnyH_done (by kernel_rfl) ?_ _
 have hB2 : Below w.heap.size w w2 := (hBV.trans (HB1.out.mono hBV.size)).trans (HB2.out.mono (hBV.trans (HB1.out.mono hBV.size)).size)
 clear hHeld
 go_wp2
 go_ret
 exact ⟨by rw [← HE.out]; rfl, hB2⟩
end Go.Proofs.YtpjpckmfehfniaaGreatDoor.M

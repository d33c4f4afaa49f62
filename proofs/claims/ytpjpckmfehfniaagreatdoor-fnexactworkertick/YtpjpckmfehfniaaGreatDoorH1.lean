import Derived.Test.YtpjpckmfehfniaaGreatDoorZC37
namespace Go.Proofs.YtpjpckmfehfniaaGreatDoor
open Go.RowKit
theorem info48 : (Tryz.prog.info? 48).map (fun i => (i.zero, i.size, i.bytes)) = some (some (.agg #[.int .i64 0, .int .i64 0, .int .i64 0, .int .i64 0, .int .i64 0, .string ⟨#[]⟩, .string ⟨#[]⟩, .string ⟨#[]⟩, .slice none 0 0, .int .i64 0, .bool false, .int .i64 0, .string ⟨#[]⟩, .bool false, .string ⟨#[]⟩, .int .i64 0]), 16, 184) := by kernel_rfl
theorem row16n {w : World} {g : Nat} (hg : g = w.heap.size) (vs : List Value) (t : TypeId) : ∀ j u, vs[j]? = some u → (w.alloc (.cells vs.toArray t)).cell? ((⟨g, 0, none⟩ : Addr).add j) = some u := by
 subst hg
 intro j u h
 rw [M.adr_add, Nat.zero_add]
 exact M.blk_new w vs t j u h
theorem row_formN {w : World} {B : Nat} {e : TypeId} {z : Nat} {v : Value} {n : Nat} {xs : List Value} (h : w.ownsRow B e z v n xs) : ∃ ao c, v = .slice ao n c := by
 rcases h.2 with ⟨hv, h0⟩ | ⟨g, cap, cur, hv, _⟩
 · exact ⟨none, 0, by rw [hv, h0]⟩
 · exact ⟨_, _, hv⟩
def nxt (h : Bool) (f B : Nat) : Value := if h = true then .func (.func f) #[.pointer (some ⟨B, 0, none⟩)] #[] else .nilFunc
set_option maxHeartbeats 8000000 in
set_option maxRecDepth 100000 in
theorem c95 (x : M.W19) (B b n : Nat) (w : World) (Z : M.BlkAt w B [.int .i64 x.no, .bool x.up, .bool x.has, .int .i64 x.of.kd, .int .i64 x.of.to, .int .i64 x.of.fr, .int .i64 x.of.ep, .int .i64 x.of.ed, .string x.of.km.nm, .string x.of.km.tl, .string x.of.km.ar, .slice (some ⟨b, 0, none⟩) x.of.ls.length n, .int .i64 x.of.ct, .bool x.of.tn.over, .int .i64 x.of.tn.cd, .string x.of.tn.tx, .bool x.of.tn.has, .string x.of.tn.nm, .int .i64 x.of.tn.st, .int .i64 0, .int .i64 0, .int .i64 0, .int .i64 0, .int .i64 0, .string ⟨#[]⟩, .string ⟨#[]⟩, .string ⟨#[]⟩, .slice none 0 0, .int .i64 0, .bool false, .int .i64 0, .string ⟨#[]⟩, .bool false, .string ⟨#[]⟩, .int .i64 0, .slice none 0 0]) (f : M.OpnAt w B) (hB : B < w.heap.size) :
 Calls Tryz.prog 95 #[.pointer (some ⟨B, 0, none⟩)] w fun e w' => e = .returned (nxt x.has 124 B) ∧ (∃ v, M.BlkAt w' B [.int .i64 x.no, .bool x.up, .bool x.has, .int .i64 x.of.kd, .int .i64 x.of.to, .int .i64 x.of.fr, .int .i64 x.of.ep, .int .i64 x.of.ed, .string x.of.km.nm, .string x.of.km.tl, .string x.of.km.ar, .slice (some ⟨b, 0, none⟩) x.of.ls.length n, .int .i64 x.of.ct, .bool x.of.tn.over, .int .i64 x.of.tn.cd, .string x.of.tn.tx, .bool x.of.tn.has, .string x.of.tn.nm, .int .i64 x.of.tn.st, .int .i64 0, .int .i64 0, .int .i64 0, .int .i64 0, .int .i64 0, .string ⟨#[]⟩, .string ⟨#[]⟩, .string ⟨#[]⟩, .slice none 0 0, .int .i64 0, .bool false, .int .i64 0, .string ⟨#[]⟩, .bool false, .string ⟨#[]⟩, .int .i64 0, v] ∧ w'.ownsRow (B + 1) 48 16 v 1 [.int .i64 3, .int .i64 0, .int .i64 x.no, .int .i64 0, .int .i64 0, .string ⟨#[]⟩, .string ⟨#[]⟩, .string ⟨#[]⟩, .slice none 0 0, .int .i64 0, .bool false, .int .i64 0, .string ⟨#[]⟩, .bool false, .string ⟨#[]⟩, .int .i64 0]) ∧ M.OpnAt w' B ∧ Below B w w' := by
 have a0 := Z 0 _ rfl
 have a35 := Z 35 _ rfl
 have d0 : w.drew.cell? ⟨B, 0, none⟩ = some (.int .i64 x.no) := by simpa using a0
 have d35 : w.drew.cell? ⟨B, 35, none⟩ = some (.slice none 0 0) := by simpa using a35
 obtain ⟨i0, hi, hz0, hz1, hz2⟩ := info_parts info48
 have HZ : Hid (M.BlkAt w B [.int .i64 x.no, .bool x.up, .bool x.has, .int .i64 x.of.kd, .int .i64 x.of.to, .int .i64 x.of.fr, .int .i64 x.of.ep, .int .i64 x.of.ed, .string x.of.km.nm, .string x.of.km.tl, .string x.of.km.ar, .slice (some ⟨b, 0, none⟩) x.of.ls.length n, .int .i64 x.of.ct, .bool x.of.tn.over, .int .i64 x.of.tn.cd, .string x.of.tn.tx, .bool x.of.tn.has, .string x.of.tn.nm, .int .i64 x.of.tn.st, .int .i64 0, .int .i64 0, .int .i64 0, .int .i64 0, .int .i64 0, .string ⟨#[]⟩, .string ⟨#[]⟩, .string ⟨#[]⟩, .slice none 0 0, .int .i64 0, .bool false, .int .i64 0, .string ⟨#[]⟩, .bool false, .string ⟨#[]⟩, .int .i64 0, .slice none 0 0]) := Z
 have HF : Hid (M.OpnAt w B) := f
 clear Z f
 go_enter Tryz.func95, Tryz.ntmps95
 go_wp2_with fail
 refine wp_region_held_drew (S := (fun u => u.cell? ⟨B, 0, none⟩ = some (.int .i64 x.no))) (by kernel_rfl) ?_ (fun hHeld => ?_)
 · ((try dsimp only); go_keep)
 refine wpAnyH_take (i := 0) (oi := { dst := some 3, op := Op.move (Operand.tmp 0), type := 137, pos := "l8_worker.go:93", after := #[], guard := none }) (v := ?_) rfl (by kernel_rfl) (by kernel_rfl) (by kernel_rfl) (fun _ _ _ h => h) (Or.inl ⟨by rfl, ?_⟩) (by assumption) ?_
 rotate_left
 · intro wq hSw
   (try dsimp only at hSw)
   go_simp
   try with_reducible rfl
 try simp only [Act.put, List.setIfInBounds_toArray, List.set_cons_zero, List.set_cons_succ]
 refine wpAnyH_take (i := 1) (oi := { dst := some 4, op := Op.move (Operand.tmp 0), type := 137, pos := "l8_worker.go:93", after := #[], guard := none }) (v := ?_) rfl (by kernel_rfl) (by kernel_rfl) (by kernel_rfl) (fun _ _ _ h => h) (Or.inl ⟨by rfl, ?_⟩) (by assumption) ?_
 rotate_left
 · intro wq hSw
   (try dsimp only at hSw)
   go_simp
   try with_reducible rfl
 try simp only [Act.put, List.setIfInBounds_toArray, List.set_cons_zero, List.set_cons_succ]
 refine wpAnyH_take (i := 2) (oi := { dst := some 5, op := Op.nilCheck (Operand.tmp 4), type := 0, pos := "l8_worker.go:93", after := #[{ on := 1, ground := Ground.data }], guard := none }) (v := ?_) rfl (by kernel_rfl) (by kernel_rfl) (by kernel_rfl) (fun _ _ _ h => h) (Or.inl ⟨by rfl, ?_⟩) (by assumption) ?_
 rotate_left
 · intro wq hSw
   (try dsimp only at hSw)
   go_simp
   try with_reducible rfl
 try simp only [Act.put, List.setIfInBounds_toArray, List.set_cons_zero, List.set_cons_succ]
 refine wpAnyH_take (i := 3) (oi := { dst := some 6, op := Op.fieldAddr 92 (Operand.tmp 5) 2, type := 0, pos := "l8_worker.go:93", after := #[{ on := 2, ground := Ground.data }], guard := none }) (v := ?_) rfl (by kernel_rfl) (by kernel_rfl) (by kernel_rfl) (fun _ _ _ h => h) (Or.inl ⟨by rfl, ?_⟩) (by assumption) ?_
 rotate_left
 · intro wq hSw
   (try dsimp only at hSw)
   go_simp
   try with_reducible rfl
 try simp only [Act.put, List.setIfInBounds_toArray, List.set_cons_zero, List.set_cons_succ]
 refine wpAnyH_take (i := 5) (oi := { dst := some 8, op := Op.move (Operand.tmp 0), type := 137, pos := "l8_worker.go:93", after := #[], guard := none }) (v := ?_) rfl (by kernel_rfl) (by kernel_rfl) (by kernel_rfl) (fun _ _ _ h => h) (Or.inl ⟨by rfl, ?_⟩) (by assumption) ?_
 rotate_left
 · intro wq hSw
   (try dsimp only at hSw)
   go_simp
   try with_reducible rfl
 try simp only [Act.put, List.setIfInBounds_toArray, List.set_cons_zero, List.set_cons_succ]
 refine wpAnyH_take (i := 6) (oi := { dst := some 9, op := Op.nilCheck (Operand.tmp 8), type := 0, pos := "l8_worker.go:93", after := #[{ on := 5, ground := Ground.data }], guard := none }) (v := ?_) rfl (by kernel_rfl) (by kernel_rfl) (by kernel_rfl) (fun _ _ _ h => h) (Or.inl ⟨by rfl, ?_⟩) (by assumption) ?_
 rotate_left
 · intro wq hSw
   (try dsimp only at hSw)
   go_simp
   try with_reducible rfl
 try simp only [Act.put, List.setIfInBounds_toArray, List.set_cons_zero, List.set_cons_succ]
 refine wpAnyH_take (i := 7) (oi := { dst := some 10, op := Op.fieldAddr 92 (Operand.tmp 9) 0, type := 0, pos := "l8_worker.go:93", after := #[{ on := 6, ground := Ground.data }], guard := none }) (v := ?_) rfl (by kernel_rfl) (by kernel_rfl) (by kernel_rfl) (fun _ _ _ h => h) (Or.inl ⟨by rfl, ?_⟩) (by assumption) ?_
 rotate_left
 · intro wq hSw
   (try dsimp only at hSw)
   go_simp
   try with_reducible rfl
 try simp only [Act.put, List.setIfInBounds_toArray, List.set_cons_zero, List.set_cons_succ]
 refine wpAnyH_take (i := 8) (oi := { dst := some 11, op := Op.fieldAddr 50 (Operand.tmp 10) 0, type := 0, pos := "l8_worker.go:93", after := #[{ on := 7, ground := Ground.data }], guard := none }) (v := ?_) rfl (by kernel_rfl) (by kernel_rfl) (by kernel_rfl) (fun _ _ _ h => h) (Or.inl ⟨by rfl, ?_⟩) (by assumption) ?_
 rotate_left
 · intro wq hSw
   (try dsimp only at hSw)
   go_simp
   try with_reducible rfl
 try simp only [Act.put, List.setIfInBounds_toArray, List.set_cons_zero, List.set_cons_succ]
 refine wpAnyH_take (i := 9) (oi := { dst := some 12, op := Op.load 3 (Operand.tmp 11), type := 3, pos := "l8_worker.go:93", after := #[{ on := 8, ground := Ground.data }], guard := none }) (v := ?_) rfl (by kernel_rfl) (by kernel_rfl) (by kernel_rfl) (fun _ _ _ h => h) (Or.inl ⟨by rfl, ?_⟩) (by assumption) ?_
 rotate_left
 · intro wq hSw
   (try dsimp only at hSw)
   go_simp
   try with_reducible rfl
 try simp only [Act.put, List.setIfInBounds_toArray, List.set_cons_zero, List.set_cons_succ]
 refine wpAnyH_take (i := 10) (oi := { dst := some 13, op := Op.build 48 #[(0, Operand.const (Value.int IntKind.i64 3)), (2, Operand.tmp 12)], type := 48, pos := "l8_worker.go:93", after := #[{ on := 9, ground := Ground.data }], guard := none }) (v := ?_) rfl (by kernel_rfl) (by kernel_rfl) (by kernel_rfl) (fun _ _ _ h => h) (Or.inl ⟨by rfl, ?_⟩) (by assumption) ?_
 rotate_left
 · intro wq hSw
   (try dsimp only at hSw)
   go_simp
   try with_reducible rfl
 try simp only [Act.put, List.setIfInBounds_toArray, List.set_cons_zero, List.set_cons_succ]
 refine wpAnyH_ready (rs := [4, 11]) (by kernel_rfl) (by simp) ?_
 refine AllReadyH.cons (o := { dst := some 7, op := Op.load 51 (Operand.tmp 6), type := 51, pos := "l8_worker.go:93", after := #[{ on := 3, ground := Ground.data }], guard := none }) rfl (fun K hK => ?_) (AllReadyH.cons (o := { dst := some 14, op := Op.buildSlice 51 1 #[(0, Operand.tmp 13)], type := 51, pos := "l8_worker.go:93", after := #[{ on := 10, ground := Ground.data }], guard := none }) rfl (fun K hK => ?_) AllReadyH.nil)
 · go_simp
   clear hHeld
   refine hK.out _ _ ?_ (fun hHeld => ?_)
   · ((try dsimp only); go_keep)
   clear hK K
   try simp only [Act.put, List.setIfInBounds_toArray, List.set_cons_zero, List.set_cons_succ]
   refine wpAnyH_ready (rs := [11]) (by kernel_rfl) (by simp) ?_
   refine AllReadyH.cons (o := { dst := some 14, op := Op.buildSlice 51 1 #[(0, Operand.tmp 13)], type := 51, pos := "l8_worker.go:93", after := #[{ on := 10, ground := Ground.data }], guard := none }) rfl (fun K hK => ?_) AllReadyH.nil
   go_simp
   clear hHeld
   refine hK.out _ _ ?_ (fun hHeld => ?_)
   · ((try dsimp only); go_keep)
   clear hK K
   try simp only [Act.put, List.setIfInBounds_toArray, List.set_cons_zero, List.set_cons_succ]
   refine wpAnyH_ready (rs := [12]) (by kernel_rfl) (by simp) ?_
   refine AllReadyH.cons (o := { dst := some 15, op := Op.call { callee := Callee.builtin Builtin.append, args := #[Operand.tmp 7, Operand.tmp 14], argTypes := #[51, 51] }, type := 51, pos := "l8_worker.go:93", after := #[{ on := 4, ground := Ground.data }, { on := 11, ground := Ground.data }], guard := none }) rfl (fun K hK => ?_) AllReadyH.nil
   refine M.step_app rfl (.tmp 7) (.tmp 14) 51 rfl (B + 1) 48 i0 (.agg #[.int .i64 0, .int .i64 0, .int .i64 0, .int .i64 0, .int .i64 0, .string ⟨#[]⟩, .string ⟨#[]⟩, .string ⟨#[]⟩, .slice none 0 0, .int .i64 0, .bool false, .int .i64 0, .string ⟨#[]⟩, .bool false, .string ⟨#[]⟩, .int .i64 0]) 16 184 Tryz.underlying51 hi hz0 hz1 hz2 rfl (by decide) _ _ _ rfl (World.ownsRow_nil _ _ _ _) ⟨w.heap.size, 0, none⟩ 1 1 [.int .i64 3, .int .i64 0, .int .i64 x.no, .int .i64 0, .int .i64 0, .string ⟨#[]⟩, .string ⟨#[]⟩, .string ⟨#[]⟩, .slice none 0 0, .int .i64 0, .bool false, .int .i64 0, .string ⟨#[]⟩, .bool false, .string ⟨#[]⟩, .int .i64 0] rfl rfl (row16n (by simp) [.int .i64 3, .int .i64 0, .int .i64 x.no, .int .i64 0, .int .i64 0, .string ⟨#[]⟩, .string ⟨#[]⟩, .string ⟨#[]⟩, .slice none 0 0, .int .i64 0, .bool false, .int .i64 0, .string ⟨#[]⟩, .bool false, .string ⟨#[]⟩, .int .i64 0] 48) (by simp [Value.oneCell']) (by unfold maxLen; omega) (by omega) (by simp; omega) ?_
   intro v' w4 hown4 hgrow
   have hbl : ∀ k, k < w.heap.size → w4.heap[k]? = w.heap[k]? := fun k hk => (hgrow.block k (by simp; omega) (fun e => by cases e)).trans (by first | exact Lib.alloc_old w.drew _ k hk | exact Lib.alloc_old w _ k hk)
   have HB4 : Hid (Below B w w4) := ((Below.refl B w).drew.alloc (by simp; omega) _).grown hgrow (by simp; omega) (fun k hk => by cases hk)
   have HZ4 : Hid (M.BlkAt w4 B [.int .i64 x.no, .bool x.up, .bool x.has, .int .i64 x.of.kd, .int .i64 x.of.to, .int .i64 x.of.fr, .int .i64 x.of.ep, .int .i64 x.of.ed, .string x.of.km.nm, .string x.of.km.tl, .string x.of.km.ar, .slice (some ⟨b, 0, none⟩) x.of.ls.length n, .int .i64 x.of.ct, .bool x.of.tn.over, .int .i64 x.of.tn.cd, .string x.of.tn.tx, .bool x.of.tn.has, .string x.of.tn.nm, .int .i64 x.of.tn.st, .int .i64 0, .int .i64 0, .int .i64 0, .int .i64 0, .int .i64 0, .string ⟨#[]⟩, .string ⟨#[]⟩, .string ⟨#[]⟩, .slice none 0 0, .int .i64 0, .bool false, .int .i64 0, .string ⟨#[]⟩, .bool false, .string ⟨#[]⟩, .int .i64 0, .slice none 0 0]) := fun j v e => (World.cell?_of_block (a := ⟨B, j, none⟩) (hbl B hB)).trans (HZ.out j v e)
   have HF4 : Hid (M.OpnAt w4 B) := fun j => (World.frozen?_of_block (a := ⟨B, j, none⟩) (hbl B hB)).trans (HF.out j)
   obtain ⟨ao, cp, rfl⟩ := row_formN hown4
   have HO4 : Hid (w4.ownsRow (B + 1) 48 16 (.slice ao 1 cp) 1 [.int .i64 3, .int .i64 0, .int .i64 x.no, .int .i64 0, .int .i64 0, .string ⟨#[]⟩, .string ⟨#[]⟩, .string ⟨#[]⟩, .slice none 0 0, .int .i64 0, .bool false, .int .i64 0, .string ⟨#[]⟩, .bool false, .string ⟨#[]⟩, .int .i64 0]) := hown4
   have hz4 : w.heap.size ≤ w4.heap.size := by have := hgrow.size; simp at this; omega
   have b0 := HZ4.out 0 _ rfl
   have b35 := HZ4.out 35 _ rfl
   have g35 := HF4.out 35
   clear hgrow hown4 hbl
   clear hHeld
   refine hK.out _ _ ?_ (fun hHeld => ?_)
   · ((try dsimp only); go_keep)
   clear hK K
   try simp only [Act.put, List.setIfInBounds_toArray, List.set_cons_zero, List.set_cons_succ]
   refine wpAnyH_take (i := 13) (oi := { dst := some 16, op := Op.nilCheck (Operand.tmp 3), type := 0, pos := "l8_worker.go:93", after := #[{ on := 0, ground := Ground.data }, { on := 0, ground := Ground.phase }, { on := 1, ground := Ground.phase }, { on := 2, ground := Ground.phase }, { on := 3, ground := Ground.phase }, { on := 4, ground := Ground.phase }, { on := 5, ground := Ground.phase }, { on := 6, ground := Ground.phase }, { on := 7, ground := Ground.phase }, { on := 8, ground := Ground.phase }, { on := 9, ground := Ground.phase }, { on := 10, ground := Ground.phase }, { on := 11, ground := Ground.phase }, { on := 12, ground := Ground.phase }], guard := none }) (v := ?_) rfl (by kernel_rfl) (by kernel_rfl) (by kernel_rfl) (fun _ _ _ h => h) (Or.inl ⟨by rfl, ?_⟩) (by assumption) ?_
   rotate_left
   · intro wq hSw
     (try dsimp only at hSw)
     go_simp
     try with_reducible rfl
   try simp only [Act.put, List.setIfInBounds_toArray, List.set_cons_zero, List.set_cons_succ]
   refine wpAnyH_take (i := 14) (oi := { dst := some 17, op := Op.fieldAddr 92 (Operand.tmp 16) 2, type := 0, pos := "l8_worker.go:93", after := #[{ on := 13, ground := Ground.data }, { on := 0, ground := Ground.phase }, { on := 1, ground := Ground.phase }, { on := 2, ground := Ground.phase }, { on := 3, ground := Ground.phase }, { on := 4, ground := Ground.phase }, { on := 5, ground := Ground.phase }, { on := 6, ground := Ground.phase }, { on := 7, ground := Ground.phase }, { on := 8, ground := Ground.phase }, { on := 9, ground := Ground.phase }, { on := 10, ground := Ground.phase }, { on := 11, ground := Ground.phase }, { on := 12, ground := Ground.phase }], guard := none }) (v := ?_) rfl (by kernel_rfl) (by kernel_rfl) (by kernel_rfl) (fun _ _ _ h => h) (Or.inl ⟨by rfl, ?_⟩) (by assumption) ?_
   rotate_left
   · intro wq hSw
     (try dsimp only at hSw)
     go_simp
     try with_reducible rfl
   try simp only [Act.put, List.setIfInBounds_toArray, List.set_cons_zero, List.set_cons_succ]
   refine wpAnyH_ready (rs := [15]) (by kernel_rfl) (by simp) ?_
   refine AllReadyH.cons (o := { dst := none, op := Op.store 51 (Operand.tmp 17) (Operand.tmp 15), type := 0, pos := "l8_worker.go:93", after := #[{ on := 14, ground := Ground.data }, { on := 12, ground := Ground.data }, { on := 12, ground := Ground.chain }, { on := 0, ground := Ground.phase }, { on := 1, ground := Ground.phase }, { on := 2, ground := Ground.phase }, { on := 3, ground := Ground.phase }, { on := 4, ground := Ground.phase }, { on := 5, ground := Ground.phase }, { on := 6, ground := Ground.phase }, { on := 7, ground := Ground.phase }, { on := 8, ground := Ground.phase }, { on := 9, ground := Ground.phase }, { on := 10, ground := Ground.phase }, { on := 11, ground := Ground.phase }, { on := 12, ground := Ground.phase }], guard := none }) rfl (fun K hK => ?_) AllReadyH.nil
   go_simp
   have c0 : (w4.setCell ⟨B, 35, none⟩ (.slice ao 1 cp)).cell? ⟨B, 0, none⟩ = some (.int .i64 x.no) := by rw [World.cell?_setCell_other _ _ _ _ (adr_ne (by omega))]; exact b0
   clear hHeld
   refine hK.out _ _ ?_ (fun hHeld => ?_)
   · ((try dsimp only); go_keep)
   clear hK K
   try simp only [Act.put, List.setIfInBounds_toArray, List.set_cons_zero, List.set_cons_succ]
   refine wpAnyH_done (by kernel_rfl) ?_ _
   clear hHeld
   have HZ5 : Hid (M.BlkAt (w4.setCell ⟨B, 35, none⟩ (.slice ao 1 cp)) B [.int .i64 x.no, .bool x.up, .bool x.has, .int .i64 x.of.kd, .int .i64 x.of.to, .int .i64 x.of.fr, .int .i64 x.of.ep, .int .i64 x.of.ed, .string x.of.km.nm, .string x.of.km.tl, .string x.of.km.ar, .slice (some ⟨b, 0, none⟩) x.of.ls.length n, .int .i64 x.of.ct, .bool x.of.tn.over, .int .i64 x.of.tn.cd, .string x.of.tn.tx, .bool x.of.tn.has, .string x.of.tn.nm, .int .i64 x.of.tn.st, .int .i64 0, .int .i64 0, .int .i64 0, .int .i64 0, .int .i64 0, .string ⟨#[]⟩, .string ⟨#[]⟩, .string ⟨#[]⟩, .slice none 0 0, .int .i64 0, .bool false, .int .i64 0, .string ⟨#[]⟩, .bool false, .string ⟨#[]⟩, .int .i64 0, .slice ao 1 cp]) := HZ4.out.set 35 (.slice ao 1 cp) (by simp)
   have HF5 : Hid (M.OpnAt (w4.setCell ⟨B, 35, none⟩ (.slice ao 1 cp)) B) := HF4.out.set _ _
   have HO5 : Hid ((w4.setCell ⟨B, 35, none⟩ (.slice ao 1 cp)).ownsRow (B + 1) 48 16 (.slice ao 1 cp) 1 [.int .i64 3, .int .i64 0, .int .i64 x.no, .int .i64 0, .int .i64 0, .string ⟨#[]⟩, .string ⟨#[]⟩, .string ⟨#[]⟩, .slice none 0 0, .int .i64 0, .bool false, .int .i64 0, .string ⟨#[]⟩, .bool false, .string ⟨#[]⟩, .int .i64 0]) := ownsRow_setCell_below HO4.out (by show B < B + 1; omega) _
   have HB5 : Hid (Below B w (w4.setCell ⟨B, 35, none⟩ (.slice ao 1 cp))) := HB4.out.setCell (by exact Nat.le_refl B) _
   have c2 := HZ5.out 2 _ rfl
   generalize (w4.setCell ⟨B, 35, none⟩ (.slice ao 1 cp)) = w5 at *
   have hcase : x.has = true ∨ x.has = false := by cases x.has <;> simp
   have HX : Hid (x.has = x.has) := rfl
   rcases hcase with hh | hh
   · rw [hh] at c2
     have HH : Hid (x.has = true) := hh
     clear hh HZ HF HZ4 HF4 HO4 HB4 b0 b35 g35 c0 a0 a35 d0 d35
     go_wp2
     try go_region
     all_goals (try go_wp2)
     all_goals go_ret
     all_goals exact ⟨by rw [HH.out]; rfl, ⟨_, HZ5.out, HO5.out⟩, HF5.out, HB5.out⟩
   · rw [hh] at c2
     have HH : Hid (x.has = false) := hh
     clear hh HZ HF HZ4 HF4 HO4 HB4 b0 b35 g35 c0 a0 a35 d0 d35
     go_wp2
     try go_region
     all_goals (try go_wp2)
     all_goals go_ret
     all_goals exact ⟨by rw [HH.out]; rfl, ⟨_, HZ5.out, HO5.out⟩, HF5.out, HB5.out⟩
 · go_simp
   clear hHeld
   refine hK.out _ _ ?_ (fun hHeld => ?_)
   · ((try dsimp only); go_keep)
   clear hK K
   try simp only [Act.put, List.setIfInBounds_toArray, List.set_cons_zero, List.set_cons_succ]
   refine wpAnyH_ready (rs := [4]) (by kernel_rfl) (by simp) ?_
   refine AllReadyH.cons (o := { dst := some 7, op := Op.load 51 (Operand.tmp 6), type := 51, pos := "l8_worker.go:93", after := #[{ on := 3, ground := Ground.data }], guard := none }) rfl (fun K hK => ?_) AllReadyH.nil
   go_simp
   clear hHeld
   refine hK.out _ _ ?_ (fun hHeld => ?_)
   · ((try dsimp only); go_keep)
   clear hK K
   try simp only [Act.put, List.setIfInBounds_toArray, List.set_cons_zero, List.set_cons_succ]
   refine wpAnyH_ready (rs := [12]) (by kernel_rfl) (by simp) ?_
   refine AllReadyH.cons (o := { dst := some 15, op := Op.call { callee := Callee.builtin Builtin.append, args := #[Operand.tmp 7, Operand.tmp 14], argTypes := #[51, 51] }, type := 51, pos := "l8_worker.go:93", after := #[{ on := 4, ground := Ground.data }, { on := 11, ground := Ground.data }], guard := none }) rfl (fun K hK => ?_) AllReadyH.nil
   refine M.step_app rfl (.tmp 7) (.tmp 14) 51 rfl (B + 1) 48 i0 (.agg #[.int .i64 0, .int .i64 0, .int .i64 0, .int .i64 0, .int .i64 0, .string ⟨#[]⟩, .string ⟨#[]⟩, .string ⟨#[]⟩, .slice none 0 0, .int .i64 0, .bool false, .int .i64 0, .string ⟨#[]⟩, .bool false, .string ⟨#[]⟩, .int .i64 0]) 16 184 Tryz.underlying51 hi hz0 hz1 hz2 rfl (by decide) _ _ _ rfl (World.ownsRow_nil _ _ _ _) ⟨w.heap.size, 0, none⟩ 1 1 [.int .i64 3, .int .i64 0, .int .i64 x.no, .int .i64 0, .int .i64 0, .string ⟨#[]⟩, .string ⟨#[]⟩, .string ⟨#[]⟩, .slice none 0 0, .int .i64 0, .bool false, .int .i64 0, .string ⟨#[]⟩, .bool false, .string ⟨#[]⟩, .int .i64 0] rfl rfl (row16n (by simp) [.int .i64 3, .int .i64 0, .int .i64 x.no, .int .i64 0, .int .i64 0, .string ⟨#[]⟩, .string ⟨#[]⟩, .string ⟨#[]⟩, .slice none 0 0, .int .i64 0, .bool false, .int .i64 0, .string ⟨#[]⟩, .bool false, .string ⟨#[]⟩, .int .i64 0] 48) (by simp [Value.oneCell']) (by unfold maxLen; omega) (by omega) (by simp; omega) ?_
   intro v' w4 hown4 hgrow
   have hbl : ∀ k, k < w.heap.size → w4.heap[k]? = w.heap[k]? := fun k hk => (hgrow.block k (by simp; omega) (fun e => by cases e)).trans (by first | exact Lib.alloc_old w.drew _ k hk | exact Lib.alloc_old w _ k hk)
   have HB4 : Hid (Below B w w4) := ((Below.refl B w).drew.alloc (by simp; omega) _).grown hgrow (by simp; omega) (fun k hk => by cases hk)
   have HZ4 : Hid (M.BlkAt w4 B [.int .i64 x.no, .bool x.up, .bool x.has, .int .i64 x.of.kd, .int .i64 x.of.to, .int .i64 x.of.fr, .int .i64 x.of.ep, .int .i64 x.of.ed, .string x.of.km.nm, .string x.of.km.tl, .string x.of.km.ar, .slice (some ⟨b, 0, none⟩) x.of.ls.length n, .int .i64 x.of.ct, .bool x.of.tn.over, .int .i64 x.of.tn.cd, .string x.of.tn.tx, .bool x.of.tn.has, .string x.of.tn.nm, .int .i64 x.of.tn.st, .int .i64 0, .int .i64 0, .int .i64 0, .int .i64 0, .int .i64 0, .string ⟨#[]⟩, .string ⟨#[]⟩, .string ⟨#[]⟩, .slice none 0 0, .int .i64 0, .bool false, .int .i64 0, .string ⟨#[]⟩, .bool false, .string ⟨#[]⟩, .int .i64 0, .slice none 0 0]) := fun j v e => (World.cell?_of_block (a := ⟨B, j, none⟩) (hbl B hB)).trans (HZ.out j v e)
   have HF4 : Hid (M.OpnAt w4 B) := fun j => (World.frozen?_of_block (a := ⟨B, j, none⟩) (hbl B hB)).trans (HF.out j)
   obtain ⟨ao, cp, rfl⟩ := row_formN hown4
   have HO4 : Hid (w4.ownsRow (B + 1) 48 16 (.slice ao 1 cp) 1 [.int .i64 3, .int .i64 0, .int .i64 x.no, .int .i64 0, .int .i64 0, .string ⟨#[]⟩, .string ⟨#[]⟩, .string ⟨#[]⟩, .slice none 0 0, .int .i64 0, .bool false, .int .i64 0, .string ⟨#[]⟩, .bool false, .string ⟨#[]⟩, .int .i64 0]) := hown4
   have hz4 : w.heap.size ≤ w4.heap.size := by have := hgrow.size; simp at this; omega
   have b0 := HZ4.out 0 _ rfl
   have b35 := HZ4.out 35 _ rfl
   have g35 := HF4.out 35
   clear hgrow hown4 hbl
   clear hHeld
   refine hK.out _ _ ?_ (fun hHeld => ?_)
   · ((try dsimp only); go_keep)
   clear hK K
   try simp only [Act.put, List.setIfInBounds_toArray, List.set_cons_zero, List.set_cons_succ]
   refine wpAnyH_take (i := 13) (oi := { dst := some 16, op := Op.nilCheck (Operand.tmp 3), type := 0, pos := "l8_worker.go:93", after := #[{ on := 0, ground := Ground.data }, { on := 0, ground := Ground.phase }, { on := 1, ground := Ground.phase }, { on := 2, ground := Ground.phase }, { on := 3, ground := Ground.phase }, { on := 4, ground := Ground.phase }, { on := 5, ground := Ground.phase }, { on := 6, ground := Ground.phase }, { on := 7, ground := Ground.phase }, { on := 8, ground := Ground.phase }, { on := 9, ground := Ground.phase }, { on := 10, ground := Ground.phase }, { on := 11, ground := Ground.phase }, { on := 12, ground := Ground.phase }], guard := none }) (v := ?_) rfl (by kernel_rfl) (by kernel_rfl) (by kernel_rfl) (fun _ _ _ h => h) (Or.inl ⟨by rfl, ?_⟩) (by assumption) ?_
   rotate_left
   · intro wq hSw
     (try dsimp only at hSw)
     go_simp
     try with_reducible rfl
   try simp only [Act.put, List.setIfInBounds_toArray, List.set_cons_zero, List.set_cons_succ]
   refine wpAnyH_take (i := 14) (oi := { dst := some 17, op := Op.fieldAddr 92 (Operand.tmp 16) 2, type := 0, pos := "l8_worker.go:93", after := #[{ on := 13, ground := Ground.data }, { on := 0, ground := Ground.phase }, { on := 1, ground := Ground.phase }, { on := 2, ground := Ground.phase }, { on := 3, ground := Ground.phase }, { on := 4, ground := Ground.phase }, { on := 5, ground := Ground.phase }, { on := 6, ground := Ground.phase }, { on := 7, ground := Ground.phase }, { on := 8, ground := Ground.phase }, { on := 9, ground := Ground.phase }, { on := 10, ground := Ground.phase }, { on := 11, ground := Ground.phase }, { on := 12, ground := Ground.phase }], guard := none }) (v := ?_) rfl (by kernel_rfl) (by kernel_rfl) (by kernel_rfl) (fun _ _ _ h => h) (Or.inl ⟨by rfl, ?_⟩) (by assumption) ?_
   rotate_left
   · intro wq hSw
     (try dsimp only at hSw)
     go_simp
     try with_reducible rfl
   try simp only [Act.put, List.setIfInBounds_toArray, List.set_cons_zero, List.set_cons_succ]
   refine wpAnyH_ready (rs := [15]) (by kernel_rfl) (by simp) ?_
   refine AllReadyH.cons (o := { dst := none, op := Op.store 51 (Operand.tmp 17) (Operand.tmp 15), type := 0, pos := "l8_worker.go:93", after := #[{ on := 14, ground := Ground.data }, { on := 12, ground := Ground.data }, { on := 12, ground := Ground.chain }, { on := 0, ground := Ground.phase }, { on := 1, ground := Ground.phase }, { on := 2, ground := Ground.phase }, { on := 3, ground := Ground.phase }, { on := 4, ground := Ground.phase }, { on := 5, ground := Ground.phase }, { on := 6, ground := Ground.phase }, { on := 7, ground := Ground.phase }, { on := 8, ground := Ground.phase }, { on := 9, ground := Ground.phase }, { on := 10, ground := Ground.phase }, { on := 11, ground := Ground.phase }, { on := 12, ground := Ground.phase }], guard := none }) rfl (fun K hK => ?_) AllReadyH.nil
   go_simp
   have c0 : (w4.setCell ⟨B, 35, none⟩ (.slice ao 1 cp)).cell? ⟨B, 0, none⟩ = some (.int .i64 x.no) := by rw [World.cell?_setCell_other _ _ _ _ (adr_ne (by omega))]; exact b0
   clear hHeld
   refine hK.out _ _ ?_ (fun hHeld => ?_)
   · ((try dsimp only); go_keep)
   clear hK K
   try simp only [Act.put, List.setIfInBounds_toArray, List.set_cons_zero, List.set_cons_succ]
   refine wpAnyH_done (by kernel_rfl) ?_ _
   clear hHeld
   have HZ5 : Hid (M.BlkAt (w4.setCell ⟨B, 35, none⟩ (.slice ao 1 cp)) B [.int .i64 x.no, .bool x.up, .bool x.has, .int .i64 x.of.kd, .int .i64 x.of.to, .int .i64 x.of.fr, .int .i64 x.of.ep, .int .i64 x.of.ed, .string x.of.km.nm, .string x.of.km.tl, .string x.of.km.ar, .slice (some ⟨b, 0, none⟩) x.of.ls.length n, .int .i64 x.of.ct, .bool x.of.tn.over, .int .i64 x.of.tn.cd, .string x.of.tn.tx, .bool x.of.tn.has, .string x.of.tn.nm, .int .i64 x.of.tn.st, .int .i64 0, .int .i64 0, .int .i64 0, .int .i64 0, .int .i64 0, .string ⟨#[]⟩, .string ⟨#[]⟩, .string ⟨#[]⟩, .slice none 0 0, .int .i64 0, .bool false, .int .i64 0, .string ⟨#[]⟩, .bool false, .string ⟨#[]⟩, .int .i64 0, .slice ao 1 cp]) := HZ4.out.set 35 (.slice ao 1 cp) (by simp)
   have HF5 : Hid (M.OpnAt (w4.setCell ⟨B, 35, none⟩ (.slice ao 1 cp)) B) := HF4.out.set _ _
   have HO5 : Hid ((w4.setCell ⟨B, 35, none⟩ (.slice ao 1 cp)).ownsRow (B + 1) 48 16 (.slice ao 1 cp) 1 [.int .i64 3, .int .i64 0, .int .i64 x.no, .int .i64 0, .int .i64 0, .string ⟨#[]⟩, .string ⟨#[]⟩, .string ⟨#[]⟩, .slice none 0 0, .int .i64 0, .bool false, .int .i64 0, .string ⟨#[]⟩, .bool false, .string ⟨#[]⟩, .int .i64 0]) := ownsRow_setCell_below HO4.out (by show B < B + 1; omega) _
   have HB5 : Hid (Below B w (w4.setCell ⟨B, 35, none⟩ (.slice ao 1 cp))) := HB4.out.setCell (by exact Nat.le_refl B) _
   have c2 := HZ5.out 2 _ rfl
   generalize (w4.setCell ⟨B, 35, none⟩ (.slice ao 1 cp)) = w5 at *
   have hcase : x.has = true ∨ x.has = false := by cases x.has <;> simp
   have HX : Hid (x.has = x.has) := rfl
   rcases hcase with hh | hh
   · rw [hh] at c2
     have HH : Hid (x.has = true) := hh
     clear hh HZ HF HZ4 HF4 HO4 HB4 b0 b35 g35 c0 a0 a35 d0 d35
     go_wp2
     try go_region
     all_goals (try go_wp2)
     all_goals go_ret
     all_goals exact ⟨by rw [HH.out]; rfl, ⟨_, HZ5.out, HO5.out⟩, HF5.out, HB5.out⟩
   · rw [hh] at c2
     have HH : Hid (x.has = false) := hh
     clear hh HZ HF HZ4 HF4 HO4 HB4 b0 b35 g35 c0 a0 a35 d0 d35
     go_wp2
     try go_region
     all_goals (try go_wp2)
     all_goals go_ret
     all_goals exact ⟨by rw [HH.out]; rfl, ⟨_, HZ5.out, HO5.out⟩, HF5.out, HB5.out⟩
end Go.Proofs.YtpjpckmfehfniaaGreatDoor

import Derived.Test.YtpjpckmfehfniaaGreatDoorZC36
namespace Go.Proofs.YtpjpckmfehfniaaGreatDoor.M
open Go.RowKit
theorem lks_fill {G B : Nat} {is : List L4} (hne : B ≠ G) (vs : List Value) : ∀ {u : World} (j : Nat), LksAt u (some ⟨G, 0, none⟩) is → LksAt (fill u B j vs) (some ⟨G, 0, none⟩) is := by
  induction vs with
  | nil => intro u j h; exact h
  | cons v vs ih => intro u j h; exact ih (j + 1) (lks_set h (fun b off e _ => by injection e with e; injection e with e _; show B ≠ b; omega))
set_option maxHeartbeats 2000000 in
theorem c94 (x : T6) (w : World) :
    Calls Tryz.prog 94 #[.agg #[.bool x.over, .int .i64 x.cd, .string x.tx, .bool x.has, .string x.nm, .int .i64 x.st]] w fun e w' => e = .returned (.agg #[.bool x.over, .int .i64 x.cd, .string x.tx, .bool x.has, .string x.nm, .int .i64 x.st]) ∧ Below w.heap.size w w' := by
  have hB0 : Below w.heap.size w (((w.alloc (.cells #[.bool x.over, .int .i64 x.cd, .string x.tx, .bool x.has, .string x.nm, .int .i64 x.st] 41)).alloc (.cells #[.bool false, .int .i64 0, .string ⟨#[]⟩, .bool false, .string ⟨#[]⟩, .int .i64 0] 30)).alloc (.cells #[.bool x.over, .int .i64 0, .string ⟨#[]⟩, .bool false, .string ⟨#[]⟩, .int .i64 0] 30)) := (((Below.refl _ _).alloc (Nat.le_refl _) _).alloc (by simp) _).alloc (by simp; omega) _
  have h75 := c86 x.cd x.tx (((w.alloc (.cells #[.bool x.over, .int .i64 x.cd, .string x.tx, .bool x.has, .string x.nm, .int .i64 x.st] 41)).alloc (.cells #[.bool false, .int .i64 0, .string ⟨#[]⟩, .bool false, .string ⟨#[]⟩, .int .i64 0] 30)).alloc (.cells #[.bool x.over, .int .i64 0, .string ⟨#[]⟩, .bool false, .string ⟨#[]⟩, .int .i64 0] 30))
  go_enter Tryz.func94, Tryz.ntmps94
  go_wp2_with fail
  refine h75.mono ?_
  rintro e w1 ⟨rfl, hb1⟩
  have hx1 : Below (w.heap.size + 3) (((w.alloc (.cells #[.bool x.over, .int .i64 x.cd, .string x.tx, .bool x.has, .string x.nm, .int .i64 x.st] 41)).alloc (.cells #[.bool false, .int .i64 0, .string ⟨#[]⟩, .bool false, .string ⟨#[]⟩, .int .i64 0] 30)).alloc (.cells #[.bool x.over, .int .i64 0, .string ⟨#[]⟩, .bool false, .string ⟨#[]⟩, .int .i64 0] 30)) w1 := by have h := hb1; simp at h; exact h
  have hB1 : Below w.heap.size w w1 := hB0.trans (hx1.mono (by omega))
  have hz1 : w.heap.size + 1 + 1 < w1.heap.size := by have := hx1.size; simp at this; omega
  have ZA : BlkAt w1 w.heap.size [.bool x.over, .int .i64 x.cd, .string x.tx, .bool x.has, .string x.nm, .int .i64 x.st] := fun j v h => (hx1.cell (p := ⟨w.heap.size, j, none⟩) (by show w.heap.size < w.heap.size + 3; omega)).trans (by simp [go_sem, h])
  have ZR : BlkAt w1 (w.heap.size + 1) [.bool false, .int .i64 0, .string ⟨#[]⟩, .bool false, .string ⟨#[]⟩, .int .i64 0] := fun j v h => (hx1.cell (p := ⟨w.heap.size + 1, j, none⟩) (by show w.heap.size + 1 < w.heap.size + 3; omega)).trans (by simp [go_sem, h])
  have ZO : BlkAt w1 (w.heap.size + 1 + 1) [.bool x.over, .int .i64 0, .string ⟨#[]⟩, .bool false, .string ⟨#[]⟩, .int .i64 0] := fun j v h => (hx1.cell (p := ⟨w.heap.size + 1 + 1, j, none⟩) (by show w.heap.size + 1 + 1 < w.heap.size + 3; omega)).trans (by simp [go_sem, h])
  have fR : OpnAt w1 (w.heap.size + 1) := fun j => (hx1.frozen (p := ⟨w.heap.size + 1, j, none⟩) (by show w.heap.size + 1 < w.heap.size + 3; omega)).trans (by simp [go_sem])
  have fO : OpnAt w1 (w.heap.size + 1 + 1) := fun j => (hx1.frozen (p := ⟨w.heap.size + 1 + 1, j, none⟩) (by show w.heap.size + 1 + 1 < w.heap.size + 3; omega)).trans (by simp [go_sem])
  clear hb1 hx1 hB0
  have a3 := ZA 3 _ rfl
  have a4 := ZA 4 _ rfl
  have a5 := ZA 5 _ rfl
  have r0 := ZR 0 _ rfl
  have r1 := ZR 1 _ rfl
  have r2 := ZR 2 _ rfl
  have r3 := ZR 3 _ rfl
  have r4 := ZR 4 _ rfl
  have r5 := ZR 5 _ rfl
  have o0 := ZO 0 _ rfl
  have o1 := ZO 1 _ rfl
  have o2 := ZO 2 _ rfl
  have o3 := ZO 3 _ rfl
  have o4 := ZO 4 _ rfl
  have o5 := ZO 5 _ rfl
  have gR : ∀ j, _ := fR
  have gO : ∀ j, _ := fO
  have HR : Hid (BlkAt w1 (w.heap.size + 1) [.bool false, .int .i64 0, .string ⟨#[]⟩, .bool false, .string ⟨#[]⟩, .int .i64 0]) := ZR
  clear h75 ZA ZR ZO fR fO
  go_wp2
  have F : BlkAt (fill (fill w1 (w.heap.size + 1 + 1) 1 [.int .i64 x.cd, .string x.tx, .bool x.has, .string x.nm, .int .i64 x.st]) (w.heap.size + 1) 0 [.bool x.over, .int .i64 x.cd, .string x.tx, .bool x.has, .string x.nm, .int .i64 x.st]) (w.heap.size + 1) [.bool x.over, .int .i64 x.cd, .string x.tx, .bool x.has, .string x.nm, .int .i64 x.st] := BlkAt.fill [.bool x.over, .int .i64 x.cd, .string x.tx, .bool x.has, .string x.nm, .int .i64 x.st] [] [.bool false, .int .i64 0, .string ⟨#[]⟩, .bool false, .string ⟨#[]⟩, .int .i64 0] [] 0 (BlkAt.fillO (by omega) [.int .i64 x.cd, .string x.tx, .bool x.has, .string x.nm, .int .i64 x.st] 1 HR.out) rfl rfl
  have hBF : Below w.heap.size w (fill (fill w1 (w.heap.size + 1 + 1) 1 [.int .i64 x.cd, .string x.tx, .bool x.has, .string x.nm, .int .i64 x.st]) (w.heap.size + 1) 0 [.bool x.over, .int .i64 x.cd, .string x.tx, .bool x.has, .string x.nm, .int .i64 x.st]) := below_fill (by omega) _ _ (below_fill (by omega) _ _ hB1)
  change bodyPost Tryz.prog Tryz.f94 _ Exit.ret _ (fill (fill w1 (w.heap.size + 1 + 1) 1 [.int .i64 x.cd, .string x.tx, .bool x.has, .string x.nm, .int .i64 x.st]) (w.heap.size + 1) 0 [.bool x.over, .int .i64 x.cd, .string x.tx, .bool x.has, .string x.nm, .int .i64 x.st])
  generalize (fill (fill w1 (w.heap.size + 1 + 1) 1 [.int .i64 x.cd, .string x.tx, .bool x.has, .string x.nm, .int .i64 x.st]) (w.heap.size + 1) 0 [.bool x.over, .int .i64 x.cd, .string x.tx, .bool x.has, .string x.nm, .int .i64 x.st]) = Q at *
  have f0 := F 0 _ rfl
  have f1 := F 1 _ rfl
  have f2 := F 2 _ rfl
  have f3 := F 3 _ rfl
  have f4 := F 4 _ rfl
  have f5 := F 5 _ rfl
  refine bodyPost_ret (v := .agg #[.bool x.over, .int .i64 x.cd, .string x.tx, .bool x.has, .string x.nm, .int .i64 x.st]) (by simp [results, Tryz.results94, go_sem, f0, f1, f2, f3, f4, f5]) rfl ⟨rfl, hBF⟩
set_option maxHeartbeats 8000000 in
theorem c46 (x : G16) (ai : Option Addr) (ci : Nat) (w : World) (hl : x.ls.length ≤ 1048576) (hat : LksAt w ai x.ls) :
    Calls Tryz.prog 46 #[.agg #[.int .i64 x.kd, .int .i64 x.to, .int .i64 x.fr, .int .i64 x.ep, .int .i64 x.ed, .string x.km.nm, .string x.km.tl, .string x.km.ar, .slice ai x.ls.length ci, .int .i64 x.ct, .bool x.tn.over, .int .i64 x.tn.cd, .string x.tn.tx, .bool x.tn.has, .string x.tn.nm, .int .i64 x.tn.st]] w fun e w' => (∃ G, w.heap.size + 3 ≤ G ∧ e = .returned (.agg #[.int .i64 x.kd, .int .i64 x.to, .int .i64 x.fr, .int .i64 x.ep, .int .i64 x.ed, .string x.km.nm, .string x.km.tl, .string x.km.ar, .slice (some ⟨G, 0, none⟩) x.ls.length x.ls.length, .int .i64 x.ct, .bool x.tn.over, .int .i64 x.tn.cd, .string x.tn.tx, .bool x.tn.has, .string x.tn.nm, .int .i64 x.tn.st]) ∧ LksAt w' (some ⟨G, 0, none⟩) x.ls) ∧ Below w.heap.size w w' := by
  have hB0 : Below w.heap.size w (((w.alloc (.cells #[.int .i64 x.kd, .int .i64 x.to, .int .i64 x.fr, .int .i64 x.ep, .int .i64 x.ed, .string x.km.nm, .string x.km.tl, .string x.km.ar, .slice ai x.ls.length ci, .int .i64 x.ct, .bool x.tn.over, .int .i64 x.tn.cd, .string x.tn.tx, .bool x.tn.has, .string x.tn.nm, .int .i64 x.tn.st] 43)).alloc (.cells #[.int .i64 0, .int .i64 0, .int .i64 0, .int .i64 0, .int .i64 0, .string ⟨#[]⟩, .string ⟨#[]⟩, .string ⟨#[]⟩, .slice none 0 0, .int .i64 0, .bool false, .int .i64 0, .string ⟨#[]⟩, .bool false, .string ⟨#[]⟩, .int .i64 0] 48)).alloc (.cells #[.int .i64 x.kd, .int .i64 x.to, .int .i64 x.fr, .int .i64 x.ep, .int .i64 x.ed, .string ⟨#[]⟩, .string ⟨#[]⟩, .string ⟨#[]⟩, .slice none 0 0, .int .i64 0, .bool false, .int .i64 0, .string ⟨#[]⟩, .bool false, .string ⟨#[]⟩, .int .i64 0] 48)) := (((Below.refl _ _).alloc (Nat.le_refl _) _).alloc (by simp) _).alloc (by simp; omega) _
  have h35 := c9 x.km (((w.alloc (.cells #[.int .i64 x.kd, .int .i64 x.to, .int .i64 x.fr, .int .i64 x.ep, .int .i64 x.ed, .string x.km.nm, .string x.km.tl, .string x.km.ar, .slice ai x.ls.length ci, .int .i64 x.ct, .bool x.tn.over, .int .i64 x.tn.cd, .string x.tn.tx, .bool x.tn.has, .string x.tn.nm, .int .i64 x.tn.st] 43)).alloc (.cells #[.int .i64 0, .int .i64 0, .int .i64 0, .int .i64 0, .int .i64 0, .string ⟨#[]⟩, .string ⟨#[]⟩, .string ⟨#[]⟩, .slice none 0 0, .int .i64 0, .bool false, .int .i64 0, .string ⟨#[]⟩, .bool false, .string ⟨#[]⟩, .int .i64 0] 48)).alloc (.cells #[.int .i64 x.kd, .int .i64 x.to, .int .i64 x.fr, .int .i64 x.ep, .int .i64 x.ed, .string ⟨#[]⟩, .string ⟨#[]⟩, .string ⟨#[]⟩, .slice none 0 0, .int .i64 0, .bool false, .int .i64 0, .string ⟨#[]⟩, .bool false, .string ⟨#[]⟩, .int .i64 0] 48))
  have HA : Hid (LksAt w ai x.ls) := hat
  clear hat
  go_enter Tryz.func46, Tryz.ntmps46
  go_wp2_with fail
  refine h35.mono ?_
  rintro e w1 ⟨rfl, hb1⟩
  have hx1 : Below (w.heap.size + 3) (((w.alloc (.cells #[.int .i64 x.kd, .int .i64 x.to, .int .i64 x.fr, .int .i64 x.ep, .int .i64 x.ed, .string x.km.nm, .string x.km.tl, .string x.km.ar, .slice ai x.ls.length ci, .int .i64 x.ct, .bool x.tn.over, .int .i64 x.tn.cd, .string x.tn.tx, .bool x.tn.has, .string x.tn.nm, .int .i64 x.tn.st] 43)).alloc (.cells #[.int .i64 0, .int .i64 0, .int .i64 0, .int .i64 0, .int .i64 0, .string ⟨#[]⟩, .string ⟨#[]⟩, .string ⟨#[]⟩, .slice none 0 0, .int .i64 0, .bool false, .int .i64 0, .string ⟨#[]⟩, .bool false, .string ⟨#[]⟩, .int .i64 0] 48)).alloc (.cells #[.int .i64 x.kd, .int .i64 x.to, .int .i64 x.fr, .int .i64 x.ep, .int .i64 x.ed, .string ⟨#[]⟩, .string ⟨#[]⟩, .string ⟨#[]⟩, .slice none 0 0, .int .i64 0, .bool false, .int .i64 0, .string ⟨#[]⟩, .bool false, .string ⟨#[]⟩, .int .i64 0] 48)) w1 := by have h := hb1; simp at h; exact h
  have hB1 : Below w.heap.size w w1 := hB0.trans (hx1.mono (by omega))
  have hz1 : w.heap.size + 1 + 1 < w1.heap.size := by have := hx1.size; simp at this; omega
  have ZA : BlkAt w1 w.heap.size [.int .i64 x.kd, .int .i64 x.to, .int .i64 x.fr, .int .i64 x.ep, .int .i64 x.ed, .string x.km.nm, .string x.km.tl, .string x.km.ar, .slice ai x.ls.length ci, .int .i64 x.ct, .bool x.tn.over, .int .i64 x.tn.cd, .string x.tn.tx, .bool x.tn.has, .string x.tn.nm, .int .i64 x.tn.st] := fun j v h => (hx1.cell (p := ⟨w.heap.size, j, none⟩) (by show w.heap.size < w.heap.size + 3; omega)).trans (by simp [go_sem, h])
  have ZR : BlkAt w1 (w.heap.size + 1) [.int .i64 0, .int .i64 0, .int .i64 0, .int .i64 0, .int .i64 0, .string ⟨#[]⟩, .string ⟨#[]⟩, .string ⟨#[]⟩, .slice none 0 0, .int .i64 0, .bool false, .int .i64 0, .string ⟨#[]⟩, .bool false, .string ⟨#[]⟩, .int .i64 0] := fun j v h => (hx1.cell (p := ⟨w.heap.size + 1, j, none⟩) (by show w.heap.size + 1 < w.heap.size + 3; omega)).trans (by simp [go_sem, h])
  have ZO : BlkAt w1 (w.heap.size + 1 + 1) [.int .i64 x.kd, .int .i64 x.to, .int .i64 x.fr, .int .i64 x.ep, .int .i64 x.ed, .string ⟨#[]⟩, .string ⟨#[]⟩, .string ⟨#[]⟩, .slice none 0 0, .int .i64 0, .bool false, .int .i64 0, .string ⟨#[]⟩, .bool false, .string ⟨#[]⟩, .int .i64 0] := fun j v h => (hx1.cell (p := ⟨w.heap.size + 1 + 1, j, none⟩) (by show w.heap.size + 1 + 1 < w.heap.size + 3; omega)).trans (by simp [go_sem, h])
  have fR : OpnAt w1 (w.heap.size + 1) := fun j => (hx1.frozen (p := ⟨w.heap.size + 1, j, none⟩) (by show w.heap.size + 1 < w.heap.size + 3; omega)).trans (by simp [go_sem])
  have fO : OpnAt w1 (w.heap.size + 1 + 1) := fun j => (hx1.frozen (p := ⟨w.heap.size + 1 + 1, j, none⟩) (by show w.heap.size + 1 + 1 < w.heap.size + 3; omega)).trans (by simp [go_sem])
  clear hb1 hx1 hB0
  have hB := hB1
  have hz := hz1
  clear h35 hB1 hz1
  have a8 := ZA 8 _ rfl
  have o5 := ZO 5 _ rfl
  have o6 := ZO 6 _ rfl
  have o7 := ZO 7 _ rfl
  have gR : ∀ j, _ := fR
  have gO : ∀ j, _ := fO
  go_wp2_with fail
  clear gR gO a8 o5 o6 o7
  have ZAU : BlkAt (((w1.setCell ⟨w.heap.size + 1 + 1, 5, none⟩ (.string x.km.nm)).setCell ⟨w.heap.size + 1 + 1, 6, none⟩ (.string x.km.tl)).setCell ⟨w.heap.size + 1 + 1, 7, none⟩ (.string x.km.ar)) w.heap.size [.int .i64 x.kd, .int .i64 x.to, .int .i64 x.fr, .int .i64 x.ep, .int .i64 x.ed, .string x.km.nm, .string x.km.tl, .string x.km.ar, .slice ai x.ls.length ci, .int .i64 x.ct, .bool x.tn.over, .int .i64 x.tn.cd, .string x.tn.tx, .bool x.tn.has, .string x.tn.nm, .int .i64 x.tn.st] := (((ZA.other ⟨w.heap.size + 1 + 1, 5, none⟩ (.string x.km.nm) (by show w.heap.size + 1 + 1 ≠ w.heap.size; omega)).other ⟨w.heap.size + 1 + 1, 6, none⟩ (.string x.km.tl) (by show w.heap.size + 1 + 1 ≠ w.heap.size; omega)).other ⟨w.heap.size + 1 + 1, 7, none⟩ (.string x.km.ar) (by show w.heap.size + 1 + 1 ≠ w.heap.size; omega))
  have ZRU : BlkAt (((w1.setCell ⟨w.heap.size + 1 + 1, 5, none⟩ (.string x.km.nm)).setCell ⟨w.heap.size + 1 + 1, 6, none⟩ (.string x.km.tl)).setCell ⟨w.heap.size + 1 + 1, 7, none⟩ (.string x.km.ar)) (w.heap.size + 1) [.int .i64 0, .int .i64 0, .int .i64 0, .int .i64 0, .int .i64 0, .string ⟨#[]⟩, .string ⟨#[]⟩, .string ⟨#[]⟩, .slice none 0 0, .int .i64 0, .bool false, .int .i64 0, .string ⟨#[]⟩, .bool false, .string ⟨#[]⟩, .int .i64 0] := (((ZR.other ⟨w.heap.size + 1 + 1, 5, none⟩ (.string x.km.nm) (by show w.heap.size + 1 + 1 ≠ w.heap.size + 1; omega)).other ⟨w.heap.size + 1 + 1, 6, none⟩ (.string x.km.tl) (by show w.heap.size + 1 + 1 ≠ w.heap.size + 1; omega)).other ⟨w.heap.size + 1 + 1, 7, none⟩ (.string x.km.ar) (by show w.heap.size + 1 + 1 ≠ w.heap.size + 1; omega))
  have ZOU : BlkAt (((w1.setCell ⟨w.heap.size + 1 + 1, 5, none⟩ (.string x.km.nm)).setCell ⟨w.heap.size + 1 + 1, 6, none⟩ (.string x.km.tl)).setCell ⟨w.heap.size + 1 + 1, 7, none⟩ (.string x.km.ar)) (w.heap.size + 1 + 1) [.int .i64 x.kd, .int .i64 x.to, .int .i64 x.fr, .int .i64 x.ep, .int .i64 x.ed, .string x.km.nm, .string x.km.tl, .string x.km.ar, .slice none 0 0, .int .i64 0, .bool false, .int .i64 0, .string ⟨#[]⟩, .bool false, .string ⟨#[]⟩, .int .i64 0] := (((ZO.set 5 (.string x.km.nm) (by simp)).set 6 (.string x.km.tl) (by simp)).set 7 (.string x.km.ar) (by simp))
  have fRU : OpnAt (((w1.setCell ⟨w.heap.size + 1 + 1, 5, none⟩ (.string x.km.nm)).setCell ⟨w.heap.size + 1 + 1, 6, none⟩ (.string x.km.tl)).setCell ⟨w.heap.size + 1 + 1, 7, none⟩ (.string x.km.ar)) (w.heap.size + 1) := (((fR.set ⟨w.heap.size + 1 + 1, 5, none⟩ (.string x.km.nm)).set ⟨w.heap.size + 1 + 1, 6, none⟩ (.string x.km.tl)).set ⟨w.heap.size + 1 + 1, 7, none⟩ (.string x.km.ar))
  have fOU : OpnAt (((w1.setCell ⟨w.heap.size + 1 + 1, 5, none⟩ (.string x.km.nm)).setCell ⟨w.heap.size + 1 + 1, 6, none⟩ (.string x.km.tl)).setCell ⟨w.heap.size + 1 + 1, 7, none⟩ (.string x.km.ar)) (w.heap.size + 1 + 1) := (((fO.set ⟨w.heap.size + 1 + 1, 5, none⟩ (.string x.km.nm)).set ⟨w.heap.size + 1 + 1, 6, none⟩ (.string x.km.tl)).set ⟨w.heap.size + 1 + 1, 7, none⟩ (.string x.km.ar))
  have hBU : Below w.heap.size w (((w1.setCell ⟨w.heap.size + 1 + 1, 5, none⟩ (.string x.km.nm)).setCell ⟨w.heap.size + 1 + 1, 6, none⟩ (.string x.km.tl)).setCell ⟨w.heap.size + 1 + 1, 7, none⟩ (.string x.km.ar)) := (((hB.setCell (by show w.heap.size ≤ w.heap.size + 1 + 1; omega) _).setCell (by show w.heap.size ≤ w.heap.size + 1 + 1; omega) _).setCell (by show w.heap.size ≤ w.heap.size + 1 + 1; omega) _)
  have hzU : w.heap.size + 1 + 1 < (((w1.setCell ⟨w.heap.size + 1 + 1, 5, none⟩ (.string x.km.nm)).setCell ⟨w.heap.size + 1 + 1, 6, none⟩ (.string x.km.tl)).setCell ⟨w.heap.size + 1 + 1, 7, none⟩ (.string x.km.ar)).heap.size := by simpa using hz
  generalize (((w1.setCell ⟨w.heap.size + 1 + 1, 5, none⟩ (.string x.km.nm)).setCell ⟨w.heap.size + 1 + 1, 6, none⟩ (.string x.km.tl)).setCell ⟨w.heap.size + 1 + 1, 7, none⟩ (.string x.km.ar)) = U at *
  clear ZA ZR ZO fR fO hB hz
  refine (c10 ai ci x.ls U hl (lks_below HA.out hBU)).mono ?_
  rintro e w2 ⟨⟨rfl, hL⟩, hb2⟩
  have hB : Below w.heap.size w w2 := hBU.trans (hb2.mono hBU.size)
  have hz : w.heap.size + 1 + 1 < w2.heap.size := Nat.lt_of_lt_of_le hzU hb2.size
  have ZA := ZAU.below hb2 (by omega)
  have ZR := ZRU.below hb2 (by omega)
  have ZO := ZOU.below hb2 hzU
  have fR := fRU.below hb2 (by omega)
  have fO := fOU.below hb2 hzU
  have hG : w.heap.size + 3 ≤ U.heap.size := by omega
  generalize U.heap.size = G at *
  have HL : Hid (LksAt w2 (some ⟨G, 0, none⟩) x.ls) := hL
  clear hb2 hL ZAU ZRU ZOU fRU fOU hBU hzU
  have a9 := ZA 9 _ rfl
  have a10 := ZA 10 _ rfl
  have a11 := ZA 11 _ rfl
  have a12 := ZA 12 _ rfl
  have a13 := ZA 13 _ rfl
  have a14 := ZA 14 _ rfl
  have a15 := ZA 15 _ rfl
  have o8 := ZO 8 _ rfl
  have o9 := ZO 9 _ rfl
  have gR : ∀ j, _ := fR
  have gO : ∀ j, _ := fO
  go_wp2_with fail
  clear gR gO a9 a10 a11 a12 a13 a14 a15 o8 o9
  have ZAV : BlkAt ((w2.setCell ⟨w.heap.size + 1 + 1, 8, none⟩ (.slice (some ⟨G, 0, none⟩) x.ls.length x.ls.length)).setCell ⟨w.heap.size + 1 + 1, 9, none⟩ (.int .i64 x.ct)) w.heap.size [.int .i64 x.kd, .int .i64 x.to, .int .i64 x.fr, .int .i64 x.ep, .int .i64 x.ed, .string x.km.nm, .string x.km.tl, .string x.km.ar, .slice ai x.ls.length ci, .int .i64 x.ct, .bool x.tn.over, .int .i64 x.tn.cd, .string x.tn.tx, .bool x.tn.has, .string x.tn.nm, .int .i64 x.tn.st] := ((ZA.other ⟨w.heap.size + 1 + 1, 8, none⟩ (.slice (some ⟨G, 0, none⟩) x.ls.length x.ls.length) (by show w.heap.size + 1 + 1 ≠ w.heap.size; omega)).other ⟨w.heap.size + 1 + 1, 9, none⟩ (.int .i64 x.ct) (by show w.heap.size + 1 + 1 ≠ w.heap.size; omega))
  have ZRV : BlkAt ((w2.setCell ⟨w.heap.size + 1 + 1, 8, none⟩ (.slice (some ⟨G, 0, none⟩) x.ls.length x.ls.length)).setCell ⟨w.heap.size + 1 + 1, 9, none⟩ (.int .i64 x.ct)) (w.heap.size + 1) [.int .i64 0, .int .i64 0, .int .i64 0, .int .i64 0, .int .i64 0, .string ⟨#[]⟩, .string ⟨#[]⟩, .string ⟨#[]⟩, .slice none 0 0, .int .i64 0, .bool false, .int .i64 0, .string ⟨#[]⟩, .bool false, .string ⟨#[]⟩, .int .i64 0] := ((ZR.other ⟨w.heap.size + 1 + 1, 8, none⟩ (.slice (some ⟨G, 0, none⟩) x.ls.length x.ls.length) (by show w.heap.size + 1 + 1 ≠ w.heap.size + 1; omega)).other ⟨w.heap.size + 1 + 1, 9, none⟩ (.int .i64 x.ct) (by show w.heap.size + 1 + 1 ≠ w.heap.size + 1; omega))
  have ZOV : BlkAt ((w2.setCell ⟨w.heap.size + 1 + 1, 8, none⟩ (.slice (some ⟨G, 0, none⟩) x.ls.length x.ls.length)).setCell ⟨w.heap.size + 1 + 1, 9, none⟩ (.int .i64 x.ct)) (w.heap.size + 1 + 1) [.int .i64 x.kd, .int .i64 x.to, .int .i64 x.fr, .int .i64 x.ep, .int .i64 x.ed, .string x.km.nm, .string x.km.tl, .string x.km.ar, .slice (some ⟨G, 0, none⟩) x.ls.length x.ls.length, .int .i64 x.ct, .bool false, .int .i64 0, .string ⟨#[]⟩, .bool false, .string ⟨#[]⟩, .int .i64 0] := ((ZO.set 8 (.slice (some ⟨G, 0, none⟩) x.ls.length x.ls.length) (by simp)).set 9 (.int .i64 x.ct) (by simp))
  have fRV : OpnAt ((w2.setCell ⟨w.heap.size + 1 + 1, 8, none⟩ (.slice (some ⟨G, 0, none⟩) x.ls.length x.ls.length)).setCell ⟨w.heap.size + 1 + 1, 9, none⟩ (.int .i64 x.ct)) (w.heap.size + 1) := ((fR.set ⟨w.heap.size + 1 + 1, 8, none⟩ (.slice (some ⟨G, 0, none⟩) x.ls.length x.ls.length)).set ⟨w.heap.size + 1 + 1, 9, none⟩ (.int .i64 x.ct))
  have fOV : OpnAt ((w2.setCell ⟨w.heap.size + 1 + 1, 8, none⟩ (.slice (some ⟨G, 0, none⟩) x.ls.length x.ls.length)).setCell ⟨w.heap.size + 1 + 1, 9, none⟩ (.int .i64 x.ct)) (w.heap.size + 1 + 1) := ((fO.set ⟨w.heap.size + 1 + 1, 8, none⟩ (.slice (some ⟨G, 0, none⟩) x.ls.length x.ls.length)).set ⟨w.heap.size + 1 + 1, 9, none⟩ (.int .i64 x.ct))
  have hBV : Below w.heap.size w ((w2.setCell ⟨w.heap.size + 1 + 1, 8, none⟩ (.slice (some ⟨G, 0, none⟩) x.ls.length x.ls.length)).setCell ⟨w.heap.size + 1 + 1, 9, none⟩ (.int .i64 x.ct)) := ((hB.setCell (by show w.heap.size ≤ w.heap.size + 1 + 1; omega) _).setCell (by show w.heap.size ≤ w.heap.size + 1 + 1; omega) _)
  have hzV : w.heap.size + 1 + 1 < ((w2.setCell ⟨w.heap.size + 1 + 1, 8, none⟩ (.slice (some ⟨G, 0, none⟩) x.ls.length x.ls.length)).setCell ⟨w.heap.size + 1 + 1, 9, none⟩ (.int .i64 x.ct)).heap.size := by simpa using hz
  have HLV : Hid (LksAt ((w2.setCell ⟨w.heap.size + 1 + 1, 8, none⟩ (.slice (some ⟨G, 0, none⟩) x.ls.length x.ls.length)).setCell ⟨w.heap.size + 1 + 1, 9, none⟩ (.int .i64 x.ct)) (some ⟨G, 0, none⟩) x.ls) := lks_set (lks_set HL.out (fun b off h _ => by injection h with h; injection h with h _; show w.heap.size + 1 + 1 ≠ b; omega)) (fun b off h _ => by injection h with h; injection h with h _; show w.heap.size + 1 + 1 ≠ b; omega)
  generalize ((w2.setCell ⟨w.heap.size + 1 + 1, 8, none⟩ (.slice (some ⟨G, 0, none⟩) x.ls.length x.ls.length)).setCell ⟨w.heap.size + 1 + 1, 9, none⟩ (.int .i64 x.ct)) = V at *
  clear ZA ZR ZO fR fO hB hz
  refine (c94 x.tn V).mono ?_
  rintro e w3 ⟨rfl, hb3⟩
  have hB : Below w.heap.size w w3 := hBV.trans (hb3.mono hBV.size)
  have hz : w.heap.size + 1 + 1 < w3.heap.size := Nat.lt_of_lt_of_le hzV hb3.size
  have ZA := ZAV.below hb3 (by omega)
  have ZR := ZRV.below hb3 (by omega)
  have ZO := ZOV.below hb3 hzV
  have fR := fRV.below hb3 (by omega)
  have fO := fOV.below hb3 hzV
  have HL3 : Hid (LksAt w3 (some ⟨G, 0, none⟩) x.ls) := lks_below HLV.out hb3
  clear hb3 HL HLV ZAV ZRV ZOV fRV fOV hBV hzV
  have r0 := ZR 0 _ rfl
  have r1 := ZR 1 _ rfl
  have r2 := ZR 2 _ rfl
  have r3 := ZR 3 _ rfl
  have r4 := ZR 4 _ rfl
  have r5 := ZR 5 _ rfl
  have r6 := ZR 6 _ rfl
  have r7 := ZR 7 _ rfl
  have r8 := ZR 8 _ rfl
  have r9 := ZR 9 _ rfl
  have r10 := ZR 10 _ rfl
  have r11 := ZR 11 _ rfl
  have r12 := ZR 12 _ rfl
  have r13 := ZR 13 _ rfl
  have r14 := ZR 14 _ rfl
  have r15 := ZR 15 _ rfl
  have o0 := ZO 0 _ rfl
  have o1 := ZO 1 _ rfl
  have o2 := ZO 2 _ rfl
  have o3 := ZO 3 _ rfl
  have o4 := ZO 4 _ rfl
  have o5 := ZO 5 _ rfl
  have o6 := ZO 6 _ rfl
  have o7 := ZO 7 _ rfl
  have o8 := ZO 8 _ rfl
  have o9 := ZO 9 _ rfl
  have o10 := ZO 10 _ rfl
  have o11 := ZO 11 _ rfl
  have o12 := ZO 12 _ rfl
  have o13 := ZO 13 _ rfl
  have o14 := ZO 14 _ rfl
  have o15 := ZO 15 _ rfl
  have gR : ∀ j, _ := fR
  have gO : ∀ j, _ := fO
  have HR : Hid (BlkAt w3 (w.heap.size + 1) [.int .i64 0, .int .i64 0, .int .i64 0, .int .i64 0, .int .i64 0, .string ⟨#[]⟩, .string ⟨#[]⟩, .string ⟨#[]⟩, .slice none 0 0, .int .i64 0, .bool false, .int .i64 0, .string ⟨#[]⟩, .bool false, .string ⟨#[]⟩, .int .i64 0]) := ZR
  clear ZA ZR ZO fR fO
  go_wp2
  have F : BlkAt (fill (fill w3 (w.heap.size + 1 + 1) 10 [.bool x.tn.over, .int .i64 x.tn.cd, .string x.tn.tx, .bool x.tn.has, .string x.tn.nm, .int .i64 x.tn.st]) (w.heap.size + 1) 0 [.int .i64 x.kd, .int .i64 x.to, .int .i64 x.fr, .int .i64 x.ep, .int .i64 x.ed, .string x.km.nm, .string x.km.tl, .string x.km.ar, .slice (some ⟨G, 0, none⟩) x.ls.length x.ls.length, .int .i64 x.ct, .bool x.tn.over, .int .i64 x.tn.cd, .string x.tn.tx, .bool x.tn.has, .string x.tn.nm, .int .i64 x.tn.st]) (w.heap.size + 1) [.int .i64 x.kd, .int .i64 x.to, .int .i64 x.fr, .int .i64 x.ep, .int .i64 x.ed, .string x.km.nm, .string x.km.tl, .string x.km.ar, .slice (some ⟨G, 0, none⟩) x.ls.length x.ls.length, .int .i64 x.ct, .bool x.tn.over, .int .i64 x.tn.cd, .string x.tn.tx, .bool x.tn.has, .string x.tn.nm, .int .i64 x.tn.st] := BlkAt.fill [.int .i64 x.kd, .int .i64 x.to, .int .i64 x.fr, .int .i64 x.ep, .int .i64 x.ed, .string x.km.nm, .string x.km.tl, .string x.km.ar, .slice (some ⟨G, 0, none⟩) x.ls.length x.ls.length, .int .i64 x.ct, .bool x.tn.over, .int .i64 x.tn.cd, .string x.tn.tx, .bool x.tn.has, .string x.tn.nm, .int .i64 x.tn.st] [] [.int .i64 0, .int .i64 0, .int .i64 0, .int .i64 0, .int .i64 0, .string ⟨#[]⟩, .string ⟨#[]⟩, .string ⟨#[]⟩, .slice none 0 0, .int .i64 0, .bool false, .int .i64 0, .string ⟨#[]⟩, .bool false, .string ⟨#[]⟩, .int .i64 0] [] 0 (BlkAt.fillO (by omega) [.bool x.tn.over, .int .i64 x.tn.cd, .string x.tn.tx, .bool x.tn.has, .string x.tn.nm, .int .i64 x.tn.st] 10 HR.out) rfl rfl
  have hBF : Below w.heap.size w (fill (fill w3 (w.heap.size + 1 + 1) 10 [.bool x.tn.over, .int .i64 x.tn.cd, .string x.tn.tx, .bool x.tn.has, .string x.tn.nm, .int .i64 x.tn.st]) (w.heap.size + 1) 0 [.int .i64 x.kd, .int .i64 x.to, .int .i64 x.fr, .int .i64 x.ep, .int .i64 x.ed, .string x.km.nm, .string x.km.tl, .string x.km.ar, .slice (some ⟨G, 0, none⟩) x.ls.length x.ls.length, .int .i64 x.ct, .bool x.tn.over, .int .i64 x.tn.cd, .string x.tn.tx, .bool x.tn.has, .string x.tn.nm, .int .i64 x.tn.st]) := below_fill (by omega) _ _ (below_fill (by omega) _ _ hB)
  have HLF : Hid (LksAt (fill (fill w3 (w.heap.size + 1 + 1) 10 [.bool x.tn.over, .int .i64 x.tn.cd, .string x.tn.tx, .bool x.tn.has, .string x.tn.nm, .int .i64 x.tn.st]) (w.heap.size + 1) 0 [.int .i64 x.kd, .int .i64 x.to, .int .i64 x.fr, .int .i64 x.ep, .int .i64 x.ed, .string x.km.nm, .string x.km.tl, .string x.km.ar, .slice (some ⟨G, 0, none⟩) x.ls.length x.ls.length, .int .i64 x.ct, .bool x.tn.over, .int .i64 x.tn.cd, .string x.tn.tx, .bool x.tn.has, .string x.tn.nm, .int .i64 x.tn.st]) (some ⟨G, 0, none⟩) x.ls) := lks_fill (by omega) _ _ (lks_fill (by omega) _ _ HL3.out)
  change bodyPost Tryz.prog Tryz.f46 _ Exit.ret _ (fill (fill w3 (w.heap.size + 1 + 1) 10 [.bool x.tn.over, .int .i64 x.tn.cd, .string x.tn.tx, .bool x.tn.has, .string x.tn.nm, .int .i64 x.tn.st]) (w.heap.size + 1) 0 [.int .i64 x.kd, .int .i64 x.to, .int .i64 x.fr, .int .i64 x.ep, .int .i64 x.ed, .string x.km.nm, .string x.km.tl, .string x.km.ar, .slice (some ⟨G, 0, none⟩) x.ls.length x.ls.length, .int .i64 x.ct, .bool x.tn.over, .int .i64 x.tn.cd, .string x.tn.tx, .bool x.tn.has, .string x.tn.nm, .int .i64 x.tn.st])
  generalize (fill (fill w3 (w.heap.size + 1 + 1) 10 [.bool x.tn.over, .int .i64 x.tn.cd, .string x.tn.tx, .bool x.tn.has, .string x.tn.nm, .int .i64 x.tn.st]) (w.heap.size + 1) 0 [.int .i64 x.kd, .int .i64 x.to, .int .i64 x.fr, .int .i64 x.ep, .int .i64 x.ed, .string x.km.nm, .string x.km.tl, .string x.km.ar, .slice (some ⟨G, 0, none⟩) x.ls.length x.ls.length, .int .i64 x.ct, .bool x.tn.over, .int .i64 x.tn.cd, .string x.tn.tx, .bool x.tn.has, .string x.tn.nm, .int .i64 x.tn.st]) = Q at *
  have f0 := F 0 _ rfl
  have f1 := F 1 _ rfl
  have f2 := F 2 _ rfl
  have f3 := F 3 _ rfl
  have f4 := F 4 _ rfl
  have f5 := F 5 _ rfl
  have f6 := F 6 _ rfl
  have f7 := F 7 _ rfl
  have f8 := F 8 _ rfl
  have f9 := F 9 _ rfl
  have f10 := F 10 _ rfl
  have f11 := F 11 _ rfl
  have f12 := F 12 _ rfl
  have f13 := F 13 _ rfl
  have f14 := F 14 _ rfl
  have f15 := F 15 _ rfl
  refine bodyPost_ret (v := .agg #[.int .i64 x.kd, .int .i64 x.to, .int .i64 x.fr, .int .i64 x.ep, .int .i64 x.ed, .string x.km.nm, .string x.km.tl, .string x.km.ar, .slice (some ⟨G, 0, none⟩) x.ls.length x.ls.length, .int .i64 x.ct, .bool x.tn.over, .int .i64 x.tn.cd, .string x.tn.tx, .bool x.tn.has, .string x.tn.nm, .int .i64 x.tn.st]) (by simp [results, Tryz.results46, go_sem, f0, f1, f2, f3, f4, f5, f6, f7, f8, f9, f10, f11, f12, f13, f14, f15]) rfl ⟨⟨G, hG, rfl, HLF.out⟩, hBF⟩
end Go.Proofs.YtpjpckmfehfniaaGreatDoor.M

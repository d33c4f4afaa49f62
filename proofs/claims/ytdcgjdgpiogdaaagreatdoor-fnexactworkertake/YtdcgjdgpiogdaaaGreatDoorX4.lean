import Derived.Test.YtdcgjdgpiogdaaaGreatDoorX1
namespace Go.Proofs.YtdcgjdgpiogdaaaGreatDoor
open Go.RowKit
set_option maxHeartbeats 2000000 in
theorem c44 (x : T6) (w : World) :
    Calls Tryz.prog 44 #[.agg #[.bool x.over, .int .i64 x.cd, .string x.tx, .bool x.has, .string x.nm, .int .i64 x.st], .agg #[.bool x.over, .int .i64 x.cd, .string x.tx, .bool x.has, .string x.nm, .int .i64 x.st]] w fun e w' => e = .returned (.bool true) ∧ Below w.heap.size w w' := by
  have hB0 : ∀ o p, Below w.heap.size w ((w.alloc o).alloc p) := fun o p => ((Below.refl _ _).alloc (Nat.le_refl _) _).alloc (by simp) _
  go_enter Tryz.func44, Tryz.ntmps44
  go_wp2_with fail
  refine (c87 x.cd x.tx _).mono ?_
  rintro e w1 ⟨rfl, hb1⟩
  have hx1 : Below (w.heap.size + 2) ((w.alloc (.cells #[.bool x.over, .int .i64 x.cd, .string x.tx, .bool x.has, .string x.nm, .int .i64 x.st] 39)).alloc (.cells #[.bool x.over, .int .i64 x.cd, .string x.tx, .bool x.has, .string x.nm, .int .i64 x.st] 39)) w1 := by have h := hb1; simp at h; exact h
  have hB1 : Below w.heap.size w w1 := (hB0 _ _).trans (hx1.mono (by omega))
  have hz1 : w.heap.size + 1 < w1.heap.size := by have := hx1.size; simp at this; omega
  have ZA : BlkAt w1 w.heap.size [.bool x.over, .int .i64 x.cd, .string x.tx, .bool x.has, .string x.nm, .int .i64 x.st] := fun j v h => (hx1.cell (p := ⟨w.heap.size, j, none⟩) (by show w.heap.size < w.heap.size + 2; omega)).trans (by simp [go_sem, h])
  have ZB : BlkAt w1 (w.heap.size + 1) [.bool x.over, .int .i64 x.cd, .string x.tx, .bool x.has, .string x.nm, .int .i64 x.st] := fun j v h => (hx1.cell (p := ⟨w.heap.size + 1, j, none⟩) (by show w.heap.size + 1 < w.heap.size + 2; omega)).trans (by simp [go_sem, h])
  clear hb1 hx1
  have a3 := ZA 3 _ rfl
  have b3 := ZB 3 _ rfl
  have a4 := ZA 4 _ rfl
  have b4 := ZB 4 _ rfl
  have a5 := ZA 5 _ rfl
  have b5 := ZB 5 _ rfl
  clear ZA ZB
  go_wp2
  go_ret
  exact ⟨rfl, hB1⟩
set_option maxHeartbeats 4000000 in
theorem c16 (x : G16) (ai bi : Option Addr) (ci di : Nat) (w : World) (hl : x.ls.length ≤ 1048576) (hat : LksAt w ai x.ls) (hat' : LksAt w bi x.ls) :
    Calls Tryz.prog 16 #[.agg #[.int .i64 x.kd, .int .i64 x.to, .int .i64 x.fr, .int .i64 x.ep, .int .i64 x.ed, .string x.km.nm, .string x.km.tl, .string x.km.ar, .slice ai x.ls.length ci, .int .i64 x.ct, .bool x.tn.over, .int .i64 x.tn.cd, .string x.tn.tx, .bool x.tn.has, .string x.tn.nm, .int .i64 x.tn.st], .agg #[.int .i64 x.kd, .int .i64 x.to, .int .i64 x.fr, .int .i64 x.ep, .int .i64 x.ed, .string x.km.nm, .string x.km.tl, .string x.km.ar, .slice bi x.ls.length di, .int .i64 x.ct, .bool x.tn.over, .int .i64 x.tn.cd, .string x.tn.tx, .bool x.tn.has, .string x.tn.nm, .int .i64 x.tn.st]] w fun e w' => e = .returned (.bool true) ∧ Below w.heap.size w w' := by
  have HA : Hid (LksAt w ai x.ls) := hat
  have HA' : Hid (LksAt w bi x.ls) := hat'
  clear hat hat'
  have hB0 : ∀ o p, Below w.heap.size w ((w.alloc o).alloc p) := fun o p => ((Below.refl _ _).alloc (Nat.le_refl _) _).alloc (by simp) _
  go_enter Tryz.func16, Tryz.ntmps16
  go_wp2_with fail
  refine (c42 x.km _).mono ?_
  rintro e w1 ⟨rfl, hb1⟩
  have hx1 : Below (w.heap.size + 2) ((w.alloc (.cells #[.int .i64 x.kd, .int .i64 x.to, .int .i64 x.fr, .int .i64 x.ep, .int .i64 x.ed, .string x.km.nm, .string x.km.tl, .string x.km.ar, .slice ai x.ls.length ci, .int .i64 x.ct, .bool x.tn.over, .int .i64 x.tn.cd, .string x.tn.tx, .bool x.tn.has, .string x.tn.nm, .int .i64 x.tn.st] 41)).alloc (.cells #[.int .i64 x.kd, .int .i64 x.to, .int .i64 x.fr, .int .i64 x.ep, .int .i64 x.ed, .string x.km.nm, .string x.km.tl, .string x.km.ar, .slice bi x.ls.length di, .int .i64 x.ct, .bool x.tn.over, .int .i64 x.tn.cd, .string x.tn.tx, .bool x.tn.has, .string x.tn.nm, .int .i64 x.tn.st] 41)) w1 := by have h := hb1; simp at h; exact h
  have hB1 : Below w.heap.size w w1 := (hB0 _ _).trans (hx1.mono (by omega))
  have hz1 : w.heap.size + 1 < w1.heap.size := by have := hx1.size; simp at this; omega
  have ZA : BlkAt w1 w.heap.size [.int .i64 x.kd, .int .i64 x.to, .int .i64 x.fr, .int .i64 x.ep, .int .i64 x.ed, .string x.km.nm, .string x.km.tl, .string x.km.ar, .slice ai x.ls.length ci, .int .i64 x.ct, .bool x.tn.over, .int .i64 x.tn.cd, .string x.tn.tx, .bool x.tn.has, .string x.tn.nm, .int .i64 x.tn.st] := fun j v h => (hx1.cell (p := ⟨w.heap.size, j, none⟩) (by show w.heap.size < w.heap.size + 2; omega)).trans (by simp [go_sem, h])
  have ZB : BlkAt w1 (w.heap.size + 1) [.int .i64 x.kd, .int .i64 x.to, .int .i64 x.fr, .int .i64 x.ep, .int .i64 x.ed, .string x.km.nm, .string x.km.tl, .string x.km.ar, .slice bi x.ls.length di, .int .i64 x.ct, .bool x.tn.over, .int .i64 x.tn.cd, .string x.tn.tx, .bool x.tn.has, .string x.tn.nm, .int .i64 x.tn.st] := fun j v h => (hx1.cell (p := ⟨w.heap.size + 1, j, none⟩) (by show w.heap.size + 1 < w.heap.size + 2; omega)).trans (by simp [go_sem, h])
  clear hb1 hx1
  have a8 := ZA 8 _ rfl
  have b8 := ZB 8 _ rfl
  go_wp2_with fail
  clear a8 b8
  refine (c43 ai bi ci di x.ls w1 hl (lks_below HA.out hB1) (lks_below HA'.out hB1)).mono ?_
  rintro e w2 ⟨rfl, hb2⟩
  have hB2 : Below w.heap.size w w2 := hB1.trans (hb2.mono hB1.size)
  have hz2 : w.heap.size + 1 < w2.heap.size := Nat.lt_of_lt_of_le hz1 hb2.size
  have ZA2 := ZA.below hb2 (by omega)
  have ZB2 := ZB.below hb2 hz1
  clear hb2 ZA ZB
  have a9 := ZA2 9 _ rfl
  have b9 := ZB2 9 _ rfl
  have a10 := ZA2 10 _ rfl
  have b10 := ZB2 10 _ rfl
  have a11 := ZA2 11 _ rfl
  have b11 := ZB2 11 _ rfl
  have a12 := ZA2 12 _ rfl
  have b12 := ZB2 12 _ rfl
  have a13 := ZA2 13 _ rfl
  have b13 := ZB2 13 _ rfl
  have a14 := ZA2 14 _ rfl
  have b14 := ZB2 14 _ rfl
  have a15 := ZA2 15 _ rfl
  have b15 := ZB2 15 _ rfl
  go_wp2_with fail
  refine (c44 x.tn w2).mono ?_
  rintro e w3 ⟨rfl, hb3⟩
  have hB3 : Below w.heap.size w w3 := hB2.trans (hb3.mono hB2.size)
  go_wp2
  go_ret
  exact ⟨rfl, hB3⟩
set_option maxHeartbeats 4000000 in
theorem c11 (x : W19) (ai bi : Option Addr) (ci di : Nat) (w : World) (hl : x.of.ls.length ≤ 1048576) (hat : LksAt w ai x.of.ls) (hat' : LksAt w bi x.of.ls) :
    Calls Tryz.prog 11 #[.agg #[.int .i64 x.no, .bool x.up, .bool x.has, .int .i64 x.of.kd, .int .i64 x.of.to, .int .i64 x.of.fr, .int .i64 x.of.ep, .int .i64 x.of.ed, .string x.of.km.nm, .string x.of.km.tl, .string x.of.km.ar, .slice ai x.of.ls.length ci, .int .i64 x.of.ct, .bool x.of.tn.over, .int .i64 x.of.tn.cd, .string x.of.tn.tx, .bool x.of.tn.has, .string x.of.tn.nm, .int .i64 x.of.tn.st], .agg #[.int .i64 x.no, .bool x.up, .bool x.has, .int .i64 x.of.kd, .int .i64 x.of.to, .int .i64 x.of.fr, .int .i64 x.of.ep, .int .i64 x.of.ed, .string x.of.km.nm, .string x.of.km.tl, .string x.of.km.ar, .slice bi x.of.ls.length di, .int .i64 x.of.ct, .bool x.of.tn.over, .int .i64 x.of.tn.cd, .string x.of.tn.tx, .bool x.of.tn.has, .string x.of.tn.nm, .int .i64 x.of.tn.st]] w fun e w' => e = .returned (.bool true) ∧ Below w.heap.size w w' := by
  have HA : Hid (LksAt w ai x.of.ls) := hat
  have HA' : Hid (LksAt w bi x.of.ls) := hat'
  clear hat hat'
  have hB0 : ∀ o p, Below w.heap.size w ((w.alloc o).alloc p) := fun o p => ((Below.refl _ _).alloc (Nat.le_refl _) _).alloc (by simp) _
  go_enter Tryz.func11, Tryz.ntmps11
  go_wp2_with fail
  refine (c16 x.of ai bi ci di _ hl (lks_below HA.out (hB0 _ _)) (lks_below HA'.out (hB0 _ _))).mono ?_
  rintro e w1 ⟨rfl, hb1⟩
  have hB1 : Below w.heap.size w w1 := (hB0 _ _).trans (hb1.mono (by simp; omega))
  go_wp2
  go_ret
  exact ⟨rfl, hB1⟩
end Go.Proofs.YtdcgjdgpiogdaaaGreatDoor

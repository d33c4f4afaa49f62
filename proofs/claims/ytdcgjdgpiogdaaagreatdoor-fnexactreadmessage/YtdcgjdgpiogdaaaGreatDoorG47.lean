import Derived.Test.YtdcgjdgpiogdaaaGreatDoorZH
import Derived.Test.YtdcgjdgpiogdaaaGreatDoorG05
import Derived.Test.YtdcgjdgpiogdaaaGreatDoorG42
import Derived.Test.YtdcgjdgpiogdaaaGreatDoorRX
import Derived.Test.YtdcgjdgpiogdaaaGreatDoorRZ
namespace Go.Proofs.YtdcgjdgpiogdaaaGreatDoor
open Go.RowKit
theorem open4_but {w w' : World} {b g n : Nat} (h : Open4 w g n) (hb : But b w w') (hne : g ≠ b) : Open4 w' g n :=
  ⟨Nat.lt_of_lt_of_le h.1 hb.size, fun j hj => by rw [hb.cell (by exact h.1) hne]; exact h.2.1 j hj, fun j => by unfold World.frozen?; rw [hb.block _ h.1 hne]; exact h.2.2 j⟩
set_option maxHeartbeats 1000000 in
theorem c52z (K : Int) (a : Option Addr) (cap : Nat) (w : World) :
    Calls Tryz.prog 52 #[.slice a 0 cap, .int .i64 K] w fun e w' => e = .returned (.int .i64 K) ∧ Below w.heap.size w w' := by
  go_enter Tryz.func52, Tryz.ntmps52
  go_wp2_with fail
  go_loopw [1, 5] (fun q i wr => i = .int .i64 0 ∧ q = .int .i64 K ∧ Below w.heap.size w wr) (fun _ _ _ => 0)
  case atStart => exact ⟨rfl, rfl, Below.refl _ _⟩
  case round =>
    obtain ⟨rfl, rfl, hb⟩ := hrel
    go_wp2
    go_ret
    exact ⟨rfl, hb⟩
theorem c52h (K : Int) (x : G16) (a : Option Addr) (g c : Nat) (w : World) (hK1 : 1 ≤ K) (hK2 : K ≤ 5000000) (hn : x.ls.length ≤ 1048576) (hh : x.ls = [] ∨ (a = some ⟨g, 0, none⟩ ∧ Open4 w g x.ls.length)) :
    Calls Tryz.prog 52 #[.slice a x.ls.length c, .int .i64 K] w fun e w' => e = .returned (.int .i64 (K + 4 * (x.ls.length : Int))) ∧ But g w w' ∧ (x.ls = [] ∨ (Open4 w' g x.ls.length ∧ MarksAt K w' g x.ls.length)) := by
  rcases hh with h | ⟨h1, h2⟩
  · rw [h]
    refine (c52z K a c w).mono fun e w' ⟨he, hb⟩ => ⟨by rw [he]; simp, But.of_below hb, .inl rfl⟩
  · exact (c52 K a g x.ls.length c w hK1 hK2 (.inr h1) hn h2).mono fun e w' ⟨he, hb, ho, hm⟩ => ⟨he, hb, .inr ⟨ho, hm⟩⟩
theorem c53h (K : Int) (x : G16) (a : Option Addr) (g c : Nat) (w : World) (hK1 : 1 ≤ K) (hK2 : K ≤ 5000000) (hn : x.ls.length ≤ 1048576) (hh : x.ls = [] ∨ (a = some ⟨g, 0, none⟩ ∧ g < w.heap.size ∧ MarksAt K w g x.ls.length)) :
    Calls Tryz.prog 53 #[.slice a x.ls.length c, .int .i64 K] w fun e w' => e = .returned (.int .i64 (K + 4 * (x.ls.length : Int))) ∧ Below w.heap.size w w' := by
  rcases hh with h | ⟨h1, h2, h3⟩
  · rw [h]
    exact c53 K a g 0 c w hK1 hK2 (.inl rfl) (by omega) (.inl rfl) (fun j h => absurd h (Nat.not_lt_zero _))
  · exact c53 K a g x.ls.length c w hK1 hK2 (.inr h1) hn (.inr h2) h3
set_option maxHeartbeats 2000000 in
set_option maxRecDepth 100000 in
theorem c19 (K : Int) (x : G16) (a : Option Addr) (g c : Nat) (w : World) (hK1 : 1 ≤ K) (hK2 : K ≤ 5000000) (hn : x.ls.length ≤ 1048576) (hh : x.ls = [] ∨ (a = some ⟨g, 0, none⟩ ∧ Open4 w g x.ls.length)) :
    Calls Tryz.prog 19 #[.agg #[.int .i64 x.kd, .int .i64 x.to, .int .i64 x.fr, .int .i64 x.ep, .int .i64 x.ed, .string x.km.nm, .string x.km.tl, .string x.km.ar, .slice a x.ls.length c, .int .i64 x.ct, .bool x.tn.over, .int .i64 x.tn.cd, .string x.tn.tx, .bool x.tn.has, .string x.tn.nm, .int .i64 x.tn.st], .int .i64 K] w fun e w' => e = .returned (.int .i64 (K + 4 * (x.ls.length : Int))) ∧ But g w w' ∧ (x.ls = [] ∨ (Open4 w' g x.ls.length ∧ MarksAt K w' g x.ls.length)) := by
  have HH : Hid (x.ls = [] ∨ (a = some ⟨g, 0, none⟩ ∧ Open4 w g x.ls.length)) := hh
  have hB0 : Below w.heap.size w (w.alloc (.cells #[.int .i64 x.kd, .int .i64 x.to, .int .i64 x.fr, .int .i64 x.ep, .int .i64 x.ed, .string x.km.nm, .string x.km.tl, .string x.km.ar, .slice a x.ls.length c, .int .i64 x.ct, .bool x.tn.over, .int .i64 x.tn.cd, .string x.tn.tx, .bool x.tn.has, .string x.tn.nm, .int .i64 x.tn.st] 41)) := (Below.refl _ _).alloc (Nat.le_refl _) _
  clear hh
  go_enter Tryz.func19, Tryz.ntmps19
  go_wp2_with fail
  refine (c52h K x a g c _ hK1 hK2 hn (HH.out.imp id fun h => ⟨h.1, h.2.below hB0⟩)).mono ?_
  rintro e w1 ⟨rfl, hb1, hm1⟩
  have HB1 : Hid (But g w w1) := (But.of_below hB0).trans hb1
  have HM1 : Hid (x.ls = [] ∨ (Open4 w1 g x.ls.length ∧ MarksAt K w1 g x.ls.length)) := hm1
  clear hb1 hm1 hB0
  go_wp2
  go_ret
  exact ⟨rfl, HB1.out, HM1.out⟩
set_option maxHeartbeats 2000000 in
set_option maxRecDepth 100000 in
theorem c20 (K : Int) (x : G16) (a : Option Addr) (g c : Nat) (w : World) (hK1 : 1 ≤ K) (hK2 : K ≤ 5000000) (hn : x.ls.length ≤ 1048576) (hh : x.ls = [] ∨ (a = some ⟨g, 0, none⟩ ∧ g < w.heap.size ∧ MarksAt K w g x.ls.length)) :
    Calls Tryz.prog 20 #[.agg #[.int .i64 x.kd, .int .i64 x.to, .int .i64 x.fr, .int .i64 x.ep, .int .i64 x.ed, .string x.km.nm, .string x.km.tl, .string x.km.ar, .slice a x.ls.length c, .int .i64 x.ct, .bool x.tn.over, .int .i64 x.tn.cd, .string x.tn.tx, .bool x.tn.has, .string x.tn.nm, .int .i64 x.tn.st], .int .i64 K] w fun e w' => e = .returned (.int .i64 (K + 4 * (x.ls.length : Int))) ∧ Below w.heap.size w w' := by
  have HH : Hid (x.ls = [] ∨ (a = some ⟨g, 0, none⟩ ∧ g < w.heap.size ∧ MarksAt K w g x.ls.length)) := hh
  have hB0 : Below w.heap.size w (w.alloc (.cells #[.int .i64 x.kd, .int .i64 x.to, .int .i64 x.fr, .int .i64 x.ep, .int .i64 x.ed, .string x.km.nm, .string x.km.tl, .string x.km.ar, .slice a x.ls.length c, .int .i64 x.ct, .bool x.tn.over, .int .i64 x.tn.cd, .string x.tn.tx, .bool x.tn.has, .string x.tn.nm, .int .i64 x.tn.st] 41)) := (Below.refl _ _).alloc (Nat.le_refl _) _
  clear hh
  go_enter Tryz.func20, Tryz.ntmps20
  go_wp2_with fail
  refine (c53h K x a g c _ hK1 hK2 hn (HH.out.imp id fun h => ⟨h.1, Nat.lt_of_lt_of_le h.2.1 hB0.size, marks_below h.2.2 h.2.1 hB0⟩)).mono ?_
  rintro e w1 ⟨rfl, hb1⟩
  have HB1 : Hid (Below w.heap.size w w1) := hB0.trans (hb1.mono hB0.size)
  have hpos : ¬ (K + 4 * (x.ls.length : Int)) < 0 := by omega
  clear hb1 hB0
  go_wp2
  go_ret
  exact ⟨rfl, HB1.out⟩
set_option maxHeartbeats 2000000 in
set_option maxRecDepth 100000 in
theorem c23 (K : Int) (x : W19) (a : Option Addr) (g c : Nat) (w : World) (hK1 : 1 ≤ K) (hK2 : K ≤ 5000000) (hn : x.of.ls.length ≤ 1048576) (hh : x.of.ls = [] ∨ (a = some ⟨g, 0, none⟩ ∧ Open4 w g x.of.ls.length)) :
    Calls Tryz.prog 23 #[.agg #[.int .i64 x.no, .bool x.up, .bool x.has, .int .i64 x.of.kd, .int .i64 x.of.to, .int .i64 x.of.fr, .int .i64 x.of.ep, .int .i64 x.of.ed, .string x.of.km.nm, .string x.of.km.tl, .string x.of.km.ar, .slice a x.of.ls.length c, .int .i64 x.of.ct, .bool x.of.tn.over, .int .i64 x.of.tn.cd, .string x.of.tn.tx, .bool x.of.tn.has, .string x.of.tn.nm, .int .i64 x.of.tn.st], .int .i64 K] w fun e w' => e = .returned (.int .i64 (K + 4 * (x.of.ls.length : Int))) ∧ But g w w' ∧ (x.of.ls = [] ∨ (Open4 w' g x.of.ls.length ∧ MarksAt K w' g x.of.ls.length)) := by
  have HH : Hid (x.of.ls = [] ∨ (a = some ⟨g, 0, none⟩ ∧ Open4 w g x.of.ls.length)) := hh
  have hB0 : Below w.heap.size w (w.alloc (.cells #[.int .i64 x.no, .bool x.up, .bool x.has, .int .i64 x.of.kd, .int .i64 x.of.to, .int .i64 x.of.fr, .int .i64 x.of.ep, .int .i64 x.of.ed, .string x.of.km.nm, .string x.of.km.tl, .string x.of.km.ar, .slice a x.of.ls.length c, .int .i64 x.of.ct, .bool x.of.tn.over, .int .i64 x.of.tn.cd, .string x.of.tn.tx, .bool x.of.tn.has, .string x.of.tn.nm, .int .i64 x.of.tn.st] 43)) := (Below.refl _ _).alloc (Nat.le_refl _) _
  clear hh
  go_enter Tryz.func23, Tryz.ntmps23
  go_wp2_with fail
  refine (c19 K x.of a g c _ hK1 hK2 hn (HH.out.imp id fun h => ⟨h.1, h.2.below hB0⟩)).mono ?_
  rintro e w1 ⟨rfl, hb1, hm1⟩
  have HB1 : Hid (But g w w1) := (But.of_below hB0).trans hb1
  have HM1 : Hid (x.of.ls = [] ∨ (Open4 w1 g x.of.ls.length ∧ MarksAt K w1 g x.of.ls.length)) := hm1
  clear hb1 hm1 hB0
  go_wp2
  go_ret
  exact ⟨rfl, HB1.out, HM1.out⟩
set_option maxHeartbeats 2000000 in
set_option maxRecDepth 100000 in
theorem c24 (K : Int) (x : W19) (a : Option Addr) (g c : Nat) (w : World) (hK1 : 1 ≤ K) (hK2 : K ≤ 5000000) (hn : x.of.ls.length ≤ 1048576) (hh : x.of.ls = [] ∨ (a = some ⟨g, 0, none⟩ ∧ g < w.heap.size ∧ MarksAt K w g x.of.ls.length)) :
    Calls Tryz.prog 24 #[.agg #[.int .i64 x.no, .bool x.up, .bool x.has, .int .i64 x.of.kd, .int .i64 x.of.to, .int .i64 x.of.fr, .int .i64 x.of.ep, .int .i64 x.of.ed, .string x.of.km.nm, .string x.of.km.tl, .string x.of.km.ar, .slice a x.of.ls.length c, .int .i64 x.of.ct, .bool x.of.tn.over, .int .i64 x.of.tn.cd, .string x.of.tn.tx, .bool x.of.tn.has, .string x.of.tn.nm, .int .i64 x.of.tn.st], .int .i64 K] w fun e w' => e = .returned (.int .i64 (K + 4 * (x.of.ls.length : Int))) ∧ Below w.heap.size w w' := by
  have HH : Hid (x.of.ls = [] ∨ (a = some ⟨g, 0, none⟩ ∧ g < w.heap.size ∧ MarksAt K w g x.of.ls.length)) := hh
  have hB0 : Below w.heap.size w (w.alloc (.cells #[.int .i64 x.no, .bool x.up, .bool x.has, .int .i64 x.of.kd, .int .i64 x.of.to, .int .i64 x.of.fr, .int .i64 x.of.ep, .int .i64 x.of.ed, .string x.of.km.nm, .string x.of.km.tl, .string x.of.km.ar, .slice a x.of.ls.length c, .int .i64 x.of.ct, .bool x.of.tn.over, .int .i64 x.of.tn.cd, .string x.of.tn.tx, .bool x.of.tn.has, .string x.of.tn.nm, .int .i64 x.of.tn.st] 43)) := (Below.refl _ _).alloc (Nat.le_refl _) _
  clear hh
  go_enter Tryz.func24, Tryz.ntmps24
  go_wp2_with fail
  refine (c20 K x.of a g c _ hK1 hK2 hn (HH.out.imp id fun h => ⟨h.1, Nat.lt_of_lt_of_le h.2.1 hB0.size, marks_below h.2.2 h.2.1 hB0⟩)).mono ?_
  rintro e w1 ⟨rfl, hb1⟩
  have HB1 : Hid (Below w.heap.size w w1) := hB0.trans (hb1.mono hB0.size)
  have hpos : ¬ (K + 4 * (x.of.ls.length : Int)) < 0 := by omega
  clear hb1 hB0
  go_wp2
  go_ret
  exact ⟨rfl, HB1.out⟩
end Go.Proofs.YtdcgjdgpiogdaaaGreatDoor
namespace Go.Proofs.YtdcgjdgpiogdaaaGreatDoor
open Go.RowKit
set_option maxHeartbeats 2000000 in
theorem c44 (x : T6) (w : World) :
    Calls Tryz.prog 44 #[.agg #[.bool x.over, .int .i64 x.cd, .string x.tx, .bool x.has, .string x.nm, .int .i64 x.st], .agg #[.bool x.over, .int .i64 x.cd, .string x.tx, .bool x.has, .string x.nm, .int .i64 x.st]] w fun e w' => e = .returned (.bool true) ∧ Below w.heap.size w w' := by
  have hB0 : ∀ o p, Below w.heap.size w ((w.alloc o).alloc p) := fun o p => ((Below.refl _ _).alloc (Nat.le_refl _) _).alloc (by simp) _
  go_enter Tryz.func44, Tryz.ntmps44
  go_wp2_with fail
  refine (c87 x.cd x.tx _).mono ?_
  rintro e w1 ⟨rfl, hb1⟩
  have hx1 : Below (w.heap.size + 2) ((w.alloc (.cells #[.bool x.over, .int .i64 x.cd, .string x.tx, .bool x.has, .string x.nm, .int .i64 x.st] 39)).alloc (.cells #[.bool x.over, .int .i64 x.cd, .string x.tx, .bool x.has, .string x.nm, .int .i64 x.st] 39)) w1 := by have h := hb1; simp at h; exact h
  have hB1 : Below w.heap.size w w1 := (hB0 _ _).trans (hx1.mono (by omega))
  have hz1 : w.heap.size + 1 < w1.heap.size := by have := hx1.size; simp at this; omega
  have ZA : BlkAt w1 w.heap.size [.bool x.over, .int .i64 x.cd, .string x.tx, .bool x.has, .string x.nm, .int .i64 x.st] := fun j v h => (hx1.cell (p := ⟨w.heap.size, j, none⟩) (by show w.heap.size < w.heap.size + 2; omega)).trans (by simp [go_sem, h])
  have ZB : BlkAt w1 (w.heap.size + 1) [.bool x.over, .int .i64 x.cd, .string x.tx, .bool x.has, .string x.nm, .int .i64 x.st] := fun j v h => (hx1.cell (p := ⟨w.heap.size + 1, j, none⟩) (by show w.heap.size + 1 < w.heap.size + 2; omega)).trans (by simp [go_sem, h])
  clear hb1 hx1
  have a3 := ZA 3 _ rfl
  have b3 := ZB 3 _ rfl
  have a4 := ZA 4 _ rfl
  have b4 := ZB 4 _ rfl
  have a5 := ZA 5 _ rfl
  have b5 := ZB 5 _ rfl
  clear ZA ZB
  go_wp2
  go_ret
  exact ⟨rfl, hB1⟩
set_option maxHeartbeats 4000000 in
theorem c16 (x : G16) (ai bi : Option Addr) (ci di : Nat) (w : World) (hl : x.ls.length ≤ 1048576) (hat : LksAt w ai x.ls) (hat' : LksAt w bi x.ls) :
    Calls Tryz.prog 16 #[.agg #[.int .i64 x.kd, .int .i64 x.to, .int .i64 x.fr, .int .i64 x.ep, .int .i64 x.ed, .string x.km.nm, .string x.km.tl, .string x.km.ar, .slice ai x.ls.length ci, .int .i64 x.ct, .bool x.tn.over, .int .i64 x.tn.cd, .string x.tn.tx, .bool x.tn.has, .string x.tn.nm, .int .i64 x.tn.st], .agg #[.int .i64 x.kd, .int .i64 x.to, .int .i64 x.fr, .int .i64 x.ep, .int .i64 x.ed, .string x.km.nm, .string x.km.tl, .string x.km.ar, .slice bi x.ls.length di, .int .i64 x.ct, .bool x.tn.over, .int .i64 x.tn.cd, .string x.tn.tx, .bool x.tn.has, .string x.tn.nm, .int .i64 x.tn.st]] w fun e w' => e = .returned (.bool true) ∧ Below w.heap.size w w' := by
  have HA : Hid (LksAt w ai x.ls) := hat
  have HA' : Hid (LksAt w bi x.ls) := hat'
  clear hat hat'
  have hB0 : ∀ o p, Below w.heap.size w ((w.alloc o).alloc p) := fun o p => ((Below.refl _ _).alloc (Nat.le_refl _) _).alloc (by simp) _
  go_enter Tryz.func16, Tryz.ntmps16
  go_wp2_with fail
  refine (c42 x.km _).mono ?_
  rintro e w1 ⟨rfl, hb1⟩
  have hx1 : Below (w.heap.size + 2) ((w.alloc (.cells #[.int .i64 x.kd, .int .i64 x.to, .int .i64 x.fr, .int .i64 x.ep, .int .i64 x.ed, .string x.km.nm, .string x.km.tl, .string x.km.ar, .slice ai x.ls.length ci, .int .i64 x.ct, .bool x.tn.over, .int .i64 x.tn.cd, .string x.tn.tx, .bool x.tn.has, .string x.tn.nm, .int .i64 x.tn.st] 41)).alloc (.cells #[.int .i64 x.kd, .int .i64 x.to, .int .i64 x.fr, .int .i64 x.ep, .int .i64 x.ed, .string x.km.nm, .string x.km.tl, .string x.km.ar, .slice bi x.ls.length di, .int .i64 x.ct, .bool x.tn.over, .int .i64 x.tn.cd, .string x.tn.tx, .bool x.tn.has, .string x.tn.nm, .int .i64 x.tn.st] 41)) w1 := by have h := hb1; simp at h; exact h
  have hB1 : Below w.heap.size w w1 := (hB0 _ _).trans (hx1.mono (by omega))
  have hz1 : w.heap.size + 1 < w1.heap.size := by have := hx1.size; simp at this; omega
  have ZA : BlkAt w1 w.heap.size [.int .i64 x.kd, .int .i64 x.to, .int .i64 x.fr, .int .i64 x.ep, .int .i64 x.ed, .string x.km.nm, .string x.km.tl, .string x.km.ar, .slice ai x.ls.length ci, .int .i64 x.ct, .bool x.tn.over, .int .i64 x.tn.cd, .string x.tn.tx, .bool x.tn.has, .string x.tn.nm, .int .i64 x.tn.st] := fun j v h => (hx1.cell (p := ⟨w.heap.size, j, none⟩) (by show w.heap.size < w.heap.size + 2; omega)).trans (by simp [go_sem, h])
  have ZB : BlkAt w1 (w.heap.size + 1) [.int .i64 x.kd, .int .i64 x.to, .int .i64 x.fr, .int .i64 x.ep, .int .i64 x.ed, .string x.km.nm, .string x.km.tl, .string x.km.ar, .slice bi x.ls.length di, .int .i64 x.ct, .bool x.tn.over, .int .i64 x.tn.cd, .string x.tn.tx, .bool x.tn.has, .string x.tn.nm, .int .i64 x.tn.st] := fun j v h => (hx1.cell (p := ⟨w.heap.size + 1, j, none⟩) (by show w.heap.size + 1 < w.heap.size + 2; omega)).trans (by simp [go_sem, h])
  clear hb1 hx1
  have a8 := ZA 8 _ rfl
  have b8 := ZB 8 _ rfl
  go_wp2_with fail
  clear a8 b8
  refine (c43 ai bi ci di x.ls w1 hl (lks_below HA.out hB1) (lks_below HA'.out hB1)).mono ?_
  rintro e w2 ⟨rfl, hb2⟩
  have hB2 : Below w.heap.size w w2 := hB1.trans (hb2.mono hB1.size)
  have hz2 : w.heap.size + 1 < w2.heap.size := Nat.lt_of_lt_of_le hz1 hb2.size
  have ZA2 := ZA.below hb2 (by omega)
  have ZB2 := ZB.below hb2 hz1
  clear hb2 ZA ZB
  have a9 := ZA2 9 _ rfl
  have b9 := ZB2 9 _ rfl
  have a10 := ZA2 10 _ rfl
  have b10 := ZB2 10 _ rfl
  have a11 := ZA2 11 _ rfl
  have b11 := ZB2 11 _ rfl
  have a12 := ZA2 12 _ rfl
  have b12 := ZB2 12 _ rfl
  have a13 := ZA2 13 _ rfl
  have b13 := ZB2 13 _ rfl
  have a14 := ZA2 14 _ rfl
  have b14 := ZB2 14 _ rfl
  have a15 := ZA2 15 _ rfl
  have b15 := ZB2 15 _ rfl
  go_wp2_with fail
  refine (c44 x.tn w2).mono ?_
  rintro e w3 ⟨rfl, hb3⟩
  have hB3 : Below w.heap.size w w3 := hB2.trans (hb3.mono hB2.size)
  go_wp2
  go_ret
  exact ⟨rfl, hB3⟩
set_option maxHeartbeats 4000000 in
theorem c11 (x : W19) (ai bi : Option Addr) (ci di : Nat) (w : World) (hl : x.of.ls.length ≤ 1048576) (hat : LksAt w ai x.of.ls) (hat' : LksAt w bi x.of.ls) :
    Calls Tryz.prog 11 #[.agg #[.int .i64 x.no, .bool x.up, .bool x.has, .int .i64 x.of.kd, .int .i64 x.of.to, .int .i64 x.of.fr, .int .i64 x.of.ep, .int .i64 x.of.ed, .string x.of.km.nm, .string x.of.km.tl, .string x.of.km.ar, .slice ai x.of.ls.length ci, .int .i64 x.of.ct, .bool x.of.tn.over, .int .i64 x.of.tn.cd, .string x.of.tn.tx, .bool x.of.tn.has, .string x.of.tn.nm, .int .i64 x.of.tn.st], .agg #[.int .i64 x.no, .bool x.up, .bool x.has, .int .i64 x.of.kd, .int .i64 x.of.to, .int .i64 x.of.fr, .int .i64 x.of.ep, .int .i64 x.of.ed, .string x.of.km.nm, .string x.of.km.tl, .string x.of.km.ar, .slice bi x.of.ls.length di, .int .i64 x.of.ct, .bool x.of.tn.over, .int .i64 x.of.tn.cd, .string x.of.tn.tx, .bool x.of.tn.has, .string x.of.tn.nm, .int .i64 x.of.tn.st]] w fun e w' => e = .returned (.bool true) ∧ Below w.heap.size w w' := by
  have HA : Hid (LksAt w ai x.of.ls) := hat
  have HA' : Hid (LksAt w bi x.of.ls) := hat'
  clear hat hat'
  have hB0 : ∀ o p, Below w.heap.size w ((w.alloc o).alloc p) := fun o p => ((Below.refl _ _).alloc (Nat.le_refl _) _).alloc (by simp) _
  go_enter Tryz.func11, Tryz.ntmps11
  go_wp2_with fail
  refine (c16 x.of ai bi ci di _ hl (lks_below HA.out (hB0 _ _)) (lks_below HA'.out (hB0 _ _))).mono ?_
  rintro e w1 ⟨rfl, hb1⟩
  have hB1 : Below w.heap.size w w1 := (hB0 _ _).trans (hb1.mono (by simp; omega))
  go_wp2
  go_ret
  exact ⟨rfl, hB1⟩
end Go.Proofs.YtdcgjdgpiogdaaaGreatDoor
namespace Go.Proofs.YtdcgjdgpiogdaaaGreatDoor
open Go.RowKit
set_option maxHeartbeats 8000000 in
set_option maxRecDepth 100000 in
theorem c17 (s key : ByteArray) (w : World) (hs : s.size ≤ 1048576) (hk : key.size ≤ 1048576) :
    Calls Tryz.prog 17 #[.string s, .string key] w fun e w' => Is17 s.data.toList key w' e ∧ Below w.heap.size w w' := by
  have hsl : s.data.toList.length = s.size := by simp
  by_cases h9 : 9 ≤ s.size
  · by_cases h16 : s.size ≤ 16000
    · by_cases h1 : wordOf ((cutS 10 (s.data.toList.drop 8)).getD 0 []) = wrdP 1
      · exact c17_offer s key w h9 h16 hk h1
      · by_cases h2 : wordOf ((cutS 10 (s.data.toList.drop 8)).getD 0 []) = wrdP 2
        · exact c17_turn s key w h9 h16 hk h2
        · by_cases h3 : wordOf ((cutS 10 (s.data.toList.drop 8)).getD 0 []) = wrdP 3
          · exact c17_here s key w h9 h16 hk h3
          · exact c17_none s key w h9 h16 hk (fun k hk => by rcases hk with rfl | rfl | rfl <;> assumption)
    · have HN : Hid (RMS s.data.toList key g16z false) := rms_short (by omega)
      have hB0 : Below w.heap.size w (w.alloc (.cells zG.toArray 41)) := (Below.refl _ _).alloc (Nat.le_refl _) _
      have hA := blk_new w zG 41
      have hO := opn_new w zG.toArray 41
      have hS := blk_some hA zG rfl
      have h1 : decide ((s.size : Int) < 9) = false := by simp; omega
      have h2 : decide (16000 < (s.size : Int)) = true := by simp; omega
      go_enter Tryz.func17, Tryz.ntmps17
      go_wp2_with (refine wpList_store_blk rfl 41 (.tmp 4) (.tmp 23) rfl w.heap.size 0 rfl zG rfl hS hO (by simp [zG, Value.oneCell']) (by kernel_rfl) rfl ?_)
      exact fin17_no HN.out rfl rfl rfl hA hB0
  · have HN : Hid (RMS s.data.toList key g16z false) := rms_short (by omega)
    have hB0 : Below w.heap.size w (w.alloc (.cells zG.toArray 41)) := (Below.refl _ _).alloc (Nat.le_refl _) _
    have hA := blk_new w zG 41
    have hO := opn_new w zG.toArray 41
    have hS := blk_some hA zG rfl
    have h1 : decide ((s.size : Int) < 9) = true := by simp; omega
    go_enter Tryz.func17, Tryz.ntmps17
    go_wp2_with (refine wpList_store_blk rfl 41 (.tmp 4) (.tmp 23) rfl w.heap.size 0 rfl zG rfl hS hO (by simp [zG, Value.oneCell']) (by kernel_rfl) rfl ?_)
    exact fin17_no HN.out rfl rfl rfl hA hB0
/-- The two read the same. -/
theorem rm_same {l : List UInt8} {key : ByteArray} {x y : G16} {a b : Bool} (hx : RMS l key x a) (hy : RM l key y b) (zx : a = false → x = g16z) (zy : b = false → y = g16z) : a = b ∧ x = y := by
  cases a <;> cases b
  · exact ⟨rfl, by rw [zx rfl, zy rfl]⟩
  · obtain ⟨h1, h2⟩ := hy.1 rfl
    exact absurd h2 (hx.2 rfl y h1)
  · obtain ⟨h1, h2, _⟩ := hx.1 rfl
    exact absurd h2 (hy.2 rfl x h1)
  · obtain ⟨_, _, h3⟩ := hx.1 rfl
    obtain ⟨h1, h2⟩ := hy.1 rfl
    exact ⟨rfl, h3 y h1 h2⟩
theorem c16v (x : G16) (ai bi : Option Addr) (ci di : Nat) (w : World) (hl : x.ls.length ≤ 1048576) (hat : LksAt w ai x.ls) (hat' : LksAt w bi x.ls) :
    Calls Tryz.prog 16 #[.agg (x.c ai ci).toArray, .agg (x.c bi di).toArray] w fun e w' => e = .returned (.bool true) ∧ Below w.heap.size w w' := c16 x ai bi ci di w hl hat hat'
theorem c19v (K : Int) (x : G16) (a : Option Addr) (g c : Nat) (w : World) (hK1 : 1 ≤ K) (hK2 : K ≤ 5000000) (hn : x.ls.length ≤ 1048576) (hh : x.ls = [] ∨ (a = some ⟨g, 0, none⟩ ∧ Open4 w g x.ls.length)) :
    Calls Tryz.prog 19 #[.agg (x.c a c).toArray, .int .i64 K] w fun e w' => e = .returned (.int .i64 (K + 4 * (x.ls.length : Int))) ∧ But g w w' ∧ (x.ls = [] ∨ (Open4 w' g x.ls.length ∧ MarksAt K w' g x.ls.length)) := c19 K x a g c w hK1 hK2 hn hh
theorem c20v (K : Int) (x : G16) (a : Option Addr) (g c : Nat) (w : World) (hK1 : 1 ≤ K) (hK2 : K ≤ 5000000) (hn : x.ls.length ≤ 1048576) (hh : x.ls = [] ∨ (a = some ⟨g, 0, none⟩ ∧ g < w.heap.size ∧ MarksAt K w g x.ls.length)) :
    Calls Tryz.prog 20 #[.agg (x.c a c).toArray, .int .i64 K] w fun e w' => e = .returned (.int .i64 (K + 4 * (x.ls.length : Int))) ∧ Below w.heap.size w w' := c20 K x a g c w hK1 hK2 hn hh
end Go.Proofs.YtdcgjdgpiogdaaaGreatDoor

import Derived.Test.YtdcgjdgpiogdaaaGreatDoorZH
namespace Go.Proofs.YtdcgjdgpiogdaaaGreatDoor
open Go.RowKit
theorem open4_but {w w' : World} {b g n : Nat} (h : Open4 w g n) (hb : But b w w') (hne : g ≠ b) : Open4 w' g n :=
  ⟨Nat.lt_of_lt_of_le h.1 hb.size, fun j hj => by rw [hb.cell (by exact h.1) hne]; exact h.2.1 j hj, fun j => by unfold World.frozen?; rw [hb.block _ h.1 hne]; exact h.2.2 j⟩
set_option maxHeartbeats 1000000 in
theorem c52z (K : Int) (a : Option Addr) (cap : Nat) (w : World) :
    Calls Tryz.prog 52 #[.slice a 0 cap, .int .i64 K] w fun e w' => e = .returned (.int .i64 K) ∧ Below w.heap.size w w' := by
  go_enter Tryz.func52, Tryz.ntmps52
  go_wp2_with fail
  go_loopw [1, 5] (fun q i wr => i = .int .i64 0 ∧ q = .int .i64 K ∧ Below w.heap.size w wr) (fun _ _ _ => 0)
  case atStart => exact ⟨rfl, rfl, Below.refl _ _⟩
  case round =>
    obtain ⟨rfl, rfl, hb⟩ := hrel
    go_wp2
    go_ret
    exact ⟨rfl, hb⟩
theorem c52h (K : Int) (x : G16) (a : Option Addr) (g c : Nat) (w : World) (hK1 : 1 ≤ K) (hK2 : K ≤ 5000000) (hn : x.ls.length ≤ 1048576) (hh : x.ls = [] ∨ (a = some ⟨g, 0, none⟩ ∧ Open4 w g x.ls.length)) :
    Calls Tryz.prog 52 #[.slice a x.ls.length c, .int .i64 K] w fun e w' => e = .returned (.int .i64 (K + 4 * (x.ls.length : Int))) ∧ But g w w' ∧ (x.ls = [] ∨ (Open4 w' g x.ls.length ∧ MarksAt K w' g x.ls.length)) := by
  rcases hh with h | ⟨h1, h2⟩
  · rw [h]
    refine (c52z K a c w).mono fun e w' ⟨he, hb⟩ => ⟨by rw [he]; simp, But.of_below hb, .inl rfl⟩
  · exact (c52 K a g x.ls.length c w hK1 hK2 (.inr h1) hn h2).mono fun e w' ⟨he, hb, ho, hm⟩ => ⟨he, hb, .inr ⟨ho, hm⟩⟩
theorem c53h (K : Int) (x : G16) (a : Option Addr) (g c : Nat) (w : World) (hK1 : 1 ≤ K) (hK2 : K ≤ 5000000) (hn : x.ls.length ≤ 1048576) (hh : x.ls = [] ∨ (a = some ⟨g, 0, none⟩ ∧ g < w.heap.size ∧ MarksAt K w g x.ls.length)) :
    Calls Tryz.prog 53 #[.slice a x.ls.length c, .int .i64 K] w fun e w' => e = .returned (.int .i64 (K + 4 * (x.ls.length : Int))) ∧ Below w.heap.size w w' := by
  rcases hh with h | ⟨h1, h2, h3⟩
  · rw [h]
    exact c53 K a g 0 c w hK1 hK2 (.inl rfl) (by omega) (.inl rfl) (fun j h => absurd h (Nat.not_lt_zero _))
  · exact c53 K a g x.ls.length c w hK1 hK2 (.inr h1) hn (.inr h2) h3
set_option maxHeartbeats 2000000 in
set_option maxRecDepth 100000 in
theorem c19 (K : Int) (x : G16) (a : Option Addr) (g c : Nat) (w : World) (hK1 : 1 ≤ K) (hK2 : K ≤ 5000000) (hn : x.ls.length ≤ 1048576) (hh : x.ls = [] ∨ (a = some ⟨g, 0, none⟩ ∧ Open4 w g x.ls.length)) :
    Calls Tryz.prog 19 #[.agg #[.int .i64 x.kd, .int .i64 x.to, .int .i64 x.fr, .int .i64 x.ep, .int .i64 x.ed, .string x.km.nm, .string x.km.tl, .string x.km.ar, .slice a x.ls.length c, .int .i64 x.ct, .bool x.tn.over, .int .i64 x.tn.cd, .string x.tn.tx, .bool x.tn.has, .string x.tn.nm, .int .i64 x.tn.st], .int .i64 K] w fun e w' => e = .returned (.int .i64 (K + 4 * (x.ls.length : Int))) ∧ But g w w' ∧ (x.ls = [] ∨ (Open4 w' g x.ls.length ∧ MarksAt K w' g x.ls.length)) := by
  have HH : Hid (x.ls = [] ∨ (a = some ⟨g, 0, none⟩ ∧ Open4 w g x.ls.length)) := hh
  have hB0 : Below w.heap.size w (w.alloc (.cells #[.int .i64 x.kd, .int .i64 x.to, .int .i64 x.fr, .int .i64 x.ep, .int .i64 x.ed, .string x.km.nm, .string x.km.tl, .string x.km.ar, .slice a x.ls.length c, .int .i64 x.ct, .bool x.tn.over, .int .i64 x.tn.cd, .string x.tn.tx, .bool x.tn.has, .string x.tn.nm, .int .i64 x.tn.st] 41)) := (Below.refl _ _).alloc (Nat.le_refl _) _
  clear hh
  go_enter Tryz.func19, Tryz.ntmps19
  go_wp2_with fail
  refine (c52h K x a g c _ hK1 hK2 hn (HH.out.imp id fun h => ⟨h.1, h.2.below hB0⟩)).mono ?_
  rintro e w1 ⟨rfl, hb1, hm1⟩
  have HB1 : Hid (But g w w1) := (But.of_below hB0).trans hb1
  have HM1 : Hid (x.ls = [] ∨ (Open4 w1 g x.ls.length ∧ MarksAt K w1 g x.ls.length)) := hm1
  clear hb1 hm1 hB0
  go_wp2
  go_ret
  exact ⟨rfl, HB1.out, HM1.out⟩
set_option maxHeartbeats 2000000 in
set_option maxRecDepth 100000 in
theorem c20 (K : Int) (x : G16) (a : Option Addr) (g c : Nat) (w : World) (hK1 : 1 ≤ K) (hK2 : K ≤ 5000000) (hn : x.ls.length ≤ 1048576) (hh : x.ls = [] ∨ (a = some ⟨g, 0, none⟩ ∧ g < w.heap.size ∧ MarksAt K w g x.ls.length)) :
    Calls Tryz.prog 20 #[.agg #[.int .i64 x.kd, .int .i64 x.to, .int .i64 x.fr, .int .i64 x.ep, .int .i64 x.ed, .string x.km.nm, .string x.km.tl, .string x.km.ar, .slice a x.ls.length c, .int .i64 x.ct, .bool x.tn.over, .int .i64 x.tn.cd, .string x.tn.tx, .bool x.tn.has, .string x.tn.nm, .int .i64 x.tn.st], .int .i64 K] w fun e w' => e = .returned (.int .i64 (K + 4 * (x.ls.length : Int))) ∧ Below w.heap.size w w' := by
  have HH : Hid (x.ls = [] ∨ (a = some ⟨g, 0, none⟩ ∧ g < w.heap.size ∧ MarksAt K w g x.ls.length)) := hh
  have hB0 : Below w.heap.size w (w.alloc (.cells #[.int .i64 x.kd, .int .i64 x.to, .int .i64 x.fr, .int .i64 x.ep, .int .i64 x.ed, .string x.km.nm, .string x.km.tl, .string x.km.ar, .slice a x.ls.length c, .int .i64 x.ct, .bool x.tn.over, .int .i64 x.tn.cd, .string x.tn.tx, .bool x.tn.has, .string x.tn.nm, .int .i64 x.tn.st] 41)) := (Below.refl _ _).alloc (Nat.le_refl _) _
  clear hh
  go_enter Tryz.func20, Tryz.ntmps20
  go_wp2_with fail
  refine (c53h K x a g c _ hK1 hK2 hn (HH.out.imp id fun h => ⟨h.1, Nat.lt_of_lt_of_le h.2.1 hB0.size, marks_below h.2.2 h.2.1 hB0⟩)).mono ?_
  rintro e w1 ⟨rfl, hb1⟩
  have HB1 : Hid (Below w.heap.size w w1) := hB0.trans (hb1.mono hB0.size)
  have hpos : ¬ (K + 4 * (x.ls.length : Int)) < 0 := by omega
  clear hb1 hB0
  go_wp2
  go_ret
  exact ⟨rfl, HB1.out⟩
set_option maxHeartbeats 2000000 in
set_option maxRecDepth 100000 in
theorem c23 (K : Int) (x : W19) (a : Option Addr) (g c : Nat) (w : World) (hK1 : 1 ≤ K) (hK2 : K ≤ 5000000) (hn : x.of.ls.length ≤ 1048576) (hh : x.of.ls = [] ∨ (a = some ⟨g, 0, none⟩ ∧ Open4 w g x.of.ls.length)) :
    Calls Tryz.prog 23 #[.agg #[.int .i64 x.no, .bool x.up, .bool x.has, .int .i64 x.of.kd, .int .i64 x.of.to, .int .i64 x.of.fr, .int .i64 x.of.ep, .int .i64 x.of.ed, .string x.of.km.nm, .string x.of.km.tl, .string x.of.km.ar, .slice a x.of.ls.length c, .int .i64 x.of.ct, .bool x.of.tn.over, .int .i64 x.of.tn.cd, .string x.of.tn.tx, .bool x.of.tn.has, .string x.of.tn.nm, .int .i64 x.of.tn.st], .int .i64 K] w fun e w' => e = .returned (.int .i64 (K + 4 * (x.of.ls.length : Int))) ∧ But g w w' ∧ (x.of.ls = [] ∨ (Open4 w' g x.of.ls.length ∧ MarksAt K w' g x.of.ls.length)) := by
  have HH : Hid (x.of.ls = [] ∨ (a = some ⟨g, 0, none⟩ ∧ Open4 w g x.of.ls.length)) := hh
  have hB0 : Below w.heap.size w (w.alloc (.cells #[.int .i64 x.no, .bool x.up, .bool x.has, .int .i64 x.of.kd, .int .i64 x.of.to, .int .i64 x.of.fr, .int .i64 x.of.ep, .int .i64 x.of.ed, .string x.of.km.nm, .string x.of.km.tl, .string x.of.km.ar, .slice a x.of.ls.length c, .int .i64 x.of.ct, .bool x.of.tn.over, .int .i64 x.of.tn.cd, .string x.of.tn.tx, .bool x.of.tn.has, .string x.of.tn.nm, .int .i64 x.of.tn.st] 43)) := (Below.refl _ _).alloc (Nat.le_refl _) _
  clear hh
  go_enter Tryz.func23, Tryz.ntmps23
  go_wp2_with fail
  refine (c19 K x.of a g c _ hK1 hK2 hn (HH.out.imp id fun h => ⟨h.1, h.2.below hB0⟩)).mono ?_
  rintro e w1 ⟨rfl, hb1, hm1⟩
  have HB1 : Hid (But g w w1) := (But.of_below hB0).trans hb1
  have HM1 : Hid (x.of.ls = [] ∨ (Open4 w1 g x.of.ls.length ∧ MarksAt K w1 g x.of.ls.length)) := hm1
  clear hb1 hm1 hB0
  go_wp2
  go_ret
  exact ⟨rfl, HB1.out, HM1.out⟩
set_option maxHeartbeats 2000000 in
set_option maxRecDepth 100000 in
theorem c24 (K : Int) (x : W19) (a : Option Addr) (g c : Nat) (w : World) (hK1 : 1 ≤ K) (hK2 : K ≤ 5000000) (hn : x.of.ls.length ≤ 1048576) (hh : x.of.ls = [] ∨ (a = some ⟨g, 0, none⟩ ∧ g < w.heap.size ∧ MarksAt K w g x.of.ls.length)) :
    Calls Tryz.prog 24 #[.agg #[.int .i64 x.no, .bool x.up, .bool x.has, .int .i64 x.of.kd, .int .i64 x.of.to, .int .i64 x.of.fr, .int .i64 x.of.ep, .int .i64 x.of.ed, .string x.of.km.nm, .string x.of.km.tl, .string x.of.km.ar, .slice a x.of.ls.length c, .int .i64 x.of.ct, .bool x.of.tn.over, .int .i64 x.of.tn.cd, .string x.of.tn.tx, .bool x.of.tn.has, .string x.of.tn.nm, .int .i64 x.of.tn.st], .int .i64 K] w fun e w' => e = .returned (.int .i64 (K + 4 * (x.of.ls.length : Int))) ∧ Below w.heap.size w w' := by
  have HH : Hid (x.of.ls = [] ∨ (a = some ⟨g, 0, none⟩ ∧ g < w.heap.size ∧ MarksAt K w g x.of.ls.length)) := hh
  have hB0 : Below w.heap.size w (w.alloc (.cells #[.int .i64 x.no, .bool x.up, .bool x.has, .int .i64 x.of.kd, .int .i64 x.of.to, .int .i64 x.of.fr, .int .i64 x.of.ep, .int .i64 x.of.ed, .string x.of.km.nm, .string x.of.km.tl, .string x.of.km.ar, .slice a x.of.ls.length c, .int .i64 x.of.ct, .bool x.of.tn.over, .int .i64 x.of.tn.cd, .string x.of.tn.tx, .bool x.of.tn.has, .string x.of.tn.nm, .int .i64 x.of.tn.st] 43)) := (Below.refl _ _).alloc (Nat.le_refl _) _
  clear hh
  go_enter Tryz.func24, Tryz.ntmps24
  go_wp2_with fail
  refine (c20 K x.of a g c _ hK1 hK2 hn (HH.out.imp id fun h => ⟨h.1, Nat.lt_of_lt_of_le h.2.1 hB0.size, marks_below h.2.2 h.2.1 hB0⟩)).mono ?_
  rintro e w1 ⟨rfl, hb1⟩
  have HB1 : Hid (Below w.heap.size w w1) := hB0.trans (hb1.mono hB0.size)
  have hpos : ¬ (K + 4 * (x.of.ls.length : Int)) < 0 := by omega
  clear hb1 hB0
  go_wp2
  go_ret
  exact ⟨rfl, HB1.out⟩
end Go.Proofs.YtdcgjdgpiogdaaaGreatDoor

import Derived.Test.YtpjpckmfehfniaaGreatDoorZH
import Derived.Test.YtpjpckmfehfniaaGreatDoorZB
namespace Go.Proofs.YtpjpckmfehfniaaGreatDoor.M
open Go.RowKit
theorem open4_but {w w' : World} {b g n : Nat} (h : Open4 w g n) (hb : But b w w') (hne : g ≠ b) : Open4 w' g n :=
 ⟨Nat.lt_of_lt_of_le h.1 hb.size, fun j hj => by rw [hb.cell (by exact h.1) hne]; exact h.2.1 j hj, fun j => by unfold World.frozen?; rw [hb.block _ h.1 hne]; exact h.2.2 j⟩
set_option maxHeartbeats 1000000 in
theorem c53z (K : Int) (a : Option Addr) (cap : Nat) (w : World) :
 Calls Tryz.prog 53 #[.slice a 0 cap, .int .i64 K] w fun e w' => e = .returned (.int .i64 K) ∧ Below w.heap.size w w' := by
 go_enter Tryz.func53, Tryz.ntmps53
 go_wp2_with fail
 go_loopw [1, 5] (fun q i wr => i = .int .i64 0 ∧ q = .int .i64 K ∧ Below w.heap.size w wr) (fun _ _ _ => 0)
 case atStart => exact ⟨rfl, rfl, Below.refl _ _⟩
 case round =>
  obtain ⟨rfl, rfl, hb⟩ := hrel
  go_wp2
  go_ret
  exact ⟨rfl, hb⟩
theorem c53h (K : Int) (x : G16) (a : Option Addr) (g c : Nat) (w : World) (hK1 : 1 ≤ K) (hK2 : K ≤ 5000000) (hn : x.ls.length ≤ 1048576) (hh : x.ls = [] ∨ (a = some ⟨g, 0, none⟩ ∧ Open4 w g x.ls.length)) :
 Calls Tryz.prog 53 #[.slice a x.ls.length c, .int .i64 K] w fun e w' => e = .returned (.int .i64 (K + 4 * (x.ls.length : Int))) ∧ But g w w' ∧ (x.ls = [] ∨ (Open4 w' g x.ls.length ∧ MarksAt K w' g x.ls.length)) := by
 rcases hh with h | ⟨h1, h2⟩
 · rw [h]
   refine (c53z K a c w).mono fun e w' ⟨he, hb⟩ => ⟨by rw [he]; simp, But.of_below hb, .inl rfl⟩
 · exact (c53 K a g x.ls.length c w hK1 hK2 (.inr h1) hn h2).mono fun e w' ⟨he, hb, ho, hm⟩ => ⟨he, hb, .inr ⟨ho, hm⟩⟩
theorem c55h (K : Int) (x : G16) (a : Option Addr) (g c : Nat) (w : World) (hK1 : 1 ≤ K) (hK2 : K ≤ 5000000) (hn : x.ls.length ≤ 1048576) (hh : x.ls = [] ∨ (a = some ⟨g, 0, none⟩ ∧ g < w.heap.size ∧ MarksAt K w g x.ls.length)) :
 Calls Tryz.prog 55 #[.slice a x.ls.length c, .int .i64 K] w fun e w' => e = .returned (.int .i64 (K + 4 * (x.ls.length : Int))) ∧ Below w.heap.size w w' := by
 rcases hh with h | ⟨h1, h2, h3⟩
 · rw [h]
   exact c55 K a g 0 c w hK1 hK2 (.inl rfl) (by omega) (.inl rfl) (fun j h => absurd h (Nat.not_lt_zero _))
 · exact c55 K a g x.ls.length c w hK1 hK2 (.inr h1) hn (.inr h2) h3
set_option maxHeartbeats 2000000 in
set_option maxRecDepth 100000 in
theorem c51 (K : Int) (x : G16) (a : Option Addr) (g c : Nat) (w : World) (hK1 : 1 ≤ K) (hK2 : K ≤ 5000000) (hn : x.ls.length ≤ 1048576) (hh : x.ls = [] ∨ (a = some ⟨g, 0, none⟩ ∧ Open4 w g x.ls.length)) :
 Calls Tryz.prog 51 #[.agg #[.int .i64 x.kd, .int .i64 x.to, .int .i64 x.fr, .int .i64 x.ep, .int .i64 x.ed, .string x.km.nm, .string x.km.tl, .string x.km.ar, .slice a x.ls.length c, .int .i64 x.ct, .bool x.tn.over, .int .i64 x.tn.cd, .string x.tn.tx, .bool x.tn.has, .string x.tn.nm, .int .i64 x.tn.st], .int .i64 K] w fun e w' => e = .returned (.int .i64 (K + 4 * (x.ls.length : Int))) ∧ But g w w' ∧ (x.ls = [] ∨ (Open4 w' g x.ls.length ∧ MarksAt K w' g x.ls.length)) := by
 have HH : Hid (x.ls = [] ∨ (a = some ⟨g, 0, none⟩ ∧ Open4 w g x.ls.length)) := hh
 have hB0 : Below w.heap.size w (w.alloc (.cells #[.int .i64 x.kd, .int .i64 x.to, .int .i64 x.fr, .int .i64 x.ep, .int .i64 x.ed, .string x.km.nm, .string x.km.tl, .string x.km.ar, .slice a x.ls.length c, .int .i64 x.ct, .bool x.tn.over, .int .i64 x.tn.cd, .string x.tn.tx, .bool x.tn.has, .string x.tn.nm, .int .i64 x.tn.st] 48)) := (Below.refl _ _).alloc (Nat.le_refl _) _
 clear hh
 go_enter Tryz.func51, Tryz.ntmps51
 go_wp2_with fail
 refine (c53h K x a g c _ hK1 hK2 hn (HH.out.imp id fun h => ⟨h.1, h.2.below hB0⟩)).mono ?_
 rintro e w1 ⟨rfl, hb1, hm1⟩
 have HB1 : Hid (But g w w1) := (But.of_below hB0).trans hb1
 have HM1 : Hid (x.ls = [] ∨ (Open4 w1 g x.ls.length ∧ MarksAt K w1 g x.ls.length)) := hm1
 clear hb1 hm1 hB0
 go_wp2
 go_ret
 exact ⟨rfl, HB1.out, HM1.out⟩
set_option maxHeartbeats 2000000 in
set_option maxRecDepth 100000 in
theorem c54 (K : Int) (x : G16) (a : Option Addr) (g c : Nat) (w : World) (hK1 : 1 ≤ K) (hK2 : K ≤ 5000000) (hn : x.ls.length ≤ 1048576) (hh : x.ls = [] ∨ (a = some ⟨g, 0, none⟩ ∧ g < w.heap.size ∧ MarksAt K w g x.ls.length)) :
 Calls Tryz.prog 54 #[.agg #[.int .i64 x.kd, .int .i64 x.to, .int .i64 x.fr, .int .i64 x.ep, .int .i64 x.ed, .string x.km.nm, .string x.km.tl, .string x.km.ar, .slice a x.ls.length c, .int .i64 x.ct, .bool x.tn.over, .int .i64 x.tn.cd, .string x.tn.tx, .bool x.tn.has, .string x.tn.nm, .int .i64 x.tn.st], .int .i64 K] w fun e w' => e = .returned (.int .i64 (K + 4 * (x.ls.length : Int))) ∧ Below w.heap.size w w' := by
 have HH : Hid (x.ls = [] ∨ (a = some ⟨g, 0, none⟩ ∧ g < w.heap.size ∧ MarksAt K w g x.ls.length)) := hh
 have hB0 : Below w.heap.size w (w.alloc (.cells #[.int .i64 x.kd, .int .i64 x.to, .int .i64 x.fr, .int .i64 x.ep, .int .i64 x.ed, .string x.km.nm, .string x.km.tl, .string x.km.ar, .slice a x.ls.length c, .int .i64 x.ct, .bool x.tn.over, .int .i64 x.tn.cd, .string x.tn.tx, .bool x.tn.has, .string x.tn.nm, .int .i64 x.tn.st] 48)) := (Below.refl _ _).alloc (Nat.le_refl _) _
 clear hh
 go_enter Tryz.func54, Tryz.ntmps54
 go_wp2_with fail
 refine (c55h K x a g c _ hK1 hK2 hn (HH.out.imp id fun h => ⟨h.1, Nat.lt_of_lt_of_le h.2.1 hB0.size, marks_below h.2.2 h.2.1 hB0⟩)).mono ?_
 rintro e w1 ⟨rfl, hb1⟩
 have HB1 : Hid (Below w.heap.size w w1) := hB0.trans (hb1.mono hB0.size)
 have hpos : ¬ (K + 4 * (x.ls.length : Int)) < 0 := by omega
 clear hb1 hB0
 go_wp2
 go_ret
 exact ⟨rfl, HB1.out⟩
set_option maxHeartbeats 2000000 in
set_option maxRecDepth 100000 in
theorem c20 (K : Int) (x : W19) (a : Option Addr) (g c : Nat) (w : World) (hK1 : 1 ≤ K) (hK2 : K ≤ 5000000) (hn : x.of.ls.length ≤ 1048576) (hh : x.of.ls = [] ∨ (a = some ⟨g, 0, none⟩ ∧ Open4 w g x.of.ls.length)) :
 Calls Tryz.prog 20 #[.agg #[.int .i64 x.no, .bool x.up, .bool x.has, .int .i64 x.of.kd, .int .i64 x.of.to, .int .i64 x.of.fr, .int .i64 x.of.ep, .int .i64 x.of.ed, .string x.of.km.nm, .string x.of.km.tl, .string x.of.km.ar, .slice a x.of.ls.length c, .int .i64 x.of.ct, .bool x.of.tn.over, .int .i64 x.of.tn.cd, .string x.of.tn.tx, .bool x.of.tn.has, .string x.of.tn.nm, .int .i64 x.of.tn.st], .int .i64 K] w fun e w' => e = .returned (.int .i64 (K + 4 * (x.of.ls.length : Int))) ∧ But g w w' ∧ (x.of.ls = [] ∨ (Open4 w' g x.of.ls.length ∧ MarksAt K w' g x.of.ls.length)) := by
 have HH : Hid (x.of.ls = [] ∨ (a = some ⟨g, 0, none⟩ ∧ Open4 w g x.of.ls.length)) := hh
 have hB0 : Below w.heap.size w (w.alloc (.cells #[.int .i64 x.no, .bool x.up, .bool x.has, .int .i64 x.of.kd, .int .i64 x.of.to, .int .i64 x.of.fr, .int .i64 x.of.ep, .int .i64 x.of.ed, .string x.of.km.nm, .string x.of.km.tl, .string x.of.km.ar, .slice a x.of.ls.length c, .int .i64 x.of.ct, .bool x.of.tn.over, .int .i64 x.of.tn.cd, .string x.of.tn.tx, .bool x.of.tn.has, .string x.of.tn.nm, .int .i64 x.of.tn.st] 50)) := (Below.refl _ _).alloc (Nat.le_refl _) _
 clear hh
 go_enter Tryz.func20, Tryz.ntmps20
 go_wp2_with fail
 refine (c51 K x.of a g c _ hK1 hK2 hn (HH.out.imp id fun h => ⟨h.1, h.2.below hB0⟩)).mono ?_
 rintro e w1 ⟨rfl, hb1, hm1⟩
 have HB1 : Hid (But g w w1) := (But.of_below hB0).trans hb1
 have HM1 : Hid (x.of.ls = [] ∨ (Open4 w1 g x.of.ls.length ∧ MarksAt K w1 g x.of.ls.length)) := hm1
 clear hb1 hm1 hB0
 go_wp2
 go_ret
 exact ⟨rfl, HB1.out, HM1.out⟩
set_option maxHeartbeats 2000000 in
set_option maxRecDepth 100000 in
theorem c22 (K : Int) (x : W19) (a : Option Addr) (g c : Nat) (w : World) (hK1 : 1 ≤ K) (hK2 : K ≤ 5000000) (hn : x.of.ls.length ≤ 1048576) (hh : x.of.ls = [] ∨ (a = some ⟨g, 0, none⟩ ∧ g < w.heap.size ∧ MarksAt K w g x.of.ls.length)) :
 Calls Tryz.prog 22 #[.agg #[.int .i64 x.no, .bool x.up, .bool x.has, .int .i64 x.of.kd, .int .i64 x.of.to, .int .i64 x.of.fr, .int .i64 x.of.ep, .int .i64 x.of.ed, .string x.of.km.nm, .string x.of.km.tl, .string x.of.km.ar, .slice a x.of.ls.length c, .int .i64 x.of.ct, .bool x.of.tn.over, .int .i64 x.of.tn.cd, .string x.of.tn.tx, .bool x.of.tn.has, .string x.of.tn.nm, .int .i64 x.of.tn.st], .int .i64 K] w fun e w' => e = .returned (.int .i64 (K + 4 * (x.of.ls.length : Int))) ∧ Below w.heap.size w w' := by
 have HH : Hid (x.of.ls = [] ∨ (a = some ⟨g, 0, none⟩ ∧ g < w.heap.size ∧ MarksAt K w g x.of.ls.length)) := hh
 have hB0 : Below w.heap.size w (w.alloc (.cells #[.int .i64 x.no, .bool x.up, .bool x.has, .int .i64 x.of.kd, .int .i64 x.of.to, .int .i64 x.of.fr, .int .i64 x.of.ep, .int .i64 x.of.ed, .string x.of.km.nm, .string x.of.km.tl, .string x.of.km.ar, .slice a x.of.ls.length c, .int .i64 x.of.ct, .bool x.of.tn.over, .int .i64 x.of.tn.cd, .string x.of.tn.tx, .bool x.of.tn.has, .string x.of.tn.nm, .int .i64 x.of.tn.st] 50)) := (Below.refl _ _).alloc (Nat.le_refl _) _
 clear hh
 go_enter Tryz.func22, Tryz.ntmps22
 go_wp2_with fail
 refine (c54 K x.of a g c _ hK1 hK2 hn (HH.out.imp id fun h => ⟨h.1, Nat.lt_of_lt_of_le h.2.1 hB0.size, marks_below h.2.2 h.2.1 hB0⟩)).mono ?_
 rintro e w1 ⟨rfl, hb1⟩
 have HB1 : Hid (Below w.heap.size w w1) := hB0.trans (hb1.mono hB0.size)
 have hpos : ¬ (K + 4 * (x.of.ls.length : Int)) < 0 := by omega
 clear hb1 hB0
 go_wp2
 go_ret
 exact ⟨rfl, HB1.out⟩
end Go.Proofs.YtpjpckmfehfniaaGreatDoor.M
namespace Go.Proofs.YtpjpckmfehfniaaGreatDoor.M
open Go.RowKit
theorem lkown_below {w w' : World} {B : Nat} {ao : Option Addr} {is : List L4} (h : LkOwn w B ao is) (hb : Below w.heap.size w w') : LkOwn w' B ao is :=
 ⟨lks_below h.at' hb, h.own.imp id fun ⟨g, h1, h2, h3⟩ => ⟨g, h1, h2, h3.below hb⟩⟩
set_option maxHeartbeats 4000000 in
set_option maxRecDepth 100000 in
theorem c45 (x : W19) (b n : Nat) (w : World) (hl : x.of.ls.length ≤ 1048576) (hat : LksAt w (some ⟨b, 0, none⟩) x.of.ls) :
 Calls Tryz.prog 45 #[.agg #[.int .i64 x.no, .bool x.up, .bool x.has, .int .i64 x.of.kd, .int .i64 x.of.to, .int .i64 x.of.fr, .int .i64 x.of.ep, .int .i64 x.of.ed, .string x.of.km.nm, .string x.of.km.tl, .string x.of.km.ar, .slice (some ⟨b, 0, none⟩) x.of.ls.length n, .int .i64 x.of.ct, .bool x.of.tn.over, .int .i64 x.of.tn.cd, .string x.of.tn.tx, .bool x.of.tn.has, .string x.of.tn.nm, .int .i64 x.of.tn.st]] w fun e w' => (∃ ao c, e = .returned (.agg #[.int .i64 x.no, .bool x.up, .bool x.has, .int .i64 x.of.kd, .int .i64 x.of.to, .int .i64 x.of.fr, .int .i64 x.of.ep, .int .i64 x.of.ed, .string x.of.km.nm, .string x.of.km.tl, .string x.of.km.ar, .slice ao x.of.ls.length c, .int .i64 x.of.ct, .bool x.of.tn.over, .int .i64 x.of.tn.cd, .string x.of.tn.tx, .bool x.of.tn.has, .string x.of.tn.nm, .int .i64 x.of.tn.st]) ∧ LkOwn w' w.heap.size ao x.of.ls) ∧ Below w.heap.size w w' := by
 have HA : Hid (LksAt w (some ⟨b, 0, none⟩) x.of.ls) := hat
 have hB0 : Below w.heap.size w ((w.alloc (.cells #[.int .i64 x.no, .bool x.up, .bool x.has, .int .i64 x.of.kd, .int .i64 x.of.to, .int .i64 x.of.fr, .int .i64 x.of.ep, .int .i64 x.of.ed, .string x.of.km.nm, .string x.of.km.tl, .string x.of.km.ar, .slice (some ⟨b, 0, none⟩) x.of.ls.length n, .int .i64 x.of.ct, .bool x.of.tn.over, .int .i64 x.of.tn.cd, .string x.of.tn.tx, .bool x.of.tn.has, .string x.of.tn.nm, .int .i64 x.of.tn.st] 50)).alloc (.cells #[.int .i64 0, .bool false, .bool false, .int .i64 0, .int .i64 0, .int .i64 0, .int .i64 0, .int .i64 0, .string ⟨#[]⟩, .string ⟨#[]⟩, .string ⟨#[]⟩, .slice none 0 0, .int .i64 0, .bool false, .int .i64 0, .string ⟨#[]⟩, .bool false, .string ⟨#[]⟩, .int .i64 0] 50)) := ((Below.refl _ _).alloc (Nat.le_refl _) _).alloc (by simp) _
 have ZM : BlkAt ((w.alloc (.cells #[.int .i64 x.no, .bool x.up, .bool x.has, .int .i64 x.of.kd, .int .i64 x.of.to, .int .i64 x.of.fr, .int .i64 x.of.ep, .int .i64 x.of.ed, .string x.of.km.nm, .string x.of.km.tl, .string x.of.km.ar, .slice (some ⟨b, 0, none⟩) x.of.ls.length n, .int .i64 x.of.ct, .bool x.of.tn.over, .int .i64 x.of.tn.cd, .string x.of.tn.tx, .bool x.of.tn.has, .string x.of.tn.nm, .int .i64 x.of.tn.st] 50)).alloc (.cells #[.int .i64 0, .bool false, .bool false, .int .i64 0, .int .i64 0, .int .i64 0, .int .i64 0, .int .i64 0, .string ⟨#[]⟩, .string ⟨#[]⟩, .string ⟨#[]⟩, .slice none 0 0, .int .i64 0, .bool false, .int .i64 0, .string ⟨#[]⟩, .bool false, .string ⟨#[]⟩, .int .i64 0] 50)) w.heap.size [.int .i64 x.no, .bool x.up, .bool x.has, .int .i64 x.of.kd, .int .i64 x.of.to, .int .i64 x.of.fr, .int .i64 x.of.ep, .int .i64 x.of.ed, .string x.of.km.nm, .string x.of.km.tl, .string x.of.km.ar, .slice (some ⟨b, 0, none⟩) x.of.ls.length n, .int .i64 x.of.ct, .bool x.of.tn.over, .int .i64 x.of.tn.cd, .string x.of.tn.tx, .bool x.of.tn.has, .string x.of.tn.nm, .int .i64 x.of.tn.st] := fun j v h => by simp [go_sem, h]
 have ZR : BlkAt ((w.alloc (.cells #[.int .i64 x.no, .bool x.up, .bool x.has, .int .i64 x.of.kd, .int .i64 x.of.to, .int .i64 x.of.fr, .int .i64 x.of.ep, .int .i64 x.of.ed, .string x.of.km.nm, .string x.of.km.tl, .string x.of.km.ar, .slice (some ⟨b, 0, none⟩) x.of.ls.length n, .int .i64 x.of.ct, .bool x.of.tn.over, .int .i64 x.of.tn.cd, .string x.of.tn.tx, .bool x.of.tn.has, .string x.of.tn.nm, .int .i64 x.of.tn.st] 50)).alloc (.cells #[.int .i64 0, .bool false, .bool false, .int .i64 0, .int .i64 0, .int .i64 0, .int .i64 0, .int .i64 0, .string ⟨#[]⟩, .string ⟨#[]⟩, .string ⟨#[]⟩, .slice none 0 0, .int .i64 0, .bool false, .int .i64 0, .string ⟨#[]⟩, .bool false, .string ⟨#[]⟩, .int .i64 0] 50)) (w.heap.size + 1) [.int .i64 0, .bool false, .bool false, .int .i64 0, .int .i64 0, .int .i64 0, .int .i64 0, .int .i64 0, .string ⟨#[]⟩, .string ⟨#[]⟩, .string ⟨#[]⟩, .slice none 0 0, .int .i64 0, .bool false, .int .i64 0, .string ⟨#[]⟩, .bool false, .string ⟨#[]⟩, .int .i64 0] := fun j v h => by simp [go_sem, h]
 have fM : OpnAt ((w.alloc (.cells #[.int .i64 x.no, .bool x.up, .bool x.has, .int .i64 x.of.kd, .int .i64 x.of.to, .int .i64 x.of.fr, .int .i64 x.of.ep, .int .i64 x.of.ed, .string x.of.km.nm, .string x.of.km.tl, .string x.of.km.ar, .slice (some ⟨b, 0, none⟩) x.of.ls.length n, .int .i64 x.of.ct, .bool x.of.tn.over, .int .i64 x.of.tn.cd, .string x.of.tn.tx, .bool x.of.tn.has, .string x.of.tn.nm, .int .i64 x.of.tn.st] 50)).alloc (.cells #[.int .i64 0, .bool false, .bool false, .int .i64 0, .int .i64 0, .int .i64 0, .int .i64 0, .int .i64 0, .string ⟨#[]⟩, .string ⟨#[]⟩, .string ⟨#[]⟩, .slice none 0 0, .int .i64 0, .bool false, .int .i64 0, .string ⟨#[]⟩, .bool false, .string ⟨#[]⟩, .int .i64 0] 50)) w.heap.size := fun j => by simp [go_sem]
 have fR : OpnAt ((w.alloc (.cells #[.int .i64 x.no, .bool x.up, .bool x.has, .int .i64 x.of.kd, .int .i64 x.of.to, .int .i64 x.of.fr, .int .i64 x.of.ep, .int .i64 x.of.ed, .string x.of.km.nm, .string x.of.km.tl, .string x.of.km.ar, .slice (some ⟨b, 0, none⟩) x.of.ls.length n, .int .i64 x.of.ct, .bool x.of.tn.over, .int .i64 x.of.tn.cd, .string x.of.tn.tx, .bool x.of.tn.has, .string x.of.tn.nm, .int .i64 x.of.tn.st] 50)).alloc (.cells #[.int .i64 0, .bool false, .bool false, .int .i64 0, .int .i64 0, .int .i64 0, .int .i64 0, .int .i64 0, .string ⟨#[]⟩, .string ⟨#[]⟩, .string ⟨#[]⟩, .slice none 0 0, .int .i64 0, .bool false, .int .i64 0, .string ⟨#[]⟩, .bool false, .string ⟨#[]⟩, .int .i64 0] 50)) (w.heap.size + 1) := fun j => by simp [go_sem]
 have hz0' : ((w.alloc (.cells #[.int .i64 x.no, .bool x.up, .bool x.has, .int .i64 x.of.kd, .int .i64 x.of.to, .int .i64 x.of.fr, .int .i64 x.of.ep, .int .i64 x.of.ed, .string x.of.km.nm, .string x.of.km.tl, .string x.of.km.ar, .slice (some ⟨b, 0, none⟩) x.of.ls.length n, .int .i64 x.of.ct, .bool x.of.tn.over, .int .i64 x.of.tn.cd, .string x.of.tn.tx, .bool x.of.tn.has, .string x.of.tn.nm, .int .i64 x.of.tn.st] 50)).alloc (.cells #[.int .i64 0, .bool false, .bool false, .int .i64 0, .int .i64 0, .int .i64 0, .int .i64 0, .int .i64 0, .string ⟨#[]⟩, .string ⟨#[]⟩, .string ⟨#[]⟩, .slice none 0 0, .int .i64 0, .bool false, .int .i64 0, .string ⟨#[]⟩, .bool false, .string ⟨#[]⟩, .int .i64 0] 50)).heap.size = w.heap.size + 2 := by simp
 clear hat
 go_enter Tryz.func45, Tryz.ntmps45
 go_wp2_with fail
 refine (c65 x.of b n _ hl (lks_below HA.out hB0)).mono ?_
 rintro e w2 ⟨⟨ao, c, rfl, hlk⟩, hb2⟩
 rw [hz0'] at hlk
 have HLK : Hid (LkOwn w2 (w.heap.size + 2) ao x.of.ls) := hlk
 have hX2 : Below (w.heap.size + 2) ((w.alloc (.cells #[.int .i64 x.no, .bool x.up, .bool x.has, .int .i64 x.of.kd, .int .i64 x.of.to, .int .i64 x.of.fr, .int .i64 x.of.ep, .int .i64 x.of.ed, .string x.of.km.nm, .string x.of.km.tl, .string x.of.km.ar, .slice (some ⟨b, 0, none⟩) x.of.ls.length n, .int .i64 x.of.ct, .bool x.of.tn.over, .int .i64 x.of.tn.cd, .string x.of.tn.tx, .bool x.of.tn.has, .string x.of.tn.nm, .int .i64 x.of.tn.st] 50)).alloc (.cells #[.int .i64 0, .bool false, .bool false, .int .i64 0, .int .i64 0, .int .i64 0, .int .i64 0, .int .i64 0, .string ⟨#[]⟩, .string ⟨#[]⟩, .string ⟨#[]⟩, .slice none 0 0, .int .i64 0, .bool false, .int .i64 0, .string ⟨#[]⟩, .bool false, .string ⟨#[]⟩, .int .i64 0] 50)) w2 := by rw [← hz0']; exact hb2
 have hB2 : Below w.heap.size w w2 := hB0.trans (hX2.mono (by omega))
 have hz2' : w.heap.size + 2 ≤ w2.heap.size := by have := hX2.size; rw [hz0'] at this; exact this
 have ZM2 := ZM.below hX2 (by omega)
 have ZR2 := ZR.below hX2 (by omega)
 have fM2 := fM.below hX2 (by omega)
 have fR2 := fR.below hX2 (by omega)
 have hSomeM : ∀ i, i < ([.int .i64 x.of.kd, .int .i64 x.of.to, .int .i64 x.of.fr, .int .i64 x.of.ep, .int .i64 x.of.ed, .string x.of.km.nm, .string x.of.km.tl, .string x.of.km.ar, .slice ao x.of.ls.length c, .int .i64 x.of.ct, .bool x.of.tn.over, .int .i64 x.of.tn.cd, .string x.of.tn.tx, .bool x.of.tn.has, .string x.of.tn.nm, .int .i64 x.of.tn.st] : List Value).length → (w2.cell? ⟨w.heap.size, 3 + i, none⟩).isSome = true := fun i hi => by
  have hz : 3 + i < ([.int .i64 x.no, .bool x.up, .bool x.has, .int .i64 x.of.kd, .int .i64 x.of.to, .int .i64 x.of.fr, .int .i64 x.of.ep, .int .i64 x.of.ed, .string x.of.km.nm, .string x.of.km.tl, .string x.of.km.ar, .slice (some ⟨b, 0, none⟩) x.of.ls.length n, .int .i64 x.of.ct, .bool x.of.tn.over, .int .i64 x.of.tn.cd, .string x.of.tn.tx, .bool x.of.tn.has, .string x.of.tn.nm, .int .i64 x.of.tn.st] : List Value).length := by simp at hi ⊢; omega
  rw [ZM2 (3 + i) _ (List.getElem?_eq_getElem hz)]
  rfl
 have ZM3 : BlkAt (fill w2 w.heap.size 3 [.int .i64 x.of.kd, .int .i64 x.of.to, .int .i64 x.of.fr, .int .i64 x.of.ep, .int .i64 x.of.ed, .string x.of.km.nm, .string x.of.km.tl, .string x.of.km.ar, .slice ao x.of.ls.length c, .int .i64 x.of.ct, .bool x.of.tn.over, .int .i64 x.of.tn.cd, .string x.of.tn.tx, .bool x.of.tn.has, .string x.of.tn.nm, .int .i64 x.of.tn.st]) w.heap.size [.int .i64 x.no, .bool x.up, .bool x.has, .int .i64 x.of.kd, .int .i64 x.of.to, .int .i64 x.of.fr, .int .i64 x.of.ep, .int .i64 x.of.ed, .string x.of.km.nm, .string x.of.km.tl, .string x.of.km.ar, .slice ao x.of.ls.length c, .int .i64 x.of.ct, .bool x.of.tn.over, .int .i64 x.of.tn.cd, .string x.of.tn.tx, .bool x.of.tn.has, .string x.of.tn.nm, .int .i64 x.of.tn.st] := BlkAt.fill [.int .i64 x.of.kd, .int .i64 x.of.to, .int .i64 x.of.fr, .int .i64 x.of.ep, .int .i64 x.of.ed, .string x.of.km.nm, .string x.of.km.tl, .string x.of.km.ar, .slice ao x.of.ls.length c, .int .i64 x.of.ct, .bool x.of.tn.over, .int .i64 x.of.tn.cd, .string x.of.tn.tx, .bool x.of.tn.has, .string x.of.tn.nm, .int .i64 x.of.tn.st] [.int .i64 x.no, .bool x.up, .bool x.has] [.int .i64 x.of.kd, .int .i64 x.of.to, .int .i64 x.of.fr, .int .i64 x.of.ep, .int .i64 x.of.ed, .string x.of.km.nm, .string x.of.km.tl, .string x.of.km.ar, .slice (some ⟨b, 0, none⟩) x.of.ls.length n, .int .i64 x.of.ct, .bool x.of.tn.over, .int .i64 x.of.tn.cd, .string x.of.tn.tx, .bool x.of.tn.has, .string x.of.tn.nm, .int .i64 x.of.tn.st] [] 3 ZM2 rfl rfl
 have ZR3 : BlkAt (fill w2 w.heap.size 3 [.int .i64 x.of.kd, .int .i64 x.of.to, .int .i64 x.of.fr, .int .i64 x.of.ep, .int .i64 x.of.ed, .string x.of.km.nm, .string x.of.km.tl, .string x.of.km.ar, .slice ao x.of.ls.length c, .int .i64 x.of.ct, .bool x.of.tn.over, .int .i64 x.of.tn.cd, .string x.of.tn.tx, .bool x.of.tn.has, .string x.of.tn.nm, .int .i64 x.of.tn.st]) (w.heap.size + 1) [.int .i64 0, .bool false, .bool false, .int .i64 0, .int .i64 0, .int .i64 0, .int .i64 0, .int .i64 0, .string ⟨#[]⟩, .string ⟨#[]⟩, .string ⟨#[]⟩, .slice none 0 0, .int .i64 0, .bool false, .int .i64 0, .string ⟨#[]⟩, .bool false, .string ⟨#[]⟩, .int .i64 0] := BlkAt.fillO (by omega) _ _ ZR2
 have fR3 : OpnAt (fill w2 w.heap.size 3 [.int .i64 x.of.kd, .int .i64 x.of.to, .int .i64 x.of.fr, .int .i64 x.of.ep, .int .i64 x.of.ed, .string x.of.km.nm, .string x.of.km.tl, .string x.of.km.ar, .slice ao x.of.ls.length c, .int .i64 x.of.ct, .bool x.of.tn.over, .int .i64 x.of.tn.cd, .string x.of.tn.tx, .bool x.of.tn.has, .string x.of.tn.nm, .int .i64 x.of.tn.st]) (w.heap.size + 1) := OpnAt.fill _ _ fR2
 have HL3 : Hid (LkOwn (fill w2 w.heap.size 3 [.int .i64 x.of.kd, .int .i64 x.of.to, .int .i64 x.of.fr, .int .i64 x.of.ep, .int .i64 x.of.ed, .string x.of.km.nm, .string x.of.km.tl, .string x.of.km.ar, .slice ao x.of.ls.length c, .int .i64 x.of.ct, .bool x.of.tn.over, .int .i64 x.of.tn.cd, .string x.of.tn.tx, .bool x.of.tn.has, .string x.of.tn.nm, .int .i64 x.of.tn.st]) (w.heap.size + 2) ao x.of.ls) := lkown_fill w.heap.size _ (by omega) 3 HLK.out
 have hB3 : Below w.heap.size w (fill w2 w.heap.size 3 [.int .i64 x.of.kd, .int .i64 x.of.to, .int .i64 x.of.fr, .int .i64 x.of.ep, .int .i64 x.of.ed, .string x.of.km.nm, .string x.of.km.tl, .string x.of.km.ar, .slice ao x.of.ls.length c, .int .i64 x.of.ct, .bool x.of.tn.over, .int .i64 x.of.tn.cd, .string x.of.tn.tx, .bool x.of.tn.has, .string x.of.tn.nm, .int .i64 x.of.tn.st]) := below_fill (Nat.le_refl _) _ _ hB2
 have hSome : ∀ i, i < ([.int .i64 x.no, .bool x.up, .bool x.has, .int .i64 x.of.kd, .int .i64 x.of.to, .int .i64 x.of.fr, .int .i64 x.of.ep, .int .i64 x.of.ed, .string x.of.km.nm, .string x.of.km.tl, .string x.of.km.ar, .slice ao x.of.ls.length c, .int .i64 x.of.ct, .bool x.of.tn.over, .int .i64 x.of.tn.cd, .string x.of.tn.tx, .bool x.of.tn.has, .string x.of.tn.nm, .int .i64 x.of.tn.st] : List Value).length → ((fill w2 w.heap.size 3 [.int .i64 x.of.kd, .int .i64 x.of.to, .int .i64 x.of.fr, .int .i64 x.of.ep, .int .i64 x.of.ed, .string x.of.km.nm, .string x.of.km.tl, .string x.of.km.ar, .slice ao x.of.ls.length c, .int .i64 x.of.ct, .bool x.of.tn.over, .int .i64 x.of.tn.cd, .string x.of.tn.tx, .bool x.of.tn.has, .string x.of.tn.nm, .int .i64 x.of.tn.st]).cell? ⟨w.heap.size + 1, 0 + i, none⟩).isSome = true := fun i hi => by
  rw [Nat.zero_add]
  have hz : i < ([.int .i64 0, .bool false, .bool false, .int .i64 0, .int .i64 0, .int .i64 0, .int .i64 0, .int .i64 0, .string ⟨#[]⟩, .string ⟨#[]⟩, .string ⟨#[]⟩, .slice none 0 0, .int .i64 0, .bool false, .int .i64 0, .string ⟨#[]⟩, .bool false, .string ⟨#[]⟩, .int .i64 0] : List Value).length := hi
  rw [ZR3 i _ (List.getElem?_eq_getElem hz)]
  rfl
 clear ZM ZR fM fR hlk hb2 hX2 HLK ZM2 ZR2 fR2 hB2
 have hmark : True := trivial
 go_wp2_with (refine wpList_store_blk rfl 48 (.tmp 6) (.tmp 5) rfl w.heap.size 3 rfl [.int .i64 x.of.kd, .int .i64 x.of.to, .int .i64 x.of.fr, .int .i64 x.of.ep, .int .i64 x.of.ed, .string x.of.km.nm, .string x.of.km.tl, .string x.of.km.ar, .slice ao x.of.ls.length c, .int .i64 x.of.ct, .bool x.of.tn.over, .int .i64 x.of.tn.cd, .string x.of.tn.tx, .bool x.of.tn.has, .string x.of.tn.nm, .int .i64 x.of.tn.st] rfl hSomeM fM2 (by simp [Value.oneCell']) (by kernel_rfl) rfl ?_; revert hmark)
 intro _
 clear hSomeM fM2
 generalize (fill w2 w.heap.size 3 [.int .i64 x.of.kd, .int .i64 x.of.to, .int .i64 x.of.fr, .int .i64 x.of.ep, .int .i64 x.of.ed, .string x.of.km.nm, .string x.of.km.tl, .string x.of.km.ar, .slice ao x.of.ls.length c, .int .i64 x.of.ct, .bool x.of.tn.over, .int .i64 x.of.tn.cd, .string x.of.tn.tx, .bool x.of.tn.has, .string x.of.tn.nm, .int .i64 x.of.tn.st]) = U at *
 go_wp2_with (first | refine wpList_load_blk rfl 50 (.tmp 1) rfl w.heap.size rfl [.int .i64 x.no, .bool x.up, .bool x.has, .int .i64 x.of.kd, .int .i64 x.of.to, .int .i64 x.of.fr, .int .i64 x.of.ep, .int .i64 x.of.ed, .string x.of.km.nm, .string x.of.km.tl, .string x.of.km.ar, .slice ao x.of.ls.length c, .int .i64 x.of.ct, .bool x.of.tn.over, .int .i64 x.of.tn.cd, .string x.of.tn.tx, .bool x.of.tn.has, .string x.of.tn.nm, .int .i64 x.of.tn.st] _ ZM3 Tryz.underlying50 rfl (by kernel_rfl) ?_ | refine wpList_store_blk rfl 50 (.tmp 2) (.tmp 7) rfl (w.heap.size + 1) 0 rfl [.int .i64 x.no, .bool x.up, .bool x.has, .int .i64 x.of.kd, .int .i64 x.of.to, .int .i64 x.of.fr, .int .i64 x.of.ep, .int .i64 x.of.ed, .string x.of.km.nm, .string x.of.km.tl, .string x.of.km.ar, .slice ao x.of.ls.length c, .int .i64 x.of.ct, .bool x.of.tn.over, .int .i64 x.of.tn.cd, .string x.of.tn.tx, .bool x.of.tn.has, .string x.of.tn.nm, .int .i64 x.of.tn.st] rfl hSome fR3 (by simp [Value.oneCell']) (by kernel_rfl) rfl ?_)
 have F : BlkAt (fill U (w.heap.size + 1) 0 [.int .i64 x.no, .bool x.up, .bool x.has, .int .i64 x.of.kd, .int .i64 x.of.to, .int .i64 x.of.fr, .int .i64 x.of.ep, .int .i64 x.of.ed, .string x.of.km.nm, .string x.of.km.tl, .string x.of.km.ar, .slice ao x.of.ls.length c, .int .i64 x.of.ct, .bool x.of.tn.over, .int .i64 x.of.tn.cd, .string x.of.tn.tx, .bool x.of.tn.has, .string x.of.tn.nm, .int .i64 x.of.tn.st]) (w.heap.size + 1) [.int .i64 x.no, .bool x.up, .bool x.has, .int .i64 x.of.kd, .int .i64 x.of.to, .int .i64 x.of.fr, .int .i64 x.of.ep, .int .i64 x.of.ed, .string x.of.km.nm, .string x.of.km.tl, .string x.of.km.ar, .slice ao x.of.ls.length c, .int .i64 x.of.ct, .bool x.of.tn.over, .int .i64 x.of.tn.cd, .string x.of.tn.tx, .bool x.of.tn.has, .string x.of.tn.nm, .int .i64 x.of.tn.st] := BlkAt.fill [.int .i64 x.no, .bool x.up, .bool x.has, .int .i64 x.of.kd, .int .i64 x.of.to, .int .i64 x.of.fr, .int .i64 x.of.ep, .int .i64 x.of.ed, .string x.of.km.nm, .string x.of.km.tl, .string x.of.km.ar, .slice ao x.of.ls.length c, .int .i64 x.of.ct, .bool x.of.tn.over, .int .i64 x.of.tn.cd, .string x.of.tn.tx, .bool x.of.tn.has, .string x.of.tn.nm, .int .i64 x.of.tn.st] [] [.int .i64 0, .bool false, .bool false, .int .i64 0, .int .i64 0, .int .i64 0, .int .i64 0, .int .i64 0, .string ⟨#[]⟩, .string ⟨#[]⟩, .string ⟨#[]⟩, .slice none 0 0, .int .i64 0, .bool false, .int .i64 0, .string ⟨#[]⟩, .bool false, .string ⟨#[]⟩, .int .i64 0] [] 0 ZR3 rfl rfl
 have hBF : Below w.heap.size w (fill U (w.heap.size + 1) 0 [.int .i64 x.no, .bool x.up, .bool x.has, .int .i64 x.of.kd, .int .i64 x.of.to, .int .i64 x.of.fr, .int .i64 x.of.ep, .int .i64 x.of.ed, .string x.of.km.nm, .string x.of.km.tl, .string x.of.km.ar, .slice ao x.of.ls.length c, .int .i64 x.of.ct, .bool x.of.tn.over, .int .i64 x.of.tn.cd, .string x.of.tn.tx, .bool x.of.tn.has, .string x.of.tn.nm, .int .i64 x.of.tn.st]) := below_fill (by omega) _ _ hB3
 have HLF : Hid (LkOwn (fill U (w.heap.size + 1) 0 [.int .i64 x.no, .bool x.up, .bool x.has, .int .i64 x.of.kd, .int .i64 x.of.to, .int .i64 x.of.fr, .int .i64 x.of.ep, .int .i64 x.of.ed, .string x.of.km.nm, .string x.of.km.tl, .string x.of.km.ar, .slice ao x.of.ls.length c, .int .i64 x.of.ct, .bool x.of.tn.over, .int .i64 x.of.tn.cd, .string x.of.tn.tx, .bool x.of.tn.has, .string x.of.tn.nm, .int .i64 x.of.tn.st]) w.heap.size ao x.of.ls) := (lkown_fill (w.heap.size + 1) _ (by omega) 0 HL3.out).mono (by omega)
 generalize (fill U (w.heap.size + 1) 0 [.int .i64 x.no, .bool x.up, .bool x.has, .int .i64 x.of.kd, .int .i64 x.of.to, .int .i64 x.of.fr, .int .i64 x.of.ep, .int .i64 x.of.ed, .string x.of.km.nm, .string x.of.km.tl, .string x.of.km.ar, .slice ao x.of.ls.length c, .int .i64 x.of.ct, .bool x.of.tn.over, .int .i64 x.of.tn.cd, .string x.of.tn.tx, .bool x.of.tn.has, .string x.of.tn.nm, .int .i64 x.of.tn.st]) = V at *
 refine bodyPost_ret (v := .agg ([.int .i64 x.no, .bool x.up, .bool x.has, .int .i64 x.of.kd, .int .i64 x.of.to, .int .i64 x.of.fr, .int .i64 x.of.ep, .int .i64 x.of.ed, .string x.of.km.nm, .string x.of.km.tl, .string x.of.km.ar, .slice ao x.of.ls.length c, .int .i64 x.of.ct, .bool x.of.tn.over, .int .i64 x.of.tn.cd, .string x.of.tn.tx, .bool x.of.tn.has, .string x.of.tn.nm, .int .i64 x.of.tn.st] : List Value).toArray) (results_blk (P := Tryz.prog) (ty := 50) rfl _ V (w.heap.size + 1) [.int .i64 x.no, .bool x.up, .bool x.has, .int .i64 x.of.kd, .int .i64 x.of.to, .int .i64 x.of.fr, .int .i64 x.of.ep, .int .i64 x.of.ed, .string x.of.km.nm, .string x.of.km.tl, .string x.of.km.ar, .slice ao x.of.ls.length c, .int .i64 x.of.ct, .bool x.of.tn.over, .int .i64 x.of.tn.cd, .string x.of.tn.tx, .bool x.of.tn.has, .string x.of.tn.nm, .int .i64 x.of.tn.st] _ rfl F Tryz.underlying50 rfl (by kernel_rfl)) rfl ⟨⟨ao, c, rfl, HLF.out⟩, hBF⟩
end Go.Proofs.YtpjpckmfehfniaaGreatDoor.M

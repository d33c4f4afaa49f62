import Derived.Test.YtlfokigiejcfoaaGreatDoorA3
namespace Go.Proofs.YtlfokigiejcfoaaGreatDoor
open Go.RowKit
def BlkAt (w : World) (B : Nat) (vs : List Value) : Prop := ∀ (j : Nat) (v : Value), vs[j]? = some v → w.cell? ⟨B, j, none⟩ = some v
theorem BlkAt.below {u u' : World} {B n : Nat} {vs : List Value} (h : BlkAt u B vs) (hb : Below n u u') (hB : B < n) : BlkAt u' B vs := fun j v e => (hb.cell (p := ⟨B, j, none⟩) hB).trans (h j v e)
theorem hidI {p : Prop} (h : p) : Hid p := h
set_option maxHeartbeats 4000000 in
set_option maxRecDepth 100000 in
theorem c32 (L : List ByteArray) (la la' : Option Addr) (lc lc' : Nat) (w : World) (hl : L.length ≤ 1000) (hat : RS w la L) (hat' : RS w la' L) :
    Calls Tryz.prog 32 #[.agg #[.slice none 0 0, .slice la L.length lc], .agg #[.slice none 0 0, .slice la' L.length lc']] w fun e w' => e = .returned (.bool true) ∧ Below w.heap.size w w' := by
  have Hhat := hidI hat
  clear hat
  have Hhat' := hidI hat'
  clear hat'
  have hB0 : ∀ o p, Below w.heap.size w ((w.alloc o).alloc p) := fun o p => ((Below.refl _ _).alloc (Nat.le_refl _) _).alloc (by simp) _
  go_enter Tryz.func32, Tryz.ntmps32
  go_wp2_with fail
  refine (c36z none none 0 0 _).mono ?_
  rintro e w1 ⟨rfl, hb1⟩
  have hB1 : Below w.heap.size w w1 := (hB0 _ _).trans (hb1.mono (by simp <;> omega))
  have hz1 : w.heap.size + 1 < w1.heap.size := by have := hb1.size; simp at this; omega
  have ZA1 : Hid (BlkAt w1 w.heap.size [.slice none 0 0, .slice la L.length lc]) := fun j v h => (hb1.cell (p := ⟨w.heap.size, j, none⟩) (by simp <;> omega)).trans (by simp [go_sem, h])
  have ZB1 : Hid (BlkAt w1 (w.heap.size + 1) [.slice none 0 0, .slice la' L.length lc']) := fun j v h => (hb1.cell (p := ⟨w.heap.size + 1, j, none⟩) (by simp <;> omega)).trans (by simp [go_sem, h])
  clear hb1
  have a1 := ZA1.out 1 _ rfl
  have b1 := ZB1.out 1 _ rfl
  go_wp2_with fail
  clear a1 b1
  refine (c36 L la la' lc lc' w1 hl (Hhat.out.below hB1) (Hhat'.out.below hB1)).mono ?_
  rintro e w2 ⟨rfl, hb2⟩
  have hB2 := hB1.trans (hb2.mono hB1.size)
  have hz2 := Nat.lt_of_lt_of_le hz1 hb2.size
  have ZA2 := hidI (ZA1.out.below hb2 (by omega))
  have ZB2 := hidI (ZB1.out.below hb2 hz1)
  clear hb2 ZA1 ZB1
  go_wp2
  go_ret
  exact ⟨rfl, hB2⟩
set_option maxHeartbeats 4000000 in
set_option maxRecDepth 100000 in
theorem c33  (w : World)  :
    Calls Tryz.prog 33 #[.agg #[.slice none 0 0], .agg #[.slice none 0 0]] w fun e w' => e = .returned (.bool true) ∧ Below w.heap.size w w' := by
  have hB0 : ∀ o p, Below w.heap.size w ((w.alloc o).alloc p) := fun o p => ((Below.refl _ _).alloc (Nat.le_refl _) _).alloc (by simp) _
  go_enter Tryz.func33, Tryz.ntmps33
  go_wp2_with fail
  refine (c77z none none 0 0 _).mono ?_
  rintro e w1 ⟨rfl, hb1⟩
  have hB1 : Below w.heap.size w w1 := (hB0 _ _).trans (hb1.mono (by simp <;> omega))
  have hz1 : w.heap.size + 1 < w1.heap.size := by have := hb1.size; simp at this; omega
  have ZA1 : Hid (BlkAt w1 w.heap.size [.slice none 0 0]) := fun j v h => (hb1.cell (p := ⟨w.heap.size, j, none⟩) (by simp <;> omega)).trans (by simp [go_sem, h])
  have ZB1 : Hid (BlkAt w1 (w.heap.size + 1) [.slice none 0 0]) := fun j v h => (hb1.cell (p := ⟨w.heap.size + 1, j, none⟩) (by simp <;> omega)).trans (by simp [go_sem, h])
  clear hb1
  go_wp2
  go_ret
  exact ⟨rfl, hB1⟩
set_option maxHeartbeats 4000000 in
set_option maxRecDepth 100000 in
theorem c34 (d : Int) (w : World)  :
    Calls Tryz.prog 34 #[.agg #[.int .i64 d, .slice none 0 0, .slice none 0 0], .agg #[.int .i64 d, .slice none 0 0, .slice none 0 0]] w fun e w' => e = .returned (.bool true) ∧ Below w.heap.size w w' := by
  have hB0 : ∀ o p, Below w.heap.size w ((w.alloc o).alloc p) := fun o p => ((Below.refl _ _).alloc (Nat.le_refl _) _).alloc (by simp) _
  go_enter Tryz.func34, Tryz.ntmps34
  go_wp2_with fail
  refine (c36z none none 0 0 _).mono ?_
  rintro e w1 ⟨rfl, hb1⟩
  have hB1 : Below w.heap.size w w1 := (hB0 _ _).trans (hb1.mono (by simp <;> omega))
  have hz1 : w.heap.size + 1 < w1.heap.size := by have := hb1.size; simp at this; omega
  have ZA1 : Hid (BlkAt w1 w.heap.size [.int .i64 d, .slice none 0 0, .slice none 0 0]) := fun j v h => (hb1.cell (p := ⟨w.heap.size, j, none⟩) (by simp <;> omega)).trans (by simp [go_sem, h])
  have ZB1 : Hid (BlkAt w1 (w.heap.size + 1) [.int .i64 d, .slice none 0 0, .slice none 0 0]) := fun j v h => (hb1.cell (p := ⟨w.heap.size + 1, j, none⟩) (by simp <;> omega)).trans (by simp [go_sem, h])
  clear hb1
  have a2 := ZA1.out 2 _ rfl
  have b2 := ZB1.out 2 _ rfl
  go_wp2_with fail
  clear a2 b2
  refine (c78z none none 0 0 w1).mono ?_
  rintro e w2 ⟨rfl, hb2⟩
  have hB2 := hB1.trans (hb2.mono hB1.size)
  have hz2 := Nat.lt_of_lt_of_le hz1 hb2.size
  have ZA2 := hidI (ZA1.out.below hb2 (by omega))
  have ZB2 := hidI (ZB1.out.below hb2 hz1)
  clear hb2 ZA1 ZB1
  go_wp2
  go_ret
  exact ⟨rfl, hB2⟩
set_option maxHeartbeats 4000000 in
set_option maxRecDepth 100000 in
theorem c42z (K : Int) (w : World)  :
    Calls Tryz.prog 42 #[.agg #[.slice none 0 0, .slice none 0 0], .int .i64 K] w fun e w' => e = .returned (.int .i64 (K)) ∧ Below w.heap.size w w' := by
  have hB0 : ∀ o, Below w.heap.size w (w.alloc o) := fun o => (Below.refl _ _).alloc (Nat.le_refl _) _
  go_enter Tryz.func42, Tryz.ntmps42
  go_wp2_with fail
  refine (c46z K none 0 _).mono ?_
  rintro e w1 ⟨rfl, hb1⟩
  have hB1 : Below w.heap.size w w1 := (hB0 _).trans (hb1.mono (by simp <;> omega))
  have hz1 : w.heap.size < w1.heap.size := by have := hb1.size; simp at this; omega
  have ZA1 : Hid (BlkAt w1 w.heap.size [.slice none 0 0, .slice none 0 0]) := fun j v h => (hb1.cell (p := ⟨w.heap.size, j, none⟩) (by simp <;> omega)).trans (by simp [go_sem, h])
  clear hb1
  have a1 := ZA1.out 1 _ rfl
  go_wp2_with fail
  clear a1
  refine (c46z K none 0 w1).mono ?_
  rintro e w2 ⟨rfl, hb2⟩
  have hB2 := hB1.trans (hb2.mono hB1.size)
  have hz2 := Nat.lt_of_lt_of_le hz1 hb2.size
  have ZA2 := hidI (ZA1.out.below hb2 hz1)
  clear hb2 ZA1
  go_wp2
  go_ret
  exact ⟨rfl, hB2⟩
set_option maxHeartbeats 4000000 in
set_option maxRecDepth 100000 in
theorem c53z (K : Int) (w : World) (hK : 0 ≤ K) :
    Calls Tryz.prog 53 #[.agg #[.slice none 0 0, .slice none 0 0], .int .i64 K] w fun e w' => e = .returned (.int .i64 (K)) ∧ Below w.heap.size w w' := by
  have hn : ¬ K < 0 := by omega
  have hB0 : ∀ o, Below w.heap.size w (w.alloc o) := fun o => (Below.refl _ _).alloc (Nat.le_refl _) _
  go_enter Tryz.func53, Tryz.ntmps53
  go_wp2_with fail
  refine (c57z K none 0 _).mono ?_
  rintro e w1 ⟨rfl, hb1⟩
  have hB1 : Below w.heap.size w w1 := (hB0 _).trans (hb1.mono (by simp <;> omega))
  have hz1 : w.heap.size < w1.heap.size := by have := hb1.size; simp at this; omega
  have ZA1 : Hid (BlkAt w1 w.heap.size [.slice none 0 0, .slice none 0 0]) := fun j v h => (hb1.cell (p := ⟨w.heap.size, j, none⟩) (by simp <;> omega)).trans (by simp [go_sem, h])
  clear hb1
  have a1 := ZA1.out 1 _ rfl
  go_wp2_with fail
  clear a1
  refine (c57z K none 0 w1).mono ?_
  rintro e w2 ⟨rfl, hb2⟩
  have hB2 := hB1.trans (hb2.mono hB1.size)
  have hz2 := Nat.lt_of_lt_of_le hz1 hb2.size
  have ZA2 := hidI (ZA1.out.below hb2 hz1)
  clear hb2 ZA1
  go_wp2
  go_ret
  exact ⟨rfl, hB2⟩
set_option maxHeartbeats 4000000 in
set_option maxRecDepth 100000 in
theorem c43z (K : Int) (w : World)  :
    Calls Tryz.prog 43 #[.agg #[.slice none 0 0], .int .i64 K] w fun e w' => e = .returned (.int .i64 (K)) ∧ Below w.heap.size w w' := by
  have hB0 : ∀ o, Below w.heap.size w (w.alloc o) := fun o => (Below.refl _ _).alloc (Nat.le_refl _) _
  go_enter Tryz.func43, Tryz.ntmps43
  go_wp2_with fail
  refine (c51z K none 0 _).mono ?_
  rintro e w1 ⟨rfl, hb1⟩
  have hB1 : Below w.heap.size w w1 := (hB0 _).trans (hb1.mono (by simp <;> omega))
  have hz1 : w.heap.size < w1.heap.size := by have := hb1.size; simp at this; omega
  have ZA1 : Hid (BlkAt w1 w.heap.size [.slice none 0 0]) := fun j v h => (hb1.cell (p := ⟨w.heap.size, j, none⟩) (by simp <;> omega)).trans (by simp [go_sem, h])
  clear hb1
  go_wp2
  go_ret
  exact ⟨rfl, hB1⟩
set_option maxHeartbeats 4000000 in
set_option maxRecDepth 100000 in
theorem c54z (K : Int) (w : World) (hK : 0 ≤ K) :
    Calls Tryz.prog 54 #[.agg #[.slice none 0 0], .int .i64 K] w fun e w' => e = .returned (.int .i64 (K)) ∧ Below w.heap.size w w' := by
  have hn : ¬ K < 0 := by omega
  have hB0 : ∀ o, Below w.heap.size w (w.alloc o) := fun o => (Below.refl _ _).alloc (Nat.le_refl _) _
  go_enter Tryz.func54, Tryz.ntmps54
  go_wp2_with fail
  refine (c61z K none 0 _).mono ?_
  rintro e w1 ⟨rfl, hb1⟩
  have hB1 : Below w.heap.size w w1 := (hB0 _).trans (hb1.mono (by simp <;> omega))
  have hz1 : w.heap.size < w1.heap.size := by have := hb1.size; simp at this; omega
  have ZA1 : Hid (BlkAt w1 w.heap.size [.slice none 0 0]) := fun j v h => (hb1.cell (p := ⟨w.heap.size, j, none⟩) (by simp <;> omega)).trans (by simp [go_sem, h])
  clear hb1
  go_wp2
  go_ret
  exact ⟨rfl, hB1⟩
set_option maxHeartbeats 4000000 in
set_option maxRecDepth 100000 in
theorem c44z (K d : Int) (w : World)  :
    Calls Tryz.prog 44 #[.agg #[.int .i64 d, .slice none 0 0, .slice none 0 0], .int .i64 K] w fun e w' => e = .returned (.int .i64 (K)) ∧ Below w.heap.size w w' := by
  have hB0 : ∀ o, Below w.heap.size w (w.alloc o) := fun o => (Below.refl _ _).alloc (Nat.le_refl _) _
  go_enter Tryz.func44, Tryz.ntmps44
  go_wp2_with fail
  refine (c46z K none 0 _).mono ?_
  rintro e w1 ⟨rfl, hb1⟩
  have hB1 : Below w.heap.size w w1 := (hB0 _).trans (hb1.mono (by simp <;> omega))
  have hz1 : w.heap.size < w1.heap.size := by have := hb1.size; simp at this; omega
  have ZA1 : Hid (BlkAt w1 w.heap.size [.int .i64 d, .slice none 0 0, .slice none 0 0]) := fun j v h => (hb1.cell (p := ⟨w.heap.size, j, none⟩) (by simp <;> omega)).trans (by simp [go_sem, h])
  clear hb1
  have a2 := ZA1.out 2 _ rfl
  go_wp2_with fail
  clear a2
  refine (c84z K none 0 w1).mono ?_
  rintro e w2 ⟨rfl, hb2⟩
  have hB2 := hB1.trans (hb2.mono hB1.size)
  have hz2 := Nat.lt_of_lt_of_le hz1 hb2.size
  have ZA2 := hidI (ZA1.out.below hb2 hz1)
  clear hb2 ZA1
  go_wp2
  go_ret
  exact ⟨rfl, hB2⟩
set_option maxHeartbeats 4000000 in
set_option maxRecDepth 100000 in
theorem c55z (K d : Int) (w : World) (hK : 0 ≤ K) :
    Calls Tryz.prog 55 #[.agg #[.int .i64 d, .slice none 0 0, .slice none 0 0], .int .i64 K] w fun e w' => e = .returned (.int .i64 (K)) ∧ Below w.heap.size w w' := by
  have hn : ¬ K < 0 := by omega
  have hB0 : ∀ o, Below w.heap.size w (w.alloc o) := fun o => (Below.refl _ _).alloc (Nat.le_refl _) _
  go_enter Tryz.func55, Tryz.ntmps55
  go_wp2_with fail
  refine (c57z K none 0 _).mono ?_
  rintro e w1 ⟨rfl, hb1⟩
  have hB1 : Below w.heap.size w w1 := (hB0 _).trans (hb1.mono (by simp <;> omega))
  have hz1 : w.heap.size < w1.heap.size := by have := hb1.size; simp at this; omega
  have ZA1 : Hid (BlkAt w1 w.heap.size [.int .i64 d, .slice none 0 0, .slice none 0 0]) := fun j v h => (hb1.cell (p := ⟨w.heap.size, j, none⟩) (by simp <;> omega)).trans (by simp [go_sem, h])
  clear hb1
  have a2 := ZA1.out 2 _ rfl
  go_wp2_with fail
  clear a2
  refine (c85z K none 0 w1).mono ?_
  rintro e w2 ⟨rfl, hb2⟩
  have hB2 := hB1.trans (hb2.mono hB1.size)
  have hz2 := Nat.lt_of_lt_of_le hz1 hb2.size
  have ZA2 := hidI (ZA1.out.below hb2 hz1)
  clear hb2 ZA1
  go_wp2
  go_ret
  exact ⟨rfl, hB2⟩
set_option maxHeartbeats 4000000 in
set_option maxRecDepth 100000 in
theorem c53 (b lc : Nat) (w : World) (hbw : b < w.heap.size) (hc : w.cell? ⟨b, 0, none⟩ = some (.string ⟨#[109, 49]⟩)) :
    Calls Tryz.prog 53 #[.agg #[.slice none 0 0, .slice (some ⟨b, 0, none⟩) 1 lc], .int .i64 1] w fun e w' => e = .returned (.int .i64 (2)) ∧ Below w.heap.size w w' := by
  have hB0 : ∀ o, Below w.heap.size w (w.alloc o) := fun o => (Below.refl _ _).alloc (Nat.le_refl _) _
  go_enter Tryz.func53, Tryz.ntmps53
  go_wp2_with fail
  refine (c57z 1 none 0 _).mono ?_
  rintro e w1 ⟨rfl, hb1⟩
  have hB1 : Below w.heap.size w w1 := (hB0 _).trans (hb1.mono (by simp <;> omega))
  have hz1 : w.heap.size < w1.heap.size := by have := hb1.size; simp at this; omega
  have ZA1 : Hid (BlkAt w1 w.heap.size [.slice none 0 0, .slice (some ⟨b, 0, none⟩) 1 lc]) := fun j v h => (hb1.cell (p := ⟨w.heap.size, j, none⟩) (by simp <;> omega)).trans (by simp [go_sem, h])
  clear hb1
  have a1 := ZA1.out 1 _ rfl
  go_wp2_with fail
  clear a1
  refine (c57 b lc w1 (Nat.lt_of_lt_of_le hbw hB1.size) ((hB1.cell (p := ⟨b, 0, none⟩) hbw).trans hc)).mono ?_
  rintro e w2 ⟨rfl, hb2⟩
  have hB2 := hB1.trans (hb2.mono hB1.size)
  have hz2 := Nat.lt_of_lt_of_le hz1 hb2.size
  have ZA2 := hidI (ZA1.out.below hb2 hz1)
  clear hb2 ZA1
  go_wp2
  go_ret
  exact ⟨rfl, hB2⟩
end Go.Proofs.YtlfokigiejcfoaaGreatDoor

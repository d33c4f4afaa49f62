import Derived.Test.YtlfokigiejcfoaaGreatDoorA4
namespace Go.Proofs.YtlfokigiejcfoaaGreatDoor
open Go.RowKit
set_option maxHeartbeats 4000000 in
set_option maxRecDepth 100000 in
theorem c12 (d ep d2 : Int) (up : Bool) (L : List ByteArray) (H : List Int) (la la' ha ha' : Option Addr) (lc lc' hc hc' : Nat) (w : World) (hl : L.length ≤ 1000) (hl2 : H.length ≤ 1000) (hS : RS w la L) (hS' : RS w la' L) (hH : RI w ha H) (hH' : RI w ha' H) :
    Calls Tryz.prog 12 #[.agg #[.int .i64 d, .bool up, .int .i64 0, .int .i64 ep, .int .i64 0, .slice none 0 0, .slice la L.length lc, .slice none 0 0, .int .i64 d2, .slice none 0 0, .slice none 0 0, .slice ha H.length hc, .slice none 0 0, .slice none 0 0, .slice none 0 0], .agg #[.int .i64 d, .bool up, .int .i64 0, .int .i64 ep, .int .i64 0, .slice none 0 0, .slice la' L.length lc', .slice none 0 0, .int .i64 d2, .slice none 0 0, .slice none 0 0, .slice ha' H.length hc', .slice none 0 0, .slice none 0 0, .slice none 0 0]] w fun e w' => e = .returned (.bool true) ∧ Below w.heap.size w w' := by
  have HhS := hidI hS
  clear hS
  have HhS' := hidI hS'
  clear hS'
  have HhH := hidI hH
  clear hH
  have HhH' := hidI hH'
  clear hH'
  have hB0 : ∀ o p, Below w.heap.size w ((w.alloc o).alloc p) := fun o p => ((Below.refl _ _).alloc (Nat.le_refl _) _).alloc (by simp) _
  go_enter Tryz.func12, Tryz.ntmps12
  go_wp2_with fail
  refine (c32 L la la' lc lc' _ hl (HhS.out.below (hB0 _ _)) (HhS'.out.below (hB0 _ _))).mono ?_
  rintro e w1 ⟨rfl, hb1⟩
  have hB1 : Below w.heap.size w w1 := (hB0 _ _).trans (hb1.mono (by simp <;> omega))
  have hz1 : w.heap.size + 1 < w1.heap.size := by have := hb1.size; simp at this; omega
  have ZA1 : Hid (BlkAt w1 w.heap.size [.int .i64 d, .bool up, .int .i64 0, .int .i64 ep, .int .i64 0, .slice none 0 0, .slice la L.length lc, .slice none 0 0, .int .i64 d2, .slice none 0 0, .slice none 0 0, .slice ha H.length hc, .slice none 0 0, .slice none 0 0, .slice none 0 0]) := fun j v h => (hb1.cell (p := ⟨w.heap.size, j, none⟩) (by simp <;> omega)).trans (by simp [go_sem, h])
  have ZB1 : Hid (BlkAt w1 (w.heap.size + 1) [.int .i64 d, .bool up, .int .i64 0, .int .i64 ep, .int .i64 0, .slice none 0 0, .slice la' L.length lc', .slice none 0 0, .int .i64 d2, .slice none 0 0, .slice none 0 0, .slice ha' H.length hc', .slice none 0 0, .slice none 0 0, .slice none 0 0]) := fun j v h => (hb1.cell (p := ⟨w.heap.size + 1, j, none⟩) (by simp <;> omega)).trans (by simp [go_sem, h])
  clear hb1
  have a7 := ZA1.out 7 _ rfl
  have b7 := ZB1.out 7 _ rfl
  go_wp2_with fail
  clear a7 b7
  refine (c33 w1).mono ?_
  rintro e w2 ⟨rfl, hb2⟩
  have hB2 := hB1.trans (hb2.mono hB1.size)
  have hz2 := Nat.lt_of_lt_of_le hz1 hb2.size
  have ZA2 := hidI (ZA1.out.below hb2 (by omega))
  have ZB2 := hidI (ZB1.out.below hb2 hz1)
  clear hb2 ZA1 ZB1
  have a8 := ZA2.out 8 _ rfl
  have b8 := ZB2.out 8 _ rfl
  have a9 := ZA2.out 9 _ rfl
  have b9 := ZB2.out 9 _ rfl
  have a10 := ZA2.out 10 _ rfl
  have b10 := ZB2.out 10 _ rfl
  go_wp2_with fail
  clear a8 b8 a9 b9 a10 b10
  refine (c34 d2 w2).mono ?_
  rintro e w3 ⟨rfl, hb3⟩
  have hB3 := hB2.trans (hb3.mono hB2.size)
  have hz3 := Nat.lt_of_lt_of_le hz2 hb3.size
  have ZA3 := hidI (ZA2.out.below hb3 (by omega))
  have ZB3 := hidI (ZB2.out.below hb3 hz2)
  clear hb3 ZA2 ZB2
  have a11 := ZA3.out 11 _ rfl
  have b11 := ZB3.out 11 _ rfl
  go_wp2_with fail
  clear a11 b11
  refine (c35 H ha ha' hc hc' w3 hl2 (HhH.out.below hB3) (HhH'.out.below hB3)).mono ?_
  rintro e w4 ⟨rfl, hb4⟩
  have hB4 := hB3.trans (hb4.mono hB3.size)
  have hz4 := Nat.lt_of_lt_of_le hz3 hb4.size
  have ZA4 := hidI (ZA3.out.below hb4 (by omega))
  have ZB4 := hidI (ZB3.out.below hb4 hz3)
  clear hb4 ZA3 ZB3
  have a12 := ZA4.out 12 _ rfl
  have b12 := ZB4.out 12 _ rfl
  go_wp2_with fail
  clear a12 b12
  refine (c36z none none 0 0 w4).mono ?_
  rintro e w5 ⟨rfl, hb5⟩
  have hB5 := hB4.trans (hb5.mono hB4.size)
  have hz5 := Nat.lt_of_lt_of_le hz4 hb5.size
  have ZA5 := hidI (ZA4.out.below hb5 (by omega))
  have ZB5 := hidI (ZB4.out.below hb5 hz4)
  clear hb5 ZA4 ZB4
  have a13 := ZA5.out 13 _ rfl
  have b13 := ZB5.out 13 _ rfl
  go_wp2_with fail
  clear a13 b13
  refine (c37z none none 0 0 w5).mono ?_
  rintro e w6 ⟨rfl, hb6⟩
  have hB6 := hB5.trans (hb6.mono hB5.size)
  have hz6 := Nat.lt_of_lt_of_le hz5 hb6.size
  have ZA6 := hidI (ZA5.out.below hb6 (by omega))
  have ZB6 := hidI (ZB5.out.below hb6 hz5)
  clear hb6 ZA5 ZB5
  have a14 := ZA6.out 14 _ rfl
  have b14 := ZB6.out 14 _ rfl
  go_wp2_with fail
  clear a14 b14
  refine (c38z none none 0 0 w6).mono ?_
  rintro e w7 ⟨rfl, hb7⟩
  have hB7 := hB6.trans (hb7.mono hB6.size)
  have hz7 := Nat.lt_of_lt_of_le hz6 hb7.size
  have ZA7 := hidI (ZA6.out.below hb7 (by omega))
  have ZB7 := hidI (ZB6.out.below hb7 hz6)
  clear hb7 ZA6 ZB6
  go_wp2
  go_ret
  exact ⟨rfl, hB7⟩
set_option maxHeartbeats 4000000 in
set_option maxRecDepth 100000 in
theorem c16z (K d ep d2 : Int) (up : Bool) (w : World)  :
    Calls Tryz.prog 16 #[.agg #[.int .i64 d, .bool up, .int .i64 0, .int .i64 ep, .int .i64 0, .slice none 0 0, .slice none 0 0, .slice none 0 0, .int .i64 d2, .slice none 0 0, .slice none 0 0, .slice none 0 0, .slice none 0 0, .slice none 0 0, .slice none 0 0], .int .i64 K] w fun e w' => e = .returned (.int .i64 (K)) ∧ Below w.heap.size w w' := by
  have hB0 : ∀ o, Below w.heap.size w (w.alloc o) := fun o => (Below.refl _ _).alloc (Nat.le_refl _) _
  go_enter Tryz.func16, Tryz.ntmps16
  go_wp2_with fail
  refine (c42z K _).mono ?_
  rintro e w1 ⟨rfl, hb1⟩
  have hB1 : Below w.heap.size w w1 := (hB0 _).trans (hb1.mono (by simp <;> omega))
  have hz1 : w.heap.size < w1.heap.size := by have := hb1.size; simp at this; omega
  have ZA1 : Hid (BlkAt w1 w.heap.size [.int .i64 d, .bool up, .int .i64 0, .int .i64 ep, .int .i64 0, .slice none 0 0, .slice none 0 0, .slice none 0 0, .int .i64 d2, .slice none 0 0, .slice none 0 0, .slice none 0 0, .slice none 0 0, .slice none 0 0, .slice none 0 0]) := fun j v h => (hb1.cell (p := ⟨w.heap.size, j, none⟩) (by simp <;> omega)).trans (by simp [go_sem, h])
  clear hb1
  have a7 := ZA1.out 7 _ rfl
  go_wp2_with fail
  clear a7
  refine (c43z K w1).mono ?_
  rintro e w2 ⟨rfl, hb2⟩
  have hB2 := hB1.trans (hb2.mono hB1.size)
  have hz2 := Nat.lt_of_lt_of_le hz1 hb2.size
  have ZA2 := hidI (ZA1.out.below hb2 hz1)
  clear hb2 ZA1
  have a8 := ZA2.out 8 _ rfl
  have a9 := ZA2.out 9 _ rfl
  have a10 := ZA2.out 10 _ rfl
  go_wp2_with fail
  clear a8 a9 a10
  refine (c44z K d2 w2).mono ?_
  rintro e w3 ⟨rfl, hb3⟩
  have hB3 := hB2.trans (hb3.mono hB2.size)
  have hz3 := Nat.lt_of_lt_of_le hz2 hb3.size
  have ZA3 := hidI (ZA2.out.below hb3 hz2)
  clear hb3 ZA2
  have a11 := ZA3.out 11 _ rfl
  go_wp2_with fail
  clear a11
  refine (c45z K none 0 w3).mono ?_
  rintro e w4 ⟨rfl, hb4⟩
  have hB4 := hB3.trans (hb4.mono hB3.size)
  have hz4 := Nat.lt_of_lt_of_le hz3 hb4.size
  have ZA4 := hidI (ZA3.out.below hb4 hz3)
  clear hb4 ZA3
  have a12 := ZA4.out 12 _ rfl
  go_wp2_with fail
  clear a12
  refine (c46z K none 0 w4).mono ?_
  rintro e w5 ⟨rfl, hb5⟩
  have hB5 := hB4.trans (hb5.mono hB4.size)
  have hz5 := Nat.lt_of_lt_of_le hz4 hb5.size
  have ZA5 := hidI (ZA4.out.below hb5 hz4)
  clear hb5 ZA4
  have a13 := ZA5.out 13 _ rfl
  go_wp2_with fail
  clear a13
  refine (c47z K none 0 w5).mono ?_
  rintro e w6 ⟨rfl, hb6⟩
  have hB6 := hB5.trans (hb6.mono hB5.size)
  have hz6 := Nat.lt_of_lt_of_le hz5 hb6.size
  have ZA6 := hidI (ZA5.out.below hb6 hz5)
  clear hb6 ZA5
  have a14 := ZA6.out 14 _ rfl
  go_wp2_with fail
  clear a14
  refine (c48z K none 0 w6).mono ?_
  rintro e w7 ⟨rfl, hb7⟩
  have hB7 := hB6.trans (hb7.mono hB6.size)
  have hz7 := Nat.lt_of_lt_of_le hz6 hb7.size
  have ZA7 := hidI (ZA6.out.below hb7 hz6)
  clear hb7 ZA6
  go_wp2
  go_ret
  exact ⟨rfl, hB7⟩
set_option maxHeartbeats 4000000 in
set_option maxRecDepth 100000 in
theorem c20z (K d ep d2 : Int) (up : Bool) (w : World) (hK : 0 ≤ K) :
    Calls Tryz.prog 20 #[.agg #[.int .i64 d, .bool up, .int .i64 0, .int .i64 ep, .int .i64 0, .slice none 0 0, .slice none 0 0, .slice none 0 0, .int .i64 d2, .slice none 0 0, .slice none 0 0, .slice none 0 0, .slice none 0 0, .slice none 0 0, .slice none 0 0], .int .i64 K] w fun e w' => e = .returned (.int .i64 (K)) ∧ Below w.heap.size w w' := by
  have hn : ¬ K < 0 := by omega
  have hB0 : ∀ o, Below w.heap.size w (w.alloc o) := fun o => (Below.refl _ _).alloc (Nat.le_refl _) _
  go_enter Tryz.func20, Tryz.ntmps20
  go_wp2_with fail
  refine (c53z K _ hK).mono ?_
  rintro e w1 ⟨rfl, hb1⟩
  have hB1 : Below w.heap.size w w1 := (hB0 _).trans (hb1.mono (by simp <;> omega))
  have hz1 : w.heap.size < w1.heap.size := by have := hb1.size; simp at this; omega
  have ZA1 : Hid (BlkAt w1 w.heap.size [.int .i64 d, .bool up, .int .i64 0, .int .i64 ep, .int .i64 0, .slice none 0 0, .slice none 0 0, .slice none 0 0, .int .i64 d2, .slice none 0 0, .slice none 0 0, .slice none 0 0, .slice none 0 0, .slice none 0 0, .slice none 0 0]) := fun j v h => (hb1.cell (p := ⟨w.heap.size, j, none⟩) (by simp <;> omega)).trans (by simp [go_sem, h])
  clear hb1
  have a7 := ZA1.out 7 _ rfl
  go_wp2_with fail
  clear a7
  refine (c54z K w1 hK).mono ?_
  rintro e w2 ⟨rfl, hb2⟩
  have hB2 := hB1.trans (hb2.mono hB1.size)
  have hz2 := Nat.lt_of_lt_of_le hz1 hb2.size
  have ZA2 := hidI (ZA1.out.below hb2 hz1)
  clear hb2 ZA1
  have a8 := ZA2.out 8 _ rfl
  have a9 := ZA2.out 9 _ rfl
  have a10 := ZA2.out 10 _ rfl
  go_wp2_with fail
  clear a8 a9 a10
  refine (c55z K d2 w2 hK).mono ?_
  rintro e w3 ⟨rfl, hb3⟩
  have hB3 := hB2.trans (hb3.mono hB2.size)
  have hz3 := Nat.lt_of_lt_of_le hz2 hb3.size
  have ZA3 := hidI (ZA2.out.below hb3 hz2)
  clear hb3 ZA2
  have a11 := ZA3.out 11 _ rfl
  go_wp2_with fail
  clear a11
  refine (c56z K none 0 w3).mono ?_
  rintro e w4 ⟨rfl, hb4⟩
  have hB4 := hB3.trans (hb4.mono hB3.size)
  have hz4 := Nat.lt_of_lt_of_le hz3 hb4.size
  have ZA4 := hidI (ZA3.out.below hb4 hz3)
  clear hb4 ZA3
  have a12 := ZA4.out 12 _ rfl
  go_wp2_with fail
  clear a12
  refine (c57z K none 0 w4).mono ?_
  rintro e w5 ⟨rfl, hb5⟩
  have hB5 := hB4.trans (hb5.mono hB4.size)
  have hz5 := Nat.lt_of_lt_of_le hz4 hb5.size
  have ZA5 := hidI (ZA4.out.below hb5 hz4)
  clear hb5 ZA4
  have a13 := ZA5.out 13 _ rfl
  go_wp2_with fail
  clear a13
  refine (c58z K none 0 w5).mono ?_
  rintro e w6 ⟨rfl, hb6⟩
  have hB6 := hB5.trans (hb6.mono hB5.size)
  have hz6 := Nat.lt_of_lt_of_le hz5 hb6.size
  have ZA6 := hidI (ZA5.out.below hb6 hz5)
  clear hb6 ZA5
  have a14 := ZA6.out 14 _ rfl
  go_wp2_with fail
  clear a14
  refine (c59z K none 0 w6).mono ?_
  rintro e w7 ⟨rfl, hb7⟩
  have hB7 := hB6.trans (hb7.mono hB6.size)
  have hz7 := Nat.lt_of_lt_of_le hz6 hb7.size
  have ZA7 := hidI (ZA6.out.below hb7 hz6)
  clear hb7 ZA6
  go_wp2
  go_ret
  exact ⟨rfl, hB7⟩
set_option maxHeartbeats 4000000 in
set_option maxRecDepth 100000 in
theorem c20 (d ep d2 : Int) (up : Bool) (b lc g n hc0 : Nat) (w : World) (hbw : b < w.heap.size) (hgw : g < w.heap.size) (hn0 : n ≤ 1000) (hc : w.cell? ⟨b, 0, none⟩ = some (.string ⟨#[109, 49]⟩)) (hm : ∀ i, i < n → w.cell? ⟨g, i, none⟩ = some (.int .i64 (2 + (i : Int)))) :
    Calls Tryz.prog 20 #[.agg #[.int .i64 d, .bool up, .int .i64 0, .int .i64 ep, .int .i64 0, .slice none 0 0, .slice (some ⟨b, 0, none⟩) 1 lc, .slice none 0 0, .int .i64 d2, .slice none 0 0, .slice none 0 0, .slice (some ⟨g, 0, none⟩) n hc0, .slice none 0 0, .slice none 0 0, .slice none 0 0], .int .i64 1] w fun e w' => e = .returned (.int .i64 (2 + (n : Int))) ∧ Below w.heap.size w w' := by
  have hn : ¬ (2 + (n : Int)) < 0 := by omega
  have HC := hidI hc
  have HM := hidI hm
  clear hc hm
  have hB0 : ∀ o, Below w.heap.size w (w.alloc o) := fun o => (Below.refl _ _).alloc (Nat.le_refl _) _
  go_enter Tryz.func20, Tryz.ntmps20
  go_wp2_with fail
  refine (c53 b lc _ (Nat.lt_of_lt_of_le hbw ((hB0 _)).size) ((((hB0 _)).cell (p := ⟨b, 0, none⟩) hbw).trans HC.out)).mono ?_
  rintro e w1 ⟨rfl, hb1⟩
  have hB1 : Below w.heap.size w w1 := (hB0 _).trans (hb1.mono (by simp <;> omega))
  have hz1 : w.heap.size < w1.heap.size := by have := hb1.size; simp at this; omega
  have ZA1 : Hid (BlkAt w1 w.heap.size [.int .i64 d, .bool up, .int .i64 0, .int .i64 ep, .int .i64 0, .slice none 0 0, .slice (some ⟨b, 0, none⟩) 1 lc, .slice none 0 0, .int .i64 d2, .slice none 0 0, .slice none 0 0, .slice (some ⟨g, 0, none⟩) n hc0, .slice none 0 0, .slice none 0 0, .slice none 0 0]) := fun j v h => (hb1.cell (p := ⟨w.heap.size, j, none⟩) (by simp <;> omega)).trans (by simp [go_sem, h])
  clear hb1
  have a7 := ZA1.out 7 _ rfl
  go_wp2_with fail
  clear a7
  refine (c54z 2 w1 (by omega)).mono ?_
  rintro e w2 ⟨rfl, hb2⟩
  have hB2 := hB1.trans (hb2.mono hB1.size)
  have hz2 := Nat.lt_of_lt_of_le hz1 hb2.size
  have ZA2 := hidI (ZA1.out.below hb2 hz1)
  clear hb2 ZA1
  have a8 := ZA2.out 8 _ rfl
  have a9 := ZA2.out 9 _ rfl
  have a10 := ZA2.out 10 _ rfl
  go_wp2_with fail
  clear a8 a9 a10
  refine (c55z 2 d2 w2 (by omega)).mono ?_
  rintro e w3 ⟨rfl, hb3⟩
  have hB3 := hB2.trans (hb3.mono hB2.size)
  have hz3 := Nat.lt_of_lt_of_le hz2 hb3.size
  have ZA3 := hidI (ZA2.out.below hb3 hz2)
  clear hb3 ZA2
  have a11 := ZA3.out 11 _ rfl
  go_wp2_with fail
  clear a11
  refine (c56 2 g n hc0 w3 (by omega) (by omega) hn0 (Nat.lt_of_lt_of_le hgw (hB3).size) (fun i hi => ((hB3).cell (p := ⟨g, i, none⟩) hgw).trans (HM.out i hi))).mono ?_
  rintro e w4 ⟨rfl, hb4⟩
  have hB4 := hB3.trans (hb4.mono hB3.size)
  have hz4 := Nat.lt_of_lt_of_le hz3 hb4.size
  have ZA4 := hidI (ZA3.out.below hb4 hz3)
  clear hb4 ZA3
  have a12 := ZA4.out 12 _ rfl
  go_wp2_with fail
  clear a12
  refine (c57z (2 + (n : Int)) none 0 w4).mono ?_
  rintro e w5 ⟨rfl, hb5⟩
  have hB5 := hB4.trans (hb5.mono hB4.size)
  have hz5 := Nat.lt_of_lt_of_le hz4 hb5.size
  have ZA5 := hidI (ZA4.out.below hb5 hz4)
  clear hb5 ZA4
  have a13 := ZA5.out 13 _ rfl
  go_wp2_with fail
  clear a13
  refine (c58z (2 + (n : Int)) none 0 w5).mono ?_
  rintro e w6 ⟨rfl, hb6⟩
  have hB6 := hB5.trans (hb6.mono hB5.size)
  have hz6 := Nat.lt_of_lt_of_le hz5 hb6.size
  have ZA6 := hidI (ZA5.out.below hb6 hz5)
  clear hb6 ZA5
  have a14 := ZA6.out 14 _ rfl
  go_wp2_with fail
  clear a14
  refine (c59z (2 + (n : Int)) none 0 w6).mono ?_
  rintro e w7 ⟨rfl, hb7⟩
  have hB7 := hB6.trans (hb7.mono hB6.size)
  have hz7 := Nat.lt_of_lt_of_le hz6 hb7.size
  have ZA7 := hidI (ZA6.out.below hb7 hz6)
  clear hb7 ZA6
  go_wp2
  go_ret
  exact ⟨rfl, hB7⟩
end Go.Proofs.YtlfokigiejcfoaaGreatDoor

import Derived.Test.YtlfokigiejcfoaaGreatDoorA5
namespace Go.Proofs.YtlfokigiejcfoaaGreatDoor
open Go.RowKit
theorem But.frozen {b : Nat} {w w' : World} (h : But b w w') {p : Addr} (hp : p.block < w.heap.size) (hne : p.block ≠ b) : w'.frozen? p = w.frozen? p := by
  unfold World.frozen?
  rw [h.block p.block hp hne]
/-- All that is there stays, but for two blocks. -/
structure But2 (b g : Nat) (w w' : World) : Prop where
  os : w'.os = w.os
  tape : w'.tape = w.tape
  output : w'.output = w.output
  size : w.heap.size ≤ w'.heap.size
  block : ∀ k, k < w.heap.size → k ≠ b → k ≠ g → w'.heap[k]? = w.heap[k]?
theorem But2.cell {b g : Nat} {w w' : World} (h : But2 b g w w') {p : Addr} (hp : p.block < w.heap.size) (h1 : p.block ≠ b) (h2 : p.block ≠ g) : w'.cell? p = w.cell? p := by
  unfold World.cell?
  rw [h.block p.block hp h1 h2]
theorem But2.below {b g B : Nat} {w w' : World} (h : But2 b g w w') (h1 : B ≤ b) (h2 : B ≤ g) (hz : B ≤ w.heap.size) : Below B w w' := ⟨h.os, h.tape, h.output, h.size, fun k hk => h.block k (by omega) (by omega) (by omega)⟩
theorem but2_of {b g : Nat} {u v w : World} (h : But b u v) (k : But g v w) : But2 b g u w :=
  ⟨k.os.trans h.os, k.tape.trans h.tape, k.output.trans h.output, Nat.le_trans h.size k.size, fun i hi h1 h2 => (k.block i (Nat.lt_of_lt_of_le hi h.size) h2).trans (h.block i hi h1)⟩
set_option maxHeartbeats 4000000 in
set_option maxRecDepth 100000 in
theorem c42 (b lc : Nat) (v : Value) (w : World) (hbw : b < w.heap.size) (hc : w.cell? ⟨b, 0, none⟩ = some v) (hf : w.frozen? ⟨b, 0, none⟩ = false) :
    Calls Tryz.prog 42 #[.agg #[.slice none 0 0, .slice (some ⟨b, 0, none⟩) 1 lc], .int .i64 1] w fun e w' => e = .returned (.int .i64 2) ∧ But b w w' ∧ w'.cell? ⟨b, 0, none⟩ = some (.string ⟨#[109, 49]⟩) := by
  have HC := hidI hc
  have HF := hidI hf
  clear hc hf
  have hB0 : ∀ o, Below w.heap.size w (w.alloc o) := fun o => (Below.refl _ _).alloc (Nat.le_refl _) _
  go_enter Tryz.func42, Tryz.ntmps42
  go_wp2_with fail
  refine (c46z 1 none 0 _).mono ?_
  rintro e w1 ⟨rfl, hb1⟩
  have hB1 : Below w.heap.size w w1 := (hB0 _).trans (hb1.mono (by simp <;> omega))
  have ZA1 : Hid (BlkAt w1 w.heap.size [.slice none 0 0, .slice (some ⟨b, 0, none⟩) 1 lc]) := fun j v h => (hb1.cell (p := ⟨w.heap.size, j, none⟩) (by simp <;> omega)).trans (by simp [go_sem, h])
  clear hb1
  have a1 := ZA1.out 1 _ rfl
  go_wp2_with fail
  clear a1
  refine (c46 b lc w1 v (Nat.lt_of_lt_of_le hbw hB1.size) ((hB1.cell (p := ⟨b, 0, none⟩) hbw).trans HC.out) ((hB1.frozen (p := ⟨b, 0, none⟩) hbw).trans HF.out)).mono ?_
  rintro e w2 ⟨rfl, hb2, hc2⟩
  have hB2 := hidI ((But.of_below hB1).trans hb2)
  have hC2 := hidI hc2
  clear hb2 hc2
  go_wp2
  go_ret
  exact ⟨rfl, hB2.out, hC2.out⟩
theorem MI.start {K : Int} {w : World} {g n : Nat} (h1 : g < w.heap.size) (h2 : ∀ i, i < n → ∃ v, w.cell? ⟨g, i, none⟩ = some v) (h3 : ∀ i, w.frozen? ⟨g, i, none⟩ = false) : MI K w w g n 0 :=
  ⟨rfl, rfl, rfl, Nat.le_refl _, fun _ _ _ => rfl, h1, h2, h3, fun _ hi => absurd hi (Nat.not_lt_zero _)⟩
set_option maxHeartbeats 4000000 in
set_option maxRecDepth 100000 in
theorem c16 (d ep d2 : Int) (up : Bool) (b lc g n hc0 : Nat) (v : Value) (w : World) (hbw : b < w.heap.size) (hgw : g < w.heap.size) (hne : g ≠ b) (hn0 : n ≤ 1000) (hc : w.cell? ⟨b, 0, none⟩ = some v) (hf : w.frozen? ⟨b, 0, none⟩ = false) (ho : ∀ i, i < n → ∃ v, w.cell? ⟨g, i, none⟩ = some v) (hof : ∀ i, w.frozen? ⟨g, i, none⟩ = false) :
    Calls Tryz.prog 16 #[.agg #[.int .i64 d, .bool up, .int .i64 0, .int .i64 ep, .int .i64 0, .slice none 0 0, .slice (some ⟨b, 0, none⟩) 1 lc, .slice none 0 0, .int .i64 d2, .slice none 0 0, .slice none 0 0, .slice (some ⟨g, 0, none⟩) n hc0, .slice none 0 0, .slice none 0 0, .slice none 0 0], .int .i64 1] w fun e w' => e = .returned (.int .i64 (2 + (n : Int))) ∧ But2 b g w w' ∧ w'.cell? ⟨b, 0, none⟩ = some (.string ⟨#[109, 49]⟩) ∧ ∀ i, i < n → w'.cell? ⟨g, i, none⟩ = some (.int .i64 (2 + (i : Int))) := by
  have HC := hidI hc
  have HF := hidI hf
  have HO := hidI ho
  have HOF := hidI hof
  clear hc hf ho hof
  have hB0 : ∀ o, Below w.heap.size w (w.alloc o) := fun o => (Below.refl _ _).alloc (Nat.le_refl _) _
  go_enter Tryz.func16, Tryz.ntmps16
  go_wp2_with fail
  refine (c42 b lc v _ (Nat.lt_of_lt_of_le hbw (hB0 _).size) (((hB0 _).cell (p := ⟨b, 0, none⟩) hbw).trans HC.out) (((hB0 _).frozen (p := ⟨b, 0, none⟩) hbw).trans HF.out)).mono ?_
  rintro e w1 ⟨rfl, hb1, hc1⟩
  have hT1 : But b w w1 := (But.of_below (hB0 _)).trans hb1
  have hz1 : w.heap.size < w1.heap.size := by have := hb1.size; simp at this; omega
  have ZA1 : Hid (BlkAt w1 w.heap.size [.int .i64 d, .bool up, .int .i64 0, .int .i64 ep, .int .i64 0, .slice none 0 0, .slice (some ⟨b, 0, none⟩) 1 lc, .slice none 0 0, .int .i64 d2, .slice none 0 0, .slice none 0 0, .slice (some ⟨g, 0, none⟩) n hc0, .slice none 0 0, .slice none 0 0, .slice none 0 0]) := fun j v h => (hb1.cell (p := ⟨w.heap.size, j, none⟩) (by simp <;> omega) (by show w.heap.size ≠ b; omega)).trans (by simp [go_sem, h])
  have HC1 := hidI hc1
  clear hb1 hc1
  have a7 := ZA1.out 7 _ rfl
  go_wp2_with fail
  clear a7
  refine (c43z 2 w1).mono ?_
  rintro e w2 ⟨rfl, hb2⟩
  have hT2 := hT1.trans (But.of_below hb2)
  have hz2 := Nat.lt_of_lt_of_le hz1 hb2.size
  have ZA2 := hidI (ZA1.out.below hb2 hz1)
  have HC2 := hidI ((hb2.cell (p := ⟨b, 0, none⟩) (show b < w1.heap.size by omega)).trans HC1.out)
  clear hb2 ZA1 HC1 hT1
  have a8 := ZA2.out 8 _ rfl
  have a9 := ZA2.out 9 _ rfl
  have a10 := ZA2.out 10 _ rfl
  go_wp2_with fail
  clear a8 a9 a10
  refine (c44z 2 d2 w2).mono ?_
  rintro e w3 ⟨rfl, hb3⟩
  have hT3 := hT2.trans (But.of_below hb3)
  have hz3 := Nat.lt_of_lt_of_le hz2 hb3.size
  have ZA3 := hidI (ZA2.out.below hb3 hz2)
  have HC3 := hidI ((hb3.cell (p := ⟨b, 0, none⟩) (show b < w2.heap.size by omega)).trans HC2.out)
  clear hb3 ZA2 HC2 hT2
  have a11 := ZA3.out 11 _ rfl
  go_wp2_with fail
  clear a11
  refine (c45 2 g n hc0 w3 (by omega) (by omega) hn0 (MI.start (by omega) (fun i hi => by rw [hT3.cell (p := ⟨g, i, none⟩) hgw hne]; exact HO.out i hi) (fun i => (hT3.frozen (p := ⟨g, i, none⟩) hgw hne).trans (HOF.out i)))).mono ?_
  rintro e w4 ⟨rfl, hM⟩
  have hz4 : w.heap.size < w4.heap.size := Nat.lt_of_lt_of_le hz3 hM.size
  have ZA4 : Hid (BlkAt w4 w.heap.size [.int .i64 d, .bool up, .int .i64 0, .int .i64 ep, .int .i64 0, .slice none 0 0, .slice (some ⟨b, 0, none⟩) 1 lc, .slice none 0 0, .int .i64 d2, .slice none 0 0, .slice none 0 0, .slice (some ⟨g, 0, none⟩) n hc0, .slice none 0 0, .slice none 0 0, .slice none 0 0]) := fun j v h => (hM.but.cell (p := ⟨w.heap.size, j, none⟩) hz3 (by show w.heap.size ≠ g; omega)).trans (ZA3.out j v h)
  have HC4 := hidI ((hM.but.cell (p := ⟨b, 0, none⟩) (show b < w3.heap.size by omega) (by show b ≠ g; omega)).trans HC3.out)
  have HM4 := hidI hM.done
  have hT4 := hidI (but2_of hT3 hM.but)
  clear hM ZA3 HC3 hT3
  have a12 := ZA4.out 12 _ rfl
  go_wp2_with fail
  clear a12
  refine (c46z (2 + (n : Int)) none 0 w4).mono ?_
  rintro e w5 ⟨rfl, hb5⟩
  have hz5 := Nat.lt_of_lt_of_le hz4 hb5.size
  have ZA5 := hidI (ZA4.out.below hb5 hz4)
  have a13 := ZA5.out 13 _ rfl
  go_wp2_with fail
  clear a13
  refine (c47z (2 + (n : Int)) none 0 w5).mono ?_
  rintro e w6 ⟨rfl, hb6⟩
  have hz6 := Nat.lt_of_lt_of_le hz5 hb6.size
  have ZA6 := hidI (ZA5.out.below hb6 hz5)
  have a14 := ZA6.out 14 _ rfl
  go_wp2_with fail
  clear a14
  refine (c48z (2 + (n : Int)) none 0 w6).mono ?_
  rintro e w7 ⟨rfl, hb7⟩
  have hB7 : Below w4.heap.size w4 w7 := (hb5.trans (hb6.mono hb5.size)).trans (hb7.mono (Nat.le_trans hb5.size hb6.size))
  have R1 := hidI ((hB7.cell (p := ⟨b, 0, none⟩) (show b < w4.heap.size by omega)).trans HC4.out)
  have R2 : Hid (∀ i, i < n → w7.cell? ⟨g, i, none⟩ = some (.int .i64 (2 + (i : Int)))) := fun i hi => (hB7.cell (p := ⟨g, i, none⟩) (show g < w4.heap.size by omega)).trans (HM4.out i hi)
  have R3 : Hid (But2 b g w w7) := ⟨hB7.os.trans hT4.out.os, hB7.tape.trans hT4.out.tape, hB7.output.trans hT4.out.output, Nat.le_trans hT4.out.size hB7.size, fun k hk h1 h2 => (hB7.block k (by omega)).trans (hT4.out.block k hk h1 h2)⟩
  clear hb5 hb6 hb7 hB7 ZA4 ZA5 ZA6 HC4 HM4 hT4
  go_wp2
  go_ret
  exact ⟨rfl, R3.out, R1.out, R2.out⟩
end Go.Proofs.YtlfokigiejcfoaaGreatDoor

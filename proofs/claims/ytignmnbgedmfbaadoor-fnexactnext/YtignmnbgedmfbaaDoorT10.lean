import Derived.Test.YtignmnbgedmfbaaDoorT9
namespace Go.Proofs.YtignmnbgedmfbaaDoor
open Go.RowKit

set_option maxHeartbeats 2000000 in
theorem c3 (a : Option Addr) (cap : Nat) (is : List I3) (w : World) (hs : ∀ i, (is.getD i i3z).tx.size ≤ 9223372036854775807) (hl : is.length ≤ 9223372036854775807) (hat : InsAt w a is) (hsh : ShapesAt w) :
    Calls Tryd.prog 3 #[.agg #[.slice a is.length cap]] w fun e w' => e = .returned (.bool true) ∧ Below w.heap.size w w' := by
  have HAT : Hid (InsAt w a is) := hat
  have HSH : Hid (ShapesAt w) := hsh
  have hB0 : Below w.heap.size w (w.alloc (.cells #[.slice a is.length cap] 24)) := (Below.refl _ _).alloc (Nat.le_refl _) _
  clear hat hsh
  go_enter Tryd.func3, Tryd.ntmps3
  go_wp2_with fail
  refine (c7 a cap is _ hs hl (ins_below HAT.out hB0)).mono ?_
  rintro e w1 ⟨⟨r, rfl, hr⟩, hb1⟩
  have hB1 : Below w.heap.size w w1 := hB0.trans (hb1.mono hB0.size)
  have d1 : w1.cell? ⟨w.heap.size, 0, none⟩ = some (.slice a is.length cap) := (hb1.cell (p := ⟨w.heap.size, 0, none⟩) (by simp)).trans (by simp [go_sem])
  have z1 : w.heap.size + 1 ≤ w1.heap.size := by have := hb1.size; simp at this; omega
  clear hb1
  by_cases hr0 : r < 0
  · clear hr
    go_wp2
    go_ret
    exact ⟨rfl, hB1⟩
  · obtain ⟨hl1, hs1, _⟩ := hr (by omega)
    have hs2 : Hid (∀ i, (is.getD i i3z).tx.size ≤ 1048700) := fun i => Nat.le_trans (hs1 i) (by omega)
    clear hs hs1
    go_wp2_with fail
    refine (c9 a cap is w1 hl1 (ins_below HAT.out hB1)).mono ?_
    rintro e w2 ⟨⟨a2, rfl, h2⟩, hb2⟩
    have H2 : Hid (InsAt w2 a2 is) := h2
    have hB2 : Below w.heap.size w w2 := hB1.trans (hb2.mono hB1.size)
    have d2 : w2.cell? ⟨w.heap.size, 0, none⟩ = some (.slice a is.length cap) := (hb2.cell (p := ⟨w.heap.size, 0, none⟩) (Nat.lt_of_lt_of_le (Nat.lt_succ_self _) z1)).trans d1
    have z2 : w.heap.size + 1 ≤ w2.heap.size := Nat.le_trans z1 hb2.size
    clear h2 hb2 d1
    go_wp2_with fail
    refine (c8 a2 is.length is w2 hs2.out hl1 H2.out).mono ?_
    rintro e w3 ⟨rfl, hb3⟩
    have hB3 : Below w.heap.size w w3 := hB2.trans (hb3.mono hB2.size)
    have d3 : w3.cell? ⟨w.heap.size, 0, none⟩ = some (.slice a is.length cap) := (hb3.cell (p := ⟨w.heap.size, 0, none⟩) (Nat.lt_of_lt_of_le (Nat.lt_succ_self _) z2)).trans d2
    have z3 : w.heap.size + 1 ≤ w3.heap.size := Nat.le_trans z2 hb3.size
    clear hb3 d2
    go_wp2_with fail
    refine (c9 a cap is w3 hl1 (ins_below HAT.out hB3)).mono ?_
    rintro e w4 ⟨⟨a4, rfl, h4⟩, hb4⟩
    have H4 : Hid (InsAt w4 a4 is) := h4
    have hB4 : Below w.heap.size w w4 := hB3.trans (hb4.mono hB3.size)
    have d4 : w4.cell? ⟨w.heap.size, 0, none⟩ = some (.slice a is.length cap) := (hb4.cell (p := ⟨w.heap.size, 0, none⟩) (Nat.lt_of_lt_of_le (Nat.lt_succ_self _) z3)).trans d3
    have z4 : w.heap.size + 1 ≤ w4.heap.size := Nat.le_trans z3 hb4.size
    clear h4 hb4 d3
    have hA5 : Below w4.heap.size w4 (w4.alloc (.cells #[.slice a4 is.length is.length] 29)) := (Below.refl _ _).alloc (Nat.le_refl _) _
    go_wp2_with fail
    refine (c10 a4 is.length is _ hs2.out hl1 (ins_below H4.out hA5) (shapes_below HSH.out (hB4.trans (hA5.mono hB4.size)))).mono ?_
    rintro e w5 ⟨rfl, hb5⟩
    have hB5 : Below w.heap.size w w5 := (hB4.alloc hB4.size _).trans (hb5.mono (by have := hB4.size; simp; omega))
    have d5 : w5.cell? ⟨w.heap.size, 0, none⟩ = some (.slice a is.length cap) := (hb5.cell (p := ⟨w.heap.size, 0, none⟩) (by simp; omega)).trans ((hA5.cell (p := ⟨w.heap.size, 0, none⟩) (Nat.lt_of_lt_of_le (Nat.lt_succ_self _) z4)).trans d4)
    have x5 : w5.cell? ⟨w4.heap.size, 0, none⟩ = some (.slice a4 is.length is.length) := (hb5.cell (p := ⟨w4.heap.size, 0, none⟩) (by simp)).trans (by simp [go_sem])
    have H5 : Hid (InsAt w5 a4 is) := ins_below (ins_below H4.out hA5) hb5
    have HA5 : Hid (InsAt w5 a is) := ins_below HAT.out hB5
    have z5 : w4.heap.size < w5.heap.size := by have := hb5.size; simp at this; omega
    clear hb5 d4 hA5
    go_wp2_with fail
    go_region_with (first | (go_at_call 9; refine (c9 a cap is _ hl1 ?_).mono ?_; exact ins_below HA5.out ((Below.refl _ _).drew); rintro e w6 ⟨⟨a6, rfl, h6⟩, hb6⟩; have x6 : w6.cell? ⟨w4.heap.size, 0, none⟩ = some (.slice a4 is.length is.length) := (hb6.cell (p := ⟨w4.heap.size, 0, none⟩) z5).trans x5) | (go_at_call 11; refine (c11 a4 a6 is.length is.length is _ hl1 ?_ ?_).mono ?_; exact ins_below (ins_below H5.out ((Below.refl _ _).drew)) hb6; exact h6; rintro e w7 ⟨rfl, hb7⟩))
    all_goals go_wp2
    all_goals go_ret
    all_goals exact ⟨rfl, ((hB5.drew).trans (hb6.mono hB5.size)).trans (hb7.mono (Nat.le_trans hB5.size hb6.size))⟩
end Go.Proofs.YtignmnbgedmfbaaDoor

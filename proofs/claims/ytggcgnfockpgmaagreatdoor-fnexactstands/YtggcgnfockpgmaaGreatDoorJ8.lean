import Derived.Test.YtggcgnfockpgmaaGreatDoorJ7
namespace Go.Proofs.YtggcgnfockpgmaaGreatDoor
open Go.RowKit

set_option maxHeartbeats 2000000 in
theorem c5 (a : Option Addr) (cap : Nat) (is : List D8) (l : Int) (w : World) (h0 : 0 ≤ l) (h1 : l ≤ 1048576) (hs : ∀ i, (is.getD i d8z).le 9223372036854775807) (hl : is.length ≤ 9223372036854775807) (hat : DeedsAt w a is) :
    Calls Tryz.prog 5 #[.slice a is.length cap, .int .i64 l] w fun e w' => (∃ r : Int, e = .returned (.int .i64 r) ∧ (0 ≤ r → is.length ≤ 1048576 ∧ (∀ i, (is.getD i d8z).le 1048576) ∧ r ≤ 1048576)) ∧ Below w.heap.size w w' := by
  obtain ⟨b, off, hc⟩ := deeds_some hat
  have HC : Hid (is = [] ∨ (a = some ⟨b, off, none⟩ ∧ b < w.heap.size ∧ ∀ i, i < is.length → DeedAt w b (off + i * 8) (is.getD i d8z))) := hc
  clear hc hat
  by_cases hbig : l < is.length
  · go_enter Tryz.func5, Tryz.ntmps5
    go_wp2
    go_ret
    exact ⟨⟨-1, rfl, fun h => by omega⟩, Below.refl _ _⟩
  · go_enter Tryz.func5, Tryz.ntmps5
    go_wp2_with fail
    go_loopw [1, 5] (fun l i wr => ∃ (k : Nat) (r : Int), k ≤ is.length ∧ i = .int .i64 k ∧ l = .int .i64 r ∧ 0 ≤ r ∧ r ≤ 1048576 ∧ Hid (∀ i, i < k → (is.getD i d8z).le 1048576) ∧ Below w.heap.size w wr) (fun _ i _ => is.length - (intOf i).toNat)
    case atStart => exact ⟨0, _, Nat.zero_le _, rfl, rfl, by omega, by omega, fun i h => absurd h (Nat.not_lt_zero _), Below.refl _ _⟩
    case round =>
      obtain ⟨k, r, hk, rfl, rfl, hr0, hr1, hsm, hb⟩ := hrel
      by_cases hlt : k < is.length
      · rcases HC.out with hss | ⟨ha, hbw, hcell⟩
        · rw [hss] at hlt; exact absurd hlt (Nat.not_lt_zero _)
        subst ha
        obtain ⟨ai, ci, hcc, hg⟩ := hcell k hlt
        have g0 := (hb.cell (p := ⟨b, off + k * 8, none⟩) hbw).trans hcc.1
        have g1 := (hb.cell (p := ⟨b, off + k * 8 + 1, none⟩) hbw).trans hcc.2.1
        have g2 := (hb.cell (p := ⟨b, off + k * 8 + 2, none⟩) hbw).trans hcc.2.2.1
        have g3 := (hb.cell (p := ⟨b, off + k * 8 + 3, none⟩) hbw).trans hcc.2.2.2.1
        have g4 := (hb.cell (p := ⟨b, off + k * 8 + 4, none⟩) hbw).trans hcc.2.2.2.2.1
        have g5 := (hb.cell (p := ⟨b, off + k * 8 + 5, none⟩) hbw).trans hcc.2.2.2.2.2.1
        have g6 := (hb.cell (p := ⟨b, off + k * 8 + 6, none⟩) hbw).trans hcc.2.2.2.2.2.2.1
        have g7 := (hb.cell (p := ⟨b, off + k * 8 + 7, none⟩) hbw).trans hcc.2.2.2.2.2.2.2
        have hxs := hs k
        generalize hx : is.getD k d8z = x at *
        have HX : Hid (is.getD k d8z = x) := hx
        have HG : Hid (LksAt wr ai x.ls) := lks_below hg hb
        clear hx hcell hcc hg
        go_wp2_with fail
        refine (c13 x ai ci r wr hxs hr0 hr1 HG.out).mono ?_
        rintro e w1 ⟨⟨r1, rfl, hr⟩, hb1⟩
        have hB1 : Below w.heap.size w w1 := hb.trans (hb1.mono hb.size)
        by_cases hneg : r1 < 0
        · clear hr
          go_wp2
          go_ret
          exact ⟨⟨-1, rfl, fun h => by omega⟩, hB1⟩
        · have hr' := hr (by omega)
          have hsm' : Hid (∀ i, i < k + 1 → (is.getD i d8z).le 1048576) := by
            intro i h
            rcases Nat.lt_or_ge i k with h1 | h1
            · exact hsm.out i h1
            · obtain rfl : i = k := by omega
              rw [HX.out]; exact hr'.1
          clear hr
          go_wp2
          go_roundw
          case rel => exact ⟨k + 1, _, by omega, by go_num, rfl, by omega, hr'.2, hsm', hB1⟩
          case measure => simp [intOf]; omega
      · have hsm' : Hid (∀ i, (is.getD i d8z).le 1048576) := getD_smallD (fun i h => hsm.out i (by omega))
        go_wp2
        go_ret
        exact ⟨⟨r, rfl, fun _ => ⟨by omega, hsm'.out, hr1⟩⟩, hb⟩

set_option maxHeartbeats 2000000 in
theorem c26 (x : D8) (ai bi : Option Addr) (ci di : Nat) (w : World) (hl : x.ls.length ≤ 1048576) (hat : LksAt w ai x.ls) (hat' : LksAt w bi x.ls) :
    Calls Tryz.prog 26 #[.agg #[.string x.nm, .bool x.made, .string x.km.nm, .string x.km.tl, .string x.km.ar, .slice ai x.ls.length ci, .int .i64 x.cd, .string x.tx], .agg #[.string x.nm, .bool x.made, .string x.km.nm, .string x.km.tl, .string x.km.ar, .slice bi x.ls.length di, .int .i64 x.cd, .string x.tx]] w fun e w' => e = .returned (.bool true) ∧ Below w.heap.size w w' := by
  have HA : Hid (LksAt w ai x.ls) := hat
  have HA' : Hid (LksAt w bi x.ls) := hat'
  clear hat hat'
  have hB0 : ∀ o p, Below w.heap.size w ((w.alloc o).alloc p) := fun o p => ((Below.refl _ _).alloc (Nat.le_refl _) _).alloc (by simp) _
  go_enter Tryz.func26, Tryz.ntmps26
  go_wp2_with fail
  refine (c46 x.km _).mono ?_
  rintro e w1 ⟨rfl, hb1⟩
  have hB1 : Below w.heap.size w w1 := (hB0 _ _).trans (hb1.mono (by simp; omega))
  have k5 : w1.cell? ⟨w.heap.size, 5, none⟩ = some (.slice ai x.ls.length ci) := (hb1.cell (p := ⟨w.heap.size, 5, none⟩) (by simp; omega)).trans (by simp [go_sem])
  have k6 : w1.cell? ⟨w.heap.size, 6, none⟩ = some (.int .i64 x.cd) := (hb1.cell (p := ⟨w.heap.size, 6, none⟩) (by simp; omega)).trans (by simp [go_sem])
  have k7 : w1.cell? ⟨w.heap.size, 7, none⟩ = some (.string x.tx) := (hb1.cell (p := ⟨w.heap.size, 7, none⟩) (by simp; omega)).trans (by simp [go_sem])
  have j5 : w1.cell? ⟨w.heap.size + 1, 5, none⟩ = some (.slice bi x.ls.length di) := (hb1.cell (p := ⟨w.heap.size + 1, 5, none⟩) (by simp)).trans (by simp [go_sem])
  have j6 : w1.cell? ⟨w.heap.size + 1, 6, none⟩ = some (.int .i64 x.cd) := (hb1.cell (p := ⟨w.heap.size + 1, 6, none⟩) (by simp)).trans (by simp [go_sem])
  have j7 : w1.cell? ⟨w.heap.size + 1, 7, none⟩ = some (.string x.tx) := (hb1.cell (p := ⟨w.heap.size + 1, 7, none⟩) (by simp)).trans (by simp [go_sem])
  have hz1 : w.heap.size + 1 < w1.heap.size := by have := hb1.size; simp at this; omega
  clear hb1 hB0
  go_wp2_with fail
  refine (c47 ai bi ci di x.ls w1 hl (lks_below HA.out hB1) (lks_below HA'.out hB1)).mono ?_
  rintro e w2 ⟨rfl, hb2⟩
  have hB2 : Below w.heap.size w w2 := hB1.trans (hb2.mono hB1.size)
  have m6 := (hb2.cell (p := ⟨w.heap.size, 6, none⟩) (by simp; omega)).trans k6
  have m7 := (hb2.cell (p := ⟨w.heap.size, 7, none⟩) (by simp; omega)).trans k7
  have n6 := (hb2.cell (p := ⟨w.heap.size + 1, 6, none⟩) (by simp; omega)).trans j6
  have n7 := (hb2.cell (p := ⟨w.heap.size + 1, 7, none⟩) (by simp; omega)).trans j7
  clear k5 k6 k7 j5 j6 j7
  go_wp2_with fail
  refine (c48 x.cd x.tx w2).mono ?_
  rintro e w3 ⟨rfl, hb3⟩
  have hB3 : Below w.heap.size w w3 := hB2.trans (hb3.mono hB2.size)
  go_wp2
  go_ret
  exact ⟨rfl, hB3⟩
end Go.Proofs.YtggcgnfockpgmaaGreatDoor

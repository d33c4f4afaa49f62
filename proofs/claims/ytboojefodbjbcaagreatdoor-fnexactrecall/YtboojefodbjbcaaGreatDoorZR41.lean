import Derived.Test.YtboojefodbjbcaaGreatDoorZR14
namespace Go.Proofs.YtboojefodbjbcaaGreatDoor.G
open Go.RowKit
set_option maxHeartbeats 2000000 in
theorem c7 (a : Option Addr) (cap : Nat) (is : List D8) (l : Int) (w : World) (h0 : 0 ≤ l) (h1 : l ≤ 1048576) (hs : ∀ i, (is.getD i d8z).le 9223372036854775807) (hl : is.length ≤ 9223372036854775807) (hat : DeedsAt w a is) :
 Calls Tryz.prog 7 #[.slice a is.length cap, .int .i64 l] w fun e w' => (∃ r : Int, e = .returned (.int .i64 r) ∧ (0 ≤ r → is.length ≤ 1048576 ∧ (∀ i, (is.getD i d8z).le 1048576) ∧ r ≤ 1048576)) ∧ Below w.heap.size w w' := by
 obtain ⟨b, off, hc⟩ := deeds_some hat
 have HC : Hid (is = [] ∨ (a = some ⟨b, off, none⟩ ∧ b < w.heap.size ∧ ∀ i, i < is.length → DeedAt w b (off + i * 8) (is.getD i d8z))) := hc
 clear hc hat
 by_cases hbig : l < is.length
 · go_enter Tryz.func7, Tryz.ntmps7
   go_wp2
   go_ret
   exact ⟨⟨-1, rfl, fun h => by omega⟩, Below.refl _ _⟩
 · go_enter Tryz.func7, Tryz.ntmps7
   go_wp2_with fail
   go_loopw [1, 5] (fun l i wr => ∃ (k : Nat) (r : Int), k ≤ is.length ∧ i = .int .i64 k ∧ l = .int .i64 r ∧ 0 ≤ r ∧ r ≤ 1048576 ∧ Hid (∀ i, i < k → (is.getD i d8z).le 1048576) ∧ Below w.heap.size w wr) (fun _ i _ => is.length - (intOf i).toNat)
   case atStart => exact ⟨0, _, Nat.zero_le _, rfl, rfl, by omega, by omega, fun i h => absurd h (Nat.not_lt_zero _), Below.refl _ _⟩
   case round =>
    obtain ⟨k, r, hk, rfl, rfl, hr0, hr1, hsm, hb⟩ := hrel
    by_cases hlt : k < is.length
    · rcases HC.out with hss | ⟨ha, hbw, hcell⟩
      · rw [hss] at hlt; exact absurd hlt (Nat.not_lt_zero _)
      subst ha
      obtain ⟨ai, ci, hcc, hg⟩ := hcell k hlt
      have g0 := (hb.cell (p := ⟨b, off + k * 8, none⟩) hbw).trans hcc.1
      have g1 := (hb.cell (p := ⟨b, off + k * 8 + 1, none⟩) hbw).trans hcc.2.1
      have g2 := (hb.cell (p := ⟨b, off + k * 8 + 2, none⟩) hbw).trans hcc.2.2.1
      have g3 := (hb.cell (p := ⟨b, off + k * 8 + 3, none⟩) hbw).trans hcc.2.2.2.1
      have g4 := (hb.cell (p := ⟨b, off + k * 8 + 4, none⟩) hbw).trans hcc.2.2.2.2.1
      have g5 := (hb.cell (p := ⟨b, off + k * 8 + 5, none⟩) hbw).trans hcc.2.2.2.2.2.1
      have g6 := (hb.cell (p := ⟨b, off + k * 8 + 6, none⟩) hbw).trans hcc.2.2.2.2.2.2.1
      have g7 := (hb.cell (p := ⟨b, off + k * 8 + 7, none⟩) hbw).trans hcc.2.2.2.2.2.2.2
      have hxs := hs k
      generalize hx : is.getD k d8z = x at *
      have HX : Hid (is.getD k d8z = x) := hx
      have HG : Hid (LksAt wr ai x.ls) := lks_below hg hb
      clear hx hcell hcc hg
      go_wp2_with fail
      refine (c27 x ai ci r wr hxs hr0 hr1 HG.out).mono ?_
      rintro e w1 ⟨⟨r1, rfl, hr⟩, hb1⟩
      have hB1 : Below w.heap.size w w1 := hb.trans (hb1.mono hb.size)
      by_cases hneg : r1 < 0
      · clear hr
        go_wp2
        go_ret
        exact ⟨⟨-1, rfl, fun h => by omega⟩, hB1⟩
      · have hr' := hr (by omega)
        have hsm' : Hid (∀ i, i < k + 1 → (is.getD i d8z).le 1048576) := by
         intro i h
         rcases Nat.lt_or_ge i k with h1 | h1
         · exact hsm.out i h1
         · obtain rfl : i = k := by omega
           rw [HX.out]; exact hr'.1
        clear hr
        go_wp2
        go_roundw
        case rel => exact ⟨k + 1, _, by omega, by go_num, rfl, by omega, hr'.2, hsm', hB1⟩
        case measure => simp [intOf]; omega
    · have hsm' : Hid (∀ i, (is.getD i d8z).le 1048576) := getD_smallD (fun i h => hsm.out i (by omega))
      go_wp2
      go_ret
      exact ⟨⟨r, rfl, fun _ => ⟨by omega, hsm'.out, hr1⟩⟩, hb⟩
set_option maxHeartbeats 2000000 in
theorem c56 (x : D8) (ai bi : Option Addr) (ci di : Nat) (w : World) (hl : x.ls.length ≤ 1048576) (hat : LksAt w ai x.ls) (hat' : LksAt w bi x.ls) :
 Calls Tryz.prog 56 #[.agg #[.string x.nm, .bool x.made, .string x.km.nm, .string x.km.tl, .string x.km.ar, .slice ai x.ls.length ci, .int .i64 x.cd, .string x.tx], .agg #[.string x.nm, .bool x.made, .string x.km.nm, .string x.km.tl, .string x.km.ar, .slice bi x.ls.length di, .int .i64 x.cd, .string x.tx]] w fun e w' => e = .returned (.bool true) ∧ Below w.heap.size w w' := by
 have HA : Hid (LksAt w ai x.ls) := hat
 have HA' : Hid (LksAt w bi x.ls) := hat'
 clear hat hat'
 have hB0 : ∀ o p, Below w.heap.size w ((w.alloc o).alloc p) := fun o p => ((Below.refl _ _).alloc (Nat.le_refl _) _).alloc (by simp) _
 go_enter Tryz.func56, Tryz.ntmps56
 go_wp2_with fail
 refine (c100 x.km _).mono ?_
 rintro e w1 ⟨rfl, hb1⟩
 have hB1 : Below w.heap.size w w1 := (hB0 _ _).trans (hb1.mono (by simp; omega))
 have k5 : w1.cell? ⟨w.heap.size, 5, none⟩ = some (.slice ai x.ls.length ci) := (hb1.cell (p := ⟨w.heap.size, 5, none⟩) (by simp; omega)).trans (by simp [go_sem])
 have k6 : w1.cell? ⟨w.heap.size, 6, none⟩ = some (.int .i64 x.cd) := (hb1.cell (p := ⟨w.heap.size, 6, none⟩) (by simp; omega)).trans (by simp [go_sem])
 have k7 : w1.cell? ⟨w.heap.size, 7, none⟩ = some (.string x.tx) := (hb1.cell (p := ⟨w.heap.size, 7, none⟩) (by simp; omega)).trans (by simp [go_sem])
 have j5 : w1.cell? ⟨w.heap.size + 1, 5, none⟩ = some (.slice bi x.ls.length di) := (hb1.cell (p := ⟨w.heap.size + 1, 5, none⟩) (by simp)).trans (by simp [go_sem])
 have j6 : w1.cell? ⟨w.heap.size + 1, 6, none⟩ = some (.int .i64 x.cd) := (hb1.cell (p := ⟨w.heap.size + 1, 6, none⟩) (by simp)).trans (by simp [go_sem])
 have j7 : w1.cell? ⟨w.heap.size + 1, 7, none⟩ = some (.string x.tx) := (hb1.cell (p := ⟨w.heap.size + 1, 7, none⟩) (by simp)).trans (by simp [go_sem])
 have hz1 : w.heap.size + 1 < w1.heap.size := by have := hb1.size; simp at this; omega
 clear hb1 hB0
 go_wp2_with fail
 refine (c15 ai bi ci di x.ls w1 hl (lks_below HA.out hB1) (lks_below HA'.out hB1)).mono ?_
 rintro e w2 ⟨rfl, hb2⟩
 have hB2 : Below w.heap.size w w2 := hB1.trans (hb2.mono hB1.size)
 have m6 := (hb2.cell (p := ⟨w.heap.size, 6, none⟩) (by simp; omega)).trans k6
 have m7 := (hb2.cell (p := ⟨w.heap.size, 7, none⟩) (by simp; omega)).trans k7
 have n6 := (hb2.cell (p := ⟨w.heap.size + 1, 6, none⟩) (by simp; omega)).trans j6
 have n7 := (hb2.cell (p := ⟨w.heap.size + 1, 7, none⟩) (by simp; omega)).trans j7
 clear k5 k6 k7 j5 j6 j7
 go_wp2_with fail
 refine (c51 x.cd x.tx w2).mono ?_
 rintro e w3 ⟨rfl, hb3⟩
 have hB3 : Below w.heap.size w w3 := hB2.trans (hb3.mono hB2.size)
 go_wp2
 go_ret
 exact ⟨rfl, hB3⟩
end Go.Proofs.YtboojefodbjbcaaGreatDoor.G
namespace Go.Proofs.YtboojefodbjbcaaGreatDoor.G
open Go.RowKit
theorem set8_at (u : World) (B : Nat) (v0 v1 v2 v3 v4 v5 v6 v7 x0 x1 x2 x3 x4 x5 x6 x7 : Value) (h0 : u.cell? ⟨B, 0, none⟩ = some x0) (h1 : u.cell? ⟨B, 1, none⟩ = some x1) (h2 : u.cell? ⟨B, 2, none⟩ = some x2) (h3 : u.cell? ⟨B, 3, none⟩ = some x3) (h4 : u.cell? ⟨B, 4, none⟩ = some x4) (h5 : u.cell? ⟨B, 5, none⟩ = some x5) (h6 : u.cell? ⟨B, 6, none⟩ = some x6) (h7 : u.cell? ⟨B, 7, none⟩ = some x7) :
 ((((((((u.setCell ⟨B, 0, none⟩ v0).setCell ⟨B, 1, none⟩ v1).setCell ⟨B, 2, none⟩ v2).setCell ⟨B, 3, none⟩ v3).setCell ⟨B, 4, none⟩ v4).setCell ⟨B, 5, none⟩ v5).setCell ⟨B, 6, none⟩ v6).setCell ⟨B, 7, none⟩ v7).cell? ⟨B, 0, none⟩ = some v0 ∧ ((((((((u.setCell ⟨B, 0, none⟩ v0).setCell ⟨B, 1, none⟩ v1).setCell ⟨B, 2, none⟩ v2).setCell ⟨B, 3, none⟩ v3).setCell ⟨B, 4, none⟩ v4).setCell ⟨B, 5, none⟩ v5).setCell ⟨B, 6, none⟩ v6).setCell ⟨B, 7, none⟩ v7).cell? ⟨B, 1, none⟩ = some v1 ∧ ((((((((u.setCell ⟨B, 0, none⟩ v0).setCell ⟨B, 1, none⟩ v1).setCell ⟨B, 2, none⟩ v2).setCell ⟨B, 3, none⟩ v3).setCell ⟨B, 4, none⟩ v4).setCell ⟨B, 5, none⟩ v5).setCell ⟨B, 6, none⟩ v6).setCell ⟨B, 7, none⟩ v7).cell? ⟨B, 2, none⟩ = some v2 ∧ ((((((((u.setCell ⟨B, 0, none⟩ v0).setCell ⟨B, 1, none⟩ v1).setCell ⟨B, 2, none⟩ v2).setCell ⟨B, 3, none⟩ v3).setCell ⟨B, 4, none⟩ v4).setCell ⟨B, 5, none⟩ v5).setCell ⟨B, 6, none⟩ v6).setCell ⟨B, 7, none⟩ v7).cell? ⟨B, 3, none⟩ = some v3 ∧ ((((((((u.setCell ⟨B, 0, none⟩ v0).setCell ⟨B, 1, none⟩ v1).setCell ⟨B, 2, none⟩ v2).setCell ⟨B, 3, none⟩ v3).setCell ⟨B, 4, none⟩ v4).setCell ⟨B, 5, none⟩ v5).setCell ⟨B, 6, none⟩ v6).setCell ⟨B, 7, none⟩ v7).cell? ⟨B, 4, none⟩ = some v4 ∧ ((((((((u.setCell ⟨B, 0, none⟩ v0).setCell ⟨B, 1, none⟩ v1).setCell ⟨B, 2, none⟩ v2).setCell ⟨B, 3, none⟩ v3).setCell ⟨B, 4, none⟩ v4).setCell ⟨B, 5, none⟩ v5).setCell ⟨B, 6, none⟩ v6).setCell ⟨B, 7, none⟩ v7).cell? ⟨B, 5, none⟩ = some v5 ∧ ((((((((u.setCell ⟨B, 0, none⟩ v0).setCell ⟨B, 1, none⟩ v1).setCell ⟨B, 2, none⟩ v2).setCell ⟨B, 3, none⟩ v3).setCell ⟨B, 4, none⟩ v4).setCell ⟨B, 5, none⟩ v5).setCell ⟨B, 6, none⟩ v6).setCell ⟨B, 7, none⟩ v7).cell? ⟨B, 6, none⟩ = some v6 ∧ ((((((((u.setCell ⟨B, 0, none⟩ v0).setCell ⟨B, 1, none⟩ v1).setCell ⟨B, 2, none⟩ v2).setCell ⟨B, 3, none⟩ v3).setCell ⟨B, 4, none⟩ v4).setCell ⟨B, 5, none⟩ v5).setCell ⟨B, 6, none⟩ v6).setCell ⟨B, 7, none⟩ v7).cell? ⟨B, 7, none⟩ = some v7 := by
 obtain ⟨a0, a1, a2, a3⟩ := set4_at u B 0 v0 v1 v2 v3 x0 x1 x2 x3 h0 h1 h2 h3
 have o : ∀ m, 4 ≤ m → ((((u.setCell ⟨B, 0, none⟩ v0).setCell ⟨B, 1, none⟩ v1).setCell ⟨B, 2, none⟩ v2).setCell ⟨B, 3, none⟩ v3).cell? ⟨B, m, none⟩ = u.cell? ⟨B, m, none⟩ := fun m h => set4_other u B 0 m v0 v1 v2 v3 (by omega) (by omega) (by omega) (by omega)
 obtain ⟨b0, b1, b2, b3⟩ := set4_at _ B 4 v4 v5 v6 v7 x4 x5 x6 x7 ((o 4 (by omega)).trans h4) ((o 5 (by omega)).trans h5) ((o 6 (by omega)).trans h6) ((o 7 (by omega)).trans h7)
 have p : ∀ m, m < 4 → (((((((( u.setCell ⟨B, 0, none⟩ v0).setCell ⟨B, 1, none⟩ v1).setCell ⟨B, 2, none⟩ v2).setCell ⟨B, 3, none⟩ v3).setCell ⟨B, 4, none⟩ v4).setCell ⟨B, 5, none⟩ v5).setCell ⟨B, 6, none⟩ v6).setCell ⟨B, 7, none⟩ v7).cell? ⟨B, m, none⟩ = ((((u.setCell ⟨B, 0, none⟩ v0).setCell ⟨B, 1, none⟩ v1).setCell ⟨B, 2, none⟩ v2).setCell ⟨B, 3, none⟩ v3).cell? ⟨B, m, none⟩ := fun m h => set4_other _ B 4 m v4 v5 v6 v7 (by omega) (by omega) (by omega) (by omega)
 exact ⟨(p 0 (by omega)).trans a0, (p 1 (by omega)).trans a1, (p 2 (by omega)).trans a2, (p 3 (by omega)).trans a3, b0, b1, b2, b3⟩
end Go.Proofs.YtboojefodbjbcaaGreatDoor.G
namespace Go.Proofs.YtboojefodbjbcaaGreatDoor.G
open Go.RowKit
theorem set8j_other (u : World) (B j m : Nat) (v0 v1 v2 v3 v4 v5 v6 v7 : Value) (h : m < j ∨ j + 8 ≤ m) : ((((((((u.setCell ⟨B, j, none⟩ v0).setCell ⟨B, j + 1, none⟩ v1).setCell ⟨B, j + 2, none⟩ v2).setCell ⟨B, j + 3, none⟩ v3).setCell ⟨B, j + 4, none⟩ v4).setCell ⟨B, j + 5, none⟩ v5).setCell ⟨B, j + 6, none⟩ v6).setCell ⟨B, j + 7, none⟩ v7).cell? ⟨B, m, none⟩ = u.cell? ⟨B, m, none⟩ :=
 (set4_other ((((u.setCell ⟨B, j, none⟩ v0).setCell ⟨B, j + 1, none⟩ v1).setCell ⟨B, j + 2, none⟩ v2).setCell ⟨B, j + 3, none⟩ v3) B (j + 4) m v4 v5 v6 v7 (by omega) (by omega) (by omega) (by omega)).trans (set4_other u B j m v0 v1 v2 v3 (by omega) (by omega) (by omega) (by omega))
theorem set8j_at (u : World) (B j : Nat) (v0 v1 v2 v3 v4 v5 v6 v7 x0 x1 x2 x3 x4 x5 x6 x7 : Value) (h0 : u.cell? ⟨B, j, none⟩ = some x0) (h1 : u.cell? ⟨B, j + 1, none⟩ = some x1) (h2 : u.cell? ⟨B, j + 2, none⟩ = some x2) (h3 : u.cell? ⟨B, j + 3, none⟩ = some x3) (h4 : u.cell? ⟨B, j + 4, none⟩ = some x4) (h5 : u.cell? ⟨B, j + 5, none⟩ = some x5) (h6 : u.cell? ⟨B, j + 6, none⟩ = some x6) (h7 : u.cell? ⟨B, j + 7, none⟩ = some x7) :
 ((((((((u.setCell ⟨B, j, none⟩ v0).setCell ⟨B, j + 1, none⟩ v1).setCell ⟨B, j + 2, none⟩ v2).setCell ⟨B, j + 3, none⟩ v3).setCell ⟨B, j + 4, none⟩ v4).setCell ⟨B, j + 5, none⟩ v5).setCell ⟨B, j + 6, none⟩ v6).setCell ⟨B, j + 7, none⟩ v7).cell? ⟨B, j, none⟩ = some (v0) ∧ ((((((((u.setCell ⟨B, j, none⟩ v0).setCell ⟨B, j + 1, none⟩ v1).setCell ⟨B, j + 2, none⟩ v2).setCell ⟨B, j + 3, none⟩ v3).setCell ⟨B, j + 4, none⟩ v4).setCell ⟨B, j + 5, none⟩ v5).setCell ⟨B, j + 6, none⟩ v6).setCell ⟨B, j + 7, none⟩ v7).cell? ⟨B, j + 1, none⟩ = some (v1) ∧ ((((((((u.setCell ⟨B, j, none⟩ v0).setCell ⟨B, j + 1, none⟩ v1).setCell ⟨B, j + 2, none⟩ v2).setCell ⟨B, j + 3, none⟩ v3).setCell ⟨B, j + 4, none⟩ v4).setCell ⟨B, j + 5, none⟩ v5).setCell ⟨B, j + 6, none⟩ v6).setCell ⟨B, j + 7, none⟩ v7).cell? ⟨B, j + 2, none⟩ = some (v2) ∧ ((((((((u.setCell ⟨B, j, none⟩ v0).setCell ⟨B, j + 1, none⟩ v1).setCell ⟨B, j + 2, none⟩ v2).setCell ⟨B, j + 3, none⟩ v3).setCell ⟨B, j + 4, none⟩ v4).setCell ⟨B, j + 5, none⟩ v5).setCell ⟨B, j + 6, none⟩ v6).setCell ⟨B, j + 7, none⟩ v7).cell? ⟨B, j + 3, none⟩ = some (v3) ∧ ((((((((u.setCell ⟨B, j, none⟩ v0).setCell ⟨B, j + 1, none⟩ v1).setCell ⟨B, j + 2, none⟩ v2).setCell ⟨B, j + 3, none⟩ v3).setCell ⟨B, j + 4, none⟩ v4).setCell ⟨B, j + 5, none⟩ v5).setCell ⟨B, j + 6, none⟩ v6).setCell ⟨B, j + 7, none⟩ v7).cell? ⟨B, j + 4, none⟩ = some (v4) ∧ ((((((((u.setCell ⟨B, j, none⟩ v0).setCell ⟨B, j + 1, none⟩ v1).setCell ⟨B, j + 2, none⟩ v2).setCell ⟨B, j + 3, none⟩ v3).setCell ⟨B, j + 4, none⟩ v4).setCell ⟨B, j + 5, none⟩ v5).setCell ⟨B, j + 6, none⟩ v6).setCell ⟨B, j + 7, none⟩ v7).cell? ⟨B, j + 5, none⟩ = some (v5) ∧ ((((((((u.setCell ⟨B, j, none⟩ v0).setCell ⟨B, j + 1, none⟩ v1).setCell ⟨B, j + 2, none⟩ v2).setCell ⟨B, j + 3, none⟩ v3).setCell ⟨B, j + 4, none⟩ v4).setCell ⟨B, j + 5, none⟩ v5).setCell ⟨B, j + 6, none⟩ v6).setCell ⟨B, j + 7, none⟩ v7).cell? ⟨B, j + 6, none⟩ = some (v6) ∧ ((((((((u.setCell ⟨B, j, none⟩ v0).setCell ⟨B, j + 1, none⟩ v1).setCell ⟨B, j + 2, none⟩ v2).setCell ⟨B, j + 3, none⟩ v3).setCell ⟨B, j + 4, none⟩ v4).setCell ⟨B, j + 5, none⟩ v5).setCell ⟨B, j + 6, none⟩ v6).setCell ⟨B, j + 7, none⟩ v7).cell? ⟨B, j + 7, none⟩ = some (v7) := by
 obtain ⟨a0, a1, a2, a3⟩ := set4_at u B j v0 v1 v2 v3 x0 x1 x2 x3 h0 h1 h2 h3
 have o : ∀ m, j + 4 ≤ m → ((((u.setCell ⟨B, j, none⟩ v0).setCell ⟨B, j + 1, none⟩ v1).setCell ⟨B, j + 2, none⟩ v2).setCell ⟨B, j + 3, none⟩ v3).cell? ⟨B, m, none⟩ = u.cell? ⟨B, m, none⟩ := fun m h => set4_other u B j m v0 v1 v2 v3 (by omega) (by omega) (by omega) (by omega)
 obtain ⟨b0, b1, b2, b3⟩ := set4_at ((((u.setCell ⟨B, j, none⟩ v0).setCell ⟨B, j + 1, none⟩ v1).setCell ⟨B, j + 2, none⟩ v2).setCell ⟨B, j + 3, none⟩ v3) B (j + 4) v4 v5 v6 v7 x4 x5 x6 x7 ((o (j + 4) (by omega)).trans h4) ((o (j + 5) (by omega)).trans h5) ((o (j + 6) (by omega)).trans h6) ((o (j + 7) (by omega)).trans h7)
 have p : ∀ m, m < j + 4 → ((((((((u.setCell ⟨B, j, none⟩ v0).setCell ⟨B, j + 1, none⟩ v1).setCell ⟨B, j + 2, none⟩ v2).setCell ⟨B, j + 3, none⟩ v3).setCell ⟨B, j + 4, none⟩ v4).setCell ⟨B, j + 5, none⟩ v5).setCell ⟨B, j + 6, none⟩ v6).setCell ⟨B, j + 7, none⟩ v7).cell? ⟨B, m, none⟩ = ((((u.setCell ⟨B, j, none⟩ v0).setCell ⟨B, j + 1, none⟩ v1).setCell ⟨B, j + 2, none⟩ v2).setCell ⟨B, j + 3, none⟩ v3).cell? ⟨B, m, none⟩ := fun m h => set4_other ((((u.setCell ⟨B, j, none⟩ v0).setCell ⟨B, j + 1, none⟩ v1).setCell ⟨B, j + 2, none⟩ v2).setCell ⟨B, j + 3, none⟩ v3) B (j + 4) m v4 v5 v6 v7 (by omega) (by omega) (by omega) (by omega)
 exact ⟨(p j (by omega)).trans a0, (p (j + 1) (by omega)).trans a1, (p (j + 2) (by omega)).trans a2, (p (j + 3) (by omega)).trans a3, b0, b1, b2, b3⟩
theorem lks_set8 {w : World} {gi B j : Nat} {is : List L4} (v0 v1 v2 v3 v4 v5 v6 v7 : Value) (h : LksAt w (some ⟨gi, 0, none⟩) is) (hne : B ≠ gi) : LksAt ((((((((w.setCell ⟨B, j, none⟩ v0).setCell ⟨B, j + 1, none⟩ v1).setCell ⟨B, j + 2, none⟩ v2).setCell ⟨B, j + 3, none⟩ v3).setCell ⟨B, j + 4, none⟩ v4).setCell ⟨B, j + 5, none⟩ v5).setCell ⟨B, j + 6, none⟩ v6).setCell ⟨B, j + 7, none⟩ v7) (some ⟨gi, 0, none⟩) is := (lks_set (lks_set (lks_set (lks_set (lks_set (lks_set (lks_set (lks_set h (fun b off h _ => by injection h with h; injection h with h _; show B ≠ b; omega)) (fun b off h _ => by injection h with h; injection h with h _; show B ≠ b; omega)) (fun b off h _ => by injection h with h; injection h with h _; show B ≠ b; omega)) (fun b off h _ => by injection h with h; injection h with h _; show B ≠ b; omega)) (fun b off h _ => by injection h with h; injection h with h _; show B ≠ b; omega)) (fun b off h _ => by injection h with h; injection h with h _; show B ≠ b; omega)) (fun b off h _ => by injection h with h; injection h with h _; show B ≠ b; omega)) (fun b off h _ => by injection h with h; injection h with h _; show B ≠ b; omega))
def NewDeed (L : Nat) (w : World) (b o : Nat) (x : D8) : Prop := ∃ gi, L ≤ gi ∧ (w.cell? ⟨b, o, none⟩ = some (.string x.nm) ∧ w.cell? ⟨b, o + 1, none⟩ = some (.bool x.made) ∧ w.cell? ⟨b, o + 2, none⟩ = some (.string x.km.nm) ∧ w.cell? ⟨b, o + 3, none⟩ = some (.string x.km.tl) ∧ w.cell? ⟨b, o + 4, none⟩ = some (.string x.km.ar) ∧ w.cell? ⟨b, o + 5, none⟩ = some (.slice (some ⟨gi, 0, none⟩) x.ls.length x.ls.length) ∧ w.cell? ⟨b, o + 6, none⟩ = some (.int .i64 x.cd) ∧ w.cell? ⟨b, o + 7, none⟩ = some (.string x.tx)) ∧ LksAt w (some ⟨gi, 0, none⟩) x.ls
def DeedsNew (w : World) (g : Nat) (is : List D8) : Prop := g < w.heap.size ∧ ∀ i, i < is.length → NewDeed (g + 1) w g (i * 8) (is.getD i d8z)
theorem info78 : (Tryz.prog.info? 78).map (fun i => (i.zero, i.size, i.bytes)) = some (some (.agg #[Value.string ⟨#[]⟩, .bool false, .string ⟨#[]⟩, .string ⟨#[]⟩, .string ⟨#[]⟩, .slice none 0 0, .int .i64 0, .string ⟨#[]⟩]), 8, 120) := by kernel_rfl
theorem madeD (n j : Nat) (h : j < n * 8) : (madeCells #[Value.string ⟨#[]⟩, .bool false, .string ⟨#[]⟩, .string ⟨#[]⟩, .string ⟨#[]⟩, .slice none 0 0, .int .i64 0, .string ⟨#[]⟩] (n * 8))[j]? = (#[Value.string ⟨#[]⟩, .bool false, .string ⟨#[]⟩, .string ⟨#[]⟩, .string ⟨#[]⟩, .slice none 0 0, .int .i64 0, .string ⟨#[]⟩] : Array Value)[j % 8]? := by
 have h3 : j % 8 < 8 := Nat.mod_lt _ (by omega)
 rw [Array.getElem?_eq_getElem (by simpa [size_madeCells] using h), Array.getElem?_eq_getElem (by simpa using h3)]
 simp [madeCells, h3]
end Go.Proofs.YtboojefodbjbcaaGreatDoor.G

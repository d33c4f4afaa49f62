import Derived.Test.YtejlfpolnddfdaaDoorJ4
import Derived.Deep.RegionHeld3
namespace Go.Proofs.YtejlfpolnddfdaaDoor
open Go.RowKit

theorem set4_other (u : World) (B j m : Nat) (v0 v1 v2 v3 : Value) (h0 : m ≠ j) (h1 : m ≠ j + 1) (h2 : m ≠ j + 2) (h3 : m ≠ j + 3) : ((((u.setCell ⟨B, j, none⟩ v0).setCell ⟨B, j + 1, none⟩ v1).setCell ⟨B, j + 2, none⟩ v2).setCell ⟨B, j + 3, none⟩ v3).cell? ⟨B, m, none⟩ = u.cell? ⟨B, m, none⟩ := by
  rw [World.cell?_setCell_other _ _ _ _ (adr_ne (Ne.symm h3)), set3_other _ _ _ _ _ _ _ h0 h1 h2]
theorem set4_at (u : World) (B j : Nat) (v0 v1 v2 v3 x0 x1 x2 x3 : Value) (h0 : u.cell? ⟨B, j, none⟩ = some x0) (h1 : u.cell? ⟨B, j + 1, none⟩ = some x1) (h2 : u.cell? ⟨B, j + 2, none⟩ = some x2) (h3 : u.cell? ⟨B, j + 3, none⟩ = some x3) :
    ((((u.setCell ⟨B, j, none⟩ v0).setCell ⟨B, j + 1, none⟩ v1).setCell ⟨B, j + 2, none⟩ v2).setCell ⟨B, j + 3, none⟩ v3).cell? ⟨B, j, none⟩ = some v0 ∧ ((((u.setCell ⟨B, j, none⟩ v0).setCell ⟨B, j + 1, none⟩ v1).setCell ⟨B, j + 2, none⟩ v2).setCell ⟨B, j + 3, none⟩ v3).cell? ⟨B, j + 1, none⟩ = some v1 ∧ ((((u.setCell ⟨B, j, none⟩ v0).setCell ⟨B, j + 1, none⟩ v1).setCell ⟨B, j + 2, none⟩ v2).setCell ⟨B, j + 3, none⟩ v3).cell? ⟨B, j + 2, none⟩ = some v2 ∧ ((((u.setCell ⟨B, j, none⟩ v0).setCell ⟨B, j + 1, none⟩ v1).setCell ⟨B, j + 2, none⟩ v2).setCell ⟨B, j + 3, none⟩ v3).cell? ⟨B, j + 3, none⟩ = some v3 := by
  obtain ⟨a0, a1, a2⟩ := set3_at u B j v0 v1 v2 x0 x1 x2 h0 h1 h2
  have a3 : (((u.setCell ⟨B, j, none⟩ v0).setCell ⟨B, j + 1, none⟩ v1).setCell ⟨B, j + 2, none⟩ v2).cell? ⟨B, j + 3, none⟩ = some x3 := by rw [set3_other _ _ _ _ _ _ _ (by omega) (by omega) (by omega)]; exact h3
  refine ⟨?_, ?_, ?_, World.cell?_setCell_same _ _ _ a3⟩
  · rw [World.cell?_setCell_other _ _ _ _ (adr_ne (by omega))]; exact a0
  · rw [World.cell?_setCell_other _ _ _ _ (adr_ne (by omega))]; exact a1
  · rw [World.cell?_setCell_other _ _ _ _ (adr_ne (by omega))]; exact a2
set_option maxHeartbeats 1000000 in
theorem c20 (a a' : Option Addr) (cap cap' : Nat) (is : List L4) (w : World) (hl : is.length ≤ 1048576) (hat : LksAt w a is) (hat' : LksAt w a' is) :
    Calls Tryd.prog 20 #[.slice a is.length cap, .slice a' is.length cap'] w fun e w' => e = .returned (.bool true) ∧ Below w.heap.size w w' := by
  obtain ⟨b, off, hc⟩ := lks_some hat
  have HC : Hid (is = [] ∨ (a = some ⟨b, off, none⟩ ∧ b < w.heap.size ∧ ∀ i, i < is.length → w.cell? ⟨b, off + i * 4, none⟩ = some (.bool (is.getD i l4z).has) ∧ w.cell? ⟨b, off + i * 4 + 1, none⟩ = some (.string (is.getD i l4z).nm) ∧ w.cell? ⟨b, off + i * 4 + 2, none⟩ = some (.int .i64 (is.getD i l4z).cd) ∧ w.cell? ⟨b, off + i * 4 + 3, none⟩ = some (.string (is.getD i l4z).tx))) := hc
  clear hc hat
  obtain ⟨b', off', hc'⟩ := lks_some hat'
  have HC' : Hid (is = [] ∨ (a' = some ⟨b', off', none⟩ ∧ b' < w.heap.size ∧ ∀ i, i < is.length → w.cell? ⟨b', off' + i * 4, none⟩ = some (.bool (is.getD i l4z).has) ∧ w.cell? ⟨b', off' + i * 4 + 1, none⟩ = some (.string (is.getD i l4z).nm) ∧ w.cell? ⟨b', off' + i * 4 + 2, none⟩ = some (.int .i64 (is.getD i l4z).cd) ∧ w.cell? ⟨b', off' + i * 4 + 3, none⟩ = some (.string (is.getD i l4z).tx))) := hc'
  clear hc' hat'
  go_enter Tryd.func20, Tryd.ntmps20
  go_wp2_with fail
  go_loopw [5] (fun i wr => ∃ (k : Nat), k ≤ is.length ∧ i = .int .i64 k ∧ Below w.heap.size w wr) (fun i _ => is.length - (intOf i).toNat)
  case atStart => exact ⟨0, Nat.zero_le _, rfl, Below.refl _ _⟩
  case round =>
    obtain ⟨k, hk, rfl, hb⟩ := hrel
    by_cases hlt : k < is.length
    · rcases HC.out with hss | ⟨ha, hbw, hcell⟩
      · rw [hss] at hlt; exact absurd hlt (Nat.not_lt_zero _)
      rcases HC'.out with hss | ⟨ha', hbw', hcell'⟩
      · rw [hss] at hlt; exact absurd hlt (Nat.not_lt_zero _)
      subst ha
      subst ha'
      have g0 := (hb.cell (p := ⟨b, off + k * 4, none⟩) hbw).trans (hcell k hlt).1
      have g1 := (hb.cell (p := ⟨b, off + k * 4 + 1, none⟩) hbw).trans (hcell k hlt).2.1
      have g2 := (hb.cell (p := ⟨b, off + k * 4 + 2, none⟩) hbw).trans (hcell k hlt).2.2.1
      have g3 := (hb.cell (p := ⟨b, off + k * 4 + 3, none⟩) hbw).trans (hcell k hlt).2.2.2
      have g0' := (hb.cell (p := ⟨b', off' + k * 4, none⟩) hbw').trans (hcell' k hlt).1
      have g1' := (hb.cell (p := ⟨b', off' + k * 4 + 1, none⟩) hbw').trans (hcell' k hlt).2.1
      have g2' := (hb.cell (p := ⟨b', off' + k * 4 + 2, none⟩) hbw').trans (hcell' k hlt).2.2.1
      have g3' := (hb.cell (p := ⟨b', off' + k * 4 + 3, none⟩) hbw').trans (hcell' k hlt).2.2.2
      generalize is.getD k l4z = x at *
      clear hcell hcell'
      go_wp2_with fail
      go_region_with (go_at_call 36; refine (c36 x _).mono ?_; rintro e w1 ⟨rfl, hb1⟩)
      all_goals go_wp2
      all_goals go_roundw
      all_goals first
        | exact ⟨k + 1, by omega, by go_num, (hb.drew).trans (hb1.mono hb.size)⟩
        | (simp [intOf]; omega)
    · go_wp2
      go_ret
      exact ⟨rfl, hb⟩
end Go.Proofs.YtejlfpolnddfdaaDoor

import Derived.Test.YtdcgjdgpiogdaaaGreatDoorJ4
import Derived.Deep.RegionHeld3
namespace Go.Proofs.YtdcgjdgpiogdaaaGreatDoor
open Go.RowKit

theorem set4_other (u : World) (B j m : Nat) (v0 v1 v2 v3 : Value) (h0 : m ≠ j) (h1 : m ≠ j + 1) (h2 : m ≠ j + 2) (h3 : m ≠ j + 3) : ((((u.setCell ⟨B, j, none⟩ v0).setCell ⟨B, j + 1, none⟩ v1).setCell ⟨B, j + 2, none⟩ v2).setCell ⟨B, j + 3, none⟩ v3).cell? ⟨B, m, none⟩ = u.cell? ⟨B, m, none⟩ := by
  rw [World.cell?_setCell_other _ _ _ _ (adr_ne (Ne.symm h3)), set3_other _ _ _ _ _ _ _ h0 h1 h2]
theorem set4_at (u : World) (B j : Nat) (v0 v1 v2 v3 x0 x1 x2 x3 : Value) (h0 : u.cell? ⟨B, j, none⟩ = some x0) (h1 : u.cell? ⟨B, j + 1, none⟩ = some x1) (h2 : u.cell? ⟨B, j + 2, none⟩ = some x2) (h3 : u.cell? ⟨B, j + 3, none⟩ = some x3) :
    ((((u.setCell ⟨B, j, none⟩ v0).setCell ⟨B, j + 1, none⟩ v1).setCell ⟨B, j + 2, none⟩ v2).setCell ⟨B, j + 3, none⟩ v3).cell? ⟨B, j, none⟩ = some v0 ∧ ((((u.setCell ⟨B, j, none⟩ v0).setCell ⟨B, j + 1, none⟩ v1).setCell ⟨B, j + 2, none⟩ v2).setCell ⟨B, j + 3, none⟩ v3).cell? ⟨B, j + 1, none⟩ = some v1 ∧ ((((u.setCell ⟨B, j, none⟩ v0).setCell ⟨B, j + 1, none⟩ v1).setCell ⟨B, j + 2, none⟩ v2).setCell ⟨B, j + 3, none⟩ v3).cell? ⟨B, j + 2, none⟩ = some v2 ∧ ((((u.setCell ⟨B, j, none⟩ v0).setCell ⟨B, j + 1, none⟩ v1).setCell ⟨B, j + 2, none⟩ v2).setCell ⟨B, j + 3, none⟩ v3).cell? ⟨B, j + 3, none⟩ = some v3 := by
  obtain ⟨a0, a1, a2⟩ := set3_at u B j v0 v1 v2 x0 x1 x2 h0 h1 h2
  have a3 : (((u.setCell ⟨B, j, none⟩ v0).setCell ⟨B, j + 1, none⟩ v1).setCell ⟨B, j + 2, none⟩ v2).cell? ⟨B, j + 3, none⟩ = some x3 := by rw [set3_other _ _ _ _ _ _ _ (by omega) (by omega) (by omega)]; exact h3
  refine ⟨?_, ?_, ?_, World.cell?_setCell_same _ _ _ a3⟩
  · rw [World.cell?_setCell_other _ _ _ _ (adr_ne (by omega))]; exact a0
  · rw [World.cell?_setCell_other _ _ _ _ (adr_ne (by omega))]; exact a1
  · rw [World.cell?_setCell_other _ _ _ _ (adr_ne (by omega))]; exact a2
theorem toL_cells {w w1 : World} {x : L4} (hb : Below (w.heap.size + 3) (((w.alloc (.cells #[.bool x.has, .string x.nm, .int .i64 x.cd, .string x.tx] 109)).alloc (.cells #[.bool false, .string ⟨#[]⟩, .int .i64 0, .string ⟨#[]⟩] 87)).alloc (.cells #[.bool x.has, .string x.nm, .int .i64 0, .string ⟨#[]⟩] 87)) w1) :
    (w1.cell? ⟨w.heap.size + 1, 0, none⟩ = some (.bool false) ∧ w1.cell? ⟨w.heap.size + 1, 1, none⟩ = some (.string ⟨#[]⟩) ∧ w1.cell? ⟨w.heap.size + 1, 2, none⟩ = some (.int .i64 0) ∧ w1.cell? ⟨w.heap.size + 1, 3, none⟩ = some (.string ⟨#[]⟩)) ∧ (w1.cell? ⟨w.heap.size + 1 + 1, 0, none⟩ = some (.bool x.has) ∧ w1.cell? ⟨w.heap.size + 1 + 1, 1, none⟩ = some (.string x.nm) ∧ w1.cell? ⟨w.heap.size + 1 + 1, 2, none⟩ = some (.int .i64 0) ∧ w1.cell? ⟨w.heap.size + 1 + 1, 3, none⟩ = some (.string ⟨#[]⟩)) ∧ (∀ j, w1.frozen? ⟨w.heap.size + 1, j, none⟩ = false) ∧ ∀ j, w1.frozen? ⟨w.heap.size + 1 + 1, j, none⟩ = false := by
  have c : ∀ b j, b < w.heap.size + 3 → w1.cell? ⟨b, j, none⟩ = (((w.alloc (.cells #[.bool x.has, .string x.nm, .int .i64 x.cd, .string x.tx] 109)).alloc (.cells #[.bool false, .string ⟨#[]⟩, .int .i64 0, .string ⟨#[]⟩] 87)).alloc (.cells #[.bool x.has, .string x.nm, .int .i64 0, .string ⟨#[]⟩] 87)).cell? ⟨b, j, none⟩ := fun b j h => hb.cell (by exact h)
  have f : ∀ b j, b < w.heap.size + 3 → w1.frozen? ⟨b, j, none⟩ = (((w.alloc (.cells #[.bool x.has, .string x.nm, .int .i64 x.cd, .string x.tx] 109)).alloc (.cells #[.bool false, .string ⟨#[]⟩, .int .i64 0, .string ⟨#[]⟩] 87)).alloc (.cells #[.bool x.has, .string x.nm, .int .i64 0, .string ⟨#[]⟩] 87)).frozen? ⟨b, j, none⟩ := fun b j h => hb.frozen (by exact h)
  refine ⟨⟨?_, ?_, ?_, ?_⟩, ⟨?_, ?_, ?_, ?_⟩, fun j => ?_, fun j => ?_⟩
  all_goals first
    | (rw [c _ _ (by omega)]; simp [go_sem]; done)
    | (rw [f _ _ (by omega)]; simp [go_sem])
set_option maxHeartbeats 2000000 in
theorem c74 (x : L4) (w : World) :
    Calls Tryz.prog 74 #[.agg #[.bool x.has, .string x.nm, .int .i64 x.cd, .string x.tx]] w fun e w' => e = .returned (.agg #[.bool x.has, .string x.nm, .int .i64 x.cd, .string x.tx]) ∧ Below w.heap.size w w' := by
  have hB0 : Below w.heap.size w (((w.alloc (.cells #[.bool x.has, .string x.nm, .int .i64 x.cd, .string x.tx] 109)).alloc (.cells #[.bool false, .string ⟨#[]⟩, .int .i64 0, .string ⟨#[]⟩] 87)).alloc (.cells #[.bool x.has, .string x.nm, .int .i64 0, .string ⟨#[]⟩] 87)) := (((Below.refl _ _).alloc (Nat.le_refl _) _).alloc (by simp) _).alloc (by simp; omega) _
  have h38 := c75 x.cd x.tx (((w.alloc (.cells #[.bool x.has, .string x.nm, .int .i64 x.cd, .string x.tx] 109)).alloc (.cells #[.bool false, .string ⟨#[]⟩, .int .i64 0, .string ⟨#[]⟩] 87)).alloc (.cells #[.bool x.has, .string x.nm, .int .i64 0, .string ⟨#[]⟩] 87))
  go_enter Tryz.func74, Tryz.ntmps74
  go_wp2_with fail
  refine h38.mono ?_
  rintro e w1 ⟨rfl, hb1⟩
  have hx1 : Below (w.heap.size + 3) (((w.alloc (.cells #[.bool x.has, .string x.nm, .int .i64 x.cd, .string x.tx] 109)).alloc (.cells #[.bool false, .string ⟨#[]⟩, .int .i64 0, .string ⟨#[]⟩] 87)).alloc (.cells #[.bool x.has, .string x.nm, .int .i64 0, .string ⟨#[]⟩] 87)) w1 := by have h := hb1; simp at h; exact h
  have hB1 : Below w.heap.size w w1 := hB0.trans (hx1.mono (by omega))
  obtain ⟨⟨r0, r1, r2, r3⟩, ⟨o0, o1, o2, o3⟩, fr, fo⟩ := toL_cells hx1
  have fr0 := fr 0
  have fr1 := fr 1
  have fr2 := fr 2
  have fr3 := fr 3
  have fo2 := fo 2
  have fo3 := fo 3
  clear hb1 h38 fr fo
  go_wp2
  have ne : ∀ i j, (⟨w.heap.size + 1 + 1, i, none⟩ : Addr) ≠ ⟨w.heap.size + 1, j, none⟩ := fun i j e => by injection e with e _; omega
  have qq : ∀ j, ((w1.setCell ⟨w.heap.size + 1 + 1, 2, none⟩ (.int .i64 x.cd)).setCell ⟨w.heap.size + 1 + 1, 3, none⟩ (.string x.tx)).cell? ⟨w.heap.size + 1, j, none⟩ = w1.cell? ⟨w.heap.size + 1, j, none⟩ := fun j => by rw [World.cell?_setCell_other _ _ _ _ (ne _ _), World.cell?_setCell_other _ _ _ _ (ne _ _)]
  have F := set4_at _ (w.heap.size + 1) 0 (.bool x.has) (.string x.nm) (.int .i64 x.cd) (.string x.tx) _ _ _ _ ((qq 0).trans r0) ((qq 1).trans r1) ((qq 2).trans r2) ((qq 3).trans r3)
  simp only [Nat.zero_add] at F
  refine bodyPost_ret (v := .agg #[.bool x.has, .string x.nm, .int .i64 x.cd, .string x.tx]) (by simp [results, Tryz.results74, go_sem, F.1, F.2.1, F.2.2.1, F.2.2.2]) rfl ⟨rfl, ?_⟩
  exact (((((hB1.setCell (by simp; omega) _).setCell (by simp; omega) _).setCell (by simp) _).setCell (by simp) _).setCell (by simp) _).setCell (by simp) _

set_option maxHeartbeats 1000000 in
theorem c43 (a a' : Option Addr) (cap cap' : Nat) (is : List L4) (w : World) (hl : is.length ≤ 1048576) (hat : LksAt w a is) (hat' : LksAt w a' is) :
    Calls Tryz.prog 43 #[.slice a is.length cap, .slice a' is.length cap'] w fun e w' => e = .returned (.bool true) ∧ Below w.heap.size w w' := by
  obtain ⟨b, off, hc⟩ := lks_some hat
  have HC : Hid (is = [] ∨ (a = some ⟨b, off, none⟩ ∧ b < w.heap.size ∧ ∀ i, i < is.length → w.cell? ⟨b, off + i * 4, none⟩ = some (.bool (is.getD i l4z).has) ∧ w.cell? ⟨b, off + i * 4 + 1, none⟩ = some (.string (is.getD i l4z).nm) ∧ w.cell? ⟨b, off + i * 4 + 2, none⟩ = some (.int .i64 (is.getD i l4z).cd) ∧ w.cell? ⟨b, off + i * 4 + 3, none⟩ = some (.string (is.getD i l4z).tx))) := hc
  clear hc hat
  obtain ⟨b', off', hc'⟩ := lks_some hat'
  have HC' : Hid (is = [] ∨ (a' = some ⟨b', off', none⟩ ∧ b' < w.heap.size ∧ ∀ i, i < is.length → w.cell? ⟨b', off' + i * 4, none⟩ = some (.bool (is.getD i l4z).has) ∧ w.cell? ⟨b', off' + i * 4 + 1, none⟩ = some (.string (is.getD i l4z).nm) ∧ w.cell? ⟨b', off' + i * 4 + 2, none⟩ = some (.int .i64 (is.getD i l4z).cd) ∧ w.cell? ⟨b', off' + i * 4 + 3, none⟩ = some (.string (is.getD i l4z).tx))) := hc'
  clear hc' hat'
  go_enter Tryz.func43, Tryz.ntmps43
  go_wp2_with fail
  go_loopw [5] (fun i wr => ∃ (k : Nat), k ≤ is.length ∧ i = .int .i64 k ∧ Below w.heap.size w wr) (fun i _ => is.length - (intOf i).toNat)
  case atStart => exact ⟨0, Nat.zero_le _, rfl, Below.refl _ _⟩
  case round =>
    obtain ⟨k, hk, rfl, hb⟩ := hrel
    by_cases hlt : k < is.length
    · rcases HC.out with hss | ⟨ha, hbw, hcell⟩
      · rw [hss] at hlt; exact absurd hlt (Nat.not_lt_zero _)
      rcases HC'.out with hss | ⟨ha', hbw', hcell'⟩
      · rw [hss] at hlt; exact absurd hlt (Nat.not_lt_zero _)
      subst ha
      subst ha'
      have g0 := (hb.cell (p := ⟨b, off + k * 4, none⟩) hbw).trans (hcell k hlt).1
      have g1 := (hb.cell (p := ⟨b, off + k * 4 + 1, none⟩) hbw).trans (hcell k hlt).2.1
      have g2 := (hb.cell (p := ⟨b, off + k * 4 + 2, none⟩) hbw).trans (hcell k hlt).2.2.1
      have g3 := (hb.cell (p := ⟨b, off + k * 4 + 3, none⟩) hbw).trans (hcell k hlt).2.2.2
      have g0' := (hb.cell (p := ⟨b', off' + k * 4, none⟩) hbw').trans (hcell' k hlt).1
      have g1' := (hb.cell (p := ⟨b', off' + k * 4 + 1, none⟩) hbw').trans (hcell' k hlt).2.1
      have g2' := (hb.cell (p := ⟨b', off' + k * 4 + 2, none⟩) hbw').trans (hcell' k hlt).2.2.1
      have g3' := (hb.cell (p := ⟨b', off' + k * 4 + 3, none⟩) hbw').trans (hcell' k hlt).2.2.2
      generalize is.getD k l4z = x at *
      clear hcell hcell'
      go_wp2_with fail
      go_region_with (go_at_call 86; refine (c86 x _).mono ?_; rintro e w1 ⟨rfl, hb1⟩)
      all_goals go_wp2
      all_goals go_roundw
      all_goals first
        | exact ⟨k + 1, by omega, by go_num, (hb.drew).trans (hb1.mono hb.size)⟩
        | (simp [intOf]; omega)
    · go_wp2
      go_ret
      exact ⟨rfl, hb⟩
end Go.Proofs.YtdcgjdgpiogdaaaGreatDoor

import Derived.Test.YtboojefodbjbcaaGreatDoorZR41
namespace Go.Proofs.YtboojefodbjbcaaGreatDoor.G
open Go.RowKit
set_option maxHeartbeats 2000000 in
theorem c18 (a a' : Option Addr) (cap cap' : Nat) (is : List D8) (w : World) (hl : is.length ≤ 1048576) (hs : ∀ i, (is.getD i d8z).le 1048576) (hat : DeedsAt w a is) (hat' : DeedsAt w a' is) :
 Calls Tryz.prog 18 #[.slice a is.length cap, .slice a' is.length cap'] w fun e w' => e = .returned (.bool true) ∧ Below w.heap.size w w' := by
 obtain ⟨b, off, hc⟩ := deeds_some hat
 have HC : Hid (is = [] ∨ (a = some ⟨b, off, none⟩ ∧ b < w.heap.size ∧ ∀ i, i < is.length → DeedAt w b (off + i * 8) (is.getD i d8z))) := hc
 clear hc hat
 obtain ⟨b', off', hc'⟩ := deeds_some hat'
 have HC' : Hid (is = [] ∨ (a' = some ⟨b', off', none⟩ ∧ b' < w.heap.size ∧ ∀ i, i < is.length → DeedAt w b' (off' + i * 8) (is.getD i d8z))) := hc'
 clear hc' hat'
 go_enter Tryz.func18, Tryz.ntmps18
 go_wp2_with fail
 go_loopw [5] (fun i wr => ∃ (k : Nat), k ≤ is.length ∧ i = .int .i64 k ∧ Below w.heap.size w wr) (fun i _ => is.length - (intOf i).toNat)
 case atStart => exact ⟨0, Nat.zero_le _, rfl, Below.refl _ _⟩
 case round =>
  obtain ⟨k, hk, rfl, hb⟩ := hrel
  by_cases hlt : k < is.length
  · rcases HC.out with hss | ⟨ha, hbw, hcell⟩
    · rw [hss] at hlt; exact absurd hlt (Nat.not_lt_zero _)
    rcases HC'.out with hss | ⟨ha', hbw', hcell'⟩
    · rw [hss] at hlt; exact absurd hlt (Nat.not_lt_zero _)
    subst ha
    subst ha'
    obtain ⟨ai, ci, hcc, hg⟩ := hcell k hlt
    obtain ⟨bi, di, hcd, hg'⟩ := hcell' k hlt
    have g0 := (hb.cell (p := ⟨b, off + k * 8, none⟩) hbw).trans hcc.1
    have g1 := (hb.cell (p := ⟨b, off + k * 8 + 1, none⟩) hbw).trans hcc.2.1
    have g2 := (hb.cell (p := ⟨b, off + k * 8 + 2, none⟩) hbw).trans hcc.2.2.1
    have g3 := (hb.cell (p := ⟨b, off + k * 8 + 3, none⟩) hbw).trans hcc.2.2.2.1
    have g4 := (hb.cell (p := ⟨b, off + k * 8 + 4, none⟩) hbw).trans hcc.2.2.2.2.1
    have g5 := (hb.cell (p := ⟨b, off + k * 8 + 5, none⟩) hbw).trans hcc.2.2.2.2.2.1
    have g6 := (hb.cell (p := ⟨b, off + k * 8 + 6, none⟩) hbw).trans hcc.2.2.2.2.2.2.1
    have g7 := (hb.cell (p := ⟨b, off + k * 8 + 7, none⟩) hbw).trans hcc.2.2.2.2.2.2.2
    have h0 := (hb.cell (p := ⟨b', off' + k * 8, none⟩) hbw').trans hcd.1
    have h1 := (hb.cell (p := ⟨b', off' + k * 8 + 1, none⟩) hbw').trans hcd.2.1
    have h2 := (hb.cell (p := ⟨b', off' + k * 8 + 2, none⟩) hbw').trans hcd.2.2.1
    have h3 := (hb.cell (p := ⟨b', off' + k * 8 + 3, none⟩) hbw').trans hcd.2.2.2.1
    have h4 := (hb.cell (p := ⟨b', off' + k * 8 + 4, none⟩) hbw').trans hcd.2.2.2.2.1
    have h5 := (hb.cell (p := ⟨b', off' + k * 8 + 5, none⟩) hbw').trans hcd.2.2.2.2.2.1
    have h6 := (hb.cell (p := ⟨b', off' + k * 8 + 6, none⟩) hbw').trans hcd.2.2.2.2.2.2.1
    have h7 := (hb.cell (p := ⟨b', off' + k * 8 + 7, none⟩) hbw').trans hcd.2.2.2.2.2.2.2
    have hxs := (hs k).2.2.1.1
    generalize is.getD k d8z = x at *
    have HG : Hid (LksAt wr ai x.ls) := lks_below hg hb
    have HG' : Hid (LksAt wr bi x.ls) := lks_below hg' hb
    clear hcell hcell' hcc hcd hg hg'
    go_wp2_with fail
    go_region_with (go_at_call 56; refine (c56 x ai bi ci di _ hxs (lks_below HG.out (Below.refl _ _).drew) (lks_below HG'.out (Below.refl _ _).drew)).mono ?_; rintro e w1 ⟨rfl, hb1⟩)
    all_goals go_wp2
    all_goals go_roundw
    all_goals first
     | exact ⟨k + 1, by omega, by go_num, (hb.drew).trans (hb1.mono hb.size)⟩
     | (simp [intOf]; omega)
  · go_wp2
    go_ret
    exact ⟨rfl, hb⟩
end Go.Proofs.YtboojefodbjbcaaGreatDoor.G

import Derived.Test.YtlfokigiejcfoaaGreatDoorC4
import Derived.Test.YtlfokigiejcfoaaGreatDoorB3
namespace Go.Proofs.YtlfokigiejcfoaaGreatDoor
open Go.RowKit
set_option maxHeartbeats 2000000 in
set_option maxRecDepth 100000 in
theorem c10 (d : Int) (n : Nat) (w : World) (hd : btw d 1 8 = true) (hn : btw (n : Int) 1 4 = true) :
    Calls Tryz.prog 10 #[.int .i64 d, .int .i64 n] w fun e w' => (∃ b lc g hc, e = .returned (.agg #[.int .i64 d, .bool true, .int .i64 0, .int .i64 1, .int .i64 0, .slice none 0 0, .slice (some ⟨b, 0, none⟩) 1 lc, .slice none 0 0, .int .i64 d, .slice none 0 0, .slice none 0 0, .slice (some ⟨g, 0, none⟩) n hc, .slice none 0 0, .slice none 0 0, .slice none 0 0]) ∧ NB w' w.heap.size n b g) ∧ Below w.heap.size w w' := by
  have hn1 : 1 ≤ n ∧ n ≤ 4 := by simp [btw] at hn; omega
  have hB0 : Below w.heap.size w (w.alloc (.cells #[.int .i64 0, .bool false, .int .i64 0, .int .i64 0, .int .i64 0, .slice none 0 0, .slice none 0 0, .slice none 0 0, .int .i64 0, .slice none 0 0, .slice none 0 0, .slice none 0 0, .slice none 0 0, .slice none 0 0, .slice none 0 0] 35)) := (Below.refl _ _).alloc (Nat.le_refl _) _
  have Z0 := hidI (M.blk_new w [.int .i64 0, .bool false, .int .i64 0, .int .i64 0, .int .i64 0, .slice none 0 0, .slice none 0 0, .slice none 0 0, .int .i64 0, .slice none 0 0, .slice none 0 0, .slice none 0 0, .slice none 0 0, .slice none 0 0, .slice none 0 0] 35)
  have F0 := hidI (M.opn_new w ([.int .i64 0, .bool false, .int .i64 0, .int .i64 0, .int .i64 0, .slice none 0 0, .slice none 0 0, .slice none 0 0, .int .i64 0, .slice none 0 0, .slice none 0 0, .slice none 0 0, .slice none 0 0, .slice none 0 0, .slice none 0 0] : List Value).toArray 35)
  have hz0 : (w.alloc (.cells #[.int .i64 0, .bool false, .int .i64 0, .int .i64 0, .int .i64 0, .slice none 0 0, .slice none 0 0, .slice none 0 0, .int .i64 0, .slice none 0 0, .slice none 0 0, .slice none 0 0, .slice none 0 0, .slice none 0 0, .slice none 0 0] 35)).heap.size = w.heap.size + 1 := by simp
  go_enter Tryz.func10, Tryz.ntmps10
  go_wp2_with fail
  generalize (w.alloc (.cells #[.int .i64 0, .bool false, .int .i64 0, .int .i64 0, .int .i64 0, .slice none 0 0, .slice none 0 0, .slice none 0 0, .int .i64 0, .slice none 0 0, .slice none 0 0, .slice none 0 0, .slice none 0 0, .slice none 0 0, .slice none 0 0] 35)) = u at *
  refine (c28 d u).mono ?_
  rintro e w1 ⟨rfl, hb1⟩
  rw [hd]
  have hs1 := hb1.size
  go_wp2_with fail
  refine (c29 n w1).mono ?_
  rintro e w2 ⟨rfl, hb2⟩
  rw [hn]
  have hs2 := hb2.size
  go_wp2_with fail
  refine (c31 n w2 hn1).mono ?_
  rintro e w3 ⟨⟨g, rfl, hg1, hg2, hg3, hg4⟩, hb3⟩
  have hs3 := hb3.size
  have H3 := hidI hg3
  have H4 := hidI hg4
  clear hg3 hg4
  go_wp2_with fail
  refine (c30 d n g n w3 hd).mono ?_
  rintro e w4 ⟨⟨b, lc, rfl, hb5, hb6, hbc, hbf⟩, hb4⟩
  have hs4 := hb4.size
  have hu : Below u.heap.size u w4 := ((hb1.trans (hb2.mono hs1)).trans (hb3.mono (by omega))).trans (hb4.mono (by omega))
  have hB4 := hB0.trans (hu.mono hB0.size)
  have Z4 := hidI (Z0.out.below hu (by omega))
  have F4 := hidI (F0.out.below hu (by omega))
  have G3 : Hid (∀ i, i < n → w4.cell? ⟨g, i, none⟩ = some (.int .i64 (-1))) := fun i hi => (hb4.cell (p := ⟨g, i, none⟩) hg2).trans (H3.out i hi)
  have G4 : Hid (∀ i, w4.frozen? ⟨g, i, none⟩ = false) := fun i => (hb4.frozen (p := ⟨g, i, none⟩) hg2).trans (H4.out i)
  have HC := hidI hbc
  have HF := hidI hbf
  clear H3 H4 Z0 F0 hbc hbf
  go_wp2_with (refine M.wpList_store_blk rfl 35 (.tmp 4) (.tmp 18) rfl w.heap.size 0 rfl _ rfl (M.blk_some Z4.out rfl) F4.out (by simp [Value.oneCell']) (by kernel_rfl) rfl ?_)
  refine M.st_over (old := [.int .i64 0, .bool false, .int .i64 0, .int .i64 0, .int .i64 0, .slice none 0 0, .slice none 0 0, .slice none 0 0, .int .i64 0, .slice none 0 0, .slice none 0 0, .slice none 0 0, .slice none 0 0, .slice none 0 0, .slice none 0 0]) (N := w.heap.size) rfl Z4.out F4.out (Nat.le_refl _) ?_
  intro E hbE ZE FE hsE hoE
  have kb := hoE b (by omega) (by omega)
  have kg := hoE g (by omega) (by omega)
  refine bodyPost_ret (v := .agg ([.int .i64 d, .bool true, .int .i64 0, .int .i64 1, .int .i64 0, .slice none 0 0, .slice (some ⟨b, 0, none⟩) 1 lc, .slice none 0 0, .int .i64 d, .slice none 0 0, .slice none 0 0, .slice (some ⟨g, 0, none⟩) n n, .slice none 0 0, .slice none 0 0, .slice none 0 0] : List Value).toArray) (M.results_blk (P := Tryz.prog) (ty := 35) rfl _ E w.heap.size [.int .i64 d, .bool true, .int .i64 0, .int .i64 1, .int .i64 0, .slice none 0 0, .slice (some ⟨b, 0, none⟩) 1 lc, .slice none 0 0, .int .i64 d, .slice none 0 0, .slice none 0 0, .slice (some ⟨g, 0, none⟩) n n, .slice none 0 0, .slice none 0 0, .slice none 0 0] _ rfl ZE Tryz.underlying35 rfl (by kernel_rfl)) rfl ⟨⟨b, lc, g, n, rfl, ?_⟩, hB4.trans hbE⟩
  exact ⟨by omega, by omega, by omega, by omega, by omega, (World.cell?_of_block (a := ⟨b, 0, none⟩) kb).trans HC.out, (World.frozen?_of_block (a := ⟨b, 0, none⟩) kb).trans HF.out, fun i hi => (World.cell?_of_block (a := ⟨g, i, none⟩) kg).trans (G3.out i hi), fun i => (World.frozen?_of_block (a := ⟨g, i, none⟩) kg).trans (G4.out i)⟩
end Go.Proofs.YtlfokigiejcfoaaGreatDoor

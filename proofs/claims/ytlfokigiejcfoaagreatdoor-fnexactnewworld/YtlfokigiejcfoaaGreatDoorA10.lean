import Derived.Test.YtlfokigiejcfoaaGreatDoorA9
namespace Go.Proofs.YtlfokigiejcfoaaGreatDoor
open Go.RowKit
/-- What a new boss owns. -/
structure NB (u : World) (base n b g : Nat) : Prop where
  b1 : base ≤ b
  b2 : b < u.heap.size
  g1 : base ≤ g
  g2 : g < u.heap.size
  ne : g ≠ b
  cb : u.cell? ⟨b, 0, none⟩ = some (.string epL)
  fb : u.frozen? ⟨b, 0, none⟩ = false
  cg : ∀ i, i < n → u.cell? ⟨g, i, none⟩ = some (.int .i64 (-1))
  fg : ∀ i, u.frozen? ⟨g, i, none⟩ = false
theorem own_ints {u : World} {base n : Nat} {v : Value} (h : u.ownsRow base 3 1 v n (List.replicate n (.int .i64 (-1)))) (hn : 0 < n) : ∃ g c, v = .slice (some ⟨g, 0, none⟩) n c ∧ base ≤ g ∧ g < u.heap.size ∧ (∀ i, i < n → u.cell? ⟨g, i, none⟩ = some (.int .i64 (-1))) ∧ ∀ i, u.frozen? ⟨g, i, none⟩ = false := by
  have h' := h
  rcases h.2 with ⟨_, h0⟩ | ⟨g, cap, cur, hv, hg, hh, _⟩
  · omega
  · subst hv
    refine ⟨g, cap, rfl, hg, (Array.getElem?_eq_some_iff.1 hh).1, fun i hi => ?_, fun i => h'.frozenAt i⟩
    rw [h'.cellAt i (by omega)]
    simp [hi]
set_option maxHeartbeats 4000000 in
set_option maxRecDepth 100000 in
theorem c9z (d n : Int) (w : World) (hv : btw d 1 8 = false ∨ btw n 1 4 = false) :
    Calls Tryz.prog 9 #[.int .i64 d, .int .i64 n] w fun e w' => e = .returned (.agg #[.int .i64 0, .bool false, .int .i64 0, .int .i64 0, .int .i64 0, .slice none 0 0, .slice none 0 0, .slice none 0 0, .int .i64 0, .slice none 0 0, .slice none 0 0, .slice none 0 0, .slice none 0 0, .slice none 0 0, .slice none 0 0]) ∧ Below w.heap.size w w' := by
  have hB0 : ∀ o, Below w.heap.size w (w.alloc o) := fun o => (Below.refl _ _).alloc (Nat.le_refl _) _
  have Z0 : M.BlkAt (w.alloc (.cells #[.int .i64 0, .bool false, .int .i64 0, .int .i64 0, .int .i64 0, .slice none 0 0, .slice none 0 0, .slice none 0 0, .int .i64 0, .slice none 0 0, .slice none 0 0, .slice none 0 0, .slice none 0 0, .slice none 0 0, .slice none 0 0] 35)) w.heap.size [.int .i64 0, .bool false, .int .i64 0, .int .i64 0, .int .i64 0, .slice none 0 0, .slice none 0 0, .slice none 0 0, .int .i64 0, .slice none 0 0, .slice none 0 0, .slice none 0 0, .slice none 0 0, .slice none 0 0, .slice none 0 0] := M.blk_new w [.int .i64 0, .bool false, .int .i64 0, .int .i64 0, .int .i64 0, .slice none 0 0, .slice none 0 0, .slice none 0 0, .int .i64 0, .slice none 0 0, .slice none 0 0, .slice none 0 0, .slice none 0 0, .slice none 0 0, .slice none 0 0] 35
  have F0 : M.OpnAt (w.alloc (.cells #[.int .i64 0, .bool false, .int .i64 0, .int .i64 0, .int .i64 0, .slice none 0 0, .slice none 0 0, .slice none 0 0, .int .i64 0, .slice none 0 0, .slice none 0 0, .slice none 0 0, .slice none 0 0, .slice none 0 0, .slice none 0 0] 35)) w.heap.size := M.opn_new w _ 35
  have hz0 : w.heap.size < (w.alloc (.cells #[.int .i64 0, .bool false, .int .i64 0, .int .i64 0, .int .i64 0, .slice none 0 0, .slice none 0 0, .slice none 0 0, .int .i64 0, .slice none 0 0, .slice none 0 0, .slice none 0 0, .slice none 0 0, .slice none 0 0, .slice none 0 0] 35)).heap.size := by simp
  have hB1 := hB0 (.cells #[.int .i64 0, .bool false, .int .i64 0, .int .i64 0, .int .i64 0, .slice none 0 0, .slice none 0 0, .slice none 0 0, .int .i64 0, .slice none 0 0, .slice none 0 0, .slice none 0 0, .slice none 0 0, .slice none 0 0, .slice none 0 0] 35)
  go_enter Tryz.func9, Tryz.ntmps9
  go_wp2_with fail
  generalize (w.alloc (.cells #[.int .i64 0, .bool false, .int .i64 0, .int .i64 0, .int .i64 0, .slice none 0 0, .slice none 0 0, .slice none 0 0, .int .i64 0, .slice none 0 0, .slice none 0 0, .slice none 0 0, .slice none 0 0, .slice none 0 0, .slice none 0 0] 35)) = u at *
  refine (c24 d u).mono ?_
  rintro e w1 ⟨rfl, hb1⟩
  have hB2 := hB1.trans (hb1.mono hB1.size)
  have hz1 := Nat.lt_of_lt_of_le hz0 hb1.size
  have Z1 := hidI (Z0.below hb1 hz0)
  have F1 := hidI (F0.below hb1 hz0)
  clear hb1 Z0 F0
  by_cases h1 : btw d 1 8 = true
  · rw [h1]
    have h2 : btw n 1 4 = false := by
      rcases hv with h | h
      · rw [h1] at h; exact absurd h (by decide)
      · exact h
    go_wp2_with fail
    refine (c25 n 1 4 w1).mono ?_
    rintro e w2 ⟨rfl, hb2⟩
    rw [h2]
    have hB3 := hB2.trans (hb2.mono hB2.size)
    have Z2 := hidI (Z1.out.below hb2 hz1)
    have F2 := hidI (F1.out.below hb2 hz1)
    clear hb2 Z1 F1
    have hmark : True := trivial
    go_wp2_with (refine M.wpList_store_blk rfl 35 (.tmp 4) (.tmp 14) rfl w.heap.size 0 rfl _ rfl (M.blk_some Z2.out rfl) F2.out (by simp [Value.oneCell']) (by kernel_rfl) rfl ?_; revert hmark)
    intro hmark
    clear hmark
    refine M.st_over (N := w.heap.size) rfl Z2.out F2.out (Nat.le_refl _) ?_
    intro E hbE ZE FE _ _
    have hBE := hidI (hB3.trans hbE)
    have HZE := hidI ZE
    clear hbE ZE FE Z2 F2
    go_wp2_with fail
    refine bodyPost_ret (v := .agg ([.int .i64 0, .bool false, .int .i64 0, .int .i64 0, .int .i64 0, .slice none 0 0, .slice none 0 0, .slice none 0 0, .int .i64 0, .slice none 0 0, .slice none 0 0, .slice none 0 0, .slice none 0 0, .slice none 0 0, .slice none 0 0] : List Value).toArray) (M.results_blk (P := Tryz.prog) (ty := 35) rfl _ E w.heap.size [.int .i64 0, .bool false, .int .i64 0, .int .i64 0, .int .i64 0, .slice none 0 0, .slice none 0 0, .slice none 0 0, .int .i64 0, .slice none 0 0, .slice none 0 0, .slice none 0 0, .slice none 0 0, .slice none 0 0, .slice none 0 0] _ rfl HZE.out Tryz.underlying35 rfl (by kernel_rfl)) rfl ⟨rfl, hBE.out⟩
  · have h1' : btw d 1 8 = false := by simpa using h1
    rw [h1']
    have hmark : True := trivial
    go_wp2_with (refine M.wpList_store_blk rfl 35 (.tmp 4) (.tmp 14) rfl w.heap.size 0 rfl _ rfl (M.blk_some Z1.out rfl) F1.out (by simp [Value.oneCell']) (by kernel_rfl) rfl ?_; revert hmark)
    intro hmark
    clear hmark
    refine M.st_over (N := w.heap.size) rfl Z1.out F1.out (Nat.le_refl _) ?_
    intro E hbE ZE FE _ _
    have hBE := hidI (hB2.trans hbE)
    have HZE := hidI ZE
    clear hbE ZE FE Z1 F1
    go_wp2_with fail
    refine bodyPost_ret (v := .agg ([.int .i64 0, .bool false, .int .i64 0, .int .i64 0, .int .i64 0, .slice none 0 0, .slice none 0 0, .slice none 0 0, .int .i64 0, .slice none 0 0, .slice none 0 0, .slice none 0 0, .slice none 0 0, .slice none 0 0, .slice none 0 0] : List Value).toArray) (M.results_blk (P := Tryz.prog) (ty := 35) rfl _ E w.heap.size [.int .i64 0, .bool false, .int .i64 0, .int .i64 0, .int .i64 0, .slice none 0 0, .slice none 0 0, .slice none 0 0, .int .i64 0, .slice none 0 0, .slice none 0 0, .slice none 0 0, .slice none 0 0, .slice none 0 0, .slice none 0 0] _ rfl HZE.out Tryz.underlying35 rfl (by kernel_rfl)) rfl ⟨rfl, hBE.out⟩
end Go.Proofs.YtlfokigiejcfoaaGreatDoor

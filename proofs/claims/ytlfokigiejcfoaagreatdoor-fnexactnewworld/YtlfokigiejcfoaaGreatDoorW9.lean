import Derived.Test.YtlfokigiejcfoaaGreatDoorW8
namespace Go.Proofs.YtlfokigiejcfoaaGreatDoor
open Go.RowKit
set_option linter.unusedVariables false
set_option maxHeartbeats 8000000 in
set_option maxRecDepth 100000 in
theorem c4wa (d n : Int) (key : ByteArray) (w : World) (hv : btw d 1 8 = false ∨ btw n 1 4 = false) (hk : key.size ≤ 1048576) :
    Calls Tryz.prog 4 #[.int .i64 d, .int .i64 n, .string key] w fun e w' => e = .returned (.agg worldZ.toArray) ∧ Below w.heap.size w w' := by
  have hB0 : Below w.heap.size w (w.alloc (.cells #[.string ⟨#[]⟩, .int .i64 0, .bool false, .int .i64 0, .int .i64 0, .int .i64 0, .slice none 0 0, .slice none 0 0, .slice none 0 0, .int .i64 0, .slice none 0 0, .slice none 0 0, .slice none 0 0, .slice none 0 0, .slice none 0 0, .slice none 0 0, .slice none 0 0, .slice none 0 0, .string ⟨#[]⟩, .slice none 0 0] 40)) := (Below.refl _ _).alloc (Nat.le_refl _) _
  have hzV : (w.alloc (.cells #[.string ⟨#[]⟩, .int .i64 0, .bool false, .int .i64 0, .int .i64 0, .int .i64 0, .slice none 0 0, .slice none 0 0, .slice none 0 0, .int .i64 0, .slice none 0 0, .slice none 0 0, .slice none 0 0, .slice none 0 0, .slice none 0 0, .slice none 0 0, .slice none 0 0, .slice none 0 0, .string ⟨#[]⟩, .slice none 0 0] 40)).heap.size = w.heap.size + 1 := by simp
  have Z0 := hidI (M.blk_new w [.string ⟨#[]⟩, .int .i64 0, .bool false, .int .i64 0, .int .i64 0, .int .i64 0, .slice none 0 0, .slice none 0 0, .slice none 0 0, .int .i64 0, .slice none 0 0, .slice none 0 0, .slice none 0 0, .slice none 0 0, .slice none 0 0, .slice none 0 0, .slice none 0 0, .slice none 0 0, .string ⟨#[]⟩, .slice none 0 0] 40)
  have F0 := hidI (M.opn_new w ([.string ⟨#[]⟩, .int .i64 0, .bool false, .int .i64 0, .int .i64 0, .int .i64 0, .slice none 0 0, .slice none 0 0, .slice none 0 0, .int .i64 0, .slice none 0 0, .slice none 0 0, .slice none 0 0, .slice none 0 0, .slice none 0 0, .slice none 0 0, .slice none 0 0, .slice none 0 0, .string ⟨#[]⟩, .slice none 0 0] : List Value).toArray 40)
  go_enter Tryz.func4, Tryz.ntmps4
  go_wp2_with fail
  generalize (w.alloc (.cells #[.string ⟨#[]⟩, .int .i64 0, .bool false, .int .i64 0, .int .i64 0, .int .i64 0, .slice none 0 0, .slice none 0 0, .slice none 0 0, .int .i64 0, .slice none 0 0, .slice none 0 0, .slice none 0 0, .slice none 0 0, .slice none 0 0, .slice none 0 0, .slice none 0 0, .slice none 0 0, .string ⟨#[]⟩, .slice none 0 0] 40)) = u at *
  refine (c9z d n u hv).mono ?_
  rintro e u1 ⟨rfl, hb1⟩
  have hs1 := hb1.size
  have hmark : True := trivial
  go_wp2_with ((refine M.wpList_store_blk rfl 35 (.tmp 7) (.tmp 12) rfl u1.heap.size 0 rfl _ rfl (M.st_some u1 [.int .i64 0, .bool false, .int .i64 0, .int .i64 0, .int .i64 0, .slice none 0 0, .slice none 0 0, .slice none 0 0, .int .i64 0, .slice none 0 0, .slice none 0 0, .slice none 0 0, .slice none 0 0, .slice none 0 0, .slice none 0 0] _ 35 rfl) (M.opn_new u1 _ 35) (by simp [Value.oneCell']) (by kernel_rfl) rfl ?_; revert hmark))
  intro hmark
  clear hmark
  refine M.st_gen rfl ?_
  intro u2 hbu2 HY HYO hltHY
  replace HY := hidI HY
  have HYP := hidI HYO
  clear HYO
  have hzu2 := Nat.le_of_lt hltHY
  have x0 := HY.out 0 _ rfl
  have x1 := HY.out 1 _ rfl
  have hb3 : Below u.heap.size u u2 := hb1.trans (hbu2.mono hs1)
  have hB3 := hB0.trans (hb3.mono hB0.size)
  have Z3 := hidI (Z0.out.below hb3 (by omega))
  have F3 := hidI (F0.out.below hb3 (by omega))
  go_wp2_with (refine M.wpList_store_blk rfl 40 (.tmp 6) (.tmp 21) rfl w.heap.size 0 rfl _ rfl (M.blk_some Z3.out rfl) F3.out (by simp [Value.oneCell']) (by kernel_rfl) rfl ?_)
  refine M.st_over (old := [.string ⟨#[]⟩, .int .i64 0, .bool false, .int .i64 0, .int .i64 0, .int .i64 0, .slice none 0 0, .slice none 0 0, .slice none 0 0, .int .i64 0, .slice none 0 0, .slice none 0 0, .slice none 0 0, .slice none 0 0, .slice none 0 0, .slice none 0 0, .slice none 0 0, .slice none 0 0, .string ⟨#[]⟩, .slice none 0 0]) (N := w.heap.size) rfl Z3.out F3.out (Nat.le_refl _) ?_
  intro E' hbE ZE FE hsE hoE
  refine bodyPost_ret (v := .agg worldZ.toArray) (M.results_blk (P := Tryz.prog) (ty := 40) rfl _ E' w.heap.size worldZ _ rfl ZE Tryz.underlying40 rfl (by kernel_rfl)) rfl ⟨rfl, hB3.trans hbE⟩
set_option maxHeartbeats 8000000 in
set_option maxRecDepth 100000 in
theorem c4wb (d : Int) (n : Nat) (key : ByteArray) (w : World) (hd : btw d 1 8 = true) (hn : btw (n : Int) 1 4 = true) (hk : key.size ≤ 1048576) (hl : 30 < key.size) :
    Calls Tryz.prog 4 #[.int .i64 d, .int .i64 n, .string key] w fun e w' => e = .returned (.agg worldZ.toArray) ∧ Below w.heap.size w w' := by
  have hd1 : 1 ≤ d ∧ d ≤ 8 := by simp [btw] at hd; omega
  have hd0 : (d == 0) = false := by simp; omega
  have hk0 : decide (30 < (key.size : Int)) = true := by simp; omega
  have hB0 : Below w.heap.size w (w.alloc (.cells #[.string ⟨#[]⟩, .int .i64 0, .bool false, .int .i64 0, .int .i64 0, .int .i64 0, .slice none 0 0, .slice none 0 0, .slice none 0 0, .int .i64 0, .slice none 0 0, .slice none 0 0, .slice none 0 0, .slice none 0 0, .slice none 0 0, .slice none 0 0, .slice none 0 0, .slice none 0 0, .string ⟨#[]⟩, .slice none 0 0] 40)) := (Below.refl _ _).alloc (Nat.le_refl _) _
  have hzV : (w.alloc (.cells #[.string ⟨#[]⟩, .int .i64 0, .bool false, .int .i64 0, .int .i64 0, .int .i64 0, .slice none 0 0, .slice none 0 0, .slice none 0 0, .int .i64 0, .slice none 0 0, .slice none 0 0, .slice none 0 0, .slice none 0 0, .slice none 0 0, .slice none 0 0, .slice none 0 0, .slice none 0 0, .string ⟨#[]⟩, .slice none 0 0] 40)).heap.size = w.heap.size + 1 := by simp
  have Z0 := hidI (M.blk_new w [.string ⟨#[]⟩, .int .i64 0, .bool false, .int .i64 0, .int .i64 0, .int .i64 0, .slice none 0 0, .slice none 0 0, .slice none 0 0, .int .i64 0, .slice none 0 0, .slice none 0 0, .slice none 0 0, .slice none 0 0, .slice none 0 0, .slice none 0 0, .slice none 0 0, .slice none 0 0, .string ⟨#[]⟩, .slice none 0 0] 40)
  have F0 := hidI (M.opn_new w ([.string ⟨#[]⟩, .int .i64 0, .bool false, .int .i64 0, .int .i64 0, .int .i64 0, .slice none 0 0, .slice none 0 0, .slice none 0 0, .int .i64 0, .slice none 0 0, .slice none 0 0, .slice none 0 0, .slice none 0 0, .slice none 0 0, .slice none 0 0, .slice none 0 0, .slice none 0 0, .string ⟨#[]⟩, .slice none 0 0] : List Value).toArray 40)
  go_enter Tryz.func4, Tryz.ntmps4
  go_wp2_with fail
  generalize (w.alloc (.cells #[.string ⟨#[]⟩, .int .i64 0, .bool false, .int .i64 0, .int .i64 0, .int .i64 0, .slice none 0 0, .slice none 0 0, .slice none 0 0, .int .i64 0, .slice none 0 0, .slice none 0 0, .slice none 0 0, .slice none 0 0, .slice none 0 0, .slice none 0 0, .slice none 0 0, .slice none 0 0, .string ⟨#[]⟩, .slice none 0 0] 40)) = u at *
  refine (c9 d n u hd hn).mono ?_
  rintro e u1 ⟨⟨b, lc, g, hc, rfl, hNB⟩, hb1⟩
  have hs1 := hb1.size
  clear hNB
  have hmark : True := trivial
  go_wp2_with ((refine M.wpList_store_blk rfl 35 (.tmp 7) (.tmp 12) rfl u1.heap.size 0 rfl _ rfl (M.st_some u1 [.int .i64 0, .bool false, .int .i64 0, .int .i64 0, .int .i64 0, .slice none 0 0, .slice none 0 0, .slice none 0 0, .int .i64 0, .slice none 0 0, .slice none 0 0, .slice none 0 0, .slice none 0 0, .slice none 0 0, .slice none 0 0] _ 35 rfl) (M.opn_new u1 _ 35) (by simp [Value.oneCell']) (by kernel_rfl) rfl ?_; revert hmark))
  intro hmark
  clear hmark
  refine M.st_gen rfl ?_
  intro u2 hbu2 HY HYO hltHY
  replace HY := hidI HY
  have HYP := hidI HYO
  clear HYO
  have hzu2 := Nat.le_of_lt hltHY
  have x0 := HY.out 0 _ rfl
  have x1 := HY.out 1 _ rfl
  have hb3 : Below u.heap.size u u2 := hb1.trans (hbu2.mono hs1)
  have hB3 := hB0.trans (hb3.mono hB0.size)
  have Z3 := hidI (Z0.out.below hb3 (by omega))
  have F3 := hidI (F0.out.below hb3 (by omega))
  go_wp2_with (refine M.wpList_store_blk rfl 40 (.tmp 6) (.tmp 21) rfl w.heap.size 0 rfl _ rfl (M.blk_some Z3.out rfl) F3.out (by simp [Value.oneCell']) (by kernel_rfl) rfl ?_)
  refine M.st_over (old := [.string ⟨#[]⟩, .int .i64 0, .bool false, .int .i64 0, .int .i64 0, .int .i64 0, .slice none 0 0, .slice none 0 0, .slice none 0 0, .int .i64 0, .slice none 0 0, .slice none 0 0, .slice none 0 0, .slice none 0 0, .slice none 0 0, .slice none 0 0, .slice none 0 0, .slice none 0 0, .string ⟨#[]⟩, .slice none 0 0]) (N := w.heap.size) rfl Z3.out F3.out (Nat.le_refl _) ?_
  intro E' hbE ZE FE hsE hoE
  refine bodyPost_ret (v := .agg worldZ.toArray) (M.results_blk (P := Tryz.prog) (ty := 40) rfl _ E' w.heap.size worldZ _ rfl ZE Tryz.underlying40 rfl (by kernel_rfl)) rfl ⟨rfl, hB3.trans hbE⟩
theorem c4wz (d n : Int) (key : ByteArray) (w : World) (hk : key.size ≤ 1048576) (hv : ¬ (btw d 1 8 = true ∧ btw n 1 4 = true ∧ key.size ≤ 30)) : Calls Tryz.prog 4 #[.int .i64 d, .int .i64 n, .string key] w fun e w' => e = .returned (.agg worldZ.toArray) ∧ Below w.heap.size w w' := by
  by_cases h : btw d 1 8 = true ∧ btw n 1 4 = true
  · obtain ⟨m, rfl⟩ : ∃ m : Nat, n = (m : Int) := by
      have := h.2
      simp [btw] at this
      exact ⟨n.toNat, by omega⟩
    refine c4wb d m key w h.1 h.2 hk ?_
    rcases Nat.lt_or_ge 30 key.size with hl | hl
    · exact hl
    · exact absurd ⟨h.1, h.2, hl⟩ hv
  · refine c4wa d n key w ?_ hk
    cases h1 : btw d 1 8 <;> cases h2 : btw n 1 4 <;> simp_all
set_option maxHeartbeats 8000000 in
set_option maxRecDepth 100000 in
theorem c5wa (d n : Int) (key : ByteArray) (w : World) (hv : btw d 1 8 = false ∨ btw n 1 4 = false) (hk : key.size ≤ 1048576) :
    Calls Tryz.prog 5 #[.int .i64 d, .int .i64 n, .string key] w fun e w' => e = .returned (.agg worldZ.toArray) ∧ Below w.heap.size w w' := by
  have hB0 : Below w.heap.size w (w.alloc (.cells #[.string ⟨#[]⟩, .int .i64 0, .bool false, .int .i64 0, .int .i64 0, .int .i64 0, .slice none 0 0, .slice none 0 0, .slice none 0 0, .int .i64 0, .slice none 0 0, .slice none 0 0, .slice none 0 0, .slice none 0 0, .slice none 0 0, .slice none 0 0, .slice none 0 0, .slice none 0 0, .string ⟨#[]⟩, .slice none 0 0] 40)) := (Below.refl _ _).alloc (Nat.le_refl _) _
  have hzV : (w.alloc (.cells #[.string ⟨#[]⟩, .int .i64 0, .bool false, .int .i64 0, .int .i64 0, .int .i64 0, .slice none 0 0, .slice none 0 0, .slice none 0 0, .int .i64 0, .slice none 0 0, .slice none 0 0, .slice none 0 0, .slice none 0 0, .slice none 0 0, .slice none 0 0, .slice none 0 0, .slice none 0 0, .string ⟨#[]⟩, .slice none 0 0] 40)).heap.size = w.heap.size + 1 := by simp
  have Z0 := hidI (M.blk_new w [.string ⟨#[]⟩, .int .i64 0, .bool false, .int .i64 0, .int .i64 0, .int .i64 0, .slice none 0 0, .slice none 0 0, .slice none 0 0, .int .i64 0, .slice none 0 0, .slice none 0 0, .slice none 0 0, .slice none 0 0, .slice none 0 0, .slice none 0 0, .slice none 0 0, .slice none 0 0, .string ⟨#[]⟩, .slice none 0 0] 40)
  have F0 := hidI (M.opn_new w ([.string ⟨#[]⟩, .int .i64 0, .bool false, .int .i64 0, .int .i64 0, .int .i64 0, .slice none 0 0, .slice none 0 0, .slice none 0 0, .int .i64 0, .slice none 0 0, .slice none 0 0, .slice none 0 0, .slice none 0 0, .slice none 0 0, .slice none 0 0, .slice none 0 0, .slice none 0 0, .string ⟨#[]⟩, .slice none 0 0] : List Value).toArray 40)
  go_enter Tryz.func5, Tryz.ntmps5
  go_wp2_with fail
  generalize (w.alloc (.cells #[.string ⟨#[]⟩, .int .i64 0, .bool false, .int .i64 0, .int .i64 0, .int .i64 0, .slice none 0 0, .slice none 0 0, .slice none 0 0, .int .i64 0, .slice none 0 0, .slice none 0 0, .slice none 0 0, .slice none 0 0, .slice none 0 0, .slice none 0 0, .slice none 0 0, .slice none 0 0, .string ⟨#[]⟩, .slice none 0 0] 40)) = u at *
  refine (c10z d n u hv).mono ?_
  rintro e u1 ⟨rfl, hb1⟩
  have hs1 := hb1.size
  have hmark : True := trivial
  go_wp2_with ((refine M.wpList_store_blk rfl 35 (.tmp 7) (.tmp 12) rfl u1.heap.size 0 rfl _ rfl (M.st_some u1 [.int .i64 0, .bool false, .int .i64 0, .int .i64 0, .int .i64 0, .slice none 0 0, .slice none 0 0, .slice none 0 0, .int .i64 0, .slice none 0 0, .slice none 0 0, .slice none 0 0, .slice none 0 0, .slice none 0 0, .slice none 0 0] _ 35 rfl) (M.opn_new u1 _ 35) (by simp [Value.oneCell']) (by kernel_rfl) rfl ?_; revert hmark))
  intro hmark
  clear hmark
  refine M.st_gen rfl ?_
  intro u2 hbu2 HY HYO hltHY
  replace HY := hidI HY
  have HYP := hidI HYO
  clear HYO
  have hzu2 := Nat.le_of_lt hltHY
  have x0 := HY.out 0 _ rfl
  have x1 := HY.out 1 _ rfl
  have hb3 : Below u.heap.size u u2 := hb1.trans (hbu2.mono hs1)
  have hB3 := hB0.trans (hb3.mono hB0.size)
  have Z3 := hidI (Z0.out.below hb3 (by omega))
  have F3 := hidI (F0.out.below hb3 (by omega))
  go_wp2_with (refine M.wpList_store_blk rfl 40 (.tmp 6) (.tmp 21) rfl w.heap.size 0 rfl _ rfl (M.blk_some Z3.out rfl) F3.out (by simp [Value.oneCell']) (by kernel_rfl) rfl ?_)
  refine M.st_over (old := [.string ⟨#[]⟩, .int .i64 0, .bool false, .int .i64 0, .int .i64 0, .int .i64 0, .slice none 0 0, .slice none 0 0, .slice none 0 0, .int .i64 0, .slice none 0 0, .slice none 0 0, .slice none 0 0, .slice none 0 0, .slice none 0 0, .slice none 0 0, .slice none 0 0, .slice none 0 0, .string ⟨#[]⟩, .slice none 0 0]) (N := w.heap.size) rfl Z3.out F3.out (Nat.le_refl _) ?_
  intro E' hbE ZE FE hsE hoE
  refine bodyPost_ret (v := .agg worldZ.toArray) (M.results_blk (P := Tryz.prog) (ty := 40) rfl _ E' w.heap.size worldZ _ rfl ZE Tryz.underlying40 rfl (by kernel_rfl)) rfl ⟨rfl, hB3.trans hbE⟩
set_option maxHeartbeats 8000000 in
set_option maxRecDepth 100000 in
theorem c5wb (d : Int) (n : Nat) (key : ByteArray) (w : World) (hd : btw d 1 8 = true) (hn : btw (n : Int) 1 4 = true) (hk : key.size ≤ 1048576) (hl : 30 < key.size) :
    Calls Tryz.prog 5 #[.int .i64 d, .int .i64 n, .string key] w fun e w' => e = .returned (.agg worldZ.toArray) ∧ Below w.heap.size w w' := by
  have hd1 : 1 ≤ d ∧ d ≤ 8 := by simp [btw] at hd; omega
  have hd0 : (d == 0) = false := by simp; omega
  have hk0 : decide (30 < (key.size : Int)) = true := by simp; omega
  have hB0 : Below w.heap.size w (w.alloc (.cells #[.string ⟨#[]⟩, .int .i64 0, .bool false, .int .i64 0, .int .i64 0, .int .i64 0, .slice none 0 0, .slice none 0 0, .slice none 0 0, .int .i64 0, .slice none 0 0, .slice none 0 0, .slice none 0 0, .slice none 0 0, .slice none 0 0, .slice none 0 0, .slice none 0 0, .slice none 0 0, .string ⟨#[]⟩, .slice none 0 0] 40)) := (Below.refl _ _).alloc (Nat.le_refl _) _
  have hzV : (w.alloc (.cells #[.string ⟨#[]⟩, .int .i64 0, .bool false, .int .i64 0, .int .i64 0, .int .i64 0, .slice none 0 0, .slice none 0 0, .slice none 0 0, .int .i64 0, .slice none 0 0, .slice none 0 0, .slice none 0 0, .slice none 0 0, .slice none 0 0, .slice none 0 0, .slice none 0 0, .slice none 0 0, .string ⟨#[]⟩, .slice none 0 0] 40)).heap.size = w.heap.size + 1 := by simp
  have Z0 := hidI (M.blk_new w [.string ⟨#[]⟩, .int .i64 0, .bool false, .int .i64 0, .int .i64 0, .int .i64 0, .slice none 0 0, .slice none 0 0, .slice none 0 0, .int .i64 0, .slice none 0 0, .slice none 0 0, .slice none 0 0, .slice none 0 0, .slice none 0 0, .slice none 0 0, .slice none 0 0, .slice none 0 0, .string ⟨#[]⟩, .slice none 0 0] 40)
  have F0 := hidI (M.opn_new w ([.string ⟨#[]⟩, .int .i64 0, .bool false, .int .i64 0, .int .i64 0, .int .i64 0, .slice none 0 0, .slice none 0 0, .slice none 0 0, .int .i64 0, .slice none 0 0, .slice none 0 0, .slice none 0 0, .slice none 0 0, .slice none 0 0, .slice none 0 0, .slice none 0 0, .slice none 0 0, .string ⟨#[]⟩, .slice none 0 0] : List Value).toArray 40)
  go_enter Tryz.func5, Tryz.ntmps5
  go_wp2_with fail
  generalize (w.alloc (.cells #[.string ⟨#[]⟩, .int .i64 0, .bool false, .int .i64 0, .int .i64 0, .int .i64 0, .slice none 0 0, .slice none 0 0, .slice none 0 0, .int .i64 0, .slice none 0 0, .slice none 0 0, .slice none 0 0, .slice none 0 0, .slice none 0 0, .slice none 0 0, .slice none 0 0, .slice none 0 0, .string ⟨#[]⟩, .slice none 0 0] 40)) = u at *
  refine (c10 d n u hd hn).mono ?_
  rintro e u1 ⟨⟨b, lc, g, hc, rfl, hNB⟩, hb1⟩
  have hs1 := hb1.size
  clear hNB
  have hmark : True := trivial
  go_wp2_with ((refine M.wpList_store_blk rfl 35 (.tmp 7) (.tmp 12) rfl u1.heap.size 0 rfl _ rfl (M.st_some u1 [.int .i64 0, .bool false, .int .i64 0, .int .i64 0, .int .i64 0, .slice none 0 0, .slice none 0 0, .slice none 0 0, .int .i64 0, .slice none 0 0, .slice none 0 0, .slice none 0 0, .slice none 0 0, .slice none 0 0, .slice none 0 0] _ 35 rfl) (M.opn_new u1 _ 35) (by simp [Value.oneCell']) (by kernel_rfl) rfl ?_; revert hmark))
  intro hmark
  clear hmark
  refine M.st_gen rfl ?_
  intro u2 hbu2 HY HYO hltHY
  replace HY := hidI HY
  have HYP := hidI HYO
  clear HYO
  have hzu2 := Nat.le_of_lt hltHY
  have x0 := HY.out 0 _ rfl
  have x1 := HY.out 1 _ rfl
  go_wp2_with fail
  refine (c11 key u2 hk).mono ?_
  rintro e u2' ⟨rfl, hbk⟩
  have hsk := hbk.size
  rw [show decide (key.size ≤ 30) = false by simpa using hl]
  clear x0 x1
  have hb3 : Below u.heap.size u u2' := (hb1.trans (hbu2.mono hs1)).trans (hbk.mono (by omega))
  have hB3 := hB0.trans (hb3.mono hB0.size)
  have Z3 := hidI (Z0.out.below hb3 (by omega))
  have F3 := hidI (F0.out.below hb3 (by omega))
  go_wp2_with (refine M.wpList_store_blk rfl 40 (.tmp 6) (.tmp 21) rfl w.heap.size 0 rfl _ rfl (M.blk_some Z3.out rfl) F3.out (by simp [Value.oneCell']) (by kernel_rfl) rfl ?_)
  refine M.st_over (old := [.string ⟨#[]⟩, .int .i64 0, .bool false, .int .i64 0, .int .i64 0, .int .i64 0, .slice none 0 0, .slice none 0 0, .slice none 0 0, .int .i64 0, .slice none 0 0, .slice none 0 0, .slice none 0 0, .slice none 0 0, .slice none 0 0, .slice none 0 0, .slice none 0 0, .slice none 0 0, .string ⟨#[]⟩, .slice none 0 0]) (N := w.heap.size) rfl Z3.out F3.out (Nat.le_refl _) ?_
  intro E' hbE ZE FE hsE hoE
  refine bodyPost_ret (v := .agg worldZ.toArray) (M.results_blk (P := Tryz.prog) (ty := 40) rfl _ E' w.heap.size worldZ _ rfl ZE Tryz.underlying40 rfl (by kernel_rfl)) rfl ⟨rfl, hB3.trans hbE⟩
theorem c5wz (d n : Int) (key : ByteArray) (w : World) (hk : key.size ≤ 1048576) (hv : ¬ (btw d 1 8 = true ∧ btw n 1 4 = true ∧ key.size ≤ 30)) : Calls Tryz.prog 5 #[.int .i64 d, .int .i64 n, .string key] w fun e w' => e = .returned (.agg worldZ.toArray) ∧ Below w.heap.size w w' := by
  by_cases h : btw d 1 8 = true ∧ btw n 1 4 = true
  · obtain ⟨m, rfl⟩ : ∃ m : Nat, n = (m : Int) := by
      have := h.2
      simp [btw] at this
      exact ⟨n.toNat, by omega⟩
    refine c5wb d m key w h.1 h.2 hk ?_
    rcases Nat.lt_or_ge 30 key.size with hl | hl
    · exact hl
    · exact absurd ⟨h.1, h.2, hl⟩ hv
  · refine c5wa d n key w ?_ hk
    cases h1 : btw d 1 8 <;> cases h2 : btw n 1 4 <;> simp_all
end Go.Proofs.YtlfokigiejcfoaaGreatDoor

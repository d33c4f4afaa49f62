import Derived.Test.YtignmnbgedmfbaaDoorDB
import Derived.Test.YtignmnbgedmfbaaDoorN8
namespace Go.Proofs.YtignmnbgedmfbaaDoor
open Go.RowKit

theorem But.free {b : Nat} {w w' : World} (h : But b w w') {p : Addr} (hp : p.block < w.heap.size) (hne : p.block ≠ b) : w'.frozen? p = w.frozen? p := by
  unfold World.frozen?
  rw [h.block p.block hp hne]
theorem res_but {w w2 : World} {q : Nat} (hq : q < w.heap.size) (hk : But q (w.alloc z42) w2) :
    (w2.cell? ⟨w.heap.size, 0, none⟩ = some (.int .i64 0) ∧ w2.cell? ⟨w.heap.size, 1, none⟩ = some (.string ⟨#[]⟩)) ∧ w2.frozen? ⟨w.heap.size, 0, none⟩ = false ∧ w2.frozen? ⟨w.heap.size, 1, none⟩ = false := by
  have e : ∀ j, w2.cell? ⟨w.heap.size, j, none⟩ = (w.alloc z42).cell? ⟨w.heap.size, j, none⟩ := fun j => hk.cell (by simp) (by simp; omega)
  have f : ∀ j, w2.frozen? ⟨w.heap.size, j, none⟩ = (w.alloc z42).frozen? ⟨w.heap.size, j, none⟩ := fun j => hk.free (by simp) (by simp; omega)
  rw [e, e, f, f]
  unfold z42
  simp
theorem but_set2 {q B : Nat} {w u : World} (h : But q w u) (hB : w.heap.size ≤ B) (v0 v1 : Value) : But q w ((u.setCell ⟨B, 0, none⟩ v0).setCell ⟨B, 1, none⟩ v1) :=
  ⟨h.os, h.tape, h.output, by simpa using h.size, fun k hk hne => by
    rw [heap_setCell_other _ ⟨B, 1, none⟩ k _ (by show k ≠ B; omega), heap_setCell_other _ ⟨B, 0, none⟩ k _ (by show k ≠ B; omega)]
    exact h.block k hk hne⟩
theorem rd_set2 {q P B : Nat} {u : World} (h : RdTo u q P) (hB : q < B) (v0 v1 : Value) : RdTo ((u.setCell ⟨B, 0, none⟩ v0).setCell ⟨B, 1, none⟩ v1) q P := by
  obtain ⟨p, hp, hr⟩ := h
  refine ⟨p, hp, hr.later (B := B) (((Below.refl B u).setCell (by exact Nat.le_refl _) _).setCell (by exact Nat.le_refl _) _) hB⟩

theorem but_set2' {q : Nat} {w u : World} (h : But q (w.alloc z42) u) (_hq : q < w.heap.size) (v0 v1 : Value) : But q w ((u.setCell ⟨w.heap.size, 0, none⟩ v0).setCell ⟨w.heap.size, 1, none⟩ v1) :=
  but_set2 ((But.of_below ((Below.refl _ _).alloc (Nat.le_refl _) _)).trans h) (Nat.le_refl _) _ _
set_option maxHeartbeats 2000000 in
set_option maxRecDepth 100000 in
theorem c50 (q P : Nat) (w : World) (hp : P ≤ 90000) (hr : RdTo w q P) :
    Calls Tryd.prog 50 #[.pointer (some ⟨q, 0, none⟩)] w fun e w' => (∃ x : R2, e = .returned (.agg #[.int .i64 x.code, .string x.tx]) ∧ x.tx.size ≤ 20) ∧ RdTo w' q (P + 3) ∧ But q w w' := by
  have hqw := hr.lt
  have HR : Hid (RdTo (w.alloc z42) q P) := hr.later ((Below.refl _ _).alloc (Nat.le_refl _) _)
  clear hr
  go_enter Tryd.func50, Tryd.ntmps50
  go_wp2_with fail
  refine (pickT (w.alloc z42) q P 10 (by omega) (by omega) (by omega) HR.out).mono ?_
  rintro e w1 ⟨⟨r, rfl, h0, h10⟩, h1, ho⟩
  have H1 : Hid (RdTo w1 q (P + 1)) := h1
  have HB1 : Hid (But q (w.alloc z42) w1) := ho.but
  clear h1 ho
  obtain rfl | rfl | rfl | rfl | rfl | rfl | hr6 : r = 0 ∨ r = 1 ∨ r = 2 ∨ r = 3 ∨ r = 4 ∨ r = 5 ∨ 6 ≤ r := by omega
  · go_wp2_with fail
    refine (c48 q (P + 1) _ (by omega) H1.out).mono ?_
    rintro e w2 ⟨⟨x, rfl, hx⟩, h2, hb2⟩
    have H2 : Hid (RdTo w2 q (P + 1 + 2)) := h2
    have HB2 : Hid (But q (w.alloc z42) w2) := HB1.out.trans hb2
    clear h2 hb2
    obtain ⟨⟨q0, q1⟩, g0, g1⟩ := res_but hqw HB2.out
    have e00 := World.cell?_setCell_same w2 ⟨w.heap.size, 0, none⟩ (.int .i64 1) q0
    obtain ⟨_, e1⟩ := set2_at w2 w.heap.size 0 (.int .i64 1) (.string x) _ _ q0 q1
    go_wp2
    refine bodyPost_ret (v := .agg #[.int .i64 1, .string x]) (by simp [results, Tryd.results50, go_sem, e00, e1]) rfl ⟨⟨⟨1, x⟩, rfl, hx⟩, ?_, ?_⟩
    · exact rd_set2 (H2.out) hqw _ _
    · exact (but_set2' HB2.out hqw _ _)
  · go_wp2_with fail
    refine (pickT _ q (P + 1) 5 (by omega) (by omega) (by omega) H1.out).mono ?_
    rintro e wa ⟨⟨ra, rfl, ha0, han⟩, ha, hoa⟩
    have HA : Hid (RdTo wa q (P + 1 + 1)) := ha
    have HBA : Hid (But q (w.alloc z42) wa) := HB1.out.trans hoa.but
    clear ha hoa
    obtain ⟨m, rfl⟩ := Int.eq_ofNat_of_zero_le ha0
    have hm : m < 100 := by omega
    have hdl : (ofL (Lib.decDigits m)).size ≤ 2 := by rw [ofL_size]; exact decLen m hm
    go_wp2_with fail
    refine (c27 m wa hm).mono ?_
    rintro e w2 ⟨rfl, hb2⟩
    have H2 : Hid (RdTo w2 q (P + 1 + 1)) := HA.out.later hb2
    have HB2 : Hid (But q (w.alloc z42) w2) := HBA.out.later hb2
    clear hb2
    obtain ⟨⟨q0, q1⟩, g0, g1⟩ := res_but hqw HB2.out
    have e00 := World.cell?_setCell_same w2 ⟨w.heap.size, 0, none⟩ (.int .i64 2) q0
    obtain ⟨_, e1⟩ := set2_at w2 w.heap.size 0 (.int .i64 2) (.string (ofL (Lib.decDigits m))) _ _ q0 q1
    go_wp2
    refine bodyPost_ret (v := .agg #[.int .i64 2, .string (ofL (Lib.decDigits m))]) (by simp [results, Tryd.results50, go_sem, e00, e1]) rfl ⟨⟨⟨2, (ofL (Lib.decDigits m))⟩, rfl, by show (ofL (Lib.decDigits m)).size ≤ 20; omega⟩, ?_, ?_⟩
    · exact rd_set2 (H2.out.mono (by omega)) hqw _ _
    · exact (but_set2' HB2.out hqw _ _)
  · obtain ⟨⟨q0, q1⟩, g0, g1⟩ := res_but hqw HB1.out
    have e00 := World.cell?_setCell_same w1 ⟨w.heap.size, 0, none⟩ (.int .i64 3) q0
    obtain ⟨_, e1⟩ := set2_at w1 w.heap.size 0 (.int .i64 3) (.string ⟨#[]⟩) _ _ q0 q1
    go_wp2
    refine bodyPost_ret (v := .agg #[.int .i64 3, .string ⟨#[]⟩]) (by simp [results, Tryd.results50, go_sem, e00, e1]) rfl ⟨⟨⟨3, ⟨#[]⟩⟩, rfl, by decide⟩, ?_, ?_⟩
    · exact rd_set2 (H1.out.mono (by omega)) hqw _ _
    · exact (but_set2' HB1.out hqw _ _)
  · obtain ⟨⟨q0, q1⟩, g0, g1⟩ := res_but hqw HB1.out
    have e00 := World.cell?_setCell_same w1 ⟨w.heap.size, 0, none⟩ (.int .i64 4) q0
    obtain ⟨_, e1⟩ := set2_at w1 w.heap.size 0 (.int .i64 4) (.string ⟨#[103, 111, 110, 101]⟩) _ _ q0 q1
    go_wp2
    refine bodyPost_ret (v := .agg #[.int .i64 4, .string ⟨#[103, 111, 110, 101]⟩]) (by simp [results, Tryd.results50, go_sem, e00, e1]) rfl ⟨⟨⟨4, ⟨#[103, 111, 110, 101]⟩⟩, rfl, by decide⟩, ?_, ?_⟩
    · exact rd_set2 (H1.out.mono (by omega)) hqw _ _
    · exact (but_set2' HB1.out hqw _ _)
  · obtain ⟨⟨q0, q1⟩, g0, g1⟩ := res_but hqw HB1.out
    have e00 := World.cell?_setCell_same w1 ⟨w.heap.size, 0, none⟩ (.int .i64 5) q0
    obtain ⟨_, e1⟩ := set2_at w1 w.heap.size 0 (.int .i64 5) (.string ⟨#[97]⟩) _ _ q0 q1
    go_wp2
    refine bodyPost_ret (v := .agg #[.int .i64 5, .string ⟨#[97]⟩]) (by simp [results, Tryd.results50, go_sem, e00, e1]) rfl ⟨⟨⟨5, ⟨#[97]⟩⟩, rfl, by decide⟩, ?_, ?_⟩
    · exact rd_set2 (H1.out.mono (by omega)) hqw _ _
    · exact (but_set2' HB1.out hqw _ _)
  · obtain ⟨⟨q0, q1⟩, g0, g1⟩ := res_but hqw HB1.out
    have e00 := World.cell?_setCell_same w1 ⟨w.heap.size, 0, none⟩ (.int .i64 7) q0
    obtain ⟨_, e1⟩ := set2_at w1 w.heap.size 0 (.int .i64 7) (.string ⟨#[116, 48]⟩) _ _ q0 q1
    go_wp2
    refine bodyPost_ret (v := .agg #[.int .i64 7, .string ⟨#[116, 48]⟩]) (by simp [results, Tryd.results50, go_sem, e00, e1]) rfl ⟨⟨⟨7, ⟨#[116, 48]⟩⟩, rfl, by decide⟩, ?_, ?_⟩
    · exact rd_set2 (H1.out.mono (by omega)) hqw _ _
    · exact (but_set2' HB1.out hqw _ _)
  · have k0 : (r == 0) = false := by simp; omega
    have k1 : (r == 1) = false := by simp; omega
    have k2 : (r == 2) = false := by simp; omega
    have k3 : (r == 3) = false := by simp; omega
    have k4 : (r == 4) = false := by simp; omega
    have k5 : (r == 5) = false := by simp; omega
    go_wp2_with fail
    refine (c48 q (P + 1) _ (by omega) H1.out).mono ?_
    rintro e w2 ⟨⟨x, rfl, hx⟩, h2, hb2⟩
    have H2 : Hid (RdTo w2 q (P + 1 + 2)) := h2
    have HB2 : Hid (But q (w.alloc z42) w2) := HB1.out.trans hb2
    clear h2 hb2
    obtain ⟨⟨q0, q1⟩, g0, g1⟩ := res_but hqw HB2.out
    have e00 := World.cell?_setCell_same w2 ⟨w.heap.size, 0, none⟩ (.int .i64 0) q0
    obtain ⟨_, e1⟩ := set2_at w2 w.heap.size 0 (.int .i64 0) (.string x) _ _ q0 q1
    go_wp2
    refine bodyPost_ret (v := .agg #[.int .i64 0, .string x]) (by simp [results, Tryd.results50, go_sem, e00, e1]) rfl ⟨⟨⟨0, x⟩, rfl, hx⟩, ?_, ?_⟩
    · exact rd_set2 (H2.out) hqw _ _
    · exact (but_set2' HB2.out hqw _ _)
end Go.Proofs.YtignmnbgedmfbaaDoor

import Derived.Test.YtpjpckmfehfniaaGreatDoorZC29
import Derived.Test.YtpjpckmfehfniaaGreatDoorY3
namespace Go.Proofs.YtpjpckmfehfniaaGreatDoor
open Go.RowKit
/-- A run stops at this look. -/
def Halt (t : TN) (x : M.L4) : Prop := t.over = true ∨ x.has ≠ t.has ∨ x.nm ≠ t.name ∨ ¬ M.LkOk x
open Classical in
/-- What is left of a run. -/
noncomputable def goL (tl ar : ByteArray) : TN → RS → List M.L4 → TN
  | t, _, [] => t
  | t, s, x :: xs => if Halt t x then zeroT else goL tl ar (nextR tl ar s ⟨x.cd, x.tx⟩).1 (nextR tl ar s ⟨x.cd, x.tx⟩).2 xs
open Classical in
theorem goL_halt {tl ar : ByteArray} {t : TN} {s : RS} {x : M.L4} {xs : List M.L4} (h : Halt t x) : goL tl ar t s (x :: xs) = zeroT := by
  show (if _ then _ else _) = _
  exact if_pos h
open Classical in
theorem goL_go {tl ar : ByteArray} {t : TN} {s : RS} {x : M.L4} {xs : List M.L4} (h : ¬ Halt t x) : goL tl ar t s (x :: xs) = goL tl ar (nextR tl ar s ⟨x.cd, x.tx⟩).1 (nextR tl ar s ⟨x.cd, x.tx⟩).2 xs := by
  show (if _ then _ else _) = _
  exact if_neg h
def turn0 (tl : ByteArray) : TN := ⟨false, 0, ⟨#[]⟩, false, tl, 0⟩
open Classical in
/-- What Go answers. -/
noncomputable def goT (m : M.M3) (ls : List M.L4) : TN := if M.okM m = true ∧ ls.length ≤ 15 then goL m.tl m.ar (turn0 m.tl) rs0 ls else zeroT
theorem goT_no {m : M.M3} {ls : List M.L4} (h : M.okM m = false ∨ 15 < ls.length) : goT m ls = zeroT := by
  unfold goT
  refine if_neg fun h' => ?_
  rcases h with h | h
  · rw [h'.1] at h; cases h
  · omega
theorem goT_yes {m : M.M3} {ls : List M.L4} (h : M.okM m = true) (h2 : ls.length ≤ 15) : goT m ls = goL m.tl m.ar (turn0 m.tl) rs0 ls := if_pos ⟨h, h2⟩
theorem drop_get {ls : List M.L4} {k : Nat} (h : k < ls.length) : ls.drop k = ls.getD k M.l4z :: ls.drop (k + 1) := by
  rw [List.drop_eq_getElem_cons h]
  congr 1
  simp [List.getD, h]
theorem six_cells {u : World} {B : Nat} (h : u.heap[B]? = some (.cells z6 30 (0, 0))) : u.cell? ⟨B, 0, none⟩ = some (.bool false) ∧ u.cell? ⟨B, 1, none⟩ = some (.int .i64 0) ∧ u.cell? ⟨B, 2, none⟩ = some (.string ⟨#[]⟩) ∧ u.cell? ⟨B, 3, none⟩ = some (.bool false) ∧ u.cell? ⟨B, 4, none⟩ = some (.string ⟨#[]⟩) ∧ u.cell? ⟨B, 5, none⟩ = some (.int .i64 0) ∧ ∀ j, u.frozen? ⟨B, j, none⟩ = false :=
  ⟨Lib.cell_of_heap h 0, Lib.cell_of_heap h 1, Lib.cell_of_heap h 2, Lib.cell_of_heap h 3, Lib.cell_of_heap h 4, Lib.cell_of_heap h 5, fun j => Lib.frozen_of_heap h j⟩
/-- The two blocks of a call of Go. -/
def WG (m : M.M3) (w : World) : World := (w.alloc (.cells #[.string m.nm, .string m.tl, .string m.ar] 32)).alloc (.cells #[.bool false, .int .i64 0, .string ⟨#[]⟩, .bool false, .string ⟨#[]⟩, .int .i64 0] 30)
theorem WG_size (m : M.M3) (w : World) : (WG m w).heap.size = w.heap.size + 2 := by simp [WG]
theorem WG_below (m : M.M3) (w : World) : Below w.heap.size w (WG m w) := ((Below.refl _ _).alloc (Nat.le_refl _) _).alloc (by simp) _
theorem WG_z {m : M.M3} {w u : World} (h : Below (w.heap.size + 2) (WG m w) u) : u.heap[w.heap.size + 1]? = some (.cells z6 30 (0, 0)) := by
  rw [h.block _ (by omega)]
  exact alloc_new (by simp) _
theorem WG_m {m : M.M3} {w u : World} (h : Below (w.heap.size + 2) (WG m w) u) : u.cell? ⟨w.heap.size, 0, none⟩ = some (.string m.nm) ∧ u.cell? ⟨w.heap.size, 1, none⟩ = some (.string m.tl) ∧ u.cell? ⟨w.heap.size, 2, none⟩ = some (.string m.ar) := by
  have e : u.heap[w.heap.size]? = some (.cells #[.string m.nm, .string m.tl, .string m.ar] 32 (0, 0)) := by
    rw [h.block _ (by omega), WG, Lib.alloc_old _ _ _ (by simp)]
    exact alloc_new rfl _
  exact ⟨Lib.cell_of_heap e 0, Lib.cell_of_heap e 1, Lib.cell_of_heap e 2⟩
set_option maxHeartbeats 4000000 in
set_option maxRecDepth 100000 in
theorem c11n (m : M.M3) (a : Option Addr) (cap : Nat) (ls : List M.L4) (w : World) (hm : m.le 1048576) (hl : ls.length ≤ 1048576) (hno : M.okM m = false ∨ 15 < ls.length) :
    Calls Tryz.prog 11 #[.agg #[.string m.nm, .string m.tl, .string m.ar], .slice a ls.length cap] w fun e w' => e = .returned zeroT.v ∧ Below w.heap.size w w' := by
  have hml : m.le 1048700 := ⟨by have := hm.1; omega, by have := hm.2.1; omega, by have := hm.2.2; omega⟩
  have fin : ∀ u : World, Hid (Below (w.heap.size + 2) (WG m w) u) → Below w.heap.size w ((((((u.setCell ⟨w.heap.size + 1, 0, none⟩ (.bool false)).setCell ⟨w.heap.size + 1, 1, none⟩ (.int .i64 0)).setCell ⟨w.heap.size + 1, 2, none⟩ (.string ⟨#[]⟩)).setCell ⟨w.heap.size + 1, 3, none⟩ (.bool false)).setCell ⟨w.heap.size + 1, 4, none⟩ (.string ⟨#[]⟩)).setCell ⟨w.heap.size + 1, 5, none⟩ (.int .i64 0)) := fun u hb =>
    ((WG_below m w).trans (hb.out.mono (by omega))).trans (set6_below (by omega) _ _ _ _ _ _)
  have hlen : (0 : Int) ≤ ls.length := by omega
  have HW : Hid (WG m w = (w.alloc (.cells #[.string m.nm, .string m.tl, .string m.ar] 32)).alloc (.cells #[.bool false, .int .i64 0, .string ⟨#[]⟩, .bool false, .string ⟨#[]⟩, .int .i64 0] 30)) := rfl
  rcases hk : M.okM m with _ | _
  · go_enter Tryz.func11, Tryz.ntmps11
    go_wp2_with fail
    rw [← HW.out]
    refine (M.c38v hk _ hml).mono ?_
    rintro e w1 ⟨rfl, hb1⟩
    have HB : Hid (Below (w.heap.size + 2) (WG m w) w1) := hb1.mono (by rw [WG_size]; omega)
    obtain ⟨q0, q1, q2, q3, q4, q5, hfz⟩ := six_cells (WG_z HB.out)
    clear hb1
    go_wp2
    obtain ⟨s0, s1, s2, s3, s4, s5⟩ := set6 (WG_z HB.out) (.bool false) (.int .i64 0) (.string ⟨#[]⟩) (.bool false) (.string ⟨#[]⟩) (.int .i64 0)
    exact bodyPost_ret (v := zeroT.v) (by simp [results, Tryz.results11, go_sem, s0, s1, s2, s3, s4, s5, zeroT, TN.v]) rfl ⟨rfl, fin _ HB⟩
  · have h15 : 15 < (ls.length : Int) := by
      rcases hno with h | h
      · rw [hk] at h; cases h
      · omega
    go_enter Tryz.func11, Tryz.ntmps11
    go_wp2_with fail
    rw [← HW.out]
    refine (M.c38v hk _ hml).mono ?_
    rintro e w1 ⟨rfl, hb1⟩
    have HB : Hid (Below (w.heap.size + 2) (WG m w) w1) := hb1.mono (by rw [WG_size]; omega)
    obtain ⟨q0, q1, q2, q3, q4, q5, hfz⟩ := six_cells (WG_z HB.out)
    clear hb1
    go_wp2
    obtain ⟨s0, s1, s2, s3, s4, s5⟩ := set6 (WG_z HB.out) (.bool false) (.int .i64 0) (.string ⟨#[]⟩) (.bool false) (.string ⟨#[]⟩) (.int .i64 0)
    exact bodyPost_ret (v := zeroT.v) (by simp [results, Tryz.results11, go_sem, s0, s1, s2, s3, s4, s5, zeroT, TN.v]) rfl ⟨rfl, fin _ HB⟩
end Go.Proofs.YtpjpckmfehfniaaGreatDoor

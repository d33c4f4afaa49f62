import Derived.Test.YtafneponofcdeaaC2
namespace Go.Proofs.Ytafneponofcdeaa
open Go.RowKit
theorem ofL_data (l : List UInt8) : (ofL l).data.toList = l := by simp [ofL]
theorem ofL_self (s : ByteArray) : ofL s.data.toList = s := by apply ByteArray.ext; simp [ofL]
theorem cut_small (l : List UInt8) : (Lib.cut l [58]).1.length ≤ l.length ∧ (Lib.cut l [58]).2.1.length ≤ l.length := by
  unfold Lib.cut
  split
  · simp only [List.length_take, List.length_drop]; omega
  · simp
theorem adr_ne {B j k : Nat} (h : j ≠ k) : (⟨B, j, none⟩ : Addr) ≠ ⟨B, k, none⟩ := fun e => h (by cases e; rfl)
theorem rz2 {w u : World} (hb : Below (w.heap.size + 1) (w.alloc (.cells #[.int .i64 0, .string ⟨#[]⟩] 23)) u) :
    (u.cell? ⟨w.heap.size, 0, none⟩ = some (.int .i64 0) ∧ u.cell? ⟨w.heap.size, 1, none⟩ = some (.string ⟨#[]⟩)) ∧ u.frozen? ⟨w.heap.size, 0, none⟩ = false ∧ u.frozen? ⟨w.heap.size, 1, none⟩ = false := by
  have c : ∀ j, u.cell? ⟨w.heap.size, j, none⟩ = (w.alloc (.cells #[.int .i64 0, .string ⟨#[]⟩] 23)).cell? ⟨w.heap.size, j, none⟩ := fun j => hb.cell (by simp)
  have f : ∀ j, u.frozen? ⟨w.heap.size, j, none⟩ = (w.alloc (.cells #[.int .i64 0, .string ⟨#[]⟩] 23)).frozen? ⟨w.heap.size, j, none⟩ := fun j => hb.frozen (by simp)
  rw [c, c, f, f]
  simp
theorem pastf {w : World} {p : Addr} (hp : p.block < w.heap.size) (h : w.frozen? p = false) (o : Obj) : (w.alloc o).frozen? p = false := by
  rw [((Below.refl w.heap.size w).alloc (Nat.le_refl _) o).frozen hp]; exact h
theorem set2_at (u : World) (B : Nat) (v0 v1 x0 x1 : Value) (h0 : u.cell? ⟨B, 0, none⟩ = some x0) (h1 : u.cell? ⟨B, 1, none⟩ = some x1) :
    ((u.setCell ⟨B, 0, none⟩ v0).setCell ⟨B, 1, none⟩ v1).cell? ⟨B, 0, none⟩ = some v0 ∧ ((u.setCell ⟨B, 0, none⟩ v0).setCell ⟨B, 1, none⟩ v1).cell? ⟨B, 1, none⟩ = some v1 := by
  have a1 : (u.setCell ⟨B, 0, none⟩ v0).cell? ⟨B, 1, none⟩ = some x1 := by rw [World.cell?_setCell_other _ _ _ _ (adr_ne (by omega))]; exact h1
  refine ⟨?_, World.cell?_setCell_same _ _ _ a1⟩
  rw [World.cell?_setCell_other _ _ _ _ (adr_ne (by omega))]; exact World.cell?_setCell_same _ _ _ h0

set_option maxHeartbeats 2000000 in
theorem c6 (l : List UInt8) (w : World) (hs : l.length ≤ 1048700) (hm : MaxAt w) :
    Calls Try.prog 6 #[.string (ofL l)] w fun e w' => Is56 l e ∧ Below w.heap.size w w' := by
  have hcs := cut_small l
  have hI := @isR_impl l
  have hB0 : Below w.heap.size w (w.alloc (.cells #[.int .i64 0, .string ⟨#[]⟩] 23)) := (Below.refl w.heap.size w).alloc (Nat.le_refl _) _
  have hc14 := c14w l _ hs (max_below hm hB0)
  generalize ha : (Lib.cut l [58]).1 = a at hcs hI hc14
  generalize ht : (Lib.cut l [58]).2.1 = t at hcs hI hc14
  generalize hk : (Lib.cut l [58]).2.2 = k at hcs hI hc14
  clear ha ht hk
  have h15 := c15s (ofL a)
  rw [ofL_data, ofL_size] at h15
  have h16 := fun c => c16 c (ofL t)
  rw [ofL_data, ofL_size] at h16
  obtain ⟨hca, hct⟩ := hcs
  go_enter Try.func6, Try.ntmps6
  go_wp2_with fail
  refine hc14.mono ?_
  rintro e w2 ⟨rfl, hb1⟩
  have hx2 : Below (w.heap.size + 1) (w.alloc (.cells #[.int .i64 0, .string ⟨#[]⟩] 23)) w2 := by simpa using hb1
  have hB2 : Below w.heap.size w w2 := hB0.trans (hx2.mono (by omega))
  have hR2 : w.heap.size < w2.heap.size := by have := hx2.size; simp at this; omega
  clear hb1 hc14
  go_wp2_with fail
  refine (h15 _ (by omega)).mono ?_
  rintro e w' ⟨rfl, hw'⟩
  obtain rfl := hw'.symm
  clear hw'
  obtain ⟨⟨z0, z1⟩, y0, y1⟩ := rz2 hx2
  have z0' := past (by exact hR2) z0
  have z1' := past (by exact hR2) z1
  have y0' := pastf (by exact hR2) y0
  have y1' := pastf (by exact hR2) y1
  have hno : ¬ (k = true ∧ num7 a = true ∧ vr (rn7 a) t = true) → Hid (Is56 l (.returned (.tuple #[.agg #[.int .i64 0, .string ⟨#[]⟩], .bool false]))) := fun h => ⟨0, [], false, rfl, hI.2 h, Nat.zero_le _⟩
  cases hk : k
  · have HI := hno (by rw [hk]; simp)
    clear hno hI
    go_wp2
    have F := set2_at w2 w.heap.size (.int .i64 0) (.string ⟨#[]⟩) _ _ z0 z1
    have G0 := past (p := ⟨w.heap.size, 0, none⟩) (by simpa using hR2) F.1
    have G1 := past (p := ⟨w.heap.size, 1, none⟩) (by simpa using hR2) F.2
    refine bodyPost_ret (v := .tuple #[.agg #[.int .i64 0, .string ⟨#[]⟩], .bool false]) (by simp [results, Try.results6, go_sem, G0, G1]) rfl ⟨HI.out, ?_⟩
    first
      | exact ((hB2.setCell (by simp) _).setCell (by simp) _).alloc (by simpa using hB2.size) _
      | exact ((hB2.setCell (by simp) _).setCell (by simp) _)
  cases h7 : num7 a
  · have HI := hno (by rw [h7]; simp)
    clear hno hI
    go_wp2
    have F := set2_at w2 w.heap.size (.int .i64 0) (.string ⟨#[]⟩) _ _ z0 z1
    have G0 := past (p := ⟨w.heap.size, 0, none⟩) (by simpa using hR2) F.1
    have G1 := past (p := ⟨w.heap.size, 1, none⟩) (by simpa using hR2) F.2
    refine bodyPost_ret (v := .tuple #[.agg #[.int .i64 0, .string ⟨#[]⟩], .bool false]) (by simp [results, Try.results6, go_sem, G0, G1]) rfl ⟨HI.out, ?_⟩
    first
      | exact ((hB2.setCell (by simp) _).setCell (by simp) _).alloc (by simpa using hB2.size) _
      | exact ((hB2.setCell (by simp) _).setCell (by simp) _)
  go_wp2_with fail
  refine (h16 _ _ (by omega)).mono ?_
  rintro e w3 ⟨rfl, hb3⟩
  have hx3 := (hx2.alloc (by omega) (.cells #[.int .i64 (rn7 a), .string (ofL t)] 23)).trans (hb3.mono (by simp; omega))
  have hB3 : Below w.heap.size w w3 := hB0.trans (hx3.mono (by omega))
  have hR3 : w2.heap.size < w3.heap.size := by have := hb3.size; simp at this; omega
  have r0 : w3.cell? ⟨w2.heap.size, 0, none⟩ = some (.int .i64 (rn7 a)) := by rw [hb3.cell (by simp)]; simp
  have r1 : w3.cell? ⟨w2.heap.size, 1, none⟩ = some (.string (ofL t)) := by rw [hb3.cell (by simp)]; simp
  clear z0 z1 y0 y1 z0' z1' y0' y1' hb3
  obtain ⟨⟨z0, z1⟩, y0, y1⟩ := rz2 hx3
  cases hv : vr (rn7 a) t
  · have HI := hno (by rw [hv]; simp)
    clear hno hI
    go_wp2
    refine bodyPost_ret (v := .tuple #[.agg #[.int .i64 0, .string ⟨#[]⟩], .bool false]) (by simp [results, Try.results6, go_sem, z0, z1]) rfl ⟨HI.out, ?_⟩
    exact ((hB3.setCell (by simp) _).setCell (by simp) _)
  · have HI : Hid (Is56 l (.returned (.tuple #[.agg #[.int .i64 (rn7 a), .string (ofL t)], .bool true]))) := ⟨rn7 a, t, true, rfl, hI.1 hk h7 hv, hct⟩
    clear hno hI hv
    go_wp2
    have F := set2_at w3 w.heap.size (.int .i64 (rn7 a)) (.string (ofL t)) _ _ z0 z1
    refine bodyPost_ret (v := .tuple #[.agg #[.int .i64 (rn7 a), .string (ofL t)], .bool true]) (by simp [results, Try.results6, go_sem, F.1, F.2]) rfl ⟨HI.out, ?_⟩
    exact ((hB3.setCell (by simp) _).setCell (by simp) _)
end Go.Proofs.Ytafneponofcdeaa

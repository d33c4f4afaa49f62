import Derived.Test.YtlfokigiejcfoaaGreatDoorA4
import Derived.Maps.OwnIn
namespace Go.Proofs.YtlfokigiejcfoaaGreatDoor
open Go.RowKit
/-- A shelf that holds nothing. -/
structure ShE (u : World) (base : Nat) (d : Int) (H m1 m2 m3 : Nat) : Prop where
  hm1 : base ≤ m1
  hm2 : m1 < m2
  hm3 : m2 < H
  hH : H < u.heap.size
  e1 : u.heap[m1]? = some (.map #[] 0)
  e2 : u.heap[m2]? = some (.map #[] 0)
  blk : BlkAt u H [.int .i64 d, .map (some m1), .map (some m2), .map (some m3)]
theorem she_new (d : Int) (w v : World) (h : v.heap.size = w.heap.size + 1) : ShE ((((v.alloc (.map #[] 0)).alloc (.map #[] 0)).alloc (.map #[] 0)).alloc (.cells #[.int .i64 d, .map (some (w.heap.size + 1)), .map (some (w.heap.size + 1 + 1)), .map (some (w.heap.size + 1 + 1 + 1))] 166)) w.heap.size d (w.heap.size + 1 + 1 + 1 + 1) (w.heap.size + 1) (w.heap.size + 1 + 1) (w.heap.size + 1 + 1 + 1) := by
  rw [← h]
  refine ⟨by omega, by omega, by omega, by simp, ?_, ?_, fun j x hx => by simp [go_sem, hx]⟩
  · exact (Below.heap_alloc _ _ _ (by simp <;> omega)).trans ((Below.heap_alloc _ _ _ (by simp <;> omega)).trans ((Below.heap_alloc _ _ _ (by simp <;> omega)).trans (MapKept.heap_alloc v _).1))
  · have hs : v.heap.size + 1 = (v.alloc (.map #[] 0)).heap.size := by simp
    rw [hs]
    exact (Below.heap_alloc _ _ _ (by simp <;> omega)).trans ((Below.heap_alloc _ _ _ (by simp <;> omega)).trans (MapKept.heap_alloc (v.alloc (.map #[] 0)) _).1)
set_option maxHeartbeats 2000000 in
set_option maxRecDepth 100000 in
theorem c89 (d : Int) (w : World) : Calls Tryz.prog 89 #[.agg #[.int .i64 d, .slice none 0 0, .slice none 0 0]] w fun e w' => (∃ H m1 m2 m3, e = .returned (.pointer (some ⟨H, 0, none⟩)) ∧ ShE w' w.heap.size d H m1 m2 m3) ∧ Below w.heap.size w w' := by
  have hmm := @run_makeMap Tryz.prog
  have HS := hidI (she_new d w (w.alloc (.cells #[.int .i64 d, .slice none 0 0, .slice none 0 0] 30)) (by simp))
  have hB : Below w.heap.size w (((((w.alloc (.cells #[.int .i64 d, .slice none 0 0, .slice none 0 0] 30)).alloc (.map #[] 0)).alloc (.map #[] 0)).alloc (.map #[] 0)).alloc (.cells #[.int .i64 d, .map (some (w.heap.size + 1)), .map (some (w.heap.size + 1 + 1)), .map (some (w.heap.size + 1 + 1 + 1))] 166)) := (((((Below.refl _ _).alloc (Nat.le_refl _) _).alloc (by simp) _).alloc (by simp; omega) _).alloc (by simp; omega) _).alloc (by simp; omega) _
  have z0 : (((((w.alloc (.cells #[.int .i64 d, .slice none 0 0, .slice none 0 0] 30)).alloc (.map #[] 0)).alloc (.map #[] 0)).alloc (.map #[] 0)).alloc (.cells #[.int .i64 d, .map (some (w.heap.size + 1)), .map (some (w.heap.size + 1 + 1)), .map (some (w.heap.size + 1 + 1 + 1))] 166)).cell? ⟨w.heap.size, 2, none⟩ = some (.slice none 0 0) := by simp [go_sem]
  go_enter Tryz.func89, Tryz.ntmps89
  go_wp2_with fail
  generalize (((((w.alloc (.cells #[.int .i64 d, .slice none 0 0, .slice none 0 0] 30)).alloc (.map #[] 0)).alloc (.map #[] 0)).alloc (.map #[] 0)).alloc (.cells #[.int .i64 d, .map (some (w.heap.size + 1)), .map (some (w.heap.size + 1 + 1)), .map (some (w.heap.size + 1 + 1 + 1))] 166)) = V at *
  go_loopw [20] (fun i wr => i = .int .i64 0 ∧ wr = V) (fun _ _ => 0)
  case atStart => exact ⟨rfl, rfl⟩
  case round =>
    obtain ⟨rfl, rfl⟩ := hrel
    go_wp2_with fail
    go_loopw [46] (fun i wq => i = .int .i64 0 ∧ wq = wr) (fun _ _ => 0)
    case atStart => exact ⟨rfl, rfl⟩
    case round =>
      obtain ⟨rfl, rfl⟩ := hrel
      go_wp2
      go_ret
      exact ⟨⟨_, _, _, _, rfl, HS.out⟩, hB⟩
end Go.Proofs.YtlfokigiejcfoaaGreatDoor

import Derived.Test.YtggcgnfockpgmaaGreatDoorV4
namespace Go.Proofs.YtggcgnfockpgmaaGreatDoor.T
open Go.RowKit
theorem files_setCell {w : World} {g : Nat} {is : List F2} {q : Addr} {v : Value} (h : FilesAt w (some ⟨g, 0, none⟩) is) (hq : q.block ≠ g) : FilesAt (w.setCell q v) (some ⟨g, 0, none⟩) is := by
  rcases h with h | ⟨b, off, h1, h2, h3⟩
  · exact .inl h
  · have hg : b = g := by injection h1 with h1; injection h1 with h1 _; exact h1.symm
    have hne : ∀ j, q ≠ ⟨b, j, none⟩ := fun j e => hq (by rw [e]; exact hg)
    refine .inr ⟨b, off, h1, by simpa using h2, fun i hi => ?_⟩
    rw [World.cell?_setCell_other _ _ _ _ (hne _), World.cell?_setCell_other _ _ _ _ (hne _)]
    exact h3 i hi
set_option maxHeartbeats 400000 in
theorem c4 (a : Option Addr) (cap : Nat) (is : List F2) (w : World) (hs : ∀ i, (is.getD i f2z).le 9223372036854775807) (hl : is.length ≤ 9223372036854775807) (hat : FilesAt w a is) :
    Calls Tryz.prog 4 #[.agg #[.slice a is.length cap], .int .i64 1048576] w fun e w' => (∃ r : Int, e = .returned (.int .i64 r) ∧ (0 ≤ r → is.length ≤ 1048576 ∧ (∀ i, (is.getD i f2z).le 1048576) ∧ r ≤ 1048576)) ∧ Below w.heap.size w w' := by
  have HA : Hid (FilesAt w a is) := hat
  clear hat
  go_enter Tryz.func4, Tryz.ntmps4
  go_wp2_with fail
  refine (c12 a cap is 1048576 _ hs hl (files_below HA.out ((Below.refl _ _).alloc (Nat.le_refl _) _)) (by omega) (by omega)).mono ?_
  rintro e w1 ⟨⟨r, rfl, hr⟩, hb1⟩
  have HR : Hid (0 ≤ r → is.length ≤ 1048576 ∧ (∀ i, (is.getD i f2z).le 1048576) ∧ r ≤ 1048576) := hr
  have hB : Below w.heap.size w w1 := ((Below.refl _ _).alloc (Nat.le_refl _) _).trans (hb1.mono (by simp))
  clear hr
  by_cases hneg : r < 0
  · go_wp2
    go_ret
    exact ⟨⟨-1, rfl, fun h => by omega⟩, hB⟩
  · go_wp2
    go_ret
    exact ⟨⟨r, rfl, HR.out⟩, hB⟩

set_option maxHeartbeats 400000 in
theorem c7 (a : Option Addr) (cap : Nat) (is : List F2) (w : World) (hl : is.length ≤ 1048576) (hat : FilesAt w a is) :
    Calls Tryz.prog 7 #[.agg #[.slice a is.length cap]] w fun e w' => (∃ a', e = .returned (.agg #[.slice a' is.length is.length]) ∧ FilesAt w' a' is) ∧ Below w.heap.size w w' := by
  have HA : Hid (FilesAt w a is) := hat
  clear hat
  go_enter Tryz.func7, Tryz.ntmps7
  go_wp2_with fail
  refine (c19 a cap is _ hl (files_below HA.out ((((Below.refl _ _).alloc (Nat.le_refl _) _).alloc (by simp) _).alloc (by simp; omega) _))).mono ?_
  rintro e w1 ⟨⟨rfl, h1⟩, hb1⟩
  have hsz : (((w.alloc (.cells #[.slice a is.length cap] 24)).alloc (.cells #[.slice none 0 0] 31)).alloc (.cells #[.slice none 0 0] 31)).heap.size = w.heap.size + 3 := by simp
  have H1 : Hid (FilesAt w1 (some ⟨w.heap.size + 3, 0, none⟩) is) := by rw [← hsz]; exact h1
  have hB : Below w.heap.size w w1 := ((((Below.refl _ _).alloc (Nat.le_refl _) _).alloc (by simp) _).alloc (by simp; omega) _).trans (hb1.mono (by simp; omega))
  have e1 : w1.cell? ⟨w.heap.size + 1, 0, none⟩ = some (.slice none 0 0) := (hb1.cell (p := ⟨w.heap.size + 1, 0, none⟩) (by simp)).trans (by simp [go_sem])
  have e2 : w1.cell? ⟨w.heap.size + 1 + 1, 0, none⟩ = some (.slice none 0 0) := (hb1.cell (p := ⟨w.heap.size + 1 + 1, 0, none⟩) (by simp)).trans (by simp [go_sem])
  have f1 : w1.frozen? ⟨w.heap.size + 1, 0, none⟩ = false := (hb1.frozen (p := ⟨w.heap.size + 1, 0, none⟩) (by simp)).trans (by simp [go_sem])
  have f2 : w1.frozen? ⟨w.heap.size + 1 + 1, 0, none⟩ = false := (hb1.frozen (p := ⟨w.heap.size + 1 + 1, 0, none⟩) (by simp)).trans (by simp [go_sem])
  clear h1 hsz
  go_wp2
  refine bodyPost_ret (v := .agg #[.slice (some ⟨w.heap.size + 3, 0, none⟩) is.length is.length]) (by simp [results, Tryz.results7, go_sem, e1]) rfl ⟨⟨_, rfl, ?_⟩, ?_⟩
  · exact files_setCell (files_setCell H1.out (by simp)) (by simp)
  · exact (hB.setCell (by simp; omega) _).setCell (by simp) _

set_option maxHeartbeats 400000 in
theorem c10 (a a' : Option Addr) (cap cap' : Nat) (is : List F2) (w : World) (hl : is.length ≤ 1048576) (hat : FilesAt w a is) (hat' : FilesAt w a' is) :
    Calls Tryz.prog 10 #[.agg #[.slice a is.length cap], .agg #[.slice a' is.length cap']] w fun e w' => e = .returned (.bool true) ∧ Below w.heap.size w w' := by
  have HA : Hid (FilesAt w a is) := hat
  have HA' : Hid (FilesAt w a' is) := hat'
  clear hat hat'
  have hB0 : Below w.heap.size w ((w.alloc (.cells #[.slice a is.length cap] 31)).alloc (.cells #[.slice a' is.length cap'] 31)) := ((Below.refl _ _).alloc (Nat.le_refl _) _).alloc (by simp) _
  go_enter Tryz.func10, Tryz.ntmps10
  go_wp2_with fail
  refine (c25 a a' cap cap' is _ hl (files_below HA.out hB0) (files_below HA'.out hB0)).mono ?_
  rintro e w1 ⟨rfl, hb1⟩
  go_wp2
  go_ret
  exact ⟨rfl, hB0.trans (hb1.mono hB0.size)⟩

theorem past {w : World} {p : Addr} {v : Value} (hp : p.block < w.heap.size) (h : w.cell? p = some v) (o : Obj) : (w.alloc o).cell? p = some v := by
  rw [World.cell?_alloc_lt _ _ _ hp]; exact h
end Go.Proofs.YtggcgnfockpgmaaGreatDoor.T

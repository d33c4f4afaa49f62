import Derived.Test.YtggcgnfockpgmaaGreatDoorJ2
import Derived.Test.YtggcgnfockpgmaaGreatDoorK3
namespace Go.Proofs.YtggcgnfockpgmaaGreatDoor
open Go.RowKit
open T (F2 f2z FilesAt Asc files_below)
def FreeM (ms : List M3) (nm : ByteArray) : Prop := ∀ j, j < ms.length → (ms.getD j m3z).nm ≠ nm
/-- What isThing answers. -/
def Is44 (fs : List F2) (ms : List M3) (nm : ByteArray) (e : Ending) : Prop := ∃ r, e = .returned (.bool r) ∧ (r = true ↔ ¬ (Free fs nm ∧ FreeM ms nm))
theorem is44_of {fs : List F2} {ms : List M3} {nm : ByteArray} {p : Nat} {f g : Bool} (hm : Asc fs) (h : T.Place fs nm p f) (k : (g = true ∧ ∃ i, i < ms.length ∧ (ms.getD i m3z).nm = nm) ∨ (g = false ∧ FreeM ms nm)) : Is44 fs ms nm (.returned (.bool (f || g))) := by
  obtain ⟨P1, P2⟩ := place_free hm h
  refine ⟨_, rfl, ?_⟩
  cases f
  · rcases k with ⟨rfl, i, hi, hn⟩ | ⟨rfl, hf⟩
    · exact ⟨fun _ c => c.2 i hi hn, fun _ => rfl⟩
    · exact ⟨(fun h => by cases h), fun c => absurd ⟨P2 rfl, hf⟩ c⟩
  · obtain ⟨i, _, hi, hn⟩ := P1 rfl
    exact ⟨fun _ c => c.1 i hi hn, fun _ => rfl⟩
set_option maxHeartbeats 2000000 in
theorem c44 (a pa : Option Addr) (cap pc : Nat) (fs : List F2) (ms : List M3) (nm : ByteArray) (w : World) (hl : fs.length ≤ 40) (hat : FilesAt w a fs) (hm : Asc fs) (hlm : ms.length ≤ 300) (hatm : MksAt w pa ms) (hmm : AscM ms) :
    Calls Tryz.prog 44 #[.agg #[.slice a fs.length cap], .slice pa ms.length pc, .string nm] w fun e w' => Is44 fs ms nm e ∧ Below w.heap.size w w' := by
  have hB0 : Below w.heap.size w (w.alloc (.cells #[.slice a fs.length cap] 31)) := (Below.refl _ _).alloc (Nat.le_refl _) _
  have h1 := T.c54 a cap fs nm _ hl (files_below hat hB0) hm
  go_enter Tryz.func44, Tryz.ntmps44
  go_wp2_with fail
  refine h1.mono ?_
  rintro e w1 ⟨⟨p, f, rfl, hp⟩, hb1⟩
  have hB1 : Below w.heap.size w w1 := hB0.trans (hb1.mono (by simp))
  have h2 := c42 pa pc ms nm w1 hlm (mks_below hatm hB1) hmm
  clear h1 hb1
  go_wp2_with fail
  refine h2.mono ?_
  rintro e w2 ⟨⟨x, g, rfl, hx⟩, hb2⟩
  have hB2 : Below w.heap.size w w2 := hB1.trans (hb2.mono hB1.size)
  have HI : Hid (Is44 fs ms nm (.returned (.bool (f || g)))) := is44_of hm hp (by
    rcases hx with ⟨rfl, i, hi, rfl, hn⟩ | ⟨rfl, hf⟩
    · exact .inl ⟨rfl, i, hi, hn⟩
    · exact .inr ⟨rfl, hf⟩)
  clear h2 hx hp
  cases f
  all_goals go_wp2
  all_goals go_ret
  all_goals exact ⟨HI.out, hB2.alloc hB2.size _⟩
theorem cell_al {w : World} {b : Nat} (h : b < w.heap.size) (j : Nat) (o : Obj) : (w.alloc o).cell? ⟨b, j, none⟩ = w.cell? ⟨b, j, none⟩ := ((Below.refl _ w).alloc (Nat.le_refl _) o).cell (by exact h)
theorem rzU {w u : World} {v : Value} (hb : Below (w.heap.size + 2) ((w.alloc (.cells #[v] 31)).alloc (.cells #[.int .i64 0, .string ⟨#[]⟩] 50)) u) :
    u.cell? ⟨w.heap.size, 0, none⟩ = some v ∧ (u.cell? ⟨w.heap.size + 1, 0, none⟩ = some (.int .i64 0) ∧ u.cell? ⟨w.heap.size + 1, 1, none⟩ = some (.string ⟨#[]⟩)) ∧ u.frozen? ⟨w.heap.size + 1, 0, none⟩ = false ∧ u.frozen? ⟨w.heap.size + 1, 1, none⟩ = false := by
  have c : ∀ b j, b < w.heap.size + 2 → u.cell? ⟨b, j, none⟩ = ((w.alloc (.cells #[v] 31)).alloc (.cells #[.int .i64 0, .string ⟨#[]⟩] 50)).cell? ⟨b, j, none⟩ := fun b j h => hb.cell (by exact h)
  have f : ∀ b j, b < w.heap.size + 2 → u.frozen? ⟨b, j, none⟩ = ((w.alloc (.cells #[v] 31)).alloc (.cells #[.int .i64 0, .string ⟨#[]⟩] 50)).frozen? ⟨b, j, none⟩ := fun b j h => hb.frozen (by exact h)
  rw [c _ _ (by omega), c _ _ (by omega), c _ _ (by omega), f _ _ (by omega), f _ _ (by omega)]
  simp [go_sem]
/-- What a name comes to that is in no plan. -/
def Is43 (fs : List F2) (nm : ByteArray) (e : Ending) : Prop := ∃ (c : Int) (t : ByteArray), e = .returned (.agg #[.int .i64 c, .string t]) ∧ ((c = 0 ∧ ∃ i, i < fs.length ∧ (fs.getD i f2z).nm = nm ∧ t = (fs.getD i f2z).tx) ∨ (c = 4 ∧ t = nm ∧ Free fs nm))
set_option maxHeartbeats 2000000 in
theorem c43 (a : Option Addr) (cap : Nat) (fs : List F2) (nm : ByteArray) (w : World) (hl : fs.length ≤ 40) (hat : FilesAt w a fs) (hm : Asc fs) :
    Calls Tryz.prog 43 #[.agg #[.slice a fs.length cap], .string nm] w fun e w' => Is43 fs nm e ∧ Below w.heap.size w w' := by
  have h52 := fun u (hb : Below w.heap.size w u) => c52 a cap fs nm u hl (files_below hat hb) hm
  have hB0 : ∀ o1 o2, Below w.heap.size w ((w.alloc o1).alloc o2) := fun o1 o2 => ((Below.refl _ _).alloc (Nat.le_refl _) _).alloc (by simp) _
  go_enter Tryz.func43, Tryz.ntmps43
  go_wp2_with fail
  refine (h52 _ (hB0 _ _)).mono ?_
  rintro e w1 ⟨⟨x, g, rfl, hx⟩, hb1⟩
  have hB1 : Below w.heap.size w w1 := (hB0 _ _).trans (hb1.mono (by simp; omega))
  have hx1 : Below (w.heap.size + 2) ((w.alloc (.cells #[.slice a fs.length cap] 31)).alloc (.cells #[.int .i64 0, .string ⟨#[]⟩] 50)) w1 := by have h := hb1; simp at h; exact h
  obtain ⟨t0, ⟨z0, z1⟩, y0, y1⟩ := rzU hx1
  have hsz : w.heap.size + 1 < w1.heap.size := by have := hx1.size; simp at this; omega
  clear h52 hb1 hB0
  cases g
  · have HI : Hid (Is43 fs nm (.returned (.agg #[.int .i64 4, .string nm]))) := ⟨4, nm, rfl, .inr ⟨rfl, rfl, by
      rcases hx with ⟨h, _⟩ | ⟨_, h⟩
      · cases h
      · exact h⟩⟩
    clear hx
    go_wp2
    have F := set2_at' w1 (w.heap.size + 1) (.int .i64 4) (.string nm) _ _ z0 z1
    have hBU : Below w.heap.size w ((w1.setCell ⟨w.heap.size + 1, 0, none⟩ (.int .i64 4)).setCell ⟨w.heap.size + 1, 1, none⟩ (.string nm)) := (hB1.setCell (by simp) _).setCell (by simp) _
    have hszU : w.heap.size + 1 < ((w1.setCell ⟨w.heap.size + 1, 0, none⟩ (.int .i64 4)).setCell ⟨w.heap.size + 1, 1, none⟩ (.string nm)).heap.size := by simpa using hsz
    generalize ((w1.setCell ⟨w.heap.size + 1, 0, none⟩ (.int .i64 4)).setCell ⟨w.heap.size + 1, 1, none⟩ (.string nm)) = U at *
    have F1 := fun o => (cell_al hszU 0 o).trans F.1
    have F2 := fun o => (cell_al hszU 1 o).trans F.2
    refine bodyPost_ret (v := .agg #[.int .i64 4, .string nm]) (by simp [results, Tryz.results43, go_sem, F1, F2]) rfl ⟨HI.out, ?_⟩
    exact hBU.alloc hBU.size _
  · have HI : Hid (Is43 fs nm (.returned (.agg #[.int .i64 0, .string x.tx]))) := ⟨0, x.tx, rfl, .inl ⟨rfl, by
      rcases hx with ⟨_, i, hi, rfl, hn⟩ | ⟨h, _⟩
      · exact ⟨i, hi, hn, rfl⟩
      · cases h⟩⟩
    clear hx
    go_wp2
    have F := set2_at' w1 (w.heap.size + 1) (.int .i64 0) (.string x.tx) _ _ z0 z1
    have hBU : Below w.heap.size w ((w1.setCell ⟨w.heap.size + 1, 0, none⟩ (.int .i64 0)).setCell ⟨w.heap.size + 1, 1, none⟩ (.string x.tx)) := (hB1.setCell (by simp) _).setCell (by simp) _
    have hszU : w.heap.size + 1 < ((w1.setCell ⟨w.heap.size + 1, 0, none⟩ (.int .i64 0)).setCell ⟨w.heap.size + 1, 1, none⟩ (.string x.tx)).heap.size := by simpa using hsz
    generalize ((w1.setCell ⟨w.heap.size + 1, 0, none⟩ (.int .i64 0)).setCell ⟨w.heap.size + 1, 1, none⟩ (.string x.tx)) = U at *
    have F1 := fun o => (cell_al hszU 0 o).trans F.1
    have F2 := fun o => (cell_al hszU 1 o).trans F.2
    refine bodyPost_ret (v := .agg #[.int .i64 0, .string x.tx]) (by simp [results, Tryz.results43, go_sem, F1, F2]) rfl ⟨HI.out, ?_⟩
    exact hBU.alloc hBU.size _
end Go.Proofs.YtggcgnfockpgmaaGreatDoor

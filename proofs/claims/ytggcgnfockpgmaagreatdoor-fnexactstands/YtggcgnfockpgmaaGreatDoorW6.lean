import Derived.Test.YtggcgnfockpgmaaGreatDoorW2
namespace Go.Proofs.YtggcgnfockpgmaaGreatDoor.T
open Go.RowKit
set_option maxHeartbeats 1000000 in
theorem c19s (a : Option Addr) (cap : Nat) (rs : List F2) (w : World) (hl : rs.length ≤ 1048576) (hat : FilesAt w a rs) :
    Calls Tryz.prog 19 #[.slice a rs.length cap] w fun e w' => (e = .returned (.slice (some ⟨w.heap.size, 0, none⟩) rs.length rs.length) ∧ FilesAt w' (some ⟨w.heap.size, 0, none⟩) rs ∧ w.heap.size + 1 ≤ w'.heap.size ∧ ∀ j, w'.frozen? ⟨w.heap.size, j, none⟩ = false) ∧ Below w.heap.size w w' := by
  obtain ⟨b, off, hc⟩ := files_some hat
  have HC : Hid (rs = [] ∨ (a = some ⟨b, off, none⟩ ∧ b < w.heap.size ∧ ∀ i, i < rs.length → w.cell? ⟨b, off + i * 2, none⟩ = some (.string (rs.getD i f2z).nm) ∧ w.cell? ⟨b, off + i * 2 + 1, none⟩ = some (.string (rs.getD i f2z).tx))) := hc
  clear hc hat
  obtain ⟨i0, hi, hz0, hz1, hz2⟩ := info_parts info75
  have hmk : ∀ u : World, (Instr.makeSlice 29 (.int .i64 (rs.length : Int)) (.int .i64 (rs.length : Int))).run Tryz.prog u =
      .ok (.slice (some ⟨u.heap.size, 0, none⟩) rs.length rs.length) (u.alloc (.cells (madeCells #[.string ⟨#[]⟩, .string ⟨#[]⟩] (rs.length * 2)) 75)) := fun u => by
    have h := run_make (P := Tryz.prog) u 29 75 i0 (.agg #[.string ⟨#[]⟩, .string ⟨#[]⟩]) Tryz.underlying29 hi hz0 .i64 .i64 (rs.length : Int) (rs.length : Int) (by omega) (Int.le_refl _) (by rw [hz2]; omega) (by omega)
    simpa [hz1, Value.cells] using h
  go_enter Tryz.func19, Tryz.ntmps19
  go_wp2_with fail
  go_loopw [4] (fun i wr => ∃ (k : Nat), k ≤ rs.length ∧ i = .int .i64 k ∧ Below w.heap.size w wr ∧ w.heap.size + 1 ≤ wr.heap.size ∧ (∀ j, wr.frozen? ⟨w.heap.size, j, none⟩ = false) ∧ Hid (∀ j, j < k → wr.cell? ⟨w.heap.size, j * 2, none⟩ = some (.string (rs.getD j f2z).nm) ∧ wr.cell? ⟨w.heap.size, j * 2 + 1, none⟩ = some (.string (rs.getD j f2z).tx)) ∧ Hid (∀ j, k ≤ j → j < rs.length → wr.cell? ⟨w.heap.size, j * 2, none⟩ = some (.string ⟨#[]⟩) ∧ wr.cell? ⟨w.heap.size, j * 2 + 1, none⟩ = some (.string ⟨#[]⟩))) (fun i _ => rs.length - (intOf i).toNat)
  case atStart =>
    refine ⟨0, Nat.zero_le _, rfl, (Below.refl _ _).alloc (Nat.le_refl _) _, by simp, fun j => by simp, fun j h => absurd h (Nat.not_lt_zero _), fun j _ h => ?_⟩
    have e0 := made2 rs.length (j * 2) (by omega)
    have e1 := made2 rs.length (j * 2 + 1) (by omega)
    rw [show j * 2 % 2 = 0 by omega] at e0
    rw [show (j * 2 + 1) % 2 = 1 by omega] at e1
    simp [e0, e1]
  case round =>
    obtain ⟨k, hk, rfl, hb, hz, hfz, hdone, hrest⟩ := hrel
    by_cases hlt : k < rs.length
    · rcases HC.out with hss | ⟨ha, hbw, hcell⟩
      · rw [hss] at hlt; exact absurd hlt (Nat.not_lt_zero _)
      subst ha
      have g0 := (hb.cell (p := ⟨b, off + k * 2, none⟩) hbw).trans (hcell k hlt).1
      have g1 := (hb.cell (p := ⟨b, off + k * 2 + 1, none⟩) hbw).trans (hcell k hlt).2
      obtain ⟨q0, q1⟩ := hrest.out k (Nat.le_refl _) hlt
      generalize hx : rs.getD k f2z = x at *
      have HX : Hid (rs.getD k f2z = x) := hx
      clear hx hcell
      go_wp2_with fail
      refine (c35b x wr).mono ?_
      rintro e w1 ⟨rfl, hb1⟩
      have hB1 : Below w.heap.size w w1 := hb.trans (hb1.mono hb.size)
      have p0 := (hb1.cell (p := ⟨w.heap.size, k * 2, none⟩) (by simp; omega)).trans q0
      have p1 := (hb1.cell (p := ⟨w.heap.size, k * 2 + 1, none⟩) (by simp; omega)).trans q1
      have f0 := (hb1.frozen (p := ⟨w.heap.size, k * 2, none⟩) (by simp; omega)).trans (hfz _)
      have f1 := (hb1.frozen (p := ⟨w.heap.size, k * 2 + 1, none⟩) (by simp; omega)).trans (hfz _)
      have hold : ∀ j, w1.cell? ⟨w.heap.size, j, none⟩ = wr.cell? ⟨w.heap.size, j, none⟩ := fun j => hb1.cell (by simp; omega)
      have HO : Hid (∀ j, w1.cell? ⟨w.heap.size, j, none⟩ = wr.cell? ⟨w.heap.size, j, none⟩) := hold
      have hoz : w.heap.size + 1 ≤ w1.heap.size := Nat.le_trans hz hb1.size
      have HFZ : Hid (∀ j, w1.frozen? ⟨w.heap.size, j, none⟩ = false) := fun j => (hb1.frozen (p := ⟨w.heap.size, j, none⟩) (by simp; omega)).trans (hfz j)
      clear hold
      go_wp2
      go_roundw
      case rel =>
        refine ⟨k + 1, by omega, by go_num, (hB1.setCell (by simp) _).setCell (by simp) _, by simpa using hoz, fun j => by rw [← HFZ.out j]; simp, fun j hj => ?_, fun j h1 h2 => ?_⟩
        · by_cases e : j = k
          · subst e
            rw [HX.out]
            exact set2_at w1 w.heap.size (j * 2) _ _ _ _ p0 p1
          · have hd := hdone.out j (by omega)
            rw [set2_other _ _ _ _ _ _ (by omega) (by omega), set2_other _ _ _ _ _ _ (by omega) (by omega), HO.out, HO.out]
            exact hd
        · have hd := hrest.out j (by omega) h2
          rw [set2_other _ _ _ _ _ _ (by omega) (by omega), set2_other _ _ _ _ _ _ (by omega) (by omega), HO.out, HO.out]
          exact hd
      case measure => simp [intOf]; omega
    · have hdone' : Hid (FilesAt wr (some ⟨w.heap.size, 0, none⟩) rs) := .inr ⟨w.heap.size, 0, rfl, by omega, fun i hi => by simp only [Nat.zero_add]; exact hdone.out i (by omega)⟩
      go_wp2
      go_ret
      exact ⟨⟨rfl, hdone'.out, hz, hfz⟩, hb⟩

theorem open_of_files {w : World} {B : Nat} {fs : List F2} (h : FilesAt w (some ⟨B, 0, none⟩) fs) (hz : B < w.heap.size) (hf : ∀ j, w.frozen? ⟨B, j, none⟩ = false) : Open2 w B fs.length := by
  refine ⟨hz, fun j hj => ?_, hf⟩
  rcases h with h | ⟨b, off, h1, h2, h3⟩
  · rw [h] at hj; simp at hj
  · obtain ⟨rfl, rfl⟩ : B = b ∧ 0 = off := by injection h1 with h1; injection h1 with e1 e2; exact ⟨e1, e2⟩
    have := h3 (j / 2) (by omega)
    simp only [Nat.zero_add] at this
    rcases Nat.mod_two_eq_zero_or_one j with h | h
    · rw [show j = j / 2 * 2 by omega]; exact ⟨_, this.1⟩
    · rw [show j = j / 2 * 2 + 1 by omega]; exact ⟨_, this.2⟩
theorem ne_of_lt' {a b : ByteArray} (h : lt a b = true) : a ≠ b := fun e => by rw [e, lt_irrefl'] at h; cases h
theorem str_ne {x y : ByteArray} (h : x ≠ y) : (x.toList == y.toList) = false := by
  rw [beq_eq_false_iff_ne]
  intro e
  rw [ByteArray.toList_eq, ByteArray.toList_eq] at e
  exact h (ByteArray.ext (Array.toList_inj.1 e))
theorem getD_mem {fs : List F2} {x : F2} (h : x ∈ fs) : ∃ i, i < fs.length ∧ fs.getD i f2z = x := by
  obtain ⟨i, hi, rfl⟩ := List.getElem_of_mem h
  exact ⟨i, hi, by simp [List.getD, List.getElem?_eq_getElem hi]⟩
set_option maxHeartbeats 400000 in
theorem c7s (a : Option Addr) (cap : Nat) (is : List F2) (w : World) (hl : is.length ≤ 1048576) (hat : FilesAt w a is) :
    Calls Tryz.prog 7 #[.agg #[.slice a is.length cap]] w fun e w' => (∃ B, w.heap.size ≤ B ∧ e = .returned (.agg #[.slice (some ⟨B, 0, none⟩) is.length is.length]) ∧ FilesAt w' (some ⟨B, 0, none⟩) is ∧ Open2 w' B is.length) ∧ Below w.heap.size w w' := by
  have HA : Hid (FilesAt w a is) := hat
  clear hat
  go_enter Tryz.func7, Tryz.ntmps7
  go_wp2_with fail
  refine (c19s a cap is _ hl (files_below HA.out ((((Below.refl _ _).alloc (Nat.le_refl _) _).alloc (by simp) _).alloc (by simp; omega) _))).mono ?_
  rintro e w1 ⟨⟨rfl, h1, hz1, hf1⟩, hb1⟩
  have hsz : (((w.alloc (.cells #[.slice a is.length cap] 24)).alloc (.cells #[.slice none 0 0] 31)).alloc (.cells #[.slice none 0 0] 31)).heap.size = w.heap.size + 3 := by simp
  have H1 : Hid (FilesAt w1 (some ⟨w.heap.size + 3, 0, none⟩) is) := by rw [← hsz]; exact h1
  have hB : Below w.heap.size w w1 := ((((Below.refl _ _).alloc (Nat.le_refl _) _).alloc (by simp) _).alloc (by simp; omega) _).trans (hb1.mono (by simp; omega))
  have e1 : w1.cell? ⟨w.heap.size + 1, 0, none⟩ = some (.slice none 0 0) := (hb1.cell (p := ⟨w.heap.size + 1, 0, none⟩) (by simp)).trans (by simp [go_sem])
  have e2 : w1.cell? ⟨w.heap.size + 1 + 1, 0, none⟩ = some (.slice none 0 0) := (hb1.cell (p := ⟨w.heap.size + 1 + 1, 0, none⟩) (by simp)).trans (by simp [go_sem])
  have f1 : w1.frozen? ⟨w.heap.size + 1, 0, none⟩ = false := (hb1.frozen (p := ⟨w.heap.size + 1, 0, none⟩) (by simp)).trans (by simp [go_sem])
  have f2 : w1.frozen? ⟨w.heap.size + 1 + 1, 0, none⟩ = false := (hb1.frozen (p := ⟨w.heap.size + 1 + 1, 0, none⟩) (by simp)).trans (by simp [go_sem])
  have hz1' : w.heap.size + 3 + 1 ≤ w1.heap.size := by rw [← hsz]; exact hz1
  have HF1 : Hid (∀ j, w1.frozen? ⟨w.heap.size + 3, j, none⟩ = false) := by rw [← hsz]; exact hf1
  clear h1 hsz hz1 hf1
  go_wp2
  refine bodyPost_ret (v := .agg #[.slice (some ⟨w.heap.size + 3, 0, none⟩) is.length is.length]) (by simp [results, Tryz.results7, go_sem, e1]) rfl ⟨⟨w.heap.size + 3, by omega, rfl, ?_, ?_⟩, ?_⟩
  · exact files_setCell (files_setCell H1.out (by simp)) (by simp)
  · refine open_of_files (files_setCell (files_setCell H1.out (by simp)) (by simp)) (by simp; omega) (fun j => ?_)
    have := HF1.out j
    simpa using this
  · exact (hB.setCell (by simp; omega) _).setCell (by simp) _


end Go.Proofs.YtggcgnfockpgmaaGreatDoor.T

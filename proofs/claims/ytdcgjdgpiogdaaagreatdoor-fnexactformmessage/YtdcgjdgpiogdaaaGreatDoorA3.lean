import Derived.Test.YtdcgjdgpiogdaaaGreatDoorA1
namespace Go.Proofs.YtdcgjdgpiogdaaaGreatDoor
open Go.RowKit

set_option maxHeartbeats 400000 in
theorem c113 (s : ByteArray) (n : Nat) (w : World) (hn : n ≤ 8) (hs : s.size ≤ 1048700) :
    Calls Tryz.prog 113 #[.string s, .int .i64 n] w fun e w' => (∃ X, X = hsum s.data.toList ∧ e = .returned (.agg #[.int .u8 (kc X n 0), .int .u8 (kc X n 1), .int .u8 (kc X n 2), .int .u8 (kc X n 3), .int .u8 (kc X n 4), .int .u8 (kc X n 5), .int .u8 (kc X n 6), .int .u8 (kc X n 7)])) ∧ Below w.heap.size w w' := by
  go_enter Tryz.func113, Tryz.ntmps113
  go_wp2_with fail
  refine (c130 _ _ hs).mono ?_
  rintro e w' ⟨rfl, rfl⟩
  have hx := hsum_range s.data.toList
  generalize hX : hsum s.data.toList = X at *
  have HX : Hid (X = hsum s.data.toList) := hX.symm
  clear hX
  go_wp2_with fail
  go_loopw [6, 11] (fun a i wr => ∃ k : Nat, k ≤ n ∧ i = .int .i64 k ∧ a = .int .u64 (vAt X k) ∧ Below w.heap.size w wr ∧ w.heap.size + 2 ≤ wr.heap.size ∧ (∀ j, j < 8 → wr.cell? ⟨w.heap.size + 1, j, none⟩ = some (.int .u8 (kc X k j))) ∧ (∀ j, wr.frozen? ⟨w.heap.size + 1, j, none⟩ = false) ∧ (∀ j, j < 8 → wr.cell? ⟨w.heap.size, j, none⟩ = some (.int .u8 0)) ∧ (∀ j, wr.frozen? ⟨w.heap.size, j, none⟩ = false)) (fun _ i _ => n - (intOf i).toNat)
  case atStart =>
    refine ⟨0, Nat.zero_le _, rfl, rfl, ((Below.refl _ _).alloc (Nat.le_refl _) _).alloc (by simp) _, by simp, ?_, ?_, ?_, ?_⟩
    · intro j hj
      rw [kc_zero X j hj]
      rcases j with _ | _ | _ | _ | _ | _ | _ | _ | j <;> first | omega | simp
    · intro j; simp
    · intro j hj
      rcases j with _ | _ | _ | _ | _ | _ | _ | _ | j <;> first | omega | simp
    · intro j; simp
  case round =>
    obtain ⟨k, hk, rfl, rfl, hb, hz, h1, f1, h0, f0⟩ := hrel
    have hx := vAt_range X hx.1 hx.2 k
    by_cases hlt : k < n
    · have g1 := h1 (7 - k) (by omega)
      have g2 := f1 (7 - k)
      go_wp2
      go_roundw
      case rel =>
        refine ⟨k + 1, by omega, by go_num, rfl, hb.setCell (by simp) _, by simpa using hz, ?_, ?_, ?_, ?_⟩
        · intro j hj
          by_cases e : j = 7 - k
          · subst e
            rw [kc_same X k (by omega)]
            exact World.cell?_setCell_same _ _ _ g1
          · rw [kc_other X k j (by omega) hj e, ← h1 j hj]
            exact World.cell?_setCell_other _ _ _ _ (by intro h; injection h with h1 h2; exact e h2.symm)
        · intro j; rw [← f1 j]; simp
        · intro j hj; rw [← h0 j hj]; exact World.cell?_setCell_other _ _ _ _ (by simp)
        · intro j; rw [← f0 j]; simp
      case measure => simp [intOf]; omega
    · have a0 := h1 0 (by omega)
      have a1 := h1 1 (by omega)
      have a2 := h1 2 (by omega)
      have a3 := h1 3 (by omega)
      have a4 := h1 4 (by omega)
      have a5 := h1 5 (by omega)
      have a6 := h1 6 (by omega)
      have a7 := h1 7 (by omega)
      have b0 := h0 0 (by omega)
      have b1 := h0 1 (by omega)
      have b2 := h0 2 (by omega)
      have b3 := h0 3 (by omega)
      have b4 := h0 4 (by omega)
      have b5 := h0 5 (by omega)
      have b6 := h0 6 (by omega)
      have b7 := h0 7 (by omega)
      clear h1 h0
      go_wp2
      obtain rfl : k = n := by omega
      refine bodyPost_ret (v := .agg #[.int .u8 (kc X k 0), .int .u8 (kc X k 1), .int .u8 (kc X k 2), .int .u8 (kc X k 3), .int .u8 (kc X k 4), .int .u8 (kc X k 5), .int .u8 (kc X k 6), .int .u8 (kc X k 7)]) (by simp [results, Tryz.results113, go_sem, b0, b1, b2, b3, b4, b5, b6, b7]) rfl ⟨⟨X, HX.out, rfl⟩, ?_⟩
      have st : ∀ (u : World) (j : Nat) (x : Value), Below w.heap.size w u → Below w.heap.size w (u.setCell ⟨w.heap.size, j, none⟩ x) := fun u j x h => h.setCell (Nat.le_refl _) x
      iterate 8 refine st _ _ _ ?_
      exact hb

end Go.Proofs.YtdcgjdgpiogdaaaGreatDoor

import Derived.Test.YtggcgnfockpgmaaGreatDoorW2
namespace Go.Proofs.YtggcgnfockpgmaaGreatDoor.T
open Go.RowKit
set_option maxHeartbeats 1000000 in
theorem c34 (a : Option Addr) (cap : Nat) (fs : List F2) (nm : ByteArray) (w : World) (hl : fs.length ≤ 1048576) (hat : FilesAt w a fs) :
    Calls Tryz.prog 34 #[.agg #[.slice a fs.length cap], .string nm] w fun e w' => (∃ r : Int, e = .returned (.int .i64 r) ∧ ((r = -1 ∧ ∀ i, i < fs.length → (fs.getD i f2z).nm ≠ nm) ∨ ∃ i : Nat, r = i ∧ i < fs.length ∧ (fs.getD i f2z).nm = nm)) ∧ Below w.heap.size w w' := by
  obtain ⟨b, off, hc⟩ := files_some hat
  have HC : Hid (fs = [] ∨ (a = some ⟨b, off, none⟩ ∧ b < w.heap.size ∧ ∀ i, i < fs.length → w.cell? ⟨b, off + i * 2, none⟩ = some (.string (fs.getD i f2z).nm) ∧ w.cell? ⟨b, off + i * 2 + 1, none⟩ = some (.string (fs.getD i f2z).tx))) := hc
  have HB : Below w.heap.size w (w.alloc (.cells #[.slice a fs.length cap] 31)) := (Below.refl _ _).alloc (Nat.le_refl _) _
  clear hc hat
  go_enter Tryz.func34, Tryz.ntmps34
  go_wp2_with fail
  go_loop [5] (fun i => ∃ k : Nat, k ≤ fs.length ∧ i = .int .i64 k ∧ Hid (∀ j, j < k → (fs.getD j f2z).nm ≠ nm)) (fun i => fs.length - (intOf i).toNat)
  case atStart => exact ⟨0, Nat.zero_le _, rfl, fun j h => absurd h (Nat.not_lt_zero _)⟩
  case round =>
    obtain ⟨k, hk, rfl, hno⟩ := hrel
    by_cases hlt : k < fs.length
    · rcases HC.out with hss | ⟨ha, hbw, hcell⟩
      · rw [hss] at hlt; exact absurd hlt (Nat.not_lt_zero _)
      subst ha
      have g0 := (HB.cell (p := ⟨b, off + k * 2, none⟩) hbw).trans (hcell k hlt).1
      have HX : Hid (∃ x, x = fs.getD k f2z) := ⟨_, rfl⟩
      obtain ⟨x, hx⟩ := HX.out
      rw [← hx] at g0
      have HXE : Hid (x = fs.getD k f2z) := hx
      clear hcell hx HX
      cases hq : (x.nm.toList == nm.toList)
      · have hno' : Hid (∀ j, j < k + 1 → (fs.getD j f2z).nm ≠ nm) := fun j hj => by
          rcases Nat.lt_or_ge j k with h | h
          · exact hno.out j h
          · obtain rfl : j = k := by omega
            rw [← HXE.out]
            intro e
            rw [e] at hq
            simp at hq
        go_wp2
        go_round
        case rel => exact ⟨k + 1, by omega, by go_num, hno'⟩
        case measure => simp [intOf]; omega
      · have he : x.nm = nm := by
          have := beq_iff_eq.1 hq
          rw [ByteArray.toList_eq, ByteArray.toList_eq] at this
          exact ByteArray.ext (Array.toList_inj.1 this)
        have HR : Hid (∃ i : Nat, (k : Int) = i ∧ i < fs.length ∧ (fs.getD i f2z).nm = nm) := ⟨k, rfl, hlt, by rw [← HXE.out]; exact he⟩
        clear he
        go_wp2
        go_ret
        exact ⟨⟨_, rfl, .inr HR.out⟩, HB⟩
    · go_wp2
      go_ret
      exact ⟨⟨-1, rfl, .inl ⟨rfl, fun i hi => hno.out i (by omega)⟩⟩, HB⟩

end Go.Proofs.YtggcgnfockpgmaaGreatDoor.T

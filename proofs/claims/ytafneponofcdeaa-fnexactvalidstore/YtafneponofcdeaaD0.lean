import Derived.Test.YtafneponofcdeaaC4
import Derived.Deep.QuietTactic
import Derived.BigQuiet
import Derived.WalkSpells
import Derived.WalkLawsBesides
namespace Go.Proofs.Ytafneponofcdeaa
open Go.RowKit
/-- A slice's cells hold these texts. -/
def StrsAt (w : World) (a : Option Addr) (ss : List ByteArray) : Prop :=
  ss = [] ∨ ∃ b off, a = some ⟨b, off, none⟩ ∧ b < w.heap.size ∧ ∀ i, i < ss.length → w.cell? ⟨b, off + i, none⟩ = some (.string (ss.getD i ByteArray.empty))
theorem info9 : (Try.prog.info? 9).map (fun i => (i.zero, i.size, i.bytes)) = some (some (.string ⟨#[]⟩), 1, 16) := by kernel_rfl

theorem strs_some {w : World} {a : Option Addr} {ss : List ByteArray} (h : StrsAt w a ss) : ∃ b off, (ss = [] ∨ (a = some ⟨b, off, none⟩ ∧ b < w.heap.size ∧ ∀ i, i < ss.length → w.cell? ⟨b, off + i, none⟩ = some (.string (ss.getD i ByteArray.empty)))) := by
  rcases h with h | ⟨b, off, h⟩
  · exact ⟨0, 0, .inl h⟩
  · exact ⟨b, off, .inr h⟩
theorem strs_below {w w' : World} {a : Option Addr} {ss : List ByteArray} (h : StrsAt w a ss) (hb : Below w.heap.size w w') : StrsAt w' a ss := by
  rcases h with h | ⟨b, off, h1, h2, h3⟩
  · exact .inl h
  · exact .inr ⟨b, off, h1, Nat.lt_of_lt_of_le h2 hb.size, fun i hi => by rw [hb.cell (by exact h2)]; exact h3 i hi⟩
theorem getD_small {ss : List ByteArray} {B : Nat} (h : ∀ i, i < ss.length → (ss.getD i ByteArray.empty).size ≤ B) (i : Nat) : (ss.getD i ByteArray.empty).size ≤ B := by
  rcases Nat.lt_or_ge i ss.length with h' | h'
  · exact h i h'
  · have e : ss.getD i ByteArray.empty = ByteArray.empty := by simp [List.getD, List.getElem?_eq_none h']
    rw [e]; exact Nat.zero_le _

set_option maxHeartbeats 1000000 in
theorem c17 (a : Option Addr) (cap : Nat) (ss : List ByteArray) (w : World) (hs : ∀ i, (ss.getD i ByteArray.empty).size ≤ 9223372036854775807) (hl : ss.length ≤ 9223372036854775807) (hat : StrsAt w a ss) :
    Calls Try.prog 17 #[.slice a ss.length cap, .int .i64 1048576] w fun e w' => (∃ r : Int, e = .returned (.int .i64 r) ∧ (0 ≤ r → ss.length ≤ 1048576 ∧ (∀ i, (ss.getD i ByteArray.empty).size ≤ 1048576) ∧ r ≤ 1048576)) ∧ w' = w := by
  obtain ⟨b, off, hc⟩ := strs_some hat
  have HC : Hid (ss = [] ∨ (a = some ⟨b, off, none⟩ ∧ b < w.heap.size ∧ ∀ i, i < ss.length → w.cell? ⟨b, off + i, none⟩ = some (.string (ss.getD i ByteArray.empty)))) := hc
  clear hc hat
  by_cases hbig : 1048576 < ss.length
  · go_enter Try.func17, Try.ntmps17
    go_wp2
    go_ret
    exact ⟨⟨-1, rfl, fun h => by omega⟩, rfl⟩
  · go_enter Try.func17, Try.ntmps17
    go_wp2_with fail
    go_loop [1, 5] (fun l i => ∃ (k : Nat) (r : Int), k ≤ ss.length ∧ i = .int .i64 k ∧ l = .int .i64 r ∧ 0 ≤ r ∧ r ≤ 1048576 ∧ Hid (∀ i, i < k → (ss.getD i ByteArray.empty).size ≤ 1048576)) (fun _ i => ss.length - (intOf i).toNat)
    case atStart => exact ⟨0, _, Nat.zero_le _, rfl, rfl, by omega, by omega, fun i h => absurd h (Nat.not_lt_zero _)⟩
    case round =>
      obtain ⟨k, r, hk, rfl, rfl, hr0, hr1, hsm⟩ := hrel
      by_cases hlt : k < ss.length
      · rcases HC.out with hss | ⟨ha, hbw, hcell⟩
        · rw [hss] at hlt; exact absurd hlt (Nat.not_lt_zero _)
        subst ha
        have g0 := hcell k hlt
        have hxs := hs k
        generalize hx : ss.getD k ByteArray.empty = x at *
        have HX : Hid (ss.getD k ByteArray.empty = x) := hx
        clear hx hcell
        by_cases hneg : r < x.size
        · go_wp2
          go_ret
          exact ⟨⟨-1, rfl, fun h => by omega⟩, rfl⟩
        · have hsm' : Hid (∀ i, i < k + 1 → (ss.getD i ByteArray.empty).size ≤ 1048576) := by
            intro i h
            rcases Nat.lt_or_ge i k with h1 | h1
            · exact hsm.out i h1
            · obtain rfl : i = k := by omega
              rw [HX.out]; omega
          go_wp2
          go_round
          case rel => exact ⟨k + 1, _, by omega, by go_num, rfl, by omega, by omega, hsm'⟩
          case measure => simp [intOf]; omega
      · have hsm' : Hid (∀ i, (ss.getD i ByteArray.empty).size ≤ 1048576) := getD_small (fun i h => hsm.out i (by omega))
        go_wp2
        go_ret
        exact ⟨⟨r, rfl, fun _ => ⟨by omega, hsm'.out, hr1⟩⟩, rfl⟩

set_option maxHeartbeats 1000000 in
theorem c22 (a : Option Addr) (cap : Nat) (ss : List ByteArray) (w : World) (hl : ss.length ≤ 1048576) (hat : StrsAt w a ss) :
    Calls Try.prog 22 #[.slice a ss.length cap] w fun e w' => (e = .returned (.slice (some ⟨w.heap.size, 0, none⟩) ss.length ss.length) ∧ StrsAt w' (some ⟨w.heap.size, 0, none⟩) ss) ∧ Below w.heap.size w w' := by
  obtain ⟨b, off, hc⟩ := strs_some hat
  have HC : Hid (ss = [] ∨ (a = some ⟨b, off, none⟩ ∧ b < w.heap.size ∧ ∀ i, i < ss.length → w.cell? ⟨b, off + i, none⟩ = some (.string (ss.getD i ByteArray.empty)))) := hc
  clear hc hat
  obtain ⟨i0, hi, hz0, hz1, hz2⟩ := info_parts info9
  have hmk : ∀ u : World, (Instr.makeSlice 28 (.int .i64 (ss.length : Int)) (.int .i64 (ss.length : Int))).run Try.prog u =
      .ok (.slice (some ⟨u.heap.size, 0, none⟩) ss.length ss.length) (u.alloc (.cells (madeCells #[.string ⟨#[]⟩] ss.length) 9)) := fun u => by
    have h := run_make (P := Try.prog) u 28 9 i0 (.string ⟨#[]⟩) Try.underlying28 hi hz0 .i64 .i64 (ss.length : Int) (ss.length : Int) (by omega) (Int.le_refl _) (by rw [hz2]; omega) (by omega)
    simpa [hz1, Value.cells] using h
  go_enter Try.func22, Try.ntmps22
  go_wp2_with fail
  go_loopw [4] (fun i wr => ∃ (k : Nat), k ≤ ss.length ∧ i = .int .i64 k ∧ Below w.heap.size w wr ∧ w.heap.size + 1 ≤ wr.heap.size ∧ (∀ j, wr.frozen? ⟨w.heap.size, j, none⟩ = false) ∧ Hid (∀ j, j < k → wr.cell? ⟨w.heap.size, j, none⟩ = some (.string (ss.getD j ByteArray.empty))) ∧ Hid (∀ j, k ≤ j → j < ss.length → wr.cell? ⟨w.heap.size, j, none⟩ = some (.string ⟨#[]⟩))) (fun i _ => ss.length - (intOf i).toNat)
  case atStart =>
    refine ⟨0, Nat.zero_le _, rfl, (Below.refl _ _).alloc (Nat.le_refl _) _, by simp, fun j => by simp, fun j h => absurd h (Nat.not_lt_zero _), fun j _ h => ?_⟩
    have e : (madeCells #[Value.string ⟨#[]⟩] ss.length)[j]? = some (.string ⟨#[]⟩) := by
      rw [← Array.getElem?_toList, toList_madeCells_one]
      simp [h]
    simp [e]
  case round =>
    obtain ⟨k, hk, rfl, hb, hz, hfz, hdone, hrest⟩ := hrel
    by_cases hlt : k < ss.length
    · rcases HC.out with hss | ⟨ha, hbw, hcell⟩
      · rw [hss] at hlt; exact absurd hlt (Nat.not_lt_zero _)
      subst ha
      have g0 : wr.cell? ⟨b, off + k, none⟩ = some (.string (ss.getD k ByteArray.empty)) := (hb.cell (by exact hbw)).trans (hcell k hlt)
      have g1 := hrest.out k (Nat.le_refl _) hlt
      have g2 := hfz k
      generalize hx : ss.getD k ByteArray.empty = x at *
      have HX : Hid (ss.getD k ByteArray.empty = x) := hx
      clear hx hcell
      go_wp2
      go_roundw
      case rel =>
        refine ⟨k + 1, by omega, by go_num, hb.setCell (by simp) _, by simpa using hz, fun j => by rw [← hfz j]; simp, fun j hj => ?_, fun j h1 h2 => ?_⟩
        · by_cases e : j = k
          · subst e
            rw [HX.out]
            exact World.cell?_setCell_same _ _ _ g1
          · rw [← hdone.out j (by omega)]
            exact World.cell?_setCell_other _ _ _ _ (by intro h; injection h with h1 h2; exact e h2.symm)
        · rw [← hrest.out j (by omega) h2]
          exact World.cell?_setCell_other _ _ _ _ (by intro h; injection h with h3 h4; omega)
      case measure => simp [intOf]; omega
    · have hdone' : Hid (StrsAt wr (some ⟨w.heap.size, 0, none⟩) ss) := .inr ⟨w.heap.size, 0, rfl, by omega, fun i hi => by rw [Nat.zero_add]; exact hdone.out i (by omega)⟩
      go_wp2
      go_ret
      exact ⟨⟨rfl, hdone'.out⟩, hb⟩

set_option maxHeartbeats 1000000 in
theorem c27 (a a' : Option Addr) (cap cap' : Nat) (ss : List ByteArray) (w : World) (hl : ss.length ≤ 1048576) (hat : StrsAt w a ss) (hat' : StrsAt w a' ss) :
    Calls Try.prog 27 #[.slice a ss.length cap, .slice a' ss.length cap'] w fun e w' => e = .returned (.bool true) ∧ Below w.heap.size w w' := by
  obtain ⟨b, off, hc⟩ := strs_some hat
  have HC : Hid (ss = [] ∨ (a = some ⟨b, off, none⟩ ∧ b < w.heap.size ∧ ∀ i, i < ss.length → w.cell? ⟨b, off + i, none⟩ = some (.string (ss.getD i ByteArray.empty)))) := hc
  clear hc hat
  obtain ⟨b', off', hc'⟩ := strs_some hat'
  have HC' : Hid (ss = [] ∨ (a' = some ⟨b', off', none⟩ ∧ b' < w.heap.size ∧ ∀ i, i < ss.length → w.cell? ⟨b', off' + i, none⟩ = some (.string (ss.getD i ByteArray.empty)))) := hc'
  clear hc' hat'
  go_enter Try.func27, Try.ntmps27
  go_wp2_with fail
  go_loopw [5] (fun i wr => ∃ (k nq : Nat), k ≤ ss.length ∧ i = .int .i64 k ∧ wr = w.drewN nq) (fun i _ => ss.length - (intOf i).toNat)
  case atStart => exact ⟨0, 0, Nat.zero_le _, rfl, rfl⟩
  case round =>
    obtain ⟨k, nq, hk, rfl, rfl⟩ := hrel
    by_cases hlt : k < ss.length
    · rcases HC.out with hss | ⟨ha, hbw, hcell⟩
      · rw [hss] at hlt; exact absurd hlt (Nat.not_lt_zero _)
      rcases HC'.out with hss | ⟨ha', hbw', hcell'⟩
      · rw [hss] at hlt; exact absurd hlt (Nat.not_lt_zero _)
      subst ha
      subst ha'
      have g0 := hcell k hlt
      have g1 := hcell' k hlt
      generalize ss.getD k ByteArray.empty = x at *
      clear hcell hcell'
      go_wp2_with fail
      go_quiet (fail)
      go_wp2
      go_roundw
      case rel => exact ⟨k + 1, _, by omega, by go_num, rfl⟩
      case measure => simp [intOf]; omega
    · go_wp2
      go_ret
      exact ⟨rfl, below_drewN _⟩
end Go.Proofs.Ytafneponofcdeaa

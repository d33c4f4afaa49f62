import Derived.Test.YtggcgnfockpgmaaGreatDoorW2
import Derived.Test.YtggcgnfockpgmaaGreatDoorP1
namespace Go.Proofs.YtggcgnfockpgmaaGreatDoor
open Go.RowKit
open T (lt cmpB cmpB_neg cmpB_zero lt_trans' lt_irrefl' c58)

set_option maxHeartbeats 400000 in
theorem c57 (x : M3) (b : ByteArray) (w : World) :
    Calls Tryz.prog 57 #[.agg #[.string x.nm, .string x.tl, .string x.ar], .string b] w fun e w' => e = .returned (.int .i64 (cmpB x.nm b)) ∧ Below w.heap.size w w' := by
  go_enter Tryz.func57, Tryz.ntmps57
  go_wp2_with fail
  refine (c58 x.nm b _).mono ?_
  rintro e w1 ⟨rfl, hw⟩
  obtain rfl := hw.symm
  go_wp2
  go_ret
  exact ⟨rfl, (Below.refl _ _).alloc (Nat.le_refl _) _⟩
/-- Where a name stands, or would stand. -/
structure PlaceM (ms : List M3) (t : ByteArray) (p : Nat) (f : Bool) : Prop where
  le : p ≤ ms.length
  less : ∀ j, j < p → lt (ms.getD j m3z).nm t = true
  more : ∀ j, p ≤ j → j < ms.length → lt (ms.getD j m3z).nm t = false
  here : f = true ↔ p < ms.length ∧ (ms.getD p m3z).nm = t
def AscM (ms : List M3) : Prop := ∀ i j, i < j → j < ms.length → lt (ms.getD i m3z).nm (ms.getD j m3z).nm = true
def HalfM (ms : List M3) (t : ByteArray) (i j : Nat) : Prop := (∀ q, q < i → lt (ms.getD q m3z).nm t = true) ∧ ∀ q, j ≤ q → q < ms.length → lt (ms.getD q m3z).nm t = false
theorem halfM_up {ms : List M3} {t : ByteArray} {i j h : Nat} (hm : AscM ms) (hh : HalfM ms t i j) (hl : h < ms.length) (hx : lt (ms.getD h m3z).nm t = true) : HalfM ms t (h + 1) j := by
  refine ⟨fun q hq => ?_, hh.2⟩
  rcases Nat.lt_or_ge q h with h1 | h1
  · exact lt_trans' (hm q h h1 hl) hx
  · obtain rfl : q = h := by omega
    exact hx
theorem halfM_down {ms : List M3} {t : ByteArray} {i j h : Nat} (hm : AscM ms) (hh : HalfM ms t i j) (hx : lt (ms.getD h m3z).nm t = false) : HalfM ms t i h := by
  refine ⟨hh.1, fun q hq hl => ?_⟩
  rcases Nat.lt_or_ge h q with h1 | h1
  · cases hc : lt (ms.getD q m3z).nm t
    · rfl
    · rw [lt_trans' (hm h q h1 hl) hc] at hx; cases hx
  · obtain rfl : q = h := by omega
    exact hx
set_option maxHeartbeats 1000000 in
theorem c56 (a : Option Addr) (cap : Nat) (ms : List M3) (t : ByteArray) (w : World) (hl : ms.length ≤ 300) (hat : MksAt w a ms) (hm : AscM ms) :
    Calls Tryz.prog 56 #[.slice a ms.length cap, .string t, .func (.func 57) #[] #[]] w fun e w' => (∃ p f, e = .returned (.tuple #[.int .i64 (p : Nat), .bool f]) ∧ PlaceM ms t p f) ∧ Below w.heap.size w w' := by
  obtain ⟨b, off, hc⟩ := mks_some hat
  have HC : Hid (ms = [] ∨ (a = some ⟨b, off, none⟩ ∧ b < w.heap.size ∧ ∀ i, i < ms.length → w.cell? ⟨b, off + i * 3, none⟩ = some (.string (ms.getD i m3z).nm) ∧ w.cell? ⟨b, off + i * 3 + 1, none⟩ = some (.string (ms.getD i m3z).tl) ∧ w.cell? ⟨b, off + i * 3 + 2, none⟩ = some (.string (ms.getD i m3z).ar))) := hc
  have HM : Hid (AscM ms) := hm
  clear hc hat hm
  go_enter Tryz.func56, Tryz.ntmps56
  go_wp2_with fail
  go_loopw [9, 10] (fun vi vj wr => ∃ i j : Nat, i ≤ j ∧ j ≤ ms.length ∧ vi = .int .i64 i ∧ vj = .int .i64 j ∧ Below w.heap.size w wr ∧ Hid (HalfM ms t i j)) (fun vi vj _ => (intOf vj).toNat - (intOf vi).toNat)
  case atStart => exact ⟨0, ms.length, Nat.zero_le _, Nat.le_refl _, rfl, rfl, Below.refl _ _, ⟨fun q h => absurd h (Nat.not_lt_zero _), fun q h k => by omega⟩⟩
  case round =>
    obtain ⟨i, j, hij, hj, rfl, rfl, hb, hh⟩ := hrel
    by_cases hlt : i < j
    · rcases HC.out with hss | ⟨ha, hbw, hcell⟩
      · rw [hss] at hj; simp at hj; omega
      subst ha
      have hhl : (i + j) / 2 < ms.length := by omega
      have g0 := (hb.cell (p := ⟨b, off + (i + j) / 2 * 3, none⟩) hbw).trans (hcell _ hhl).1
      have g1 := (hb.cell (p := ⟨b, off + (i + j) / 2 * 3 + 1, none⟩) hbw).trans (hcell _ hhl).2.1
      have g2 := (hb.cell (p := ⟨b, off + (i + j) / 2 * 3 + 2, none⟩) hbw).trans (hcell _ hhl).2.2
      have HU : Hid (lt (ms.getD ((i + j) / 2) m3z).nm t = true → HalfM ms t ((i + j) / 2 + 1) j) := fun hx => halfM_up HM.out hh.out hhl hx
      have HD : Hid (lt (ms.getD ((i + j) / 2) m3z).nm t = false → HalfM ms t i ((i + j) / 2)) := fun hx => halfM_down HM.out hh.out hx
      generalize ms.getD ((i + j) / 2) m3z = x at *
      clear hcell
      go_wp2_with fail
      refine (c57 x t wr).mono ?_
      rintro e w1 ⟨rfl, hb1⟩
      have hB1 : Below w.heap.size w w1 := hb.trans (hb1.mono hb.size)
      cases hx : lt x.nm t
      · have hc : ¬ cmpB x.nm t < 0 := fun h => by rw [(cmpB_neg _ _).1 h] at hx; cases hx
        have hc1 : decide (cmpB x.nm t < 0) = false := decide_eq_false hc
        have hn : Hid (HalfM ms t i ((i + j) / 2)) := HD.out hx
        clear hx hb1 HU HD
        go_wp2
        go_roundw
        case rel => exact ⟨i, (i + j) / 2, by omega, by omega, rfl, by go_num, hB1, hn⟩
        case measure => simp [intOf]; omega
      · have hc : cmpB x.nm t < 0 := (cmpB_neg _ _).2 hx
        have hn : Hid (HalfM ms t ((i + j) / 2 + 1) j) := HU.out hx
        clear hx hb1 HU HD
        go_wp2
        go_roundw
        case rel => exact ⟨(i + j) / 2 + 1, j, by omega, by omega, by go_num, rfl, hB1, hn⟩
        case measure => simp [intOf]; omega
    · obtain rfl : i = j := by omega
      by_cases hin : i < ms.length
      · rcases HC.out with hss | ⟨ha, hbw, hcell⟩
        · rw [hss] at hin; exact absurd hin (Nat.not_lt_zero _)
        subst ha
        have g0 := (hb.cell (p := ⟨b, off + i * 3, none⟩) hbw).trans (hcell i hin).1
        have g1 := (hb.cell (p := ⟨b, off + i * 3 + 1, none⟩) hbw).trans (hcell i hin).2.1
        have g2 := (hb.cell (p := ⟨b, off + i * 3 + 2, none⟩) hbw).trans (hcell i hin).2.2
        have HP : Hid (∀ f : Bool, (f = true ↔ (ms.getD i m3z).nm = t) → PlaceM ms t i f) := fun f hf => ⟨by omega, hh.out.1, hh.out.2, hf.trans ⟨fun h => ⟨hin, h⟩, fun h => h.2⟩⟩
        generalize ms.getD i m3z = x at *
        clear hcell
        go_wp2_with fail
        refine (c57 x t wr).mono ?_
        rintro e w1 ⟨rfl, hb1⟩
        have hB1 : Below w.heap.size w w1 := hb.trans (hb1.mono hb.size)
        go_wp2
        all_goals go_ret2
        all_goals exact ⟨⟨i, _, rfl, HP.out _ (by rw [← cmpB_zero]; simp)⟩, hB1⟩
      · have HP : Hid (PlaceM ms t i false) := ⟨by omega, hh.out.1, hh.out.2, by simp; omega⟩
        have hd : decide ((i : Int) < (ms.length : Int)) = false := decide_eq_false (by omega)
        go_wp2
        all_goals go_ret2
        all_goals exact ⟨⟨i, false, rfl, HP.out⟩, hb⟩
end Go.Proofs.YtggcgnfockpgmaaGreatDoor

import Derived.Test.YtejlfpolnddfdaaDoorY2
import Derived.Deep.RegionHeld3
namespace Go.Proofs.YtejlfpolnddfdaaDoor
open Go.RowKit
/-- Looks such as Keep takes. -/
def LksOk (ls : List L4) : Prop := ls.length ≤ 15 ∧ ∀ i, i < ls.length → LkOk (ls.getD i l4z)
set_option maxHeartbeats 2000000 in
theorem c39 (a : Option Addr) (cap : Nat) (ls : List L4) (w : World) (hl : ls.length ≤ 1048576) (hs : ∀ i, (ls.getD i l4z).le 1048576) (hat : LksAt w a ls) :
    Calls Tryd.prog 39 #[.slice a ls.length cap] w fun e w' => IsB (LksOk ls) e ∧ Below w.heap.size w w' := by
  obtain ⟨b, off, hc⟩ := lks_some hat
  have HC : Hid (ls = [] ∨ (a = some ⟨b, off, none⟩ ∧ b < w.heap.size ∧ ∀ i, i < ls.length → w.cell? ⟨b, off + i * 4, none⟩ = some (.bool (ls.getD i l4z).has) ∧ w.cell? ⟨b, off + i * 4 + 1, none⟩ = some (.string (ls.getD i l4z).nm) ∧ w.cell? ⟨b, off + i * 4 + 2, none⟩ = some (.int .i64 (ls.getD i l4z).cd) ∧ w.cell? ⟨b, off + i * 4 + 3, none⟩ = some (.string (ls.getD i l4z).tx))) := hc
  have HS : Hid (∀ i, (ls.getD i l4z).le 1048576) := hs
  clear hc hat hs
  by_cases hbig : 15 < ls.length
  · have HN : Hid (IsB (LksOk ls) (.returned (.bool false))) := isB_no (fun h => by have := h.1; omega)
    go_enter Tryd.func39, Tryd.ntmps39
    go_wp2
    go_ret
    exact ⟨HN.out, Below.refl _ _⟩
  · go_enter Tryd.func39, Tryd.ntmps39
    go_wp2_with fail
    go_loopw [3] (fun vi wr => ∃ k : Nat, k ≤ ls.length ∧ vi = .int .i64 k ∧ Below w.heap.size w wr ∧ Hid (∀ j, j < k → LkOk (ls.getD j l4z))) (fun vi _ => ls.length - (intOf vi).toNat)
    case atStart => exact ⟨0, Nat.zero_le _, rfl, Below.refl _ _, fun j h => absurd h (Nat.not_lt_zero _)⟩
    case round =>
      obtain ⟨k, hk, rfl, hb, hdone⟩ := hrel
      by_cases hlt : k < ls.length
      · rcases HC.out with hss | ⟨ha, hbw, hcell⟩
        · rw [hss] at hlt; exact absurd hlt (Nat.not_lt_zero _)
        subst ha
        obtain ⟨g0, g1, g2, g3⟩ := hcell k hlt
        have g0 := (hb.cell (p := ⟨b, off + k * 4, none⟩) hbw).trans g0
        have g1 := (hb.cell (p := ⟨b, off + k * 4 + 1, none⟩) hbw).trans g1
        have g2 := (hb.cell (p := ⟨b, off + k * 4 + 2, none⟩) hbw).trans g2
        have g3 := (hb.cell (p := ⟨b, off + k * 4 + 3, none⟩) hbw).trans g3
        have hxs := HS.out k
        have HN : Hid (¬ LkOk (ls.getD k l4z) → IsB (LksOk ls) (.returned (.bool false))) := fun h => isB_no fun d => h (d.2 k hlt)
        have HY : Hid (LkOk (ls.getD k l4z) → ∀ j, j < k + 1 → LkOk (ls.getD j l4z)) := fun h j hj => by
          rcases Nat.lt_or_ge j k with h1 | h1
          · exact hdone.out j h1
          · obtain rfl : j = k := by omega
            exact h
        generalize ls.getD k l4z = x at *
        clear hcell
        go_wp2_with fail
        refine (c47 x wr ⟨by have := hxs.1; omega, by have := hxs.2; omega⟩).mono ?_
        rintro e w1 ⟨⟨r, rfl, hr⟩, hb1⟩
        have hB1 : Below w.heap.size w w1 := hb.trans (hb1.mono hb.size)
        cases r
        · have hno : Hid (IsB (LksOk ls) (.returned (.bool false))) := HN.out fun h => absurd (hr.2 h) Bool.false_ne_true
          clear hr
          go_wp2
          go_ret
          exact ⟨hno.out, hB1⟩
        · have hyes : Hid (∀ j, j < k + 1 → LkOk (ls.getD j l4z)) := HY.out (hr.1 rfl)
          clear hr
          go_wp2
          go_roundw
          case rel => exact ⟨k + 1, by omega, by go_num, hB1, hyes⟩
          case measure => simp [intOf]; omega
      · have hyes : Hid (IsB (LksOk ls) (.returned (.bool true))) := isB_yes ⟨by omega, fun j hj => hdone.out j (by omega)⟩
        go_wp2
        go_ret
        exact ⟨hyes.out, hb⟩
set_option maxHeartbeats 2000000 in
theorem c106 (a : Option Addr) (cap : Nat) (ls : List L4) (w : World) (hl : ls.length ≤ 1048576) (hs : ∀ i, (ls.getD i l4z).le 1048576) (hat : LksAt w a ls) :
    Calls Tryd.prog 106 #[.slice a ls.length cap] w fun e w' => IsB (LksOk ls) e ∧ Below w.heap.size w w' := by
  obtain ⟨b, off, hc⟩ := lks_some hat
  have HC : Hid (ls = [] ∨ (a = some ⟨b, off, none⟩ ∧ b < w.heap.size ∧ ∀ i, i < ls.length → w.cell? ⟨b, off + i * 4, none⟩ = some (.bool (ls.getD i l4z).has) ∧ w.cell? ⟨b, off + i * 4 + 1, none⟩ = some (.string (ls.getD i l4z).nm) ∧ w.cell? ⟨b, off + i * 4 + 2, none⟩ = some (.int .i64 (ls.getD i l4z).cd) ∧ w.cell? ⟨b, off + i * 4 + 3, none⟩ = some (.string (ls.getD i l4z).tx))) := hc
  have HS : Hid (∀ i, (ls.getD i l4z).le 1048576) := hs
  clear hc hat hs
  by_cases hbig : 15 < ls.length
  · have HN : Hid (IsB (LksOk ls) (.returned (.bool false))) := isB_no (fun h => by have := h.1; omega)
    go_enter Tryd.func106, Tryd.ntmps106
    go_wp2
    go_ret
    exact ⟨HN.out, Below.refl _ _⟩
  · go_enter Tryd.func106, Tryd.ntmps106
    go_wp2_with fail
    go_loopw [10] (fun vi wr => ∃ k : Nat, k ≤ ls.length ∧ vi = .int .i64 k ∧ Below w.heap.size w wr ∧ Hid (∀ j, j < k → LkOk (ls.getD j l4z))) (fun vi _ => ls.length - (intOf vi).toNat)
    case atStart => exact ⟨0, Nat.zero_le _, rfl, Below.refl _ _, fun j h => absurd h (Nat.not_lt_zero _)⟩
    case round =>
      obtain ⟨k, hk, rfl, hb, hdone⟩ := hrel
      by_cases hlt : k < ls.length
      · rcases HC.out with hss | ⟨ha, hbw, hcell⟩
        · rw [hss] at hlt; exact absurd hlt (Nat.not_lt_zero _)
        subst ha
        obtain ⟨g0, g1, g2, g3⟩ := hcell k hlt
        have g0 := (hb.cell (p := ⟨b, off + k * 4, none⟩) hbw).trans g0
        have g1 := (hb.cell (p := ⟨b, off + k * 4 + 1, none⟩) hbw).trans g1
        have g2 := (hb.cell (p := ⟨b, off + k * 4 + 2, none⟩) hbw).trans g2
        have g3 := (hb.cell (p := ⟨b, off + k * 4 + 3, none⟩) hbw).trans g3
        have hxs := HS.out k
        have HN : Hid (¬ LkOk (ls.getD k l4z) → IsB (LksOk ls) (.returned (.bool false))) := fun h => isB_no fun d => h (d.2 k hlt)
        have HY : Hid (LkOk (ls.getD k l4z) → ∀ j, j < k + 1 → LkOk (ls.getD j l4z)) := fun h j hj => by
          rcases Nat.lt_or_ge j k with h1 | h1
          · exact hdone.out j h1
          · obtain rfl : j = k := by omega
            exact h
        generalize ls.getD k l4z = x at *
        clear hcell
        go_wp2_with fail
        have hBV : Below w.heap.size w (wr.alloc (.cells #[.bool x.has, .string x.nm, .int .i64 x.cd, .string x.tx] 43)) := hb.alloc hb.size _
        generalize (wr.alloc (.cells #[.bool x.has, .string x.nm, .int .i64 x.cd, .string x.tx] 43)) = V at *
        refine (c108 x V ⟨by have := hxs.1; omega, by have := hxs.2; omega⟩).mono ?_
        rintro e w1 ⟨⟨r, rfl, hr⟩, hb1⟩
        have hB1 : Below w.heap.size w w1 := hBV.trans (hb1.mono hBV.size)
        cases r
        · have hno : Hid (IsB (LksOk ls) (.returned (.bool false))) := HN.out fun h => absurd (hr.2 h) Bool.false_ne_true
          clear hr
          go_wp2
          go_ret
          exact ⟨hno.out, hB1⟩
        · have hyes : Hid (∀ j, j < k + 1 → LkOk (ls.getD j l4z)) := HY.out (hr.1 rfl)
          clear hr
          go_wp2
          go_roundw
          case rel => exact ⟨k + 1, by omega, by go_num, hB1, hyes⟩
          case measure => simp [intOf]; omega
      · have hyes : Hid (IsB (LksOk ls) (.returned (.bool true))) := isB_yes ⟨by omega, fun j hj => hdone.out j (by omega)⟩
        go_wp2
        go_ret
        exact ⟨hyes.out, hb⟩
end Go.Proofs.YtejlfpolnddfdaaDoor

import Derived.Test.YtpjpckmfehfniaaGreatDoorZC26
import Derived.Deep.RegionHeld3
namespace Go.Proofs.YtpjpckmfehfniaaGreatDoor.M
open Go.RowKit
def LksOk (ls : List L4) : Prop := ls.length ≤ 15 ∧ ∀ i, i < ls.length → LkOk (ls.getD i l4z)
set_option maxHeartbeats 2000000 in
theorem c33 (a : Option Addr) (cap : Nat) (ls : List L4) (w : World) (hl : ls.length ≤ 1048576) (hs : ∀ i, (ls.getD i l4z).le 1048576) (hat : LksAt w a ls) :
 Calls Tryz.prog 33 #[.slice a ls.length cap] w fun e w' => IsB (LksOk ls) e ∧ Below w.heap.size w w' := by
 obtain ⟨b, off, hc⟩ := lks_some hat
 have HC : Hid (ls = [] ∨ (a = some ⟨b, off, none⟩ ∧ b < w.heap.size ∧ ∀ i, i < ls.length → w.cell? ⟨b, off + i * 4, none⟩ = some (.bool (ls.getD i l4z).has) ∧ w.cell? ⟨b, off + i * 4 + 1, none⟩ = some (.string (ls.getD i l4z).nm) ∧ w.cell? ⟨b, off + i * 4 + 2, none⟩ = some (.int .i64 (ls.getD i l4z).cd) ∧ w.cell? ⟨b, off + i * 4 + 3, none⟩ = some (.string (ls.getD i l4z).tx))) := hc
 have HS : Hid (∀ i, (ls.getD i l4z).le 1048576) := hs
 clear hc hat hs
 by_cases hbig : 15 < ls.length
 · have HN : Hid (IsB (LksOk ls) (.returned (.bool false))) := isB_no (fun h => by have := h.1; omega)
   go_enter Tryz.func33, Tryz.ntmps33
   go_wp2
   go_ret
   exact ⟨HN.out, Below.refl _ _⟩
 · go_enter Tryz.func33, Tryz.ntmps33
   go_wp2_with fail
   go_loopw [3] (fun vi wr => ∃ k : Nat, k ≤ ls.length ∧ vi = .int .i64 k ∧ Below w.heap.size w wr ∧ Hid (∀ j, j < k → LkOk (ls.getD j l4z))) (fun vi _ => ls.length - (intOf vi).toNat)
   case atStart => exact ⟨0, Nat.zero_le _, rfl, Below.refl _ _, fun j h => absurd h (Nat.not_lt_zero _)⟩
   case round =>
    obtain ⟨k, hk, rfl, hb, hdone⟩ := hrel
    by_cases hlt : k < ls.length
    · rcases HC.out with hss | ⟨ha, hbw, hcell⟩
      · rw [hss] at hlt; exact absurd hlt (Nat.not_lt_zero _)
      subst ha
      obtain ⟨g0, g1, g2, g3⟩ := hcell k hlt
      have g0 := (hb.cell (p := ⟨b, off + k * 4, none⟩) hbw).trans g0
      have g1 := (hb.cell (p := ⟨b, off + k * 4 + 1, none⟩) hbw).trans g1
      have g2 := (hb.cell (p := ⟨b, off + k * 4 + 2, none⟩) hbw).trans g2
      have g3 := (hb.cell (p := ⟨b, off + k * 4 + 3, none⟩) hbw).trans g3
      have hxs := HS.out k
      have HN : Hid (¬ LkOk (ls.getD k l4z) → IsB (LksOk ls) (.returned (.bool false))) := fun h => isB_no fun d => h (d.2 k hlt)
      have HY : Hid (LkOk (ls.getD k l4z) → ∀ j, j < k + 1 → LkOk (ls.getD j l4z)) := fun h j hj => by
       rcases Nat.lt_or_ge j k with h1 | h1
       · exact hdone.out j h1
       · obtain rfl : j = k := by omega
         exact h
      generalize ls.getD k l4z = x at *
      clear hcell
      go_wp2_with fail
      refine (c74 x wr ⟨by have := hxs.1; omega, by have := hxs.2; omega⟩).mono ?_
      rintro e w1 ⟨⟨r, rfl, hr⟩, hb1⟩
      have hB1 : Below w.heap.size w w1 := hb.trans (hb1.mono hb.size)
      cases r
      · have hno : Hid (IsB (LksOk ls) (.returned (.bool false))) := HN.out fun h => absurd (hr.2 h) Bool.false_ne_true
        clear hr
        go_wp2
        go_ret
        exact ⟨hno.out, hB1⟩
      · have hyes : Hid (∀ j, j < k + 1 → LkOk (ls.getD j l4z)) := HY.out (hr.1 rfl)
        clear hr
        go_wp2
        go_roundw
        case rel => exact ⟨k + 1, by omega, by go_num, hB1, hyes⟩
        case measure => simp [intOf]; omega
    · have hyes : Hid (IsB (LksOk ls) (.returned (.bool true))) := isB_yes ⟨by omega, fun j hj => hdone.out j (by omega)⟩
      go_wp2
      go_ret
      exact ⟨hyes.out, hb⟩
set_option maxHeartbeats 2000000 in
theorem c177 (a : Option Addr) (cap : Nat) (ls : List L4) (w : World) (hl : ls.length ≤ 1048576) (hs : ∀ i, (ls.getD i l4z).le 1048576) (hat : LksAt w a ls) :
 Calls Tryz.prog 177 #[.slice a ls.length cap] w fun e w' => IsB (LksOk ls) e ∧ Below w.heap.size w w' := by
 obtain ⟨b, off, hc⟩ := lks_some hat
 have HC : Hid (ls = [] ∨ (a = some ⟨b, off, none⟩ ∧ b < w.heap.size ∧ ∀ i, i < ls.length → w.cell? ⟨b, off + i * 4, none⟩ = some (.bool (ls.getD i l4z).has) ∧ w.cell? ⟨b, off + i * 4 + 1, none⟩ = some (.string (ls.getD i l4z).nm) ∧ w.cell? ⟨b, off + i * 4 + 2, none⟩ = some (.int .i64 (ls.getD i l4z).cd) ∧ w.cell? ⟨b, off + i * 4 + 3, none⟩ = some (.string (ls.getD i l4z).tx))) := hc
 have HS : Hid (∀ i, (ls.getD i l4z).le 1048576) := hs
 clear hc hat hs
 by_cases hbig : 15 < ls.length
 · have HN : Hid (IsB (LksOk ls) (.returned (.bool false))) := isB_no (fun h => by have := h.1; omega)
   go_enter Tryz.func177, Tryz.ntmps177
   go_wp2
   go_ret
   exact ⟨HN.out, Below.refl _ _⟩
 · go_enter Tryz.func177, Tryz.ntmps177
   go_wp2_with fail
   go_loopw [10] (fun vi wr => ∃ k : Nat, k ≤ ls.length ∧ vi = .int .i64 k ∧ Below w.heap.size w wr ∧ Hid (∀ j, j < k → LkOk (ls.getD j l4z))) (fun vi _ => ls.length - (intOf vi).toNat)
   case atStart => exact ⟨0, Nat.zero_le _, rfl, Below.refl _ _, fun j h => absurd h (Nat.not_lt_zero _)⟩
   case round =>
    obtain ⟨k, hk, rfl, hb, hdone⟩ := hrel
    by_cases hlt : k < ls.length
    · rcases HC.out with hss | ⟨ha, hbw, hcell⟩
      · rw [hss] at hlt; exact absurd hlt (Nat.not_lt_zero _)
      subst ha
      obtain ⟨g0, g1, g2, g3⟩ := hcell k hlt
      have g0 := (hb.cell (p := ⟨b, off + k * 4, none⟩) hbw).trans g0
      have g1 := (hb.cell (p := ⟨b, off + k * 4 + 1, none⟩) hbw).trans g1
      have g2 := (hb.cell (p := ⟨b, off + k * 4 + 2, none⟩) hbw).trans g2
      have g3 := (hb.cell (p := ⟨b, off + k * 4 + 3, none⟩) hbw).trans g3
      have hxs := HS.out k
      have HN : Hid (¬ LkOk (ls.getD k l4z) → IsB (LksOk ls) (.returned (.bool false))) := fun h => isB_no fun d => h (d.2 k hlt)
      have HY : Hid (LkOk (ls.getD k l4z) → ∀ j, j < k + 1 → LkOk (ls.getD j l4z)) := fun h j hj => by
       rcases Nat.lt_or_ge j k with h1 | h1
       · exact hdone.out j h1
       · obtain rfl : j = k := by omega
         exact h
      generalize ls.getD k l4z = x at *
      clear hcell
      go_wp2_with fail
      have hBV : Below w.heap.size w (wr.alloc (.cells #[.bool x.has, .string x.nm, .int .i64 x.cd, .string x.tx] 76)) := hb.alloc hb.size _
      generalize (wr.alloc (.cells #[.bool x.has, .string x.nm, .int .i64 x.cd, .string x.tx] 76)) = V at *
      refine (c41 x V ⟨by have := hxs.1; omega, by have := hxs.2; omega⟩).mono ?_
      rintro e w1 ⟨⟨r, rfl, hr⟩, hb1⟩
      have hB1 : Below w.heap.size w w1 := hBV.trans (hb1.mono hBV.size)
      cases r
      · have hno : Hid (IsB (LksOk ls) (.returned (.bool false))) := HN.out fun h => absurd (hr.2 h) Bool.false_ne_true
        clear hr
        go_wp2
        go_ret
        exact ⟨hno.out, hB1⟩
      · have hyes : Hid (∀ j, j < k + 1 → LkOk (ls.getD j l4z)) := HY.out (hr.1 rfl)
        clear hr
        go_wp2
        go_roundw
        case rel => exact ⟨k + 1, by omega, by go_num, hB1, hyes⟩
        case measure => simp [intOf]; omega
    · have hyes : Hid (IsB (LksOk ls) (.returned (.bool true))) := isB_yes ⟨by omega, fun j hj => hdone.out j (by omega)⟩
      go_wp2
      go_ret
      exact ⟨hyes.out, hb⟩
set_option maxHeartbeats 2000000 in
set_option maxRecDepth 100000 in
theorem c117 (a a2 : Option Addr) (cap cap2 : Nat) (ls : List L4) (w : World) (hl : ls.length ≤ 1048576) (hat : LksAt w a ls) (hat2 : LksAt w a2 ls) :
 Calls Tryz.prog 117 #[.slice a ls.length cap, .slice a2 ls.length cap2] w fun e w' => e = .returned (.bool true) ∧ Below w.heap.size w w' := by
 obtain ⟨b2, of2, hc2⟩ := lks_some hat2
 have HC2 : Hid (ls = [] ∨ (a2 = some ⟨b2, of2, none⟩ ∧ b2 < w.heap.size ∧ ∀ i, i < ls.length → w.cell? ⟨b2, of2 + i * 4, none⟩ = some (.bool (ls.getD i l4z).has) ∧ w.cell? ⟨b2, of2 + i * 4 + 1, none⟩ = some (.string (ls.getD i l4z).nm) ∧ w.cell? ⟨b2, of2 + i * 4 + 2, none⟩ = some (.int .i64 (ls.getD i l4z).cd) ∧ w.cell? ⟨b2, of2 + i * 4 + 3, none⟩ = some (.string (ls.getD i l4z).tx))) := hc2
 clear hc2 hat2
 obtain ⟨b, off, hc⟩ := lks_some hat
 have HC : Hid (ls = [] ∨ (a = some ⟨b, off, none⟩ ∧ b < w.heap.size ∧ ∀ i, i < ls.length → w.cell? ⟨b, off + i * 4, none⟩ = some (.bool (ls.getD i l4z).has) ∧ w.cell? ⟨b, off + i * 4 + 1, none⟩ = some (.string (ls.getD i l4z).nm) ∧ w.cell? ⟨b, off + i * 4 + 2, none⟩ = some (.int .i64 (ls.getD i l4z).cd) ∧ w.cell? ⟨b, off + i * 4 + 3, none⟩ = some (.string (ls.getD i l4z).tx))) := hc
 clear hc hat
 go_enter Tryz.func117, Tryz.ntmps117
 go_wp2_with fail
 go_loopw [13] (fun vi wr => ∃ k : Nat, k ≤ ls.length ∧ vi = .int .i64 k ∧ Below w.heap.size w wr) (fun vi _ => ls.length - (intOf vi).toNat)
 case atStart => exact ⟨0, Nat.zero_le _, rfl, Below.refl _ _⟩
 case round =>
  obtain ⟨k, hk, rfl, hb⟩ := hrel
  by_cases hlt : k < ls.length
  · rcases HC.out with hss | ⟨ha, hbw, hcell⟩
    · rw [hss] at hlt; exact absurd hlt (Nat.not_lt_zero _)
    rcases HC2.out with hss | ⟨ha2, hbw2, hcell2⟩
    · rw [hss] at hlt; exact absurd hlt (Nat.not_lt_zero _)
    subst ha ha2
    obtain ⟨g0, g1, g2, g3⟩ := hcell k hlt
    have g0 := (hb.cell (p := ⟨b, off + k * 4, none⟩) hbw).trans g0
    have g1 := (hb.cell (p := ⟨b, off + k * 4 + 1, none⟩) hbw).trans g1
    have g2 := (hb.cell (p := ⟨b, off + k * 4 + 2, none⟩) hbw).trans g2
    have g3 := (hb.cell (p := ⟨b, off + k * 4 + 3, none⟩) hbw).trans g3
    obtain ⟨h0, h1, h2, h3⟩ := hcell2 k hlt
    have h0 := (hb.cell (p := ⟨b2, of2 + k * 4, none⟩) hbw2).trans h0
    have h1 := (hb.cell (p := ⟨b2, of2 + k * 4 + 1, none⟩) hbw2).trans h1
    have h2 := (hb.cell (p := ⟨b2, of2 + k * 4 + 2, none⟩) hbw2).trans h2
    have h3 := (hb.cell (p := ⟨b2, of2 + k * 4 + 3, none⟩) hbw2).trans h3
    generalize ls.getD k l4z = x at *
    have hki : (k : Int) < (ls.length : Int) := by omega
    clear hcell hcell2
    go_wp2_with fail
    refine wp_region_held_drew (S := (fun u => (u.cell? ⟨b, off + k * 4, none⟩ = some (.bool x.has) ∧ u.cell? ⟨b, off + k * 4 + 1, none⟩ = some (.string x.nm) ∧ u.cell? ⟨b, off + k * 4 + 2, none⟩ = some (.int .i64 x.cd) ∧ u.cell? ⟨b, off + k * 4 + 3, none⟩ = some (.string x.tx)) ∧ (u.cell? ⟨b2, of2 + k * 4, none⟩ = some (.bool x.has) ∧ u.cell? ⟨b2, of2 + k * 4 + 1, none⟩ = some (.string x.nm) ∧ u.cell? ⟨b2, of2 + k * 4 + 2, none⟩ = some (.int .i64 x.cd) ∧ u.cell? ⟨b2, of2 + k * 4 + 3, none⟩ = some (.string x.tx)))) (by kernel_rfl) ?_ (fun hHeld => ?_)
    · ((try dsimp only); go_keep)
    refine wpAnyH_take (i := 0) (oi := { dst := some 16, op := Op.move (Operand.tmp 0), type := 34, pos := "slices.go:25", after := #[], guard := none }) (v := ?_) rfl (by kernel_rfl) (by kernel_rfl) (by kernel_rfl) (fun _ _ _ h => h) (Or.inl ⟨by rfl, ?_⟩) (by assumption) ?_
    rotate_left
    · intro wq hSw
      (try dsimp only at hSw)
      go_simp
      try with_reducible rfl
    try simp only [Act.put, List.setIfInBounds_toArray, List.set_cons_zero, List.set_cons_succ]
    refine wpAnyH_take (i := 1) (oi := { dst := some 17, op := Op.move (Operand.tmp 5), type := 3, pos := "slices.go:25", after := #[], guard := none }) (v := ?_) rfl (by kernel_rfl) (by kernel_rfl) (by kernel_rfl) (fun _ _ _ h => h) (Or.inl ⟨by rfl, ?_⟩) (by assumption) ?_
    rotate_left
    · intro wq hSw
      (try dsimp only at hSw)
      go_simp
      try with_reducible rfl
    try simp only [Act.put, List.setIfInBounds_toArray, List.set_cons_zero, List.set_cons_succ]
    refine wpAnyH_take (i := 2) (oi := { dst := some 18, op := Op.indexAddr 34 (Operand.tmp 16) (Operand.tmp 17), type := 0, pos := "slices.go:25", after := #[{ on := 0, ground := Ground.data }, { on := 1, ground := Ground.data }], guard := none }) (v := ?_) rfl (by kernel_rfl) (by kernel_rfl) (by kernel_rfl) (fun _ _ _ h => h) (Or.inl ⟨by rfl, ?_⟩) (by assumption) ?_
    rotate_left
    · intro wq hSw
      (try dsimp only at hSw)
      go_simp
      try with_reducible rfl
    try simp only [Act.put, List.setIfInBounds_toArray, List.set_cons_zero, List.set_cons_succ]
    refine wpAnyH_take (i := 3) (oi := { dst := some 19, op := Op.load 76 (Operand.tmp 18), type := 76, pos := "slices.go:25", after := #[{ on := 2, ground := Ground.data }], guard := none }) (v := ?_) rfl (by kernel_rfl) (by kernel_rfl) (by kernel_rfl) (fun _ _ _ h => h) (Or.inl ⟨by rfl, ?_⟩) (by assumption) ?_
    rotate_left
    · intro wq hSw
      (try dsimp only at hSw)
      go_simp
      try with_reducible rfl
    try simp only [Act.put, List.setIfInBounds_toArray, List.set_cons_zero, List.set_cons_succ]
    refine wpAnyH_take (i := 4) (oi := { dst := some 20, op := Op.move (Operand.tmp 1), type := 34, pos := "slices.go:25", after := #[], guard := none }) (v := ?_) rfl (by kernel_rfl) (by kernel_rfl) (by kernel_rfl) (fun _ _ _ h => h) (Or.inl ⟨by rfl, ?_⟩) (by assumption) ?_
    rotate_left
    · intro wq hSw
      (try dsimp only at hSw)
      go_simp
      try with_reducible rfl
    try simp only [Act.put, List.setIfInBounds_toArray, List.set_cons_zero, List.set_cons_succ]
    refine wpAnyH_take (i := 5) (oi := { dst := some 21, op := Op.move (Operand.tmp 5), type := 3, pos := "slices.go:25", after := #[], guard := none }) (v := ?_) rfl (by kernel_rfl) (by kernel_rfl) (by kernel_rfl) (fun _ _ _ h => h) (Or.inl ⟨by rfl, ?_⟩) (by assumption) ?_
    rotate_left
    · intro wq hSw
      (try dsimp only at hSw)
      go_simp
      try with_reducible rfl
    try simp only [Act.put, List.setIfInBounds_toArray, List.set_cons_zero, List.set_cons_succ]
    refine wpAnyH_take (i := 6) (oi := { dst := some 22, op := Op.indexAddr 34 (Operand.tmp 20) (Operand.tmp 21), type := 0, pos := "slices.go:25", after := #[{ on := 4, ground := Ground.data }, { on := 5, ground := Ground.data }], guard := none }) (v := ?_) rfl (by kernel_rfl) (by kernel_rfl) (by kernel_rfl) (fun _ _ _ h => h) (Or.inl ⟨by rfl, ?_⟩) (by assumption) ?_
    rotate_left
    · intro wq hSw
      (try dsimp only at hSw)
      go_simp
      try with_reducible rfl
    try simp only [Act.put, List.setIfInBounds_toArray, List.set_cons_zero, List.set_cons_succ]
    refine wpAnyH_take (i := 7) (oi := { dst := some 23, op := Op.load 76 (Operand.tmp 22), type := 76, pos := "slices.go:25", after := #[{ on := 6, ground := Ground.data }], guard := none }) (v := ?_) rfl (by kernel_rfl) (by kernel_rfl) (by kernel_rfl) (fun _ _ _ h => h) (Or.inl ⟨by rfl, ?_⟩) (by assumption) ?_
    rotate_left
    · intro wq hSw
      (try dsimp only at hSw)
      go_simp
      try with_reducible rfl
    try simp only [Act.put, List.setIfInBounds_toArray, List.set_cons_zero, List.set_cons_succ]
    refine wpAnyH_take (i := 8) (oi := { dst := some 24, op := Op.binOp BinOp.neq 76 (Operand.tmp 19) (Operand.tmp 23) 76, type := 4, pos := "slices.go:25", after := #[{ on := 3, ground := Ground.data }, { on := 7, ground := Ground.data }], guard := none }) (v := ?_) rfl (by kernel_rfl) (by kernel_rfl) (by kernel_rfl) (fun _ _ _ h => h) (Or.inl ⟨by rfl, ?_⟩) (by assumption) ?_
    rotate_left
    · intro wq hSw
      (try dsimp only at hSw)
      go_simp
      try with_reducible rfl
    try simp only [Act.put, List.setIfInBounds_toArray, List.set_cons_zero, List.set_cons_succ]
    refine wpAnyH_done (by kernel_rfl) ?_ _
    clear hHeld
    go_wp2
    go_roundw
    case rel => exact ⟨k + 1, by omega, by go_num, hb.drew⟩
    case measure => simp [intOf]; omega
  · go_wp2
    go_ret
    exact ⟨rfl, hb⟩
theorem c117n (a a2 : Option Addr) (cap cap2 : Nat) (ls : List L4) (w : World) (hl : ls.length ≤ 1048576) :
 Calls Tryz.prog 117 #[.slice a ls.length cap, .slice a2 0 cap2] w fun e w' => e = .returned (.bool (decide (ls.length = 0))) ∧ Below w.heap.size w w' := by
 by_cases h0 : ls.length = 0
 · obtain rfl : ls = [] := List.length_eq_zero_iff.1 h0
   exact (c117 a a2 cap cap2 [] w (Nat.zero_le _) (.inl rfl) (.inl rfl)).mono fun e w' h => ⟨h.1.trans (by simp), h.2⟩
 · go_enter Tryz.func117, Tryz.ntmps117
   go_wp2
   go_ret
   exact ⟨by simp [h0], Below.refl _ _⟩
end Go.Proofs.YtpjpckmfehfniaaGreatDoor.M

import Derived.Test.YtkhlekmicpmpkaaGreatDoorZK07
import Derived.Test.YtkhlekmicpmpkaaGreatDoorZK08
import Derived.Deep.RegionHeld3
import Derived.Test.YtkhlekmicpmpkaaGreatDoorZK09
namespace Go.Proofs.YtkhlekmicpmpkaaGreatDoor
open Go.RowKit
set_option maxRecDepth 100000
def LkOk (x : L4) : Prop := nameOk x.nm.data.toList = true ∧ ((x.has = true ∧ ((x.cd = 0 ∧ x.tx = ⟨#[]⟩) ∨ (x.cd = 4 ∧ x.tx = x.nm))) ∨ (x.has = false ∧ vr x.cd x.tx.data.toList = true))
def IsB (P : Prop) (e : Ending) : Prop := ∃ r, e = .returned (.bool r) ∧ (r = true ↔ P)
theorem isB_no {P : Prop} (h : ¬ P) : IsB P (.returned (.bool false)) := ⟨false, rfl, ⟨fun h => absurd h Bool.false_ne_true, fun k => absurd k h⟩⟩
theorem isB_yes {P : Prop} (h : P) : IsB P (.returned (.bool true)) := ⟨true, rfl, ⟨fun _ => h, fun _ => rfl⟩⟩
theorem ba_iff (x y : ByteArray) : x.toList = y.toList ↔ x = y := ⟨fun h => by
 rw [ByteArray.toList_eq, ByteArray.toList_eq] at h
 exact ByteArray.ext (Array.toList_inj.1 h), fun h => by rw [h]⟩
theorem ba_nil (x : ByteArray) : x.toList = [] ↔ x = ⟨#[]⟩ := by
 rw [ByteArray.toList_eq]
 exact ⟨fun h => ByteArray.ext (Array.toList_inj.1 h), fun h => by rw [h]⟩
theorem lk_name {x : L4} (h : nameOk x.nm.data.toList = false) : ¬ LkOk x := fun k => absurd (k.1.symm.trans h) (by decide)
theorem lk_ask {x : L4} (hn : nameOk x.nm.data.toList = true) (hh : x.has = false) : LkOk x ↔ vr x.cd x.tx.data.toList = true := by
 constructor
 · rintro ⟨_, ⟨h, _⟩ | ⟨_, h⟩⟩
   · rw [hh] at h; cases h
   · exact h
 · exact fun h => ⟨hn, .inr ⟨hh, h⟩⟩
theorem lk_has {x : L4} (hn : nameOk x.nm.data.toList = true) (hh : x.has = true) : LkOk x ↔ ((x.cd = 0 ∧ x.tx.toList = []) ∨ (x.cd = 4 ∧ x.tx.toList = x.nm.toList)) := by
 rw [ba_nil, ba_iff]
 constructor
 · rintro ⟨_, ⟨_, h⟩ | ⟨h, _⟩⟩
   · exact h
   · rw [hh] at h; cases h
 · exact fun h => ⟨hn, .inl ⟨hh, h⟩⟩
end Go.Proofs.YtkhlekmicpmpkaaGreatDoor
namespace Go.Proofs.YtkhlekmicpmpkaaGreatDoor
open Go.RowKit
set_option maxRecDepth 100000
set_option maxHeartbeats 2000000 in
theorem c78 (x : L4) (w : World) (hs : x.le 1048600) :
 Calls Tryz.prog 78 #[.agg #[.bool x.has, .string x.nm, .int .i64 x.cd, .string x.tx]] w fun e w' => IsB (LkOk x) e ∧ Below w.heap.size w w' := by
 obtain ⟨s1, s2⟩ := hs
 have hB0 : ∀ o, Below w.heap.size w (w.alloc o) := fun o => (Below.refl _ _).alloc (Nat.le_refl _) _
 cases hn : nameOk x.nm.data.toList
 · have HN : Hid (IsB (LkOk x) (.returned (.bool false))) := isB_no (lk_name hn)
   go_enter Tryz.func78, Tryz.ntmps78
   go_wp2_with fail
   refine (c48 x.nm _ (by omega)).mono ?_
   rintro e w1 ⟨rfl, hw⟩
   obtain rfl := hw.symm
   rw [hn]
   go_wp2
   go_ret
   exact ⟨HN.out, hB0 _⟩
 · cases hh : x.has
   · have HE : Hid (LkOk x ↔ vr x.cd x.tx.data.toList = true) := lk_ask hn hh
     go_enter Tryz.func78, Tryz.ntmps78
     go_wp2_with fail
     refine (c48 x.nm _ (by omega)).mono ?_
     rintro e w1 ⟨rfl, hw⟩
     obtain rfl := hw.symm
     rw [hn]
     go_wp2_with fail
     refine (c51 x.cd x.tx _ (by omega)).mono ?_
     rintro e w2 ⟨rfl, hb2⟩
     have hB2 : Below w.heap.size w w2 := (hB0 _).trans (hb2.mono (by simp))
     go_wp2
     go_ret
     exact ⟨⟨_, rfl, HE.out.symm⟩, hB2⟩
   · have HE : Hid (LkOk x ↔ ((x.cd = 0 ∧ x.tx.toList = []) ∨ (x.cd = 4 ∧ x.tx.toList = x.nm.toList))) := lk_has hn hh
     skip
     all_goals
      go_enter Tryz.func78, Tryz.ntmps78
      go_wp2_with fail
      refine (c48 x.nm _ (by omega)).mono ?_
      rintro e w1 ⟨rfl, hw⟩
      obtain rfl := hw.symm
      rw [hn]
      go_wp2
      all_goals go_ret
      all_goals first
       | exact ⟨isB_yes (HE.out.2 (by simp [*])), hB0 _⟩
       | exact ⟨isB_no (fun h => by have := HE.out.1 h; simp [*] at this), hB0 _⟩
       | exact ⟨isB_yes (HE.out.2 (by simp [*])), (hB0 _).alloc (by simp) _⟩
       | exact ⟨isB_no (fun h => by have := HE.out.1 h; simp [*] at this), (hB0 _).alloc (by simp) _⟩
set_option maxHeartbeats 2000000 in
theorem c86 (x : L4) (w : World) (hs : x.le 1048600) :
 Calls Tryz.prog 86 #[.agg #[.bool x.has, .string x.nm, .int .i64 x.cd, .string x.tx]] w fun e w' => IsB (LkOk x) e ∧ Below w.heap.size w w' := by
 obtain ⟨s1, s2⟩ := hs
 have hB0 : ∀ o, Below w.heap.size w (w.alloc o) := fun o => (Below.refl _ _).alloc (Nat.le_refl _) _
 cases hh : x.has
 · cases hn : nameOk x.nm.data.toList
   · have HN : Hid (IsB (LkOk x) (.returned (.bool false))) := isB_no (lk_name hn)
     go_enter Tryz.func86, Tryz.ntmps86
     go_wp2_with fail
     refine (c85 x.nm _ (by omega)).mono ?_
     rintro e w1 ⟨rfl, hw⟩
     obtain rfl := hw.symm
     rw [hn]
     go_wp2
     go_ret
     exact ⟨HN.out, hB0 _⟩
   · have HE : Hid (LkOk x ↔ vr x.cd x.tx.data.toList = true) := lk_ask hn hh
     go_enter Tryz.func86, Tryz.ntmps86
     go_wp2_with fail
     refine (c85 x.nm _ (by omega)).mono ?_
     rintro e w1 ⟨rfl, hw⟩
     obtain rfl := hw.symm
     rw [hn]
     go_wp2_with fail
     refine (c62 x.cd x.tx _ (by omega)).mono ?_
     rintro e w2 ⟨rfl, hb2⟩
     have hB2 : Below w.heap.size w w2 := (hB0 _).trans (hb2.mono (by simp))
     go_wp2
     go_ret
     exact ⟨⟨_, rfl, HE.out.symm⟩, hB2⟩
 · cases hn : nameOk x.nm.data.toList
   · have HN : Hid (IsB (LkOk x) (.returned (.bool false))) := isB_no (lk_name hn)
     go_enter Tryz.func86, Tryz.ntmps86
     go_wp2_with fail
     refine (c85 x.nm _ (by omega)).mono ?_
     rintro e w1 ⟨rfl, hw⟩
     obtain rfl := hw.symm
     rw [hn]
     go_wp2
     go_ret
     exact ⟨HN.out, (hB0 _).alloc (by simp) _⟩
   · have HE : Hid (LkOk x ↔ ((x.cd = 0 ∧ x.tx.toList = []) ∨ (x.cd = 4 ∧ x.tx.toList = x.nm.toList))) := lk_has hn hh
     skip
     all_goals
      go_enter Tryz.func86, Tryz.ntmps86
      go_wp2_with fail
      refine (c85 x.nm _ (by omega)).mono ?_
      rintro e w1 ⟨rfl, hw⟩
      obtain rfl := hw.symm
      rw [hn]
      go_wp2
      all_goals go_ret
      all_goals first
       | exact ⟨isB_yes (HE.out.2 (by simp [*])), (hB0 _).alloc (by simp) _⟩
       | exact ⟨isB_no (fun h => by have := HE.out.1 h; simp [*] at this), (hB0 _).alloc (by simp) _⟩
       | exact ⟨isB_yes (HE.out.2 (by simp [*])), ((hB0 _).alloc (by simp) _).alloc (by simp; omega) _⟩
       | exact ⟨isB_no (fun h => by have := HE.out.1 h; simp [*] at this), ((hB0 _).alloc (by simp) _).alloc (by simp; omega) _⟩
end Go.Proofs.YtkhlekmicpmpkaaGreatDoor
namespace Go.Proofs.YtkhlekmicpmpkaaGreatDoor
open Go.RowKit
set_option maxRecDepth 100000
def LksOk (ls : List L4) : Prop := ls.length ≤ 15 ∧ ∀ i, i < ls.length → LkOk (ls.getD i l4z)
set_option maxHeartbeats 2000000 in
theorem c50 (a : Option Addr) (cap : Nat) (ls : List L4) (w : World) (hl : ls.length ≤ 1048576) (hs : ∀ i, (ls.getD i l4z).le 1048576) (hat : LksAt w a ls) :
 Calls Tryz.prog 50 #[.slice a ls.length cap] w fun e w' => IsB (LksOk ls) e ∧ Below w.heap.size w w' := by
 obtain ⟨b, off, hc⟩ := lks_some hat
 have HC : Hid (ls = [] ∨ (a = some ⟨b, off, none⟩ ∧ b < w.heap.size ∧ ∀ i, i < ls.length → w.cell? ⟨b, off + i * 4, none⟩ = some (.bool (ls.getD i l4z).has) ∧ w.cell? ⟨b, off + i * 4 + 1, none⟩ = some (.string (ls.getD i l4z).nm) ∧ w.cell? ⟨b, off + i * 4 + 2, none⟩ = some (.int .i64 (ls.getD i l4z).cd) ∧ w.cell? ⟨b, off + i * 4 + 3, none⟩ = some (.string (ls.getD i l4z).tx))) := hc
 have HS : Hid (∀ i, (ls.getD i l4z).le 1048576) := hs
 clear hc hat hs
 by_cases hbig : 15 < ls.length
 · have HN : Hid (IsB (LksOk ls) (.returned (.bool false))) := isB_no (fun h => by have := h.1; omega)
   go_enter Tryz.func50, Tryz.ntmps50
   go_wp2
   go_ret
   exact ⟨HN.out, Below.refl _ _⟩
 · go_enter Tryz.func50, Tryz.ntmps50
   go_wp2_with fail
   go_loopw [3] (fun vi wr => ∃ k : Nat, k ≤ ls.length ∧ vi = .int .i64 k ∧ Below w.heap.size w wr ∧ Hid (∀ j, j < k → LkOk (ls.getD j l4z))) (fun vi _ => ls.length - (intOf vi).toNat)
   case atStart => exact ⟨0, Nat.zero_le _, rfl, Below.refl _ _, fun j h => absurd h (Nat.not_lt_zero _)⟩
   case round =>
    obtain ⟨k, hk, rfl, hb, hdone⟩ := hrel
    by_cases hlt : k < ls.length
    · rcases HC.out with hss | ⟨ha, hbw, hcell⟩
      · rw [hss] at hlt; exact absurd hlt (Nat.not_lt_zero _)
      subst ha
      obtain ⟨g0, g1, g2, g3⟩ := hcell k hlt
      have g0 := (hb.cell (p := ⟨b, off + k * 4, none⟩) hbw).trans g0
      have g1 := (hb.cell (p := ⟨b, off + k * 4 + 1, none⟩) hbw).trans g1
      have g2 := (hb.cell (p := ⟨b, off + k * 4 + 2, none⟩) hbw).trans g2
      have g3 := (hb.cell (p := ⟨b, off + k * 4 + 3, none⟩) hbw).trans g3
      have hxs := HS.out k
      have HN : Hid (¬ LkOk (ls.getD k l4z) → IsB (LksOk ls) (.returned (.bool false))) := fun h => isB_no fun d => h (d.2 k hlt)
      have HY : Hid (LkOk (ls.getD k l4z) → ∀ j, j < k + 1 → LkOk (ls.getD j l4z)) := fun h j hj => by
       rcases Nat.lt_or_ge j k with h1 | h1
       · exact hdone.out j h1
       · obtain rfl : j = k := by omega
         exact h
      generalize ls.getD k l4z = x at *
      clear hcell
      go_wp2_with fail
      refine (c78 x wr ⟨by have := hxs.1; omega, by have := hxs.2; omega⟩).mono ?_
      rintro e w1 ⟨⟨r, rfl, hr⟩, hb1⟩
      have hB1 : Below w.heap.size w w1 := hb.trans (hb1.mono hb.size)
      cases r
      · have hno : Hid (IsB (LksOk ls) (.returned (.bool false))) := HN.out fun h => absurd (hr.2 h) Bool.false_ne_true
        clear hr
        go_wp2
        go_ret
        exact ⟨hno.out, hB1⟩
      · have hyes : Hid (∀ j, j < k + 1 → LkOk (ls.getD j l4z)) := HY.out (hr.1 rfl)
        clear hr
        go_wp2
        go_roundw
        case rel => exact ⟨k + 1, by omega, by go_num, hB1, hyes⟩
        case measure => simp [intOf]; omega
    · have hyes : Hid (IsB (LksOk ls) (.returned (.bool true))) := isB_yes ⟨by omega, fun j hj => hdone.out j (by omega)⟩
      go_wp2
      go_ret
      exact ⟨hyes.out, hb⟩
set_option maxHeartbeats 2000000 in
theorem c61 (a : Option Addr) (cap : Nat) (ls : List L4) (w : World) (hl : ls.length ≤ 1048576) (hs : ∀ i, (ls.getD i l4z).le 1048576) (hat : LksAt w a ls) :
 Calls Tryz.prog 61 #[.slice a ls.length cap] w fun e w' => IsB (LksOk ls) e ∧ Below w.heap.size w w' := by
 obtain ⟨b, off, hc⟩ := lks_some hat
 have HC : Hid (ls = [] ∨ (a = some ⟨b, off, none⟩ ∧ b < w.heap.size ∧ ∀ i, i < ls.length → w.cell? ⟨b, off + i * 4, none⟩ = some (.bool (ls.getD i l4z).has) ∧ w.cell? ⟨b, off + i * 4 + 1, none⟩ = some (.string (ls.getD i l4z).nm) ∧ w.cell? ⟨b, off + i * 4 + 2, none⟩ = some (.int .i64 (ls.getD i l4z).cd) ∧ w.cell? ⟨b, off + i * 4 + 3, none⟩ = some (.string (ls.getD i l4z).tx))) := hc
 have HS : Hid (∀ i, (ls.getD i l4z).le 1048576) := hs
 clear hc hat hs
 by_cases hbig : 15 < ls.length
 · have HN : Hid (IsB (LksOk ls) (.returned (.bool false))) := isB_no (fun h => by have := h.1; omega)
   go_enter Tryz.func61, Tryz.ntmps61
   go_wp2
   go_ret
   exact ⟨HN.out, Below.refl _ _⟩
 · go_enter Tryz.func61, Tryz.ntmps61
   go_wp2_with fail
   go_loopw [10] (fun vi wr => ∃ k : Nat, k ≤ ls.length ∧ vi = .int .i64 k ∧ Below w.heap.size w wr ∧ Hid (∀ j, j < k → LkOk (ls.getD j l4z))) (fun vi _ => ls.length - (intOf vi).toNat)
   case atStart => exact ⟨0, Nat.zero_le _, rfl, Below.refl _ _, fun j h => absurd h (Nat.not_lt_zero _)⟩
   case round =>
    obtain ⟨k, hk, rfl, hb, hdone⟩ := hrel
    by_cases hlt : k < ls.length
    · rcases HC.out with hss | ⟨ha, hbw, hcell⟩
      · rw [hss] at hlt; exact absurd hlt (Nat.not_lt_zero _)
      subst ha
      obtain ⟨g0, g1, g2, g3⟩ := hcell k hlt
      have g0 := (hb.cell (p := ⟨b, off + k * 4, none⟩) hbw).trans g0
      have g1 := (hb.cell (p := ⟨b, off + k * 4 + 1, none⟩) hbw).trans g1
      have g2 := (hb.cell (p := ⟨b, off + k * 4 + 2, none⟩) hbw).trans g2
      have g3 := (hb.cell (p := ⟨b, off + k * 4 + 3, none⟩) hbw).trans g3
      have hxs := HS.out k
      have HN : Hid (¬ LkOk (ls.getD k l4z) → IsB (LksOk ls) (.returned (.bool false))) := fun h => isB_no fun d => h (d.2 k hlt)
      have HY : Hid (LkOk (ls.getD k l4z) → ∀ j, j < k + 1 → LkOk (ls.getD j l4z)) := fun h j hj => by
       rcases Nat.lt_or_ge j k with h1 | h1
       · exact hdone.out j h1
       · obtain rfl : j = k := by omega
         exact h
      generalize ls.getD k l4z = x at *
      clear hcell
      go_wp2_with fail
      have hBV : Below w.heap.size w (wr.alloc (.cells #[.bool x.has, .string x.nm, .int .i64 x.cd, .string x.tx] 61)) := hb.alloc hb.size _
      generalize (wr.alloc (.cells #[.bool x.has, .string x.nm, .int .i64 x.cd, .string x.tx] 61)) = V at *
      refine (c86 x V ⟨by have := hxs.1; omega, by have := hxs.2; omega⟩).mono ?_
      rintro e w1 ⟨⟨r, rfl, hr⟩, hb1⟩
      have hB1 : Below w.heap.size w w1 := hBV.trans (hb1.mono hBV.size)
      cases r
      · have hno : Hid (IsB (LksOk ls) (.returned (.bool false))) := HN.out fun h => absurd (hr.2 h) Bool.false_ne_true
        clear hr
        go_wp2
        go_ret
        exact ⟨hno.out, hB1⟩
      · have hyes : Hid (∀ j, j < k + 1 → LkOk (ls.getD j l4z)) := HY.out (hr.1 rfl)
        clear hr
        go_wp2
        go_roundw
        case rel => exact ⟨k + 1, by omega, by go_num, hB1, hyes⟩
        case measure => simp [intOf]; omega
    · have hyes : Hid (IsB (LksOk ls) (.returned (.bool true))) := isB_yes ⟨by omega, fun j hj => hdone.out j (by omega)⟩
      go_wp2
      go_ret
      exact ⟨hyes.out, hb⟩
end Go.Proofs.YtkhlekmicpmpkaaGreatDoor
namespace Go.Proofs.YtkhlekmicpmpkaaGreatDoor
open Go.RowKit
set_option maxRecDepth 100000
set_option linter.unusedVariables false
def RanOk (m : M3) (ls : List L4) (c : Int) (t : ByteArray) : Prop := okM m = true ∧ LksOk ls ∧ vr c t.data.toList = true
def IsT (P : Prop) (l : List UInt8) (e : Ending) : Prop := ∃ s, e = .returned (.string s) ∧ ((P ∧ s = ofL l) ∨ (¬ P ∧ s = ⟨#[]⟩))
theorem IsT.congr {P Q : Prop} {l k : List UInt8} {e : Ending} (h : IsT P l e) (hp : P ↔ Q) (hl : P → l = k) : IsT Q k e := by
 obtain ⟨s, rfl, h⟩ := h
 refine ⟨s, rfl, ?_⟩
 rcases h with ⟨h1, h2⟩ | ⟨h1, h2⟩
 · exact .inl ⟨hp.1 h1, by rw [h2, hl h1]⟩
 · exact .inr ⟨fun h => h1 (hp.2 h), h2⟩
set_option maxHeartbeats 4000000 in
set_option maxRecDepth 100000 in
theorem c23 (m : M3) (ls : List L4) (c : Int) (t : ByteArray) (ai : Option Addr) (ci : Nat) (w : World) (hm : m.le 1048576) (hl : ls.length ≤ 1048576) (hs : ∀ i, (ls.getD i l4z).le 1048576) (ht : t.size ≤ 1048576) (hat : LksAt w ai ls) :
 Calls Tryz.prog 23 #[.agg #[.string m.nm, .string m.tl, .string m.ar], .slice ai ls.length ci, .agg #[.int .i64 c, .string t]] w fun e w' => IsB (RanOk m ls c t) e ∧ Below w.heap.size w w' := by
 go_enter Tryz.func23, Tryz.ntmps23
 go_wp2_with fail
 refine (c49 m _ ⟨Nat.le_trans hm.1 (by omega), Nat.le_trans hm.2.1 (by omega), Nat.le_trans hm.2.2 (by omega)⟩).mono ?_
 rintro e w1 ⟨rfl, hb1⟩
 have hx1 : Below (w.heap.size + 2) ((w.alloc (.cells #[.string m.nm, .string m.tl, .string m.ar] 41)).alloc (.cells #[.int .i64 c, .string t] 45)) w1 := by have h := hb1; simp at h; exact h
 have bA : BlkAt ((w.alloc (.cells #[.string m.nm, .string m.tl, .string m.ar] 41)).alloc (.cells #[.int .i64 c, .string t] 45)) (w.heap.size + 1) [.int .i64 c, .string t] := by have h := blk_new (w.alloc (.cells #[.string m.nm, .string m.tl, .string m.ar] 41)) [.int .i64 c, .string t] 45; simp at h; exact h
 have bA1 := bA.below hx1 (by omega)
 have hB1 : Below w.heap.size w w1 := (((Below.refl _ _).alloc (Nat.le_refl _) _).alloc (by simp) _).trans (hx1.mono (by omega))
 have hz1 : w.heap.size + 1 < w1.heap.size := by have h := hx1.size; simp at h; omega
 clear hb1 bA
 cases hn : okM m
 · have HN : Hid (IsB (RanOk m ls c t) (.returned (.bool false))) := isB_no (fun h => by have h1 := h.1; rw [hn] at h1; cases h1)
   go_wp2
   go_ret
   exact ⟨HN.out, hB1⟩
 · go_wp2_with fail
   refine (c50 ai ci ls _ hl hs (lks_below hat hB1)).mono ?_
   rintro e w2 ⟨⟨r, rfl, hr⟩, hb2⟩
   have hB2 : Below w.heap.size w w2 := hB1.trans (hb2.mono hB1.size)
   have bA2 := bA1.below hb2 hz1
   have k0 := bA2 0 _ rfl
   have k1 := bA2 1 _ rfl
   clear hb2
   cases r
   · have HN : Hid (IsB (RanOk m ls c t) (.returned (.bool false))) := isB_no (fun h => absurd (hr.2 h.2.1) (by decide))
     clear hr
     go_wp2
     go_ret
     exact ⟨HN.out, hB2⟩
   · have hl' := hr.1 rfl
     clear hr
     go_wp2_with fail
     refine (c51 c t _ (by omega)).mono ?_
     rintro e w3 ⟨rfl, hb3⟩
     have hB3 : Below w.heap.size w w3 := hB2.trans (hb3.mono hB2.size)
     have HN : Hid (IsB (RanOk m ls c t) (.returned (.bool (vr c t.data.toList)))) := ⟨_, rfl, ⟨fun h => ⟨hn, hl', h⟩, fun h => h.2.2⟩⟩
     go_wp2
     go_ret
     exact ⟨HN.out, hB3⟩
end Go.Proofs.YtkhlekmicpmpkaaGreatDoor

import Derived.Test.YtkhlekmicpmpkaaGreatDoorZK04
namespace Go.Proofs.YtkhlekmicpmpkaaGreatDoor
open Go.RowKit
set_option maxRecDepth 100000
structure G3 where
 nm : Bool
 tl : ByteArray
 ar : ByteArray
def g3z : G3 := ⟨false, ⟨#[]⟩, ⟨#[]⟩⟩
def G3.v (x : G3) : Value := .agg #[.bool x.nm, .string x.tl, .string x.ar]
def G3.le (x : G3) (B : Nat) : Prop := x.tl.size ≤ B ∧ x.ar.size ≤ B
def GlsAt (w : World) (a : Option Addr) (is : List G3) : Prop :=
 is = [] ∨ ∃ b off, a = some ⟨b, off, none⟩ ∧ b < w.heap.size ∧ ∀ i, i < is.length → w.cell? ⟨b, off + i * 3, none⟩ = some (.bool (is.getD i g3z).nm) ∧ w.cell? ⟨b, off + i * 3 + 1, none⟩ = some (.string (is.getD i g3z).tl) ∧ w.cell? ⟨b, off + i * 3 + 2, none⟩ = some (.string (is.getD i g3z).ar)
set_option maxHeartbeats 1000000 in
theorem c99 (x : G3) (l : Int) (w : World) (hs : x.le 9223372036854775807) (h0 : 0 ≤ l) (h1 : l ≤ 1048576) :
 Calls Tryz.prog 99 #[.agg #[.bool x.nm, .string x.tl, .string x.ar], .int .i64 l] w fun e w' => (∃ r : Int, e = .returned (.int .i64 r) ∧ (0 ≤ r → x.le 1048576 ∧ r ≤ l)) ∧ Below w.heap.size w w' := by
 obtain ⟨s2, s3⟩ := hs
 have HL : Hid (∀ r : Int, (0 ≤ r → ((x.tl.size : Int) ≤ l ∧ (x.ar.size : Int) ≤ l ∧ r ≤ l)) → (0 ≤ r → x.le 1048576 ∧ r ≤ l)) := fun r h g => by
  have := h g
  exact ⟨⟨by omega, by omega⟩, by omega⟩
 by_cases h' : l < x.tl.size
 · go_enter Tryz.func99, Tryz.ntmps99
   go_wp2
   go_ret
   exact ⟨⟨-1, rfl, HL.out _ fun h => by omega⟩, (Below.refl _ _).alloc (Nat.le_refl _) _⟩
 · by_cases h'' : l < x.tl.size + x.ar.size
   · go_enter Tryz.func99, Tryz.ntmps99
     go_wp2
     go_ret
     exact ⟨⟨-1, rfl, HL.out _ fun h => by omega⟩, (Below.refl _ _).alloc (Nat.le_refl _) _⟩
   · go_enter Tryz.func99, Tryz.ntmps99
     go_wp2
     go_ret
     exact ⟨⟨_, rfl, HL.out _ fun h => by omega⟩, (Below.refl _ _).alloc (Nat.le_refl _) _⟩
theorem gls_some {w : World} {a : Option Addr} {is : List G3} (h : GlsAt w a is) : ∃ b off, (is = [] ∨ (a = some ⟨b, off, none⟩ ∧ b < w.heap.size ∧ ∀ i, i < is.length → w.cell? ⟨b, off + i * 3, none⟩ = some (.bool (is.getD i g3z).nm) ∧ w.cell? ⟨b, off + i * 3 + 1, none⟩ = some (.string (is.getD i g3z).tl) ∧ w.cell? ⟨b, off + i * 3 + 2, none⟩ = some (.string (is.getD i g3z).ar))) := by
 rcases h with h | ⟨b, off, h⟩
 · exact ⟨0, 0, .inl h⟩
 · exact ⟨b, off, .inr h⟩
theorem gls_below {w w' : World} {a : Option Addr} {is : List G3} (h : GlsAt w a is) (hb : Below w.heap.size w w') : GlsAt w' a is := by
 rcases h with h | ⟨b, off, h1, h2, h3⟩
 · exact .inl h
 · exact .inr ⟨b, off, h1, Nat.lt_of_lt_of_le h2 hb.size, fun i hi => by rw [hb.cell (by exact h2), hb.cell (by exact h2), hb.cell (by exact h2)]; exact h3 i hi⟩
theorem gls_setCell {w : World} {g : Nat} {is : List G3} {q : Addr} {v : Value} (h : GlsAt w (some ⟨g, 0, none⟩) is) (hq : q.block ≠ g) : GlsAt (w.setCell q v) (some ⟨g, 0, none⟩) is := by
 rcases h with h | ⟨b, off, h1, h2, h3⟩
 · exact .inl h
 · have hg : b = g := by injection h1 with h1; injection h1 with h1 _; exact h1.symm
   have hne : ∀ j, q ≠ ⟨b, j, none⟩ := fun j e => hq (by rw [e]; exact hg)
   refine .inr ⟨b, off, h1, by simpa using h2, fun i hi => ?_⟩
   rw [World.cell?_setCell_other _ _ _ _ (hne _), World.cell?_setCell_other _ _ _ _ (hne _), World.cell?_setCell_other _ _ _ _ (hne _)]
   exact h3 i hi
theorem getD_smallG {is : List G3} {B : Nat} (h : ∀ i, i < is.length → (is.getD i g3z).le B) (i : Nat) : (is.getD i g3z).le B := by
 rcases Nat.lt_or_ge i is.length with h' | h'
 · exact h i h'
 · have e : is.getD i g3z = g3z := by simp [List.getD, List.getElem?_eq_none h']
   rw [e]; exact ⟨Nat.zero_le _, Nat.zero_le _⟩
set_option maxHeartbeats 1000000 in
theorem c74 (a : Option Addr) (cap : Nat) (is : List G3) (l : Int) (w : World) (h0 : 0 ≤ l) (h1 : l ≤ 1048576) (hs : ∀ i, (is.getD i g3z).le 9223372036854775807) (hl : is.length ≤ 9223372036854775807) (hat : GlsAt w a is) :
 Calls Tryz.prog 74 #[.slice a is.length cap, .int .i64 l] w fun e w' => (∃ r : Int, e = .returned (.int .i64 r) ∧ (0 ≤ r → is.length ≤ 1048576 ∧ (∀ i, (is.getD i g3z).le 1048576) ∧ r ≤ l - is.length)) ∧ Below w.heap.size w w' := by
 obtain ⟨b, off, hc⟩ := gls_some hat
 have HC : Hid (is = [] ∨ (a = some ⟨b, off, none⟩ ∧ b < w.heap.size ∧ ∀ i, i < is.length → w.cell? ⟨b, off + i * 3, none⟩ = some (.bool (is.getD i g3z).nm) ∧ w.cell? ⟨b, off + i * 3 + 1, none⟩ = some (.string (is.getD i g3z).tl) ∧ w.cell? ⟨b, off + i * 3 + 2, none⟩ = some (.string (is.getD i g3z).ar))) := hc
 clear hc hat
 by_cases hbig : l < is.length
 · go_enter Tryz.func74, Tryz.ntmps74
   go_wp2
   go_ret
   exact ⟨⟨-1, rfl, fun h => by omega⟩, Below.refl _ _⟩
 · go_enter Tryz.func74, Tryz.ntmps74
   go_wp2_with fail
   go_loopw [1, 5] (fun l' i wr => ∃ (k : Nat) (r : Int), k ≤ is.length ∧ i = .int .i64 k ∧ l' = .int .i64 r ∧ 0 ≤ r ∧ r ≤ l - is.length ∧ Hid (∀ i, i < k → (is.getD i g3z).le 1048576) ∧ Below w.heap.size w wr) (fun _ i _ => is.length - (intOf i).toNat)
   case atStart => exact ⟨0, _, Nat.zero_le _, rfl, rfl, by omega, by omega, fun i h => absurd h (Nat.not_lt_zero _), Below.refl _ _⟩
   case round =>
    obtain ⟨k, r, hk, rfl, rfl, hr0, hr1, hsm, hb⟩ := hrel
    by_cases hlt : k < is.length
    · rcases HC.out with hss | ⟨ha, hbw, hcell⟩
      · rw [hss] at hlt; exact absurd hlt (Nat.not_lt_zero _)
      subst ha
      have g0 := (hb.cell (p := ⟨b, off + k * 3, none⟩) hbw).trans (hcell k hlt).1
      have g1 := (hb.cell (p := ⟨b, off + k * 3 + 1, none⟩) hbw).trans (hcell k hlt).2.1
      have g2 := (hb.cell (p := ⟨b, off + k * 3 + 2, none⟩) hbw).trans (hcell k hlt).2.2
      have hxs := hs k
      generalize hx : is.getD k g3z = x at *
      have HX : Hid (is.getD k g3z = x) := hx
      clear hx hcell
      go_wp2_with fail
      refine (c99 x r wr hxs hr0 (by omega)).mono ?_
      rintro e w1 ⟨⟨r1, rfl, hr⟩, hb1⟩
      have hB1 : Below w.heap.size w w1 := hb.trans (hb1.mono hb.size)
      by_cases hneg : r1 < 0
      · clear hr
        go_wp2
        go_ret
        exact ⟨⟨-1, rfl, fun h => by omega⟩, hB1⟩
      · have hr' := hr (by omega)
        have hsm' : Hid (∀ i, i < k + 1 → (is.getD i g3z).le 1048576) := by
         intro i h
         rcases Nat.lt_or_ge i k with h1 | h1
         · exact hsm.out i h1
         · obtain rfl : i = k := by omega
           rw [HX.out]; exact hr'.1
        clear hr
        go_wp2
        go_roundw
        case rel => exact ⟨k + 1, _, by omega, by go_num, rfl, by omega, Int.le_trans hr'.2 hr1, hsm', hB1⟩
        case measure => simp [intOf]; omega
    · have hsm' : Hid (∀ i, (is.getD i g3z).le 1048576) := getD_smallG (fun i h => hsm.out i (by omega))
      go_wp2
      go_ret
      exact ⟨⟨r, rfl, fun _ => ⟨by omega, hsm'.out, hr1⟩⟩, hb⟩
set_option maxHeartbeats 400000 in
theorem c101 (x : G3) (w : World) :
 Calls Tryz.prog 101 #[.agg #[.bool x.nm, .string x.tl, .string x.ar]] w fun e w' => e = .returned (.agg #[.bool x.nm, .string x.tl, .string x.ar]) ∧ Below w.heap.size w w' := by
 go_enter Tryz.func101, Tryz.ntmps101
 go_wp2
 refine bodyPost_ret (v := .agg #[.bool x.nm, .string x.tl, .string x.ar]) (by simp [results, Tryz.results101, go_sem]) rfl ⟨rfl, ?_⟩
 exact (((Below.refl _ _).alloc (Nat.le_refl _) _).alloc (by simp) _).alloc (by simp; omega) _
theorem set3_other (u : World) (B j m : Nat) (v0 v1 v2 : Value) (h0 : m ≠ j) (h1 : m ≠ j + 1) (h2 : m ≠ j + 2) : (((u.setCell ⟨B, j, none⟩ v0).setCell ⟨B, j + 1, none⟩ v1).setCell ⟨B, j + 2, none⟩ v2).cell? ⟨B, m, none⟩ = u.cell? ⟨B, m, none⟩ := by
 rw [World.cell?_setCell_other _ _ _ _ (adr_ne (Ne.symm h2)), World.cell?_setCell_other _ _ _ _ (adr_ne (Ne.symm h1)), World.cell?_setCell_other _ _ _ _ (adr_ne (Ne.symm h0))]
theorem set3_at (u : World) (B j : Nat) (v0 v1 v2 x0 x1 x2 : Value) (h0 : u.cell? ⟨B, j, none⟩ = some x0) (h1 : u.cell? ⟨B, j + 1, none⟩ = some x1) (h2 : u.cell? ⟨B, j + 2, none⟩ = some x2) :
 (((u.setCell ⟨B, j, none⟩ v0).setCell ⟨B, j + 1, none⟩ v1).setCell ⟨B, j + 2, none⟩ v2).cell? ⟨B, j, none⟩ = some v0 ∧ (((u.setCell ⟨B, j, none⟩ v0).setCell ⟨B, j + 1, none⟩ v1).setCell ⟨B, j + 2, none⟩ v2).cell? ⟨B, j + 1, none⟩ = some v1 ∧ (((u.setCell ⟨B, j, none⟩ v0).setCell ⟨B, j + 1, none⟩ v1).setCell ⟨B, j + 2, none⟩ v2).cell? ⟨B, j + 2, none⟩ = some v2 := by
 have a1 : (u.setCell ⟨B, j, none⟩ v0).cell? ⟨B, j + 1, none⟩ = some x1 := by rw [World.cell?_setCell_other _ _ _ _ (adr_ne (by omega))]; exact h1
 have a2 : ((u.setCell ⟨B, j, none⟩ v0).setCell ⟨B, j + 1, none⟩ v1).cell? ⟨B, j + 2, none⟩ = some x2 := by
  rw [World.cell?_setCell_other _ _ _ _ (adr_ne (by omega)), World.cell?_setCell_other _ _ _ _ (adr_ne (by omega))]; exact h2
 refine ⟨?_, ?_, World.cell?_setCell_same _ _ _ a2⟩
 · rw [World.cell?_setCell_other _ _ _ _ (adr_ne (by omega)), World.cell?_setCell_other _ _ _ _ (adr_ne (by omega))]; exact World.cell?_setCell_same _ _ _ h0
 · rw [World.cell?_setCell_other _ _ _ _ (adr_ne (by omega))]; exact World.cell?_setCell_same _ _ _ a1
theorem info92 : (Tryz.prog.info? 92).map (fun i => (i.zero, i.size, i.bytes)) = some (some (.agg #[.bool false, .string ⟨#[]⟩, .string ⟨#[]⟩]), 3, 40) := by kernel_rfl
theorem madeG (n j : Nat) (h : j < n * 3) : (madeCells #[Value.bool false, .string ⟨#[]⟩, .string ⟨#[]⟩] (n * 3))[j]? = (#[Value.bool false, .string ⟨#[]⟩, .string ⟨#[]⟩] : Array Value)[j % 3]? := by
 have h3 : j % 3 < 3 := Nat.mod_lt _ (by omega)
 rw [Array.getElem?_eq_getElem (by simpa [size_madeCells] using h), Array.getElem?_eq_getElem (by simpa using h3)]
 simp [madeCells, h3]
set_option maxHeartbeats 400000 in
theorem c113 (x : G3) (w : World) :
 Calls Tryz.prog 113 #[.agg #[.bool x.nm, .string x.tl, .string x.ar], .agg #[.bool x.nm, .string x.tl, .string x.ar]] w fun e w' => e = .returned (.bool true) ∧ Below w.heap.size w w' := by
 go_enter Tryz.func113, Tryz.ntmps113
 go_wp2
 go_ret
 exact ⟨rfl, ((Below.refl _ _).alloc (Nat.le_refl _) _).alloc (by simp) _⟩
set_option maxHeartbeats 1000000 in
theorem c98 (a a' : Option Addr) (cap cap' : Nat) (is : List G3) (w : World) (hl : is.length ≤ 1048576) (hat : GlsAt w a is) (hat' : GlsAt w a' is) :
 Calls Tryz.prog 98 #[.slice a is.length cap, .slice a' is.length cap'] w fun e w' => e = .returned (.bool true) ∧ Below w.heap.size w w' := by
 obtain ⟨b, off, hc⟩ := gls_some hat
 have HC : Hid (is = [] ∨ (a = some ⟨b, off, none⟩ ∧ b < w.heap.size ∧ ∀ i, i < is.length → w.cell? ⟨b, off + i * 3, none⟩ = some (.bool (is.getD i g3z).nm) ∧ w.cell? ⟨b, off + i * 3 + 1, none⟩ = some (.string (is.getD i g3z).tl) ∧ w.cell? ⟨b, off + i * 3 + 2, none⟩ = some (.string (is.getD i g3z).ar))) := hc
 clear hc hat
 obtain ⟨b', off', hc'⟩ := gls_some hat'
 have HC' : Hid (is = [] ∨ (a' = some ⟨b', off', none⟩ ∧ b' < w.heap.size ∧ ∀ i, i < is.length → w.cell? ⟨b', off' + i * 3, none⟩ = some (.bool (is.getD i g3z).nm) ∧ w.cell? ⟨b', off' + i * 3 + 1, none⟩ = some (.string (is.getD i g3z).tl) ∧ w.cell? ⟨b', off' + i * 3 + 2, none⟩ = some (.string (is.getD i g3z).ar))) := hc'
 clear hc' hat'
 go_enter Tryz.func98, Tryz.ntmps98
 go_wp2_with fail
 go_loopw [5] (fun i wr => ∃ (k : Nat), k ≤ is.length ∧ i = .int .i64 k ∧ Below w.heap.size w wr) (fun i _ => is.length - (intOf i).toNat)
 case atStart => exact ⟨0, Nat.zero_le _, rfl, Below.refl _ _⟩
 case round =>
  obtain ⟨k, hk, rfl, hb⟩ := hrel
  by_cases hlt : k < is.length
  · rcases HC.out with hss | ⟨ha, hbw, hcell⟩
    · rw [hss] at hlt; exact absurd hlt (Nat.not_lt_zero _)
    rcases HC'.out with hss | ⟨ha', hbw', hcell'⟩
    · rw [hss] at hlt; exact absurd hlt (Nat.not_lt_zero _)
    subst ha
    subst ha'
    have g0 := (hb.cell (p := ⟨b, off + k * 3, none⟩) hbw).trans (hcell k hlt).1
    have g1 := (hb.cell (p := ⟨b, off + k * 3 + 1, none⟩) hbw).trans (hcell k hlt).2.1
    have g2 := (hb.cell (p := ⟨b, off + k * 3 + 2, none⟩) hbw).trans (hcell k hlt).2.2
    have g0' := (hb.cell (p := ⟨b', off' + k * 3, none⟩) hbw').trans (hcell' k hlt).1
    have g1' := (hb.cell (p := ⟨b', off' + k * 3 + 1, none⟩) hbw').trans (hcell' k hlt).2.1
    have g2' := (hb.cell (p := ⟨b', off' + k * 3 + 2, none⟩) hbw').trans (hcell' k hlt).2.2
    generalize is.getD k g3z = x at *
    clear hcell hcell'
    go_wp2_with fail
    go_region_with (go_at_call 113; refine (c113 x _).mono ?_; rintro e w1 ⟨rfl, hb1⟩)
    all_goals go_wp2
    all_goals go_roundw
    all_goals first
     | exact ⟨k + 1, by omega, by go_num, (hb.drew).trans (hb1.mono hb.size)⟩
     | (simp [intOf]; omega)
  · go_wp2
    go_ret
    exact ⟨rfl, hb⟩
end Go.Proofs.YtkhlekmicpmpkaaGreatDoor

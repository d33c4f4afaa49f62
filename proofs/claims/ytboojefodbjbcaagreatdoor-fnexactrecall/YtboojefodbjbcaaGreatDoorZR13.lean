import Derived.Test.YtboojefodbjbcaaGreatDoorZR03
import Derived.Test.YtboojefodbjbcaaGreatDoorZR00
import Derived.Deep.RegionHeld3
import Derived.Laws.OwnMore
namespace Go.Proofs.YtboojefodbjbcaaGreatDoor.G
open Go.RowKit
structure L4 where
 has : Bool
 nm : ByteArray
 cd : Int
 tx : ByteArray
def l4z : L4 := ⟨false, ⟨#[]⟩, 0, ⟨#[]⟩⟩
def L4.le (x : L4) (B : Nat) : Prop := x.nm.size ≤ B ∧ x.tx.size ≤ B
def LksAt (w : World) (a : Option Addr) (is : List L4) : Prop :=
 is = [] ∨ ∃ b off, a = some ⟨b, off, none⟩ ∧ b < w.heap.size ∧ ∀ i, i < is.length → w.cell? ⟨b, off + i * 4, none⟩ = some (.bool (is.getD i l4z).has) ∧ w.cell? ⟨b, off + i * 4 + 1, none⟩ = some (.string (is.getD i l4z).nm) ∧ w.cell? ⟨b, off + i * 4 + 2, none⟩ = some (.int .i64 (is.getD i l4z).cd) ∧ w.cell? ⟨b, off + i * 4 + 3, none⟩ = some (.string (is.getD i l4z).tx)
set_option maxHeartbeats 400000 in
theorem c64 (cd : Int) (tx : ByteArray) (l : Int) (w : World) (hs : tx.size ≤ 9223372036854775807) (h0 : 0 ≤ l) (h1 : l ≤ 1048576) :
 Calls Tryz.prog 64 #[.agg #[.int .i64 cd, .string tx], .int .i64 l] w fun e w' => (∃ r : Int, e = .returned (.int .i64 r) ∧ (0 ≤ r → tx.size ≤ 1048576 ∧ r ≤ 1048576)) ∧ Below w.heap.size w w' := by
 by_cases h' : l < tx.size
 · go_enter Tryz.func64, Tryz.ntmps64
   go_wp2
   go_ret
   exact ⟨⟨-1, rfl, fun h => by omega⟩, (Below.refl _ _).alloc (Nat.le_refl _) _⟩
 · go_enter Tryz.func64, Tryz.ntmps64
   go_wp2
   go_ret
   exact ⟨⟨_, rfl, fun h => by omega⟩, (Below.refl _ _).alloc (Nat.le_refl _) _⟩
set_option maxHeartbeats 400000 in
theorem c79 (cd : Int) (tx : ByteArray) (w : World) :
 Calls Tryz.prog 79 #[.agg #[.int .i64 cd, .string tx]] w fun e w' => e = .returned (.agg #[.int .i64 cd, .string tx]) ∧ Below w.heap.size w w' := by
 go_enter Tryz.func79, Tryz.ntmps79
 go_wp2
 refine bodyPost_ret (v := .agg #[.int .i64 cd, .string tx]) (by simp [results, Tryz.results79, go_sem]) rfl ⟨rfl, ?_⟩
 exact (((Below.refl _ _).alloc (Nat.le_refl _) _).alloc (by simp) _).alloc (by simp; omega) _
set_option maxHeartbeats 400000 in
theorem c51 (cd : Int) (tx : ByteArray) (w : World) :
 Calls Tryz.prog 51 #[.agg #[.int .i64 cd, .string tx], .agg #[.int .i64 cd, .string tx]] w fun e w' => e = .returned (.bool true) ∧ Below w.heap.size w w' := by
 go_enter Tryz.func51, Tryz.ntmps51
 go_wp2
 go_ret
 exact ⟨rfl, ((Below.refl _ _).alloc (Nat.le_refl _) _).alloc (by simp) _⟩
set_option maxHeartbeats 1000000 in
theorem c103 (x : L4) (l : Int) (w : World) (hs : x.le 9223372036854775807) (h0 : 0 ≤ l) (h1 : l ≤ 1048576) :
 Calls Tryz.prog 103 #[.agg #[.bool x.has, .string x.nm, .int .i64 x.cd, .string x.tx], .int .i64 l] w fun e w' => (∃ r : Int, e = .returned (.int .i64 r) ∧ (0 ≤ r → x.le 1048576 ∧ r ≤ 1048576)) ∧ Below w.heap.size w w' := by
 obtain ⟨s2, s3⟩ := hs
 by_cases h' : l < x.nm.size
 · go_enter Tryz.func103, Tryz.ntmps103
   go_wp2
   go_ret
   exact ⟨⟨-1, rfl, fun h => by omega⟩, (Below.refl _ _).alloc (Nat.le_refl _) _⟩
 · have h30 := fun u => c64 x.cd x.tx (l - x.nm.size) u s3 (by omega) (by omega)
   go_enter Tryz.func103, Tryz.ntmps103
   go_wp2_with fail
   refine (h30 _).mono ?_
   rintro e w1 ⟨⟨r, rfl, hr⟩, hb1⟩
   have hB1 : Below w.heap.size w w1 := ((Below.refl _ _).alloc (Nat.le_refl _) _).trans (hb1.mono (by simp))
   by_cases hn : r < 0
   · clear hr
     go_wp2
     go_ret
     exact ⟨⟨-1, rfl, fun h => by omega⟩, hB1⟩
   · have hr' := hr (by omega)
     clear hr
     go_wp2
     go_ret
     exact ⟨⟨r, rfl, fun h => ⟨⟨by omega, hr'.1⟩, hr'.2⟩⟩, hB1⟩
theorem lks_some {w : World} {a : Option Addr} {is : List L4} (h : LksAt w a is) : ∃ b off, (is = [] ∨ (a = some ⟨b, off, none⟩ ∧ b < w.heap.size ∧ ∀ i, i < is.length → w.cell? ⟨b, off + i * 4, none⟩ = some (.bool (is.getD i l4z).has) ∧ w.cell? ⟨b, off + i * 4 + 1, none⟩ = some (.string (is.getD i l4z).nm) ∧ w.cell? ⟨b, off + i * 4 + 2, none⟩ = some (.int .i64 (is.getD i l4z).cd) ∧ w.cell? ⟨b, off + i * 4 + 3, none⟩ = some (.string (is.getD i l4z).tx))) := by
 rcases h with h | ⟨b, off, h⟩
 · exact ⟨0, 0, .inl h⟩
 · exact ⟨b, off, .inr h⟩
theorem lks_below {w w' : World} {a : Option Addr} {is : List L4} (h : LksAt w a is) (hb : Below w.heap.size w w') : LksAt w' a is := by
 rcases h with h | ⟨b, off, h1, h2, h3⟩
 · exact .inl h
 · exact .inr ⟨b, off, h1, Nat.lt_of_lt_of_le h2 hb.size, fun i hi => by rw [hb.cell (by exact h2), hb.cell (by exact h2), hb.cell (by exact h2), hb.cell (by exact h2)]; exact h3 i hi⟩
theorem lks_set {w : World} {a : Option Addr} {is : List L4} {q : Addr} {v : Value} (h : LksAt w a is) (hq : ∀ b off, a = some ⟨b, off, none⟩ → is ≠ [] → q.block ≠ b) : LksAt (w.setCell q v) a is := by
 rcases Nat.eq_zero_or_pos is.length with e | e
 · exact .inl (List.eq_nil_of_length_eq_zero e)
 have hn : is ≠ [] := fun c => by rw [c] at e; simp at e
 rcases h with h | ⟨b, off, h1, h2, h3⟩
 · exact absurd h hn
 · have hne : ∀ j, q ≠ ⟨b, j, none⟩ := fun j e => hq b off h1 hn (by rw [e])
   refine .inr ⟨b, off, h1, by simpa using h2, fun i hi => ?_⟩
   rw [World.cell?_setCell_other _ _ _ _ (hne _), World.cell?_setCell_other _ _ _ _ (hne _), World.cell?_setCell_other _ _ _ _ (hne _), World.cell?_setCell_other _ _ _ _ (hne _)]
   exact h3 i hi
theorem getD_smallL {is : List L4} {B : Nat} (h : ∀ i, i < is.length → (is.getD i l4z).le B) (i : Nat) : (is.getD i l4z).le B := by
 rcases Nat.lt_or_ge i is.length with h' | h'
 · exact h i h'
 · have e : is.getD i l4z = l4z := by simp [List.getD, List.getElem?_eq_none h']
   rw [e]; exact ⟨Nat.zero_le _, Nat.zero_le _⟩
set_option maxHeartbeats 1000000 in
theorem c63 (a : Option Addr) (cap : Nat) (is : List L4) (l : Int) (w : World) (h0 : 0 ≤ l) (h1 : l ≤ 1048576) (hs : ∀ i, (is.getD i l4z).le 9223372036854775807) (hl : is.length ≤ 9223372036854775807) (hat : LksAt w a is) :
 Calls Tryz.prog 63 #[.slice a is.length cap, .int .i64 l] w fun e w' => (∃ r : Int, e = .returned (.int .i64 r) ∧ (0 ≤ r → is.length ≤ 1048576 ∧ (∀ i, (is.getD i l4z).le 1048576) ∧ r ≤ 1048576)) ∧ Below w.heap.size w w' := by
 obtain ⟨b, off, hc⟩ := lks_some hat
 have HC : Hid (is = [] ∨ (a = some ⟨b, off, none⟩ ∧ b < w.heap.size ∧ ∀ i, i < is.length → w.cell? ⟨b, off + i * 4, none⟩ = some (.bool (is.getD i l4z).has) ∧ w.cell? ⟨b, off + i * 4 + 1, none⟩ = some (.string (is.getD i l4z).nm) ∧ w.cell? ⟨b, off + i * 4 + 2, none⟩ = some (.int .i64 (is.getD i l4z).cd) ∧ w.cell? ⟨b, off + i * 4 + 3, none⟩ = some (.string (is.getD i l4z).tx))) := hc
 clear hc hat
 by_cases hbig : l < is.length
 · go_enter Tryz.func63, Tryz.ntmps63
   go_wp2
   go_ret
   exact ⟨⟨-1, rfl, fun h => by omega⟩, Below.refl _ _⟩
 · go_enter Tryz.func63, Tryz.ntmps63
   go_wp2_with fail
   go_loopw [1, 5] (fun l i wr => ∃ (k : Nat) (r : Int), k ≤ is.length ∧ i = .int .i64 k ∧ l = .int .i64 r ∧ 0 ≤ r ∧ r ≤ 1048576 ∧ Hid (∀ i, i < k → (is.getD i l4z).le 1048576) ∧ Below w.heap.size w wr) (fun _ i _ => is.length - (intOf i).toNat)
   case atStart => exact ⟨0, _, Nat.zero_le _, rfl, rfl, by omega, by omega, fun i h => absurd h (Nat.not_lt_zero _), Below.refl _ _⟩
   case round =>
    obtain ⟨k, r, hk, rfl, rfl, hr0, hr1, hsm, hb⟩ := hrel
    by_cases hlt : k < is.length
    · rcases HC.out with hss | ⟨ha, hbw, hcell⟩
      · rw [hss] at hlt; exact absurd hlt (Nat.not_lt_zero _)
      subst ha
      have g0 := (hb.cell (p := ⟨b, off + k * 4, none⟩) hbw).trans (hcell k hlt).1
      have g1 := (hb.cell (p := ⟨b, off + k * 4 + 1, none⟩) hbw).trans (hcell k hlt).2.1
      have g2 := (hb.cell (p := ⟨b, off + k * 4 + 2, none⟩) hbw).trans (hcell k hlt).2.2.1
      have g3 := (hb.cell (p := ⟨b, off + k * 4 + 3, none⟩) hbw).trans (hcell k hlt).2.2.2
      have hxs := hs k
      generalize hx : is.getD k l4z = x at *
      have HX : Hid (is.getD k l4z = x) := hx
      clear hx hcell
      go_wp2_with fail
      refine (c103 x r wr hxs hr0 hr1).mono ?_
      rintro e w1 ⟨⟨r1, rfl, hr⟩, hb1⟩
      have hB1 : Below w.heap.size w w1 := hb.trans (hb1.mono hb.size)
      by_cases hneg : r1 < 0
      · clear hr
        go_wp2
        go_ret
        exact ⟨⟨-1, rfl, fun h => by omega⟩, hB1⟩
      · have hr' := hr (by omega)
        have hsm' : Hid (∀ i, i < k + 1 → (is.getD i l4z).le 1048576) := by
         intro i h
         rcases Nat.lt_or_ge i k with h1 | h1
         · exact hsm.out i h1
         · obtain rfl : i = k := by omega
           rw [HX.out]; exact hr'.1
        clear hr
        go_wp2
        go_roundw
        case rel => exact ⟨k + 1, _, by omega, by go_num, rfl, by omega, hr'.2, hsm', hB1⟩
        case measure => simp [intOf]; omega
    · have hsm' : Hid (∀ i, (is.getD i l4z).le 1048576) := getD_smallL (fun i h => hsm.out i (by omega))
      go_wp2
      go_ret
      exact ⟨⟨r, rfl, fun _ => ⟨by omega, hsm'.out, hr1⟩⟩, hb⟩
set_option maxHeartbeats 1000000 in
theorem c52 (x : L4) (w : World) :
 Calls Tryz.prog 52 #[.agg #[.bool x.has, .string x.nm, .int .i64 x.cd, .string x.tx], .agg #[.bool x.has, .string x.nm, .int .i64 x.cd, .string x.tx]] w fun e w' => e = .returned (.bool true) ∧ Below w.heap.size w w' := by
 go_enter Tryz.func52, Tryz.ntmps52
 go_wp2_with fail
 have hB : ∀ o1 o2, Below w.heap.size w ((w.alloc o1).alloc o2) := fun o1 o2 => ((Below.refl _ _).alloc (Nat.le_refl _) _).alloc (by simp) _
 refine (c51 x.cd x.tx _).mono ?_
 rintro e w1 ⟨rfl, hb1⟩
 go_wp2
 go_ret
 exact ⟨rfl, (hB _ _).trans (hb1.mono (by simp; omega))⟩
end Go.Proofs.YtboojefodbjbcaaGreatDoor.G
namespace Go.Proofs.YtboojefodbjbcaaGreatDoor.G
open Go.RowKit
theorem set4_other (u : World) (B j m : Nat) (v0 v1 v2 v3 : Value) (h0 : m ≠ j) (h1 : m ≠ j + 1) (h2 : m ≠ j + 2) (h3 : m ≠ j + 3) : ((((u.setCell ⟨B, j, none⟩ v0).setCell ⟨B, j + 1, none⟩ v1).setCell ⟨B, j + 2, none⟩ v2).setCell ⟨B, j + 3, none⟩ v3).cell? ⟨B, m, none⟩ = u.cell? ⟨B, m, none⟩ := by
 rw [World.cell?_setCell_other _ _ _ _ (adr_ne (Ne.symm h3)), set3_other _ _ _ _ _ _ _ h0 h1 h2]
theorem set4_at (u : World) (B j : Nat) (v0 v1 v2 v3 x0 x1 x2 x3 : Value) (h0 : u.cell? ⟨B, j, none⟩ = some x0) (h1 : u.cell? ⟨B, j + 1, none⟩ = some x1) (h2 : u.cell? ⟨B, j + 2, none⟩ = some x2) (h3 : u.cell? ⟨B, j + 3, none⟩ = some x3) :
 ((((u.setCell ⟨B, j, none⟩ v0).setCell ⟨B, j + 1, none⟩ v1).setCell ⟨B, j + 2, none⟩ v2).setCell ⟨B, j + 3, none⟩ v3).cell? ⟨B, j, none⟩ = some v0 ∧ ((((u.setCell ⟨B, j, none⟩ v0).setCell ⟨B, j + 1, none⟩ v1).setCell ⟨B, j + 2, none⟩ v2).setCell ⟨B, j + 3, none⟩ v3).cell? ⟨B, j + 1, none⟩ = some v1 ∧ ((((u.setCell ⟨B, j, none⟩ v0).setCell ⟨B, j + 1, none⟩ v1).setCell ⟨B, j + 2, none⟩ v2).setCell ⟨B, j + 3, none⟩ v3).cell? ⟨B, j + 2, none⟩ = some v2 ∧ ((((u.setCell ⟨B, j, none⟩ v0).setCell ⟨B, j + 1, none⟩ v1).setCell ⟨B, j + 2, none⟩ v2).setCell ⟨B, j + 3, none⟩ v3).cell? ⟨B, j + 3, none⟩ = some v3 := by
 obtain ⟨a0, a1, a2⟩ := set3_at u B j v0 v1 v2 x0 x1 x2 h0 h1 h2
 have a3 : (((u.setCell ⟨B, j, none⟩ v0).setCell ⟨B, j + 1, none⟩ v1).setCell ⟨B, j + 2, none⟩ v2).cell? ⟨B, j + 3, none⟩ = some x3 := by rw [set3_other _ _ _ _ _ _ _ (by omega) (by omega) (by omega)]; exact h3
 refine ⟨?_, ?_, ?_, World.cell?_setCell_same _ _ _ a3⟩
 · rw [World.cell?_setCell_other _ _ _ _ (adr_ne (by omega))]; exact a0
 · rw [World.cell?_setCell_other _ _ _ _ (adr_ne (by omega))]; exact a1
 · rw [World.cell?_setCell_other _ _ _ _ (adr_ne (by omega))]; exact a2
theorem toL_cells {w w1 : World} {x : L4} (hb : Below (w.heap.size + 3) (((w.alloc (.cells #[.bool x.has, .string x.nm, .int .i64 x.cd, .string x.tx] 179)).alloc (.cells #[.bool false, .string ⟨#[]⟩, .int .i64 0, .string ⟨#[]⟩] 108)).alloc (.cells #[.bool x.has, .string x.nm, .int .i64 0, .string ⟨#[]⟩] 108)) w1) :
 (w1.cell? ⟨w.heap.size + 1, 0, none⟩ = some (.bool false) ∧ w1.cell? ⟨w.heap.size + 1, 1, none⟩ = some (.string ⟨#[]⟩) ∧ w1.cell? ⟨w.heap.size + 1, 2, none⟩ = some (.int .i64 0) ∧ w1.cell? ⟨w.heap.size + 1, 3, none⟩ = some (.string ⟨#[]⟩)) ∧ (w1.cell? ⟨w.heap.size + 1 + 1, 0, none⟩ = some (.bool x.has) ∧ w1.cell? ⟨w.heap.size + 1 + 1, 1, none⟩ = some (.string x.nm) ∧ w1.cell? ⟨w.heap.size + 1 + 1, 2, none⟩ = some (.int .i64 0) ∧ w1.cell? ⟨w.heap.size + 1 + 1, 3, none⟩ = some (.string ⟨#[]⟩)) ∧ (∀ j, w1.frozen? ⟨w.heap.size + 1, j, none⟩ = false) ∧ ∀ j, w1.frozen? ⟨w.heap.size + 1 + 1, j, none⟩ = false := by
 have c : ∀ b j, b < w.heap.size + 3 → w1.cell? ⟨b, j, none⟩ = (((w.alloc (.cells #[.bool x.has, .string x.nm, .int .i64 x.cd, .string x.tx] 179)).alloc (.cells #[.bool false, .string ⟨#[]⟩, .int .i64 0, .string ⟨#[]⟩] 108)).alloc (.cells #[.bool x.has, .string x.nm, .int .i64 0, .string ⟨#[]⟩] 108)).cell? ⟨b, j, none⟩ := fun b j h => hb.cell (by exact h)
 have f : ∀ b j, b < w.heap.size + 3 → w1.frozen? ⟨b, j, none⟩ = (((w.alloc (.cells #[.bool x.has, .string x.nm, .int .i64 x.cd, .string x.tx] 179)).alloc (.cells #[.bool false, .string ⟨#[]⟩, .int .i64 0, .string ⟨#[]⟩] 108)).alloc (.cells #[.bool x.has, .string x.nm, .int .i64 0, .string ⟨#[]⟩] 108)).frozen? ⟨b, j, none⟩ := fun b j h => hb.frozen (by exact h)
 refine ⟨⟨?_, ?_, ?_, ?_⟩, ⟨?_, ?_, ?_, ?_⟩, fun j => ?_, fun j => ?_⟩
 all_goals first
  | (rw [c _ _ (by omega)]; simp [go_sem]; done)
  | (rw [f _ _ (by omega)]; simp [go_sem])
set_option maxHeartbeats 2000000 in
theorem c109 (x : L4) (w : World) :
 Calls Tryz.prog 109 #[.agg #[.bool x.has, .string x.nm, .int .i64 x.cd, .string x.tx]] w fun e w' => e = .returned (.agg #[.bool x.has, .string x.nm, .int .i64 x.cd, .string x.tx]) ∧ Below w.heap.size w w' := by
 have hB0 : Below w.heap.size w (((w.alloc (.cells #[.bool x.has, .string x.nm, .int .i64 x.cd, .string x.tx] 179)).alloc (.cells #[.bool false, .string ⟨#[]⟩, .int .i64 0, .string ⟨#[]⟩] 108)).alloc (.cells #[.bool x.has, .string x.nm, .int .i64 0, .string ⟨#[]⟩] 108)) := (((Below.refl _ _).alloc (Nat.le_refl _) _).alloc (by simp) _).alloc (by simp; omega) _
 have h38 := c79 x.cd x.tx (((w.alloc (.cells #[.bool x.has, .string x.nm, .int .i64 x.cd, .string x.tx] 179)).alloc (.cells #[.bool false, .string ⟨#[]⟩, .int .i64 0, .string ⟨#[]⟩] 108)).alloc (.cells #[.bool x.has, .string x.nm, .int .i64 0, .string ⟨#[]⟩] 108))
 go_enter Tryz.func109, Tryz.ntmps109
 go_wp2_with fail
 refine h38.mono ?_
 rintro e w1 ⟨rfl, hb1⟩
 have hx1 : Below (w.heap.size + 3) (((w.alloc (.cells #[.bool x.has, .string x.nm, .int .i64 x.cd, .string x.tx] 179)).alloc (.cells #[.bool false, .string ⟨#[]⟩, .int .i64 0, .string ⟨#[]⟩] 108)).alloc (.cells #[.bool x.has, .string x.nm, .int .i64 0, .string ⟨#[]⟩] 108)) w1 := by have h := hb1; simp at h; exact h
 have hB1 : Below w.heap.size w w1 := hB0.trans (hx1.mono (by omega))
 obtain ⟨⟨r0, r1, r2, r3⟩, ⟨o0, o1, o2, o3⟩, fr, fo⟩ := toL_cells hx1
 have fr0 := fr 0
 have fr1 := fr 1
 have fr2 := fr 2
 have fr3 := fr 3
 have fo2 := fo 2
 have fo3 := fo 3
 clear hb1 h38 fr fo
 go_wp2
 have ne : ∀ i j, (⟨w.heap.size + 1 + 1, i, none⟩ : Addr) ≠ ⟨w.heap.size + 1, j, none⟩ := fun i j e => by injection e with e _; omega
 have qq : ∀ j, ((w1.setCell ⟨w.heap.size + 1 + 1, 2, none⟩ (.int .i64 x.cd)).setCell ⟨w.heap.size + 1 + 1, 3, none⟩ (.string x.tx)).cell? ⟨w.heap.size + 1, j, none⟩ = w1.cell? ⟨w.heap.size + 1, j, none⟩ := fun j => by rw [World.cell?_setCell_other _ _ _ _ (ne _ _), World.cell?_setCell_other _ _ _ _ (ne _ _)]
 have F := set4_at _ (w.heap.size + 1) 0 (.bool x.has) (.string x.nm) (.int .i64 x.cd) (.string x.tx) _ _ _ _ ((qq 0).trans r0) ((qq 1).trans r1) ((qq 2).trans r2) ((qq 3).trans r3)
 simp only [Nat.zero_add] at F
 refine bodyPost_ret (v := .agg #[.bool x.has, .string x.nm, .int .i64 x.cd, .string x.tx]) (by simp [results, Tryz.results109, go_sem, F.1, F.2.1, F.2.2.1, F.2.2.2]) rfl ⟨rfl, ?_⟩
 exact (((((hB1.setCell (by simp; omega) _).setCell (by simp; omega) _).setCell (by simp) _).setCell (by simp) _).setCell (by simp) _).setCell (by simp) _
set_option maxHeartbeats 1000000 in
theorem c15 (a a' : Option Addr) (cap cap' : Nat) (is : List L4) (w : World) (hl : is.length ≤ 1048576) (hat : LksAt w a is) (hat' : LksAt w a' is) :
 Calls Tryz.prog 15 #[.slice a is.length cap, .slice a' is.length cap'] w fun e w' => e = .returned (.bool true) ∧ Below w.heap.size w w' := by
 obtain ⟨b, off, hc⟩ := lks_some hat
 have HC : Hid (is = [] ∨ (a = some ⟨b, off, none⟩ ∧ b < w.heap.size ∧ ∀ i, i < is.length → w.cell? ⟨b, off + i * 4, none⟩ = some (.bool (is.getD i l4z).has) ∧ w.cell? ⟨b, off + i * 4 + 1, none⟩ = some (.string (is.getD i l4z).nm) ∧ w.cell? ⟨b, off + i * 4 + 2, none⟩ = some (.int .i64 (is.getD i l4z).cd) ∧ w.cell? ⟨b, off + i * 4 + 3, none⟩ = some (.string (is.getD i l4z).tx))) := hc
 clear hc hat
 obtain ⟨b', off', hc'⟩ := lks_some hat'
 have HC' : Hid (is = [] ∨ (a' = some ⟨b', off', none⟩ ∧ b' < w.heap.size ∧ ∀ i, i < is.length → w.cell? ⟨b', off' + i * 4, none⟩ = some (.bool (is.getD i l4z).has) ∧ w.cell? ⟨b', off' + i * 4 + 1, none⟩ = some (.string (is.getD i l4z).nm) ∧ w.cell? ⟨b', off' + i * 4 + 2, none⟩ = some (.int .i64 (is.getD i l4z).cd) ∧ w.cell? ⟨b', off' + i * 4 + 3, none⟩ = some (.string (is.getD i l4z).tx))) := hc'
 clear hc' hat'
 go_enter Tryz.func15, Tryz.ntmps15
 go_wp2_with fail
 go_loopw [5] (fun i wr => ∃ (k : Nat), k ≤ is.length ∧ i = .int .i64 k ∧ Below w.heap.size w wr) (fun i _ => is.length - (intOf i).toNat)
 case atStart => exact ⟨0, Nat.zero_le _, rfl, Below.refl _ _⟩
 case round =>
  obtain ⟨k, hk, rfl, hb⟩ := hrel
  by_cases hlt : k < is.length
  · rcases HC.out with hss | ⟨ha, hbw, hcell⟩
    · rw [hss] at hlt; exact absurd hlt (Nat.not_lt_zero _)
    rcases HC'.out with hss | ⟨ha', hbw', hcell'⟩
    · rw [hss] at hlt; exact absurd hlt (Nat.not_lt_zero _)
    subst ha
    subst ha'
    have g0 := (hb.cell (p := ⟨b, off + k * 4, none⟩) hbw).trans (hcell k hlt).1
    have g1 := (hb.cell (p := ⟨b, off + k * 4 + 1, none⟩) hbw).trans (hcell k hlt).2.1
    have g2 := (hb.cell (p := ⟨b, off + k * 4 + 2, none⟩) hbw).trans (hcell k hlt).2.2.1
    have g3 := (hb.cell (p := ⟨b, off + k * 4 + 3, none⟩) hbw).trans (hcell k hlt).2.2.2
    have g0' := (hb.cell (p := ⟨b', off' + k * 4, none⟩) hbw').trans (hcell' k hlt).1
    have g1' := (hb.cell (p := ⟨b', off' + k * 4 + 1, none⟩) hbw').trans (hcell' k hlt).2.1
    have g2' := (hb.cell (p := ⟨b', off' + k * 4 + 2, none⟩) hbw').trans (hcell' k hlt).2.2.1
    have g3' := (hb.cell (p := ⟨b', off' + k * 4 + 3, none⟩) hbw').trans (hcell' k hlt).2.2.2
    generalize is.getD k l4z = x at *
    clear hcell hcell'
    go_wp2_with fail
    go_region_with (go_at_call 52; refine (c52 x _).mono ?_; rintro e w1 ⟨rfl, hb1⟩)
    all_goals go_wp2
    all_goals go_roundw
    all_goals first
     | exact ⟨k + 1, by omega, by go_num, (hb.drew).trans (hb1.mono hb.size)⟩
     | (simp [intOf]; omega)
  · go_wp2
    go_ret
    exact ⟨rfl, hb⟩
end Go.Proofs.YtboojefodbjbcaaGreatDoor.G
namespace Go.Proofs.YtboojefodbjbcaaGreatDoor.G
open Go.RowKit
theorem info108 : (Tryz.prog.info? 108).map (fun i => (i.zero, i.size, i.bytes)) = some (some (.agg #[Value.bool false, .string ⟨#[]⟩, .int .i64 0, .string ⟨#[]⟩]), 4, 48) := by kernel_rfl
theorem madeL (n j : Nat) (h : j < n * 4) : (madeCells #[Value.bool false, .string ⟨#[]⟩, .int .i64 0, .string ⟨#[]⟩] (n * 4))[j]? = (#[Value.bool false, .string ⟨#[]⟩, .int .i64 0, .string ⟨#[]⟩] : Array Value)[j % 4]? := by
 have h3 : j % 4 < 4 := Nat.mod_lt _ (by omega)
 rw [Array.getElem?_eq_getElem (by simpa [size_madeCells] using h), Array.getElem?_eq_getElem (by simpa using h3)]
 simp [madeCells, h3]
end Go.Proofs.YtboojefodbjbcaaGreatDoor.G

import Derived.Test.YtpjpckmfehfniaaGreatDoorZC20
import Derived.Deep.RegionHeld3
import Derived.Laws.OwnMore
namespace Go.Proofs.YtpjpckmfehfniaaGreatDoor.M
open Go.RowKit
structure But (b : Nat) (w w' : World) : Prop where
 os : w'.os = w.os
 tape : w'.tape = w.tape
 output : w'.output = w.output
 size : w.heap.size ≤ w'.heap.size
 block : ∀ k, k < w.heap.size → k ≠ b → w'.heap[k]? = w.heap[k]?
theorem But.refl (b : Nat) (w : World) : But b w w := ⟨rfl, rfl, rfl, Nat.le_refl _, fun _ _ _ => rfl⟩
theorem But.trans {b : Nat} {u v w : World} (h : But b u v) (k : But b v w) : But b u w :=
 ⟨k.os.trans h.os, k.tape.trans h.tape, k.output.trans h.output, Nat.le_trans h.size k.size, fun i hi hne => (k.block i (Nat.lt_of_lt_of_le hi h.size) hne).trans (h.block i hi hne)⟩
theorem But.of_below {b : Nat} {w w' : World} (h : Below w.heap.size w w') : But b w w' := ⟨h.os, h.tape, h.output, h.size, fun k hk _ => h.block k hk⟩
theorem But.below {b B : Nat} {w w' : World} (h : But b w w') (hB : B ≤ b) (hz : B ≤ w.heap.size) : Below B w w' := ⟨h.os, h.tape, h.output, h.size, fun k hk => h.block k (by omega) (by omega)⟩
theorem But.setCell {b : Nat} {w w' : World} (h : But b w w') (j : Nat) (v : Value) : But b w (w'.setCell ⟨b, j, none⟩ v) := by
 have k := (Below.refl b w').setCell (p := ⟨b, j, none⟩) (Nat.le_refl _) v
 refine ⟨k.os.trans h.os, k.tape.trans h.tape, k.output.trans h.output, Nat.le_trans h.size k.size, fun i hi hne => ?_⟩
 rw [← h.block i hi hne]
 exact Below.heap_setCell _ _ _ _ hne
theorem But.cell {b : Nat} {w w' : World} (h : But b w w') {p : Addr} (hp : p.block < w.heap.size) (hne : p.block ≠ b) : w'.cell? p = w.cell? p := by
 unfold World.cell?
 rw [h.block p.block hp hne]
theorem cons_ofL (x : Int) (l : List UInt8) : strOfNums [x] ++ ofL l = ofL (UInt8.ofNat x.toNat :: l) := by
 apply ByteArray.ext
 simp [ofL, strOfNums]
set_option maxHeartbeats 400000 in
theorem c52 (K : Int) (w : World) (h1 : 1 ≤ K) (h2 : K ≤ 10000000) :
 Calls Tryz.prog 52 #[.int .i64 K] w fun e w' => e = .returned (.string (ofL (109 :: dec K))) ∧ Below w.heap.size w w' := by
 have hcv := conv1
 have hcd := convD
 have hz : ∀ y, (strOfNums [y]).size = 1 := fun y => strOfNums_size [y]
 have hdl := dec_len K (by omega) (by omega)
 go_enter Tryz.func52, Tryz.ntmps52
 go_wp2_with fail
 go_loopw [0, 3] (fun k o wr => ∃ (m : Int) (l : List UInt8), 0 ≤ m ∧ m ≤ 10000000 ∧ k = .int .i64 m ∧ o = .string (ofL l) ∧ Hid (dec K = if m = 0 then l else dec m ++ l) ∧ Below w.heap.size w wr) (fun k _ _ => (intOf k).toNat)
 case atStart => exact ⟨K, [], by omega, h2, rfl, rfl, by rw [if_neg (by omega)]; simp [Hid], Below.refl _ _⟩
 case round =>
  obtain ⟨m, l, hm0, hm1, rfl, rfl, hl, hb⟩ := hrel
  by_cases hlt : 0 < m
  · have hsz : (ofL l).size ≤ 100000001 := by
     have := hl.out
     rw [if_neg (by omega)] at this
     have := congrArg List.length this
     rw [List.length_append] at this
     rw [ofL_size]; omega
    have HN : Hid (dec K = if m / 10 = 0 then UInt8.ofNat (48 + m % 10).toNat :: l else dec (m / 10) ++ (UInt8.ofNat (48 + m % 10).toNat :: l)) := by
     have h := hl.out
     rw [if_neg (by omega)] at h
     by_cases h10 : m < 10
     · rw [dec_lt m h10] at h
       rw [if_pos (by omega), show m % 10 = m by omega]
       exact h
     · rw [dec_ge m (by omega)] at h
       rw [if_neg (by omega)]
       exact h.trans (by simp)
    go_wp2
    go_roundw
    case rel => exact ⟨m / 10, _, by omega, by omega, rfl, by rw [cons_ofL], HN, hb.alloc hb.size _⟩
    case measure => simp [intOf]; omega
  · obtain rfl : m = 0 := by omega
    have HN : Hid (dec K = l) := by have h := hl.out; rwa [if_pos rfl] at h
    have hsz : (ofL l).size ≤ 100000001 := by rw [ofL_size, ← HN.out]; exact hdl
    go_wp2
    go_ret
    exact ⟨ret_str (by rw [HN.out]; simp only [one_ofL, cat_ofL]; rfl), hb⟩
def mkL (K : Int) (i : Nat) : L4 := ⟨((K + 4 * (i : Int)) % 3 == 0), ofL (109 :: dec (K + 4 * (i : Int) + 1)), K + 4 * (i : Int) + 2, ofL (109 :: dec (K + 4 * (i : Int) + 3))⟩
def MarksAt (K : Int) (w : World) (b k : Nat) : Prop := ∀ j, j < k → w.cell? ⟨b, j * 4, none⟩ = some (.bool (mkL K j).has) ∧ w.cell? ⟨b, j * 4 + 1, none⟩ = some (.string (mkL K j).nm) ∧ w.cell? ⟨b, j * 4 + 2, none⟩ = some (.int .i64 (mkL K j).cd) ∧ w.cell? ⟨b, j * 4 + 3, none⟩ = some (.string (mkL K j).tx)
def Open4 (w : World) (b n : Nat) : Prop := b < w.heap.size ∧ (∀ j, j < n * 4 → ∃ v, w.cell? ⟨b, j, none⟩ = some v) ∧ ∀ j, w.frozen? ⟨b, j, none⟩ = false
theorem Open4.below {w w' : World} {b n : Nat} (h : Open4 w b n) (hb : Below w.heap.size w w') : Open4 w' b n :=
 ⟨Nat.lt_of_lt_of_le h.1 hb.size, fun j hj => by rw [hb.cell (by exact h.1)]; exact h.2.1 j hj, fun j => by rw [hb.frozen (by exact h.1)]; exact h.2.2 j⟩
theorem Open4.set {w : World} {b n j : Nat} {v : Value} (h : Open4 w b n) (hj : j < n * 4) : Open4 (w.setCell ⟨b, j, none⟩ v) b n := by
 refine ⟨by simpa using h.1, fun i hi => ?_, fun i => by have := h.2.2 i; simpa using this⟩
 by_cases e : i = j
 · subst e
   obtain ⟨x, hx⟩ := h.2.1 i hi
   exact ⟨v, World.cell?_setCell_same _ _ _ hx⟩
 · rw [World.cell?_setCell_other _ _ _ _ (adr_ne (Ne.symm e))]
   exact h.2.1 i hi
theorem marks_below {K : Int} {w w' : World} {b k : Nat} (h : MarksAt K w b k) (hlt : b < w.heap.size) (hb : Below w.heap.size w w') : MarksAt K w' b k := by
 intro j hj
 rw [hb.cell (by exact hlt), hb.cell (by exact hlt), hb.cell (by exact hlt), hb.cell (by exact hlt)]
 exact h j hj
theorem marks_set {K : Int} {w : World} {b k j : Nat} {v : Value} (h : MarksAt K w b k) (hj : k * 4 ≤ j) : MarksAt K (w.setCell ⟨b, j, none⟩ v) b k := by
 intro i hi
 rw [World.cell?_setCell_other _ _ _ _ (adr_ne (by omega)), World.cell?_setCell_other _ _ _ _ (adr_ne (by omega)), World.cell?_setCell_other _ _ _ _ (adr_ne (by omega)), World.cell?_setCell_other _ _ _ _ (adr_ne (by omega))]
 exact h i hi
theorem marks_snoc {K : Int} {w : World} {b k : Nat} (h : MarksAt K w b k) (h0 : w.cell? ⟨b, k * 4, none⟩ = some (.bool (mkL K k).has)) (h1 : w.cell? ⟨b, k * 4 + 1, none⟩ = some (.string (mkL K k).nm)) (h2 : w.cell? ⟨b, k * 4 + 2, none⟩ = some (.int .i64 (mkL K k).cd)) (h3 : w.cell? ⟨b, k * 4 + 3, none⟩ = some (.string (mkL K k).tx)) : MarksAt K w b (k + 1) := by
 intro i hi
 by_cases e : i = k
 · subst e; exact ⟨h0, h1, h2, h3⟩
 · exact h i (by omega)
set_option maxHeartbeats 2000000 in
theorem c53 (K : Int) (a : Option Addr) (b n cap : Nat) (w : World) (hK1 : 1 ≤ K) (hK2 : K ≤ 5000000) (ha : n = 0 ∨ a = some ⟨b, 0, none⟩) (hn : n ≤ 1048576) (ho : Open4 w b n) :
 Calls Tryz.prog 53 #[.slice a n cap, .int .i64 K] w fun e w' => e = .returned (.int .i64 (K + 4 * (n : Int))) ∧ But b w w' ∧ Open4 w' b n ∧ MarksAt K w' b n := by
 have HO : Hid (Open4 w b n) := ho
 clear ho
 go_enter Tryz.func53, Tryz.ntmps53
 go_wp2_with fail
 go_loopw [1, 5] (fun q i wr => ∃ (k : Nat), k ≤ n ∧ i = .int .i64 k ∧ q = .int .i64 (K + 4 * (k : Int)) ∧ But b w wr ∧ Hid (Open4 wr b n) ∧ Hid (MarksAt K wr b k)) (fun _ i _ => n - (intOf i).toNat)
 case atStart => exact ⟨0, Nat.zero_le _, rfl, by simp, But.refl _ _, HO, fun j h => absurd h (Nat.not_lt_zero _)⟩
 case round =>
  obtain ⟨k, hk, rfl, rfl, hb, hop, hmk⟩ := hrel
  by_cases hlt : k < n
  · rcases ha with ha | rfl
    · omega
    obtain ⟨v0, g0⟩ := hop.out.2.1 (k * 4) (by omega)
    have f0 := hop.out.2.2 (k * 4)
    go_wp2_with fail
    refine (c52 _ _ (by omega) (by omega)).mono ?_
    rintro e w1 ⟨rfl, hb1⟩
    have HS0 : Open4 (wr.setCell ⟨b, k * 4, none⟩ (.bool ((K + 4 * (k : Int)) % 3 == 0))) b n := hop.out.set (by omega)
    have HO1 : Hid (Open4 w1 b n) := HS0.below hb1
    have HM1 : Hid (MarksAt K w1 b k) := marks_below (marks_set hmk.out (Nat.le_refl _)) HS0.1 hb1
    have hB1 : But b w w1 := (hb.setCell _ _).trans (But.of_below hb1)
    have x0 : w1.cell? ⟨b, k * 4, none⟩ = some (.bool ((K + 4 * (k : Int)) % 3 == 0)) := (hb1.cell (p := ⟨b, k * 4, none⟩) (by exact HS0.1)).trans (World.cell?_setCell_same _ _ _ g0)
    obtain ⟨v1, g1⟩ := HO1.out.2.1 (k * 4 + 1) (by omega)
    have f1 := HO1.out.2.2 (k * 4 + 1)
    have HS1 : Hid (Open4 (w1.setCell ⟨b, k * 4 + 1, none⟩ (.string (ofL (109 :: dec (K + 4 * (k : Int) + 1))))) b n) := HO1.out.set (by omega)
    obtain ⟨v2, g2⟩ := HS1.out.2.1 (k * 4 + 2) (by omega)
    have f2 := HS1.out.2.2 (k * 4 + 2)
    clear hb1 hb hop hmk HS0 g0 f0
    go_wp2_with fail
    refine (c52 _ _ (by omega) (by omega)).mono ?_
    rintro e w2 ⟨rfl, hb2⟩
    have HS2 : Open4 ((w1.setCell ⟨b, k * 4 + 1, none⟩ (.string (ofL (109 :: dec (K + 4 * (k : Int) + 1))))).setCell ⟨b, k * 4 + 2, none⟩ (.int .i64 (K + 4 * (k : Int) + 1 + 1))) b n := HS1.out.set (by omega)
    have HO2 : Hid (Open4 w2 b n) := HS2.below hb2
    have HM2 : Hid (MarksAt K w2 b k) := marks_below (marks_set (marks_set HM1.out (by omega)) (by omega)) HS2.1 hb2
    have hB2 : But b w w2 := ((hB1.setCell _ _).setCell _ _).trans (But.of_below hb2)
    have y0 : w2.cell? ⟨b, k * 4, none⟩ = some (.bool ((K + 4 * (k : Int)) % 3 == 0)) := (hb2.cell (p := ⟨b, k * 4, none⟩) (by exact HS2.1)).trans (by rw [World.cell?_setCell_other _ _ _ _ (adr_ne (by omega)), World.cell?_setCell_other _ _ _ _ (adr_ne (by omega))]; exact x0)
    have y1 : w2.cell? ⟨b, k * 4 + 1, none⟩ = some (.string (ofL (109 :: dec (K + 4 * (k : Int) + 1)))) := (hb2.cell (p := ⟨b, k * 4 + 1, none⟩) (by exact HS2.1)).trans (by rw [World.cell?_setCell_other _ _ _ _ (adr_ne (by omega))]; exact World.cell?_setCell_same _ _ _ g1)
    have y2 : w2.cell? ⟨b, k * 4 + 2, none⟩ = some (.int .i64 (K + 4 * (k : Int) + 1 + 1)) := (hb2.cell (p := ⟨b, k * 4 + 2, none⟩) (by exact HS2.1)).trans (World.cell?_setCell_same _ _ _ g2)
    obtain ⟨v3, g3⟩ := HO2.out.2.1 (k * 4 + 3) (by omega)
    have f3 := HO2.out.2.2 (k * 4 + 3)
    clear hb2 HS2 hB1 HO1 HM1 g1 f1 g2 f2 x0 HS1
    go_wp2
    go_roundw
    case rel =>
     refine ⟨k + 1, by omega, by go_num, by go_num, hB2.setCell _ _, HO2.out.set (by omega), marks_snoc (marks_set HM2.out (by omega)) ?_ ?_ ?_ ?_⟩
     · rw [World.cell?_setCell_other _ _ _ _ (adr_ne (by omega))]; exact y0
     · rw [World.cell?_setCell_other _ _ _ _ (adr_ne (by omega))]; exact y1
     · rw [World.cell?_setCell_other _ _ _ _ (adr_ne (by omega)), y2]; simp [mkL]; omega
     · rw [World.cell?_setCell_same _ _ _ g3]; simp only [mkL]; rw [show K + 4 * (k : Int) + 1 + 1 + 1 = K + 4 * (k : Int) + 3 by omega]
    case measure => simp [intOf]; omega
  · obtain rfl : k = n := by omega
    go_wp2
    go_ret
    exact ⟨rfl, hb, hop.out, hmk.out⟩
set_option maxHeartbeats 2000000 in
theorem c55 (K : Int) (a : Option Addr) (b n cap : Nat) (w : World) (hK1 : 1 ≤ K) (hK2 : K ≤ 5000000) (ha : n = 0 ∨ a = some ⟨b, 0, none⟩) (hn : n ≤ 1048576) (hlt : n = 0 ∨ b < w.heap.size) (hm : MarksAt K w b n) :
 Calls Tryz.prog 55 #[.slice a n cap, .int .i64 K] w fun e w' => e = .returned (.int .i64 (K + 4 * (n : Int))) ∧ Below w.heap.size w w' := by
 have HM : Hid (MarksAt K w b n) := hm
 clear hm
 go_enter Tryz.func55, Tryz.ntmps55
 go_wp2_with fail
 go_loopw [1, 5] (fun q i wr => ∃ (k : Nat), k ≤ n ∧ i = .int .i64 k ∧ q = .int .i64 (K + 4 * (k : Int)) ∧ Below w.heap.size w wr) (fun _ i _ => n - (intOf i).toNat)
 case atStart => exact ⟨0, Nat.zero_le _, rfl, by simp, Below.refl _ _⟩
 case round =>
  obtain ⟨k, hk, rfl, rfl, hb⟩ := hrel
  by_cases hkn : k < n
  · rcases ha with ha | rfl
    · omega
    rcases hlt with hlt | hlt
    · omega
    obtain ⟨m0, m1, m2, m3⟩ := HM.out k hkn
    have HC : Hid (∀ u, Below w.heap.size w u → u.cell? ⟨b, k * 4, none⟩ = some (.bool ((K + 4 * (k : Int)) % 3 == 0)) ∧ u.cell? ⟨b, k * 4 + 1, none⟩ = some (.string (ofL (109 :: dec (K + 4 * (k : Int) + 1)))) ∧ u.cell? ⟨b, k * 4 + 2, none⟩ = some (.int .i64 (K + 4 * (k : Int) + 1 + 1)) ∧ u.cell? ⟨b, k * 4 + 3, none⟩ = some (.string (ofL (109 :: dec (K + 4 * (k : Int) + 1 + 1 + 1))))) := fun u hu => ⟨(hu.cell (p := ⟨b, k * 4, none⟩) hlt).trans m0, (hu.cell (p := ⟨b, k * 4 + 1, none⟩) hlt).trans m1, (hu.cell (p := ⟨b, k * 4 + 2, none⟩) hlt).trans (by rw [m2]; simp [mkL]; omega), (hu.cell (p := ⟨b, k * 4 + 3, none⟩) hlt).trans (by rw [m3]; simp only [mkL]; rw [show K + 4 * (k : Int) + 1 + 1 + 1 = K + 4 * (k : Int) + 3 by omega])⟩
    obtain ⟨g0, g1, g2, g3⟩ := HC.out wr hb
    clear m0 m1 m2 m3
    go_wp2_with fail
    go_region_with (go_at_call 52; refine (c52 _ _ (by omega) (by omega)).mono ?_; rintro e w1 ⟨rfl, hb1⟩; have hB1 : Below w.heap.size w w1 := (hb.drew).trans (hb1.mono hb.size); obtain ⟨p0, p1, p2, p3⟩ := HC.out w1 hB1)
    all_goals go_wp2_with fail
    all_goals go_region_with (go_at_call 52; refine (c52 _ _ (by omega) (by omega)).mono ?_; rintro e w2 ⟨rfl, hb2⟩; have hB2 : Below w.heap.size w w2 := (hB1.drew).trans (hb2.mono hB1.size); obtain ⟨q0, q1, q2, q3⟩ := HC.out w2 hB2)
    all_goals go_wp2
    all_goals go_roundw
    all_goals first
     | exact ⟨k + 1, by omega, by go_num, by go_num, hB2⟩
     | (simp [intOf]; omega)
  · obtain rfl : k = n := by omega
    go_wp2
    go_ret
    exact ⟨rfl, hb⟩
end Go.Proofs.YtpjpckmfehfniaaGreatDoor.M
namespace Go.Proofs.YtpjpckmfehfniaaGreatDoor.M
open Go.RowKit
theorem set4_other (u : World) (B j m : Nat) (v0 v1 v2 v3 : Value) (h0 : m ≠ j) (h1 : m ≠ j + 1) (h2 : m ≠ j + 2) (h3 : m ≠ j + 3) : ((((u.setCell ⟨B, j, none⟩ v0).setCell ⟨B, j + 1, none⟩ v1).setCell ⟨B, j + 2, none⟩ v2).setCell ⟨B, j + 3, none⟩ v3).cell? ⟨B, m, none⟩ = u.cell? ⟨B, m, none⟩ := by
 rw [World.cell?_setCell_other _ _ _ _ (adr_ne (Ne.symm h3)), set3_other _ _ _ _ _ _ _ h0 h1 h2]
theorem set4_at (u : World) (B j : Nat) (v0 v1 v2 v3 x0 x1 x2 x3 : Value) (h0 : u.cell? ⟨B, j, none⟩ = some x0) (h1 : u.cell? ⟨B, j + 1, none⟩ = some x1) (h2 : u.cell? ⟨B, j + 2, none⟩ = some x2) (h3 : u.cell? ⟨B, j + 3, none⟩ = some x3) :
 ((((u.setCell ⟨B, j, none⟩ v0).setCell ⟨B, j + 1, none⟩ v1).setCell ⟨B, j + 2, none⟩ v2).setCell ⟨B, j + 3, none⟩ v3).cell? ⟨B, j, none⟩ = some v0 ∧ ((((u.setCell ⟨B, j, none⟩ v0).setCell ⟨B, j + 1, none⟩ v1).setCell ⟨B, j + 2, none⟩ v2).setCell ⟨B, j + 3, none⟩ v3).cell? ⟨B, j + 1, none⟩ = some v1 ∧ ((((u.setCell ⟨B, j, none⟩ v0).setCell ⟨B, j + 1, none⟩ v1).setCell ⟨B, j + 2, none⟩ v2).setCell ⟨B, j + 3, none⟩ v3).cell? ⟨B, j + 2, none⟩ = some v2 ∧ ((((u.setCell ⟨B, j, none⟩ v0).setCell ⟨B, j + 1, none⟩ v1).setCell ⟨B, j + 2, none⟩ v2).setCell ⟨B, j + 3, none⟩ v3).cell? ⟨B, j + 3, none⟩ = some v3 := by
 obtain ⟨a0, a1, a2⟩ := set3_at u B j v0 v1 v2 x0 x1 x2 h0 h1 h2
 have a3 : (((u.setCell ⟨B, j, none⟩ v0).setCell ⟨B, j + 1, none⟩ v1).setCell ⟨B, j + 2, none⟩ v2).cell? ⟨B, j + 3, none⟩ = some x3 := by rw [set3_other _ _ _ _ _ _ _ (by omega) (by omega) (by omega)]; exact h3
 refine ⟨?_, ?_, ?_, World.cell?_setCell_same _ _ _ a3⟩
 · rw [World.cell?_setCell_other _ _ _ _ (adr_ne (by omega))]; exact a0
 · rw [World.cell?_setCell_other _ _ _ _ (adr_ne (by omega))]; exact a1
 · rw [World.cell?_setCell_other _ _ _ _ (adr_ne (by omega))]; exact a2
theorem toL_cells {w w1 : World} {x : L4} (hb : Below (w.heap.size + 3) (((w.alloc (.cells #[.bool x.has, .string x.nm, .int .i64 x.cd, .string x.tx] 68)).alloc (.cells #[.bool false, .string ⟨#[]⟩, .int .i64 0, .string ⟨#[]⟩] 76)).alloc (.cells #[.bool x.has, .string x.nm, .int .i64 0, .string ⟨#[]⟩] 76)) w1) :
 (w1.cell? ⟨w.heap.size + 1, 0, none⟩ = some (.bool false) ∧ w1.cell? ⟨w.heap.size + 1, 1, none⟩ = some (.string ⟨#[]⟩) ∧ w1.cell? ⟨w.heap.size + 1, 2, none⟩ = some (.int .i64 0) ∧ w1.cell? ⟨w.heap.size + 1, 3, none⟩ = some (.string ⟨#[]⟩)) ∧ (w1.cell? ⟨w.heap.size + 1 + 1, 0, none⟩ = some (.bool x.has) ∧ w1.cell? ⟨w.heap.size + 1 + 1, 1, none⟩ = some (.string x.nm) ∧ w1.cell? ⟨w.heap.size + 1 + 1, 2, none⟩ = some (.int .i64 0) ∧ w1.cell? ⟨w.heap.size + 1 + 1, 3, none⟩ = some (.string ⟨#[]⟩)) ∧ (∀ j, w1.frozen? ⟨w.heap.size + 1, j, none⟩ = false) ∧ ∀ j, w1.frozen? ⟨w.heap.size + 1 + 1, j, none⟩ = false := by
 have c : ∀ b j, b < w.heap.size + 3 → w1.cell? ⟨b, j, none⟩ = (((w.alloc (.cells #[.bool x.has, .string x.nm, .int .i64 x.cd, .string x.tx] 68)).alloc (.cells #[.bool false, .string ⟨#[]⟩, .int .i64 0, .string ⟨#[]⟩] 76)).alloc (.cells #[.bool x.has, .string x.nm, .int .i64 0, .string ⟨#[]⟩] 76)).cell? ⟨b, j, none⟩ := fun b j h => hb.cell (by exact h)
 have f : ∀ b j, b < w.heap.size + 3 → w1.frozen? ⟨b, j, none⟩ = (((w.alloc (.cells #[.bool x.has, .string x.nm, .int .i64 x.cd, .string x.tx] 68)).alloc (.cells #[.bool false, .string ⟨#[]⟩, .int .i64 0, .string ⟨#[]⟩] 76)).alloc (.cells #[.bool x.has, .string x.nm, .int .i64 0, .string ⟨#[]⟩] 76)).frozen? ⟨b, j, none⟩ := fun b j h => hb.frozen (by exact h)
 refine ⟨⟨?_, ?_, ?_, ?_⟩, ⟨?_, ?_, ?_, ?_⟩, fun j => ?_, fun j => ?_⟩
 all_goals first
  | (rw [c _ _ (by omega)]; simp [go_sem]; done)
  | (rw [f _ _ (by omega)]; simp [go_sem])
set_option maxHeartbeats 2000000 in
theorem c37 (x : L4) (w : World) :
 Calls Tryz.prog 37 #[.agg #[.bool x.has, .string x.nm, .int .i64 x.cd, .string x.tx]] w fun e w' => e = .returned (.agg #[.bool x.has, .string x.nm, .int .i64 x.cd, .string x.tx]) ∧ Below w.heap.size w w' := by
 have hB0 : Below w.heap.size w (((w.alloc (.cells #[.bool x.has, .string x.nm, .int .i64 x.cd, .string x.tx] 68)).alloc (.cells #[.bool false, .string ⟨#[]⟩, .int .i64 0, .string ⟨#[]⟩] 76)).alloc (.cells #[.bool x.has, .string x.nm, .int .i64 0, .string ⟨#[]⟩] 76)) := (((Below.refl _ _).alloc (Nat.le_refl _) _).alloc (by simp) _).alloc (by simp; omega) _
 have h38 := c86 x.cd x.tx (((w.alloc (.cells #[.bool x.has, .string x.nm, .int .i64 x.cd, .string x.tx] 68)).alloc (.cells #[.bool false, .string ⟨#[]⟩, .int .i64 0, .string ⟨#[]⟩] 76)).alloc (.cells #[.bool x.has, .string x.nm, .int .i64 0, .string ⟨#[]⟩] 76))
 go_enter Tryz.func37, Tryz.ntmps37
 go_wp2_with fail
 refine h38.mono ?_
 rintro e w1 ⟨rfl, hb1⟩
 have hx1 : Below (w.heap.size + 3) (((w.alloc (.cells #[.bool x.has, .string x.nm, .int .i64 x.cd, .string x.tx] 68)).alloc (.cells #[.bool false, .string ⟨#[]⟩, .int .i64 0, .string ⟨#[]⟩] 76)).alloc (.cells #[.bool x.has, .string x.nm, .int .i64 0, .string ⟨#[]⟩] 76)) w1 := by have h := hb1; simp at h; exact h
 have hB1 : Below w.heap.size w w1 := hB0.trans (hx1.mono (by omega))
 obtain ⟨⟨r0, r1, r2, r3⟩, ⟨o0, o1, o2, o3⟩, fr, fo⟩ := toL_cells hx1
 have fr0 := fr 0
 have fr1 := fr 1
 have fr2 := fr 2
 have fr3 := fr 3
 have fo2 := fo 2
 have fo3 := fo 3
 clear hb1 h38 fr fo
 go_wp2
 have ne : ∀ i j, (⟨w.heap.size + 1 + 1, i, none⟩ : Addr) ≠ ⟨w.heap.size + 1, j, none⟩ := fun i j e => by injection e with e _; omega
 have qq : ∀ j, ((w1.setCell ⟨w.heap.size + 1 + 1, 2, none⟩ (.int .i64 x.cd)).setCell ⟨w.heap.size + 1 + 1, 3, none⟩ (.string x.tx)).cell? ⟨w.heap.size + 1, j, none⟩ = w1.cell? ⟨w.heap.size + 1, j, none⟩ := fun j => by rw [World.cell?_setCell_other _ _ _ _ (ne _ _), World.cell?_setCell_other _ _ _ _ (ne _ _)]
 have F := set4_at _ (w.heap.size + 1) 0 (.bool x.has) (.string x.nm) (.int .i64 x.cd) (.string x.tx) _ _ _ _ ((qq 0).trans r0) ((qq 1).trans r1) ((qq 2).trans r2) ((qq 3).trans r3)
 simp only [Nat.zero_add] at F
 refine bodyPost_ret (v := .agg #[.bool x.has, .string x.nm, .int .i64 x.cd, .string x.tx]) (by simp [results, Tryz.results37, go_sem, F.1, F.2.1, F.2.2.1, F.2.2.2]) rfl ⟨rfl, ?_⟩
 exact (((((hB1.setCell (by simp; omega) _).setCell (by simp; omega) _).setCell (by simp) _).setCell (by simp) _).setCell (by simp) _).setCell (by simp) _
set_option maxHeartbeats 1000000 in
theorem c13 (a a' : Option Addr) (cap cap' : Nat) (is : List L4) (w : World) (hl : is.length ≤ 1048576) (hat : LksAt w a is) (hat' : LksAt w a' is) :
 Calls Tryz.prog 13 #[.slice a is.length cap, .slice a' is.length cap'] w fun e w' => e = .returned (.bool true) ∧ Below w.heap.size w w' := by
 obtain ⟨b, off, hc⟩ := lks_some hat
 have HC : Hid (is = [] ∨ (a = some ⟨b, off, none⟩ ∧ b < w.heap.size ∧ ∀ i, i < is.length → w.cell? ⟨b, off + i * 4, none⟩ = some (.bool (is.getD i l4z).has) ∧ w.cell? ⟨b, off + i * 4 + 1, none⟩ = some (.string (is.getD i l4z).nm) ∧ w.cell? ⟨b, off + i * 4 + 2, none⟩ = some (.int .i64 (is.getD i l4z).cd) ∧ w.cell? ⟨b, off + i * 4 + 3, none⟩ = some (.string (is.getD i l4z).tx))) := hc
 clear hc hat
 obtain ⟨b', off', hc'⟩ := lks_some hat'
 have HC' : Hid (is = [] ∨ (a' = some ⟨b', off', none⟩ ∧ b' < w.heap.size ∧ ∀ i, i < is.length → w.cell? ⟨b', off' + i * 4, none⟩ = some (.bool (is.getD i l4z).has) ∧ w.cell? ⟨b', off' + i * 4 + 1, none⟩ = some (.string (is.getD i l4z).nm) ∧ w.cell? ⟨b', off' + i * 4 + 2, none⟩ = some (.int .i64 (is.getD i l4z).cd) ∧ w.cell? ⟨b', off' + i * 4 + 3, none⟩ = some (.string (is.getD i l4z).tx))) := hc'
 clear hc' hat'
 go_enter Tryz.func13, Tryz.ntmps13
 go_wp2_with fail
 go_loopw [5] (fun i wr => ∃ (k : Nat), k ≤ is.length ∧ i = .int .i64 k ∧ Below w.heap.size w wr) (fun i _ => is.length - (intOf i).toNat)
 case atStart => exact ⟨0, Nat.zero_le _, rfl, Below.refl _ _⟩
 case round =>
  obtain ⟨k, hk, rfl, hb⟩ := hrel
  by_cases hlt : k < is.length
  · rcases HC.out with hss | ⟨ha, hbw, hcell⟩
    · rw [hss] at hlt; exact absurd hlt (Nat.not_lt_zero _)
    rcases HC'.out with hss | ⟨ha', hbw', hcell'⟩
    · rw [hss] at hlt; exact absurd hlt (Nat.not_lt_zero _)
    subst ha
    subst ha'
    have g0 := (hb.cell (p := ⟨b, off + k * 4, none⟩) hbw).trans (hcell k hlt).1
    have g1 := (hb.cell (p := ⟨b, off + k * 4 + 1, none⟩) hbw).trans (hcell k hlt).2.1
    have g2 := (hb.cell (p := ⟨b, off + k * 4 + 2, none⟩) hbw).trans (hcell k hlt).2.2.1
    have g3 := (hb.cell (p := ⟨b, off + k * 4 + 3, none⟩) hbw).trans (hcell k hlt).2.2.2
    have g0' := (hb.cell (p := ⟨b', off' + k * 4, none⟩) hbw').trans (hcell' k hlt).1
    have g1' := (hb.cell (p := ⟨b', off' + k * 4 + 1, none⟩) hbw').trans (hcell' k hlt).2.1
    have g2' := (hb.cell (p := ⟨b', off' + k * 4 + 2, none⟩) hbw').trans (hcell' k hlt).2.2.1
    have g3' := (hb.cell (p := ⟨b', off' + k * 4 + 3, none⟩) hbw').trans (hcell' k hlt).2.2.2
    generalize is.getD k l4z = x at *
    clear hcell hcell'
    go_wp2_with fail
    go_region_with (go_at_call 43; refine (c43 x _).mono ?_; rintro e w1 ⟨rfl, hb1⟩)
    all_goals go_wp2
    all_goals go_roundw
    all_goals first
     | exact ⟨k + 1, by omega, by go_num, (hb.drew).trans (hb1.mono hb.size)⟩
     | (simp [intOf]; omega)
  · go_wp2
    go_ret
    exact ⟨rfl, hb⟩
end Go.Proofs.YtpjpckmfehfniaaGreatDoor.M
namespace Go.Proofs.YtpjpckmfehfniaaGreatDoor.M
open Go.RowKit
theorem info76 : (Tryz.prog.info? 76).map (fun i => (i.zero, i.size, i.bytes)) = some (some (.agg #[Value.bool false, .string ⟨#[]⟩, .int .i64 0, .string ⟨#[]⟩]), 4, 48) := by kernel_rfl
theorem madeL (n j : Nat) (h : j < n * 4) : (madeCells #[Value.bool false, .string ⟨#[]⟩, .int .i64 0, .string ⟨#[]⟩] (n * 4))[j]? = (#[Value.bool false, .string ⟨#[]⟩, .int .i64 0, .string ⟨#[]⟩] : Array Value)[j % 4]? := by
 have h3 : j % 4 < 4 := Nat.mod_lt _ (by omega)
 rw [Array.getElem?_eq_getElem (by simpa [size_madeCells] using h), Array.getElem?_eq_getElem (by simpa using h3)]
 simp [madeCells, h3]
end Go.Proofs.YtpjpckmfehfniaaGreatDoor.M
namespace Go.Proofs.YtpjpckmfehfniaaGreatDoor.M
open Go.RowKit
set_option maxHeartbeats 1000000 in
theorem c6 (x : M3) (l : Int) (w : World) (hs : x.le 9223372036854775807) (h0 : 0 ≤ l) (h1 : l ≤ 1048576) :
 Calls Tryz.prog 6 #[.agg #[.string x.nm, .string x.tl, .string x.ar], .int .i64 l] w fun e w' => (∃ r : Int, e = .returned (.int .i64 r) ∧ (0 ≤ r → x.le 1048576 ∧ r ≤ 1048576)) ∧ Below w.heap.size w w' := by
 obtain ⟨s1, s2, s3⟩ := hs
 have HL : Hid (∀ r : Int, (0 ≤ r → ((x.nm.size : Int) ≤ l ∧ (x.tl.size : Int) ≤ l ∧ (x.ar.size : Int) ≤ l ∧ r ≤ l)) → (0 ≤ r → x.le 1048576 ∧ r ≤ 1048576)) := fun r h g => by
  have := h g
  exact ⟨⟨by omega, by omega, by omega⟩, by omega⟩
 by_cases h' : l < x.nm.size
 · go_enter Tryz.func6, Tryz.ntmps6
   go_wp2
   go_ret
   exact ⟨⟨-1, rfl, HL.out _ fun h => by omega⟩, (Below.refl _ _).alloc (Nat.le_refl _) _⟩
 · by_cases h'' : l < x.nm.size + x.tl.size
   · go_enter Tryz.func6, Tryz.ntmps6
     go_wp2
     go_ret
     exact ⟨⟨-1, rfl, HL.out _ fun h => by omega⟩, (Below.refl _ _).alloc (Nat.le_refl _) _⟩
   · by_cases h3 : l < x.nm.size + x.tl.size + x.ar.size
     · go_enter Tryz.func6, Tryz.ntmps6
       go_wp2
       go_ret
       exact ⟨⟨-1, rfl, HL.out _ fun h => by omega⟩, (Below.refl _ _).alloc (Nat.le_refl _) _⟩
     · go_enter Tryz.func6, Tryz.ntmps6
       go_wp2
       go_ret
       exact ⟨⟨_, rfl, HL.out _ fun h => by omega⟩, (Below.refl _ _).alloc (Nat.le_refl _) _⟩
set_option maxHeartbeats 400000 in
theorem c9 (x : M3) (w : World) :
 Calls Tryz.prog 9 #[.agg #[.string x.nm, .string x.tl, .string x.ar]] w fun e w' => e = .returned (.agg #[.string x.nm, .string x.tl, .string x.ar]) ∧ Below w.heap.size w w' := by
 go_enter Tryz.func9, Tryz.ntmps9
 go_wp2
 refine bodyPost_ret (v := .agg #[.string x.nm, .string x.tl, .string x.ar]) (by simp [results, Tryz.results9, go_sem]) rfl ⟨rfl, ?_⟩
 exact (((Below.refl _ _).alloc (Nat.le_refl _) _).alloc (by simp) _).alloc (by simp; omega) _
structure D8 where
 nm : ByteArray
 made : Bool
 km : M3
 ls : List L4
 cd : Int
 tx : ByteArray
def D8.le (x : D8) (B : Nat) : Prop := x.nm.size ≤ B ∧ x.km.le B ∧ (x.ls.length ≤ B ∧ ∀ i, (x.ls.getD i l4z).le B) ∧ x.tx.size ≤ B
def DeedAt (w : World) (b o : Nat) (x : D8) : Prop := ∃ ai ci, (w.cell? ⟨b, o, none⟩ = some (.string x.nm) ∧ w.cell? ⟨b, o + 1, none⟩ = some (.bool x.made) ∧ w.cell? ⟨b, o + 2, none⟩ = some (.string x.km.nm) ∧ w.cell? ⟨b, o + 3, none⟩ = some (.string x.km.tl) ∧ w.cell? ⟨b, o + 4, none⟩ = some (.string x.km.ar) ∧ w.cell? ⟨b, o + 5, none⟩ = some (.slice ai x.ls.length ci) ∧ w.cell? ⟨b, o + 6, none⟩ = some (.int .i64 x.cd) ∧ w.cell? ⟨b, o + 7, none⟩ = some (.string x.tx)) ∧ LksAt w ai x.ls
theorem DeedAt.below {w w' : World} {b o : Nat} {x : D8} (h : DeedAt w b o x) (hlt : b < w.heap.size) (hb : Below w.heap.size w w') : DeedAt w' b o x := by
 obtain ⟨ai, ci, hc, hg⟩ := h
 refine ⟨ai, ci, ?_, lks_below hg hb⟩
 rw [hb.cell (by exact hlt), hb.cell (by exact hlt), hb.cell (by exact hlt), hb.cell (by exact hlt), hb.cell (by exact hlt), hb.cell (by exact hlt), hb.cell (by exact hlt), hb.cell (by exact hlt)]
 exact hc
end Go.Proofs.YtpjpckmfehfniaaGreatDoor.M

import Derived.Test.YtejlfpolnddfdaaDoorB3
import Derived.Test.YtejlfpolnddfdaaDoorJ4
import Derived.Test.YtejlfpolnddfdaaDoorP6
namespace Go.Proofs.YtejlfpolnddfdaaDoor
open Go.RowKit
/-- All that is there stays, but for one block. -/
structure But (b : Nat) (w w' : World) : Prop where
  os : w'.os = w.os
  tape : w'.tape = w.tape
  output : w'.output = w.output
  size : w.heap.size ≤ w'.heap.size
  block : ∀ k, k < w.heap.size → k ≠ b → w'.heap[k]? = w.heap[k]?
theorem But.refl (b : Nat) (w : World) : But b w w := ⟨rfl, rfl, rfl, Nat.le_refl _, fun _ _ _ => rfl⟩
theorem But.trans {b : Nat} {u v w : World} (h : But b u v) (k : But b v w) : But b u w :=
  ⟨k.os.trans h.os, k.tape.trans h.tape, k.output.trans h.output, Nat.le_trans h.size k.size, fun i hi hne => (k.block i (Nat.lt_of_lt_of_le hi h.size) hne).trans (h.block i hi hne)⟩
theorem But.of_below {b : Nat} {w w' : World} (h : Below w.heap.size w w') : But b w w' := ⟨h.os, h.tape, h.output, h.size, fun k hk _ => h.block k hk⟩
theorem But.below {b B : Nat} {w w' : World} (h : But b w w') (hB : B ≤ b) (hz : B ≤ w.heap.size) : Below B w w' := ⟨h.os, h.tape, h.output, h.size, fun k hk => h.block k (by omega) (by omega)⟩
theorem But.setCell {b : Nat} {w w' : World} (h : But b w w') (j : Nat) (v : Value) : But b w (w'.setCell ⟨b, j, none⟩ v) := by
  have k := (Below.refl b w').setCell (p := ⟨b, j, none⟩) (Nat.le_refl _) v
  refine ⟨k.os.trans h.os, k.tape.trans h.tape, k.output.trans h.output, Nat.le_trans h.size k.size, fun i hi hne => ?_⟩
  rw [← h.block i hi hne]
  exact Below.heap_setCell _ _ _ _ hne
theorem But.cell {b : Nat} {w w' : World} (h : But b w w') {p : Addr} (hp : p.block < w.heap.size) (hne : p.block ≠ b) : w'.cell? p = w.cell? p := by
  unfold World.cell?
  rw [h.block p.block hp hne]

theorem cons_ofL (x : Int) (l : List UInt8) : strOfNums [x] ++ ofL l = ofL (UInt8.ofNat x.toNat :: l) := by
  apply ByteArray.ext
  simp [ofL, strOfNums]
set_option maxHeartbeats 400000 in
theorem c37 (K : Int) (w : World) (h1 : 1 ≤ K) (h2 : K ≤ 10000000) :
    Calls Tryd.prog 37 #[.int .i64 K] w fun e w' => e = .returned (.string (ofL (109 :: dec K))) ∧ Below w.heap.size w w' := by
  have hcv := conv1
  have hcd := convD
  have hz : ∀ y, (strOfNums [y]).size = 1 := fun y => strOfNums_size [y]
  have hdl := dec_len K (by omega) (by omega)
  go_enter Tryd.func37, Tryd.ntmps37
  go_wp2_with fail
  go_loopw [0, 3] (fun k o wr => ∃ (m : Int) (l : List UInt8), 0 ≤ m ∧ m ≤ 10000000 ∧ k = .int .i64 m ∧ o = .string (ofL l) ∧ Hid (dec K = if m = 0 then l else dec m ++ l) ∧ Below w.heap.size w wr) (fun k _ _ => (intOf k).toNat)
  case atStart => exact ⟨K, [], by omega, h2, rfl, rfl, by rw [if_neg (by omega)]; simp [Hid], Below.refl _ _⟩
  case round =>
    obtain ⟨m, l, hm0, hm1, rfl, rfl, hl, hb⟩ := hrel
    by_cases hlt : 0 < m
    · have hsz : (ofL l).size ≤ 100000001 := by
        have := hl.out
        rw [if_neg (by omega)] at this
        have := congrArg List.length this
        rw [List.length_append] at this
        rw [ofL_size]; omega
      have HN : Hid (dec K = if m / 10 = 0 then UInt8.ofNat (48 + m % 10).toNat :: l else dec (m / 10) ++ (UInt8.ofNat (48 + m % 10).toNat :: l)) := by
        have h := hl.out
        rw [if_neg (by omega)] at h
        by_cases h10 : m < 10
        · rw [dec_lt m h10] at h
          rw [if_pos (by omega), show m % 10 = m by omega]
          exact h
        · rw [dec_ge m (by omega)] at h
          rw [if_neg (by omega)]
          exact h.trans (by simp)
      go_wp2
      go_roundw
      case rel => exact ⟨m / 10, _, by omega, by omega, rfl, by rw [cons_ofL], HN, hb.alloc hb.size _⟩
      case measure => simp [intOf]; omega
    · obtain rfl : m = 0 := by omega
      have HN : Hid (dec K = l) := by have h := hl.out; rwa [if_pos rfl] at h
      have hsz : (ofL l).size ≤ 100000001 := by rw [ofL_size, ← HN.out]; exact hdl
      go_wp2
      go_ret
      exact ⟨ret_str (by rw [HN.out]; simp only [one_ofL, cat_ofL]; rfl), hb⟩


/-- The marks of looks, from K on. -/
def mkL (K : Int) (i : Nat) : L4 := ⟨((K + 4 * (i : Int)) % 3 == 0), ofL (109 :: dec (K + 4 * (i : Int) + 1)), K + 4 * (i : Int) + 2, ofL (109 :: dec (K + 4 * (i : Int) + 3))⟩
def MarksAt (K : Int) (w : World) (b k : Nat) : Prop := ∀ j, j < k → w.cell? ⟨b, j * 4, none⟩ = some (.bool (mkL K j).has) ∧ w.cell? ⟨b, j * 4 + 1, none⟩ = some (.string (mkL K j).nm) ∧ w.cell? ⟨b, j * 4 + 2, none⟩ = some (.int .i64 (mkL K j).cd) ∧ w.cell? ⟨b, j * 4 + 3, none⟩ = some (.string (mkL K j).tx)
def Open4 (w : World) (b n : Nat) : Prop := b < w.heap.size ∧ (∀ j, j < n * 4 → ∃ v, w.cell? ⟨b, j, none⟩ = some v) ∧ ∀ j, w.frozen? ⟨b, j, none⟩ = false
theorem Open4.below {w w' : World} {b n : Nat} (h : Open4 w b n) (hb : Below w.heap.size w w') : Open4 w' b n :=
  ⟨Nat.lt_of_lt_of_le h.1 hb.size, fun j hj => by rw [hb.cell (by exact h.1)]; exact h.2.1 j hj, fun j => by rw [hb.frozen (by exact h.1)]; exact h.2.2 j⟩
theorem Open4.set {w : World} {b n j : Nat} {v : Value} (h : Open4 w b n) (hj : j < n * 4) : Open4 (w.setCell ⟨b, j, none⟩ v) b n := by
  refine ⟨by simpa using h.1, fun i hi => ?_, fun i => by have := h.2.2 i; simpa using this⟩
  by_cases e : i = j
  · subst e
    obtain ⟨x, hx⟩ := h.2.1 i hi
    exact ⟨v, World.cell?_setCell_same _ _ _ hx⟩
  · rw [World.cell?_setCell_other _ _ _ _ (adr_ne (Ne.symm e))]
    exact h.2.1 i hi
theorem marks_below {K : Int} {w w' : World} {b k : Nat} (h : MarksAt K w b k) (hlt : b < w.heap.size) (hb : Below w.heap.size w w') : MarksAt K w' b k := by
  intro j hj
  rw [hb.cell (by exact hlt), hb.cell (by exact hlt), hb.cell (by exact hlt), hb.cell (by exact hlt)]
  exact h j hj
theorem marks_set {K : Int} {w : World} {b k j : Nat} {v : Value} (h : MarksAt K w b k) (hj : k * 4 ≤ j) : MarksAt K (w.setCell ⟨b, j, none⟩ v) b k := by
  intro i hi
  rw [World.cell?_setCell_other _ _ _ _ (adr_ne (by omega)), World.cell?_setCell_other _ _ _ _ (adr_ne (by omega)), World.cell?_setCell_other _ _ _ _ (adr_ne (by omega)), World.cell?_setCell_other _ _ _ _ (adr_ne (by omega))]
  exact h i hi
theorem marks_snoc {K : Int} {w : World} {b k : Nat} (h : MarksAt K w b k) (h0 : w.cell? ⟨b, k * 4, none⟩ = some (.bool (mkL K k).has)) (h1 : w.cell? ⟨b, k * 4 + 1, none⟩ = some (.string (mkL K k).nm)) (h2 : w.cell? ⟨b, k * 4 + 2, none⟩ = some (.int .i64 (mkL K k).cd)) (h3 : w.cell? ⟨b, k * 4 + 3, none⟩ = some (.string (mkL K k).tx)) : MarksAt K w b (k + 1) := by
  intro i hi
  by_cases e : i = k
  · subst e; exact ⟨h0, h1, h2, h3⟩
  · exact h i (by omega)
set_option maxHeartbeats 2000000 in
theorem c22 (K : Int) (a : Option Addr) (b n cap : Nat) (w : World) (hK1 : 1 ≤ K) (hK2 : K ≤ 5000000) (ha : n = 0 ∨ a = some ⟨b, 0, none⟩) (hn : n ≤ 1048576) (ho : Open4 w b n) :
    Calls Tryd.prog 22 #[.slice a n cap, .int .i64 K] w fun e w' => e = .returned (.int .i64 (K + 4 * (n : Int))) ∧ But b w w' ∧ Open4 w' b n ∧ MarksAt K w' b n := by
  have HO : Hid (Open4 w b n) := ho
  clear ho
  go_enter Tryd.func22, Tryd.ntmps22
  go_wp2_with fail
  go_loopw [1, 5] (fun q i wr => ∃ (k : Nat), k ≤ n ∧ i = .int .i64 k ∧ q = .int .i64 (K + 4 * (k : Int)) ∧ But b w wr ∧ Hid (Open4 wr b n) ∧ Hid (MarksAt K wr b k)) (fun _ i _ => n - (intOf i).toNat)
  case atStart => exact ⟨0, Nat.zero_le _, rfl, by simp, But.refl _ _, HO, fun j h => absurd h (Nat.not_lt_zero _)⟩
  case round =>
    obtain ⟨k, hk, rfl, rfl, hb, hop, hmk⟩ := hrel
    by_cases hlt : k < n
    · rcases ha with ha | rfl
      · omega
      obtain ⟨v0, g0⟩ := hop.out.2.1 (k * 4) (by omega)
      have f0 := hop.out.2.2 (k * 4)
      go_wp2_with fail
      refine (c37 _ _ (by omega) (by omega)).mono ?_
      rintro e w1 ⟨rfl, hb1⟩
      have HS0 : Open4 (wr.setCell ⟨b, k * 4, none⟩ (.bool ((K + 4 * (k : Int)) % 3 == 0))) b n := hop.out.set (by omega)
      have HO1 : Hid (Open4 w1 b n) := HS0.below hb1
      have HM1 : Hid (MarksAt K w1 b k) := marks_below (marks_set hmk.out (Nat.le_refl _)) HS0.1 hb1
      have hB1 : But b w w1 := (hb.setCell _ _).trans (But.of_below hb1)
      have x0 : w1.cell? ⟨b, k * 4, none⟩ = some (.bool ((K + 4 * (k : Int)) % 3 == 0)) := (hb1.cell (p := ⟨b, k * 4, none⟩) (by exact HS0.1)).trans (World.cell?_setCell_same _ _ _ g0)
      obtain ⟨v1, g1⟩ := HO1.out.2.1 (k * 4 + 1) (by omega)
      have f1 := HO1.out.2.2 (k * 4 + 1)
      have HS1 : Hid (Open4 (w1.setCell ⟨b, k * 4 + 1, none⟩ (.string (ofL (109 :: dec (K + 4 * (k : Int) + 1))))) b n) := HO1.out.set (by omega)
      obtain ⟨v2, g2⟩ := HS1.out.2.1 (k * 4 + 2) (by omega)
      have f2 := HS1.out.2.2 (k * 4 + 2)
      clear hb1 hb hop hmk HS0 g0 f0
      go_wp2_with fail
      refine (c37 _ _ (by omega) (by omega)).mono ?_
      rintro e w2 ⟨rfl, hb2⟩
      have HS2 : Open4 ((w1.setCell ⟨b, k * 4 + 1, none⟩ (.string (ofL (109 :: dec (K + 4 * (k : Int) + 1))))).setCell ⟨b, k * 4 + 2, none⟩ (.int .i64 (K + 4 * (k : Int) + 1 + 1))) b n := HS1.out.set (by omega)
      have HO2 : Hid (Open4 w2 b n) := HS2.below hb2
      have HM2 : Hid (MarksAt K w2 b k) := marks_below (marks_set (marks_set HM1.out (by omega)) (by omega)) HS2.1 hb2
      have hB2 : But b w w2 := ((hB1.setCell _ _).setCell _ _).trans (But.of_below hb2)
      have y0 : w2.cell? ⟨b, k * 4, none⟩ = some (.bool ((K + 4 * (k : Int)) % 3 == 0)) := (hb2.cell (p := ⟨b, k * 4, none⟩) (by exact HS2.1)).trans (by rw [World.cell?_setCell_other _ _ _ _ (adr_ne (by omega)), World.cell?_setCell_other _ _ _ _ (adr_ne (by omega))]; exact x0)
      have y1 : w2.cell? ⟨b, k * 4 + 1, none⟩ = some (.string (ofL (109 :: dec (K + 4 * (k : Int) + 1)))) := (hb2.cell (p := ⟨b, k * 4 + 1, none⟩) (by exact HS2.1)).trans (by rw [World.cell?_setCell_other _ _ _ _ (adr_ne (by omega))]; exact World.cell?_setCell_same _ _ _ g1)
      have y2 : w2.cell? ⟨b, k * 4 + 2, none⟩ = some (.int .i64 (K + 4 * (k : Int) + 1 + 1)) := (hb2.cell (p := ⟨b, k * 4 + 2, none⟩) (by exact HS2.1)).trans (World.cell?_setCell_same _ _ _ g2)
      obtain ⟨v3, g3⟩ := HO2.out.2.1 (k * 4 + 3) (by omega)
      have f3 := HO2.out.2.2 (k * 4 + 3)
      clear hb2 HS2 hB1 HO1 HM1 g1 f1 g2 f2 x0 HS1
      go_wp2
      go_roundw
      case rel =>
        refine ⟨k + 1, by omega, by go_num, by go_num, hB2.setCell _ _, HO2.out.set (by omega), marks_snoc (marks_set HM2.out (by omega)) ?_ ?_ ?_ ?_⟩
        · rw [World.cell?_setCell_other _ _ _ _ (adr_ne (by omega))]; exact y0
        · rw [World.cell?_setCell_other _ _ _ _ (adr_ne (by omega))]; exact y1
        · rw [World.cell?_setCell_other _ _ _ _ (adr_ne (by omega)), y2]; simp [mkL]; omega
        · rw [World.cell?_setCell_same _ _ _ g3]; simp only [mkL]; rw [show K + 4 * (k : Int) + 1 + 1 + 1 = K + 4 * (k : Int) + 3 by omega]
      case measure => simp [intOf]; omega
    · obtain rfl : k = n := by omega
      go_wp2
      go_ret
      exact ⟨rfl, hb, hop.out, hmk.out⟩
set_option maxHeartbeats 2000000 in
theorem c23 (K : Int) (a : Option Addr) (b n cap : Nat) (w : World) (hK1 : 1 ≤ K) (hK2 : K ≤ 5000000) (ha : n = 0 ∨ a = some ⟨b, 0, none⟩) (hn : n ≤ 1048576) (hlt : n = 0 ∨ b < w.heap.size) (hm : MarksAt K w b n) :
    Calls Tryd.prog 23 #[.slice a n cap, .int .i64 K] w fun e w' => e = .returned (.int .i64 (K + 4 * (n : Int))) ∧ Below w.heap.size w w' := by
  have HM : Hid (MarksAt K w b n) := hm
  clear hm
  go_enter Tryd.func23, Tryd.ntmps23
  go_wp2_with fail
  go_loopw [1, 5] (fun q i wr => ∃ (k : Nat), k ≤ n ∧ i = .int .i64 k ∧ q = .int .i64 (K + 4 * (k : Int)) ∧ Below w.heap.size w wr) (fun _ i _ => n - (intOf i).toNat)
  case atStart => exact ⟨0, Nat.zero_le _, rfl, by simp, Below.refl _ _⟩
  case round =>
    obtain ⟨k, hk, rfl, rfl, hb⟩ := hrel
    by_cases hkn : k < n
    · rcases ha with ha | rfl
      · omega
      rcases hlt with hlt | hlt
      · omega
      obtain ⟨m0, m1, m2, m3⟩ := HM.out k hkn
      have HC : Hid (∀ u, Below w.heap.size w u → u.cell? ⟨b, k * 4, none⟩ = some (.bool ((K + 4 * (k : Int)) % 3 == 0)) ∧ u.cell? ⟨b, k * 4 + 1, none⟩ = some (.string (ofL (109 :: dec (K + 4 * (k : Int) + 1)))) ∧ u.cell? ⟨b, k * 4 + 2, none⟩ = some (.int .i64 (K + 4 * (k : Int) + 1 + 1)) ∧ u.cell? ⟨b, k * 4 + 3, none⟩ = some (.string (ofL (109 :: dec (K + 4 * (k : Int) + 1 + 1 + 1))))) := fun u hu => ⟨(hu.cell (p := ⟨b, k * 4, none⟩) hlt).trans m0, (hu.cell (p := ⟨b, k * 4 + 1, none⟩) hlt).trans m1, (hu.cell (p := ⟨b, k * 4 + 2, none⟩) hlt).trans (by rw [m2]; simp [mkL]; omega), (hu.cell (p := ⟨b, k * 4 + 3, none⟩) hlt).trans (by rw [m3]; simp only [mkL]; rw [show K + 4 * (k : Int) + 1 + 1 + 1 = K + 4 * (k : Int) + 3 by omega])⟩
      obtain ⟨g0, g1, g2, g3⟩ := HC.out wr hb
      clear m0 m1 m2 m3
      go_wp2_with fail
      go_region_with (go_at_call 37; refine (c37 _ _ (by omega) (by omega)).mono ?_; rintro e w1 ⟨rfl, hb1⟩; have hB1 : Below w.heap.size w w1 := (hb.drew).trans (hb1.mono hb.size); obtain ⟨p0, p1, p2, p3⟩ := HC.out w1 hB1)
      all_goals go_wp2_with fail
      all_goals go_region_with (go_at_call 37; refine (c37 _ _ (by omega) (by omega)).mono ?_; rintro e w2 ⟨rfl, hb2⟩; have hB2 : Below w.heap.size w w2 := (hB1.drew).trans (hb2.mono hB1.size); obtain ⟨q0, q1, q2, q3⟩ := HC.out w2 hB2)
      all_goals go_wp2
      all_goals go_roundw
      all_goals first
        | exact ⟨k + 1, by omega, by go_num, by go_num, hB2⟩
        | (simp [intOf]; omega)
    · obtain rfl : k = n := by omega
      go_wp2
      go_ret
      exact ⟨rfl, hb⟩
end Go.Proofs.YtejlfpolnddfdaaDoor

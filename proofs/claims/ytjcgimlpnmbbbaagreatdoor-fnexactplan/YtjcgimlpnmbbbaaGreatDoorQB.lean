import Derived.Test.YtjcgimlpnmbbbaaGreatDoorQM
namespace Go.Proofs.YtjcgimlpnmbbbaaGreatDoor
open Go.RowKit

theorem conv1 (u : World) (y : Int) : (convert 76 9 (.slice (some ⟨u.heap.size, 0, none⟩) 1 1)).run Tryz.prog (u.alloc (.cells #[.int .u8 y] 5)) = .ok (.string (strOfNums [y])) (u.alloc (.cells #[.int .u8 y] 5)) :=
  run_convert_bytes_arg _ 76 5 Tryz.underlying76 Tryz.underlying5 _ 0 1 1 [y] rfl (fun i hi => by
    obtain rfl : i = 0 := by omega
    simp) 9 Tryz.underlying9

theorem convD (u : World) (y : Int) : (convert 76 9 (.slice (some ⟨u.heap.size, 0, none⟩) 1 1)).run Tryz.prog (u.alloc (.cells #[.int .u8 y] 5)).drew = .ok (.string (strOfNums [y])) (u.alloc (.cells #[.int .u8 y] 5)).drew :=
  run_convert_bytes_arg _ 76 5 Tryz.underlying76 Tryz.underlying5 _ 0 1 1 [y] rfl (fun i hi => by
    obtain rfl : i = 0 := by omega
    simp) 9 Tryz.underlying9
/-- All that is there stays, but for one block. -/
structure But (b : Nat) (w w' : World) : Prop where
  os : w'.os = w.os
  tape : w'.tape = w.tape
  output : w'.output = w.output
  size : w.heap.size ≤ w'.heap.size
  block : ∀ k, k < w.heap.size → k ≠ b → w'.heap[k]? = w.heap[k]?
theorem But.refl (b : Nat) (w : World) : But b w w := ⟨rfl, rfl, rfl, Nat.le_refl _, fun _ _ _ => rfl⟩
theorem But.trans {b : Nat} {u v w : World} (h : But b u v) (k : But b v w) : But b u w :=
  ⟨k.os.trans h.os, k.tape.trans h.tape, k.output.trans h.output, Nat.le_trans h.size k.size, fun i hi hne => (k.block i (Nat.lt_of_lt_of_le hi h.size) hne).trans (h.block i hi hne)⟩
theorem But.of_below {b : Nat} {w w' : World} (h : Below w.heap.size w w') : But b w w' := ⟨h.os, h.tape, h.output, h.size, fun k hk _ => h.block k hk⟩
theorem But.below {b B : Nat} {w w' : World} (h : But b w w') (hB : B ≤ b) (hz : B ≤ w.heap.size) : Below B w w' := ⟨h.os, h.tape, h.output, h.size, fun k hk => h.block k (by omega) (by omega)⟩
theorem But.setCell {b : Nat} {w w' : World} (h : But b w w') (j : Nat) (v : Value) : But b w (w'.setCell ⟨b, j, none⟩ v) := by
  have k := (Below.refl b w').setCell (p := ⟨b, j, none⟩) (Nat.le_refl _) v
  refine ⟨k.os.trans h.os, k.tape.trans h.tape, k.output.trans h.output, Nat.le_trans h.size k.size, fun i hi hne => ?_⟩
  rw [← h.block i hi hne]
  exact Below.heap_setCell _ _ _ _ hne
theorem But.cell {b : Nat} {w w' : World} (h : But b w w') {p : Addr} (hp : p.block < w.heap.size) (hne : p.block ≠ b) : w'.cell? p = w.cell? p := by
  unfold World.cell?
  rw [h.block p.block hp hne]

theorem cons_ofL (x : Int) (l : List UInt8) : strOfNums [x] ++ ofL l = ofL (UInt8.ofNat x.toNat :: l) := by
  apply ByteArray.ext
  simp [ofL, strOfNums]
theorem cat_ofLB (a b : List UInt8) : ofL a ++ ofL b = ofL (a ++ b) := by apply ByteArray.ext; simp [ofL]
theorem one_ofLB (c : UInt8) : (⟨#[c]⟩ : ByteArray) = ofL [c] := rfl

set_option maxHeartbeats 400000 in
theorem c24 (K : Int) (w : World) (h1 : 1 ≤ K) (h2 : K ≤ 1000000) :
    Calls Tryz.prog 24 #[.int .i64 K] w fun e w' => e = .returned (.string (ofL (109 :: dec K))) ∧ Below w.heap.size w w' := by
  have hcv := conv1
  have hcd := convD
  have hz : ∀ y, (strOfNums [y]).size = 1 := fun y => strOfNums_size [y]
  have hdl := dec_len K (by omega) (by omega)
  go_enter Tryz.func24, Tryz.ntmps24
  go_wp2_with fail
  go_loopw [0, 3] (fun k o wr => ∃ (m : Int) (l : List UInt8), 0 ≤ m ∧ m ≤ 1000000 ∧ k = .int .i64 m ∧ o = .string (ofL l) ∧ Hid (dec K = if m = 0 then l else dec m ++ l) ∧ Below w.heap.size w wr) (fun k _ _ => (intOf k).toNat)
  case atStart => exact ⟨K, [], by omega, h2, rfl, rfl, by rw [if_neg (by omega)]; simp [Hid], Below.refl _ _⟩
  case round =>
    obtain ⟨m, l, hm0, hm1, rfl, rfl, hl, hb⟩ := hrel
    by_cases hlt : 0 < m
    · have hsz : (ofL l).size ≤ 100000001 := by
        have := hl.out
        rw [if_neg (by omega)] at this
        have := congrArg List.length this
        rw [List.length_append] at this
        rw [ofL_size]; omega
      have HN : Hid (dec K = if m / 10 = 0 then UInt8.ofNat (48 + m % 10).toNat :: l else dec (m / 10) ++ (UInt8.ofNat (48 + m % 10).toNat :: l)) := by
        have h := hl.out
        rw [if_neg (by omega)] at h
        by_cases h10 : m < 10
        · rw [dec_lt m h10] at h
          rw [if_pos (by omega), show m % 10 = m by omega]
          exact h
        · rw [dec_ge m (by omega)] at h
          rw [if_neg (by omega)]
          exact h.trans (by simp)
      go_wp2
      go_roundw
      case rel => exact ⟨m / 10, _, by omega, by omega, rfl, by rw [cons_ofL], HN, hb.alloc hb.size _⟩
      case measure => simp [intOf]; omega
    · obtain rfl : m = 0 := by omega
      have HN : Hid (dec K = l) := by have h := hl.out; rwa [if_pos rfl] at h
      have hsz : (ofL l).size ≤ 100000001 := by rw [ofL_size, ← HN.out]; exact hdl
      go_wp2
      go_ret
      exact ⟨ret_str (by rw [HN.out]; simp only [one_ofLB, cat_ofLB]; rfl), hb⟩

/-- The marks. -/
def mkI (i : Nat) : M3 := ⟨ofL (109 :: dec (1 + 3 * (i : Int))), ofL (109 :: dec (1 + 3 * (i : Int) + 1)), ofL (109 :: dec (1 + 3 * (i : Int) + 1 + 1))⟩
def MarksAt (w : World) (b k : Nat) : Prop := ∀ j, j < k → w.cell? ⟨b, j * 3, none⟩ = some (.string (mkI j).nm) ∧ w.cell? ⟨b, j * 3 + 1, none⟩ = some (.string (mkI j).tl) ∧ w.cell? ⟨b, j * 3 + 2, none⟩ = some (.string (mkI j).ar)
def Open3 (w : World) (b n : Nat) : Prop := b < w.heap.size ∧ (∀ j, j < n * 3 → ∃ v, w.cell? ⟨b, j, none⟩ = some v) ∧ ∀ j, w.frozen? ⟨b, j, none⟩ = false
theorem Open3.below {w w' : World} {b n : Nat} (h : Open3 w b n) (hb : Below w.heap.size w w') : Open3 w' b n :=
  ⟨Nat.lt_of_lt_of_le h.1 hb.size, fun j hj => by rw [hb.cell (by exact h.1)]; exact h.2.1 j hj, fun j => by rw [hb.frozen (by exact h.1)]; exact h.2.2 j⟩
theorem Open3.set {w : World} {b n j : Nat} {v : Value} (h : Open3 w b n) (hj : j < n * 3) : Open3 (w.setCell ⟨b, j, none⟩ v) b n := by
  refine ⟨by simpa using h.1, fun i hi => ?_, fun i => by have := h.2.2 i; simpa using this⟩
  by_cases e : i = j
  · subst e
    obtain ⟨x, hx⟩ := h.2.1 i hi
    exact ⟨v, World.cell?_setCell_same _ _ _ hx⟩
  · rw [World.cell?_setCell_other _ _ _ _ (adr_ne (Ne.symm e))]
    exact h.2.1 i hi
theorem marks_below {w w' : World} {b k : Nat} (h : MarksAt w b k) (hlt : b < w.heap.size) (hb : Below w.heap.size w w') : MarksAt w' b k := by
  intro j hj
  rw [hb.cell (by exact hlt), hb.cell (by exact hlt), hb.cell (by exact hlt)]
  exact h j hj
theorem marks_set {w : World} {b k j : Nat} {v : Value} (h : MarksAt w b k) (hj : k * 3 ≤ j) : MarksAt (w.setCell ⟨b, j, none⟩ v) b k := by
  intro i hi
  rw [World.cell?_setCell_other _ _ _ _ (adr_ne (by omega)), World.cell?_setCell_other _ _ _ _ (adr_ne (by omega)), World.cell?_setCell_other _ _ _ _ (adr_ne (by omega))]
  exact h i hi
theorem marks_snoc {w : World} {b k : Nat} (h : MarksAt w b k) (h0 : w.cell? ⟨b, k * 3, none⟩ = some (.string (mkI k).nm)) (h1 : w.cell? ⟨b, k * 3 + 1, none⟩ = some (.string (mkI k).tl)) (h2 : w.cell? ⟨b, k * 3 + 2, none⟩ = some (.string (mkI k).ar)) : MarksAt w b (k + 1) := by
  intro i hi
  by_cases e : i = k
  · subst e; exact ⟨h0, h1, h2⟩
  · exact h i (by omega)


set_option maxHeartbeats 2000000 in
theorem c11 (a : Option Addr) (b n cap : Nat) (w : World) (ha : n = 0 ∨ a = some ⟨b, 0, none⟩) (hn : n ≤ 300) (ho : Open3 w b n) :
    Calls Tryz.prog 11 #[.slice a n cap, .int .i64 1] w fun e w' => e = .returned (.int .i64 (1 + 3 * (n : Int))) ∧ But b w w' ∧ Open3 w' b n ∧ MarksAt w' b n := by
  have HO : Hid (Open3 w b n) := ho
  clear ho
  go_enter Tryz.func11, Tryz.ntmps11
  go_wp2_with fail
  go_loopw [1, 5] (fun q i wr => ∃ (k : Nat), k ≤ n ∧ i = .int .i64 k ∧ q = .int .i64 (1 + 3 * (k : Int)) ∧ But b w wr ∧ Hid (Open3 wr b n) ∧ Hid (MarksAt wr b k)) (fun _ i _ => n - (intOf i).toNat)
  case atStart => exact ⟨0, Nat.zero_le _, rfl, by simp, But.refl _ _, HO, fun j h => absurd h (Nat.not_lt_zero _)⟩
  case round =>
    obtain ⟨k, hk, rfl, rfl, hb, hop, hmk⟩ := hrel
    by_cases hlt : k < n
    · rcases ha with ha | rfl
      · omega
      go_wp2_with fail
      refine (c24 _ _ (by omega) (by omega)).mono ?_
      rintro e w1 ⟨rfl, hb1⟩
      have HO1 : Hid (Open3 w1 b n) := hop.out.below hb1
      have HM1 : Hid (MarksAt w1 b k) := marks_below hmk.out hop.out.1 hb1
      have hB1 : But b w w1 := hb.trans (But.of_below hb1)
      obtain ⟨v0, g0⟩ := HO1.out.2.1 (k * 3) (by omega)
      have f0 := HO1.out.2.2 (k * 3)
      clear hb1 hb hop hmk
      go_wp2_with fail
      refine (c24 _ _ (by omega) (by omega)).mono ?_
      rintro e w2 ⟨rfl, hb2⟩
      have HS1 : Open3 (w1.setCell ⟨b, k * 3, none⟩ (.string (ofL (109 :: dec (1 + 3 * (k : Int)))))) b n := HO1.out.set (by omega)
      have HO2 : Hid (Open3 w2 b n) := HS1.below hb2
      have HM2 : Hid (MarksAt w2 b k) := marks_below (marks_set HM1.out (Nat.le_refl _)) HS1.1 hb2
      have hB2 : But b w w2 := (hB1.setCell _ _).trans (But.of_below hb2)
      have x0 : w2.cell? ⟨b, k * 3, none⟩ = some (.string (ofL (109 :: dec (1 + 3 * (k : Int))))) := (hb2.cell (p := ⟨b, k * 3, none⟩) (by exact HS1.1)).trans (World.cell?_setCell_same _ _ _ g0)
      obtain ⟨v1, g1⟩ := HO2.out.2.1 (k * 3 + 1) (by omega)
      have f1 := HO2.out.2.2 (k * 3 + 1)
      clear hb2 HS1 hB1 HO1 HM1 g0 f0
      go_wp2_with fail
      refine (c24 _ _ (by omega) (by omega)).mono ?_
      rintro e w3 ⟨rfl, hb3⟩
      have HS2 : Open3 (w2.setCell ⟨b, k * 3 + 1, none⟩ (.string (ofL (109 :: dec (1 + 3 * (k : Int) + 1))))) b n := HO2.out.set (by omega)
      have HO3 : Hid (Open3 w3 b n) := HS2.below hb3
      have HM3 : Hid (MarksAt w3 b k) := marks_below (marks_set HM2.out (by omega)) HS2.1 hb3
      have hB3 : But b w w3 := (hB2.setCell _ _).trans (But.of_below hb3)
      have y0 : w3.cell? ⟨b, k * 3, none⟩ = some (.string (ofL (109 :: dec (1 + 3 * (k : Int))))) := (hb3.cell (p := ⟨b, k * 3, none⟩) (by exact HS2.1)).trans (by rw [World.cell?_setCell_other _ _ _ _ (adr_ne (by omega))]; exact x0)
      have y1 : w3.cell? ⟨b, k * 3 + 1, none⟩ = some (.string (ofL (109 :: dec (1 + 3 * (k : Int) + 1)))) := (hb3.cell (p := ⟨b, k * 3 + 1, none⟩) (by exact HS2.1)).trans (World.cell?_setCell_same _ _ _ g1)
      obtain ⟨v2, g2⟩ := HO3.out.2.1 (k * 3 + 2) (by omega)
      have f2 := HO3.out.2.2 (k * 3 + 2)
      clear hb3 HS2 hB2 HO2 HM2 g1 f1 x0
      go_wp2
      go_roundw
      case rel =>
        refine ⟨k + 1, by omega, by go_num, by go_num, hB3.setCell _ _, HO3.out.set (by omega), marks_snoc (marks_set HM3.out (by omega)) ?_ ?_ ?_⟩
        · rw [World.cell?_setCell_other _ _ _ _ (adr_ne (by omega))]; exact y0
        · rw [World.cell?_setCell_other _ _ _ _ (adr_ne (by omega))]; exact y1
        · exact World.cell?_setCell_same _ _ _ g2
      case measure => simp [intOf]; omega
    · obtain rfl : k = n := by omega
      go_wp2
      go_ret
      exact ⟨rfl, hb, hop.out, hmk.out⟩

set_option maxHeartbeats 2000000 in
theorem c12 (a : Option Addr) (b n cap : Nat) (w : World) (ha : n = 0 ∨ a = some ⟨b, 0, none⟩) (hn : n ≤ 300) (hlt : n = 0 ∨ b < w.heap.size) (hm : MarksAt w b n) :
    Calls Tryz.prog 12 #[.slice a n cap, .int .i64 1] w fun e w' => e = .returned (.int .i64 (1 + 3 * (n : Int))) ∧ Below w.heap.size w w' := by
  have HM : Hid (MarksAt w b n) := hm
  clear hm
  go_enter Tryz.func12, Tryz.ntmps12
  go_wp2_with fail
  go_loopw [1, 5] (fun q i wr => ∃ (k : Nat), k ≤ n ∧ i = .int .i64 k ∧ q = .int .i64 (1 + 3 * (k : Int)) ∧ Below w.heap.size w wr) (fun _ i _ => n - (intOf i).toNat)
  case atStart => exact ⟨0, Nat.zero_le _, rfl, by simp, Below.refl _ _⟩
  case round =>
    obtain ⟨k, hk, rfl, rfl, hb⟩ := hrel
    by_cases hkn : k < n
    · rcases ha with ha | rfl
      · omega
      rcases hlt with hlt | hlt
      · omega
      obtain ⟨m0, m1, m2⟩ := HM.out k hkn
      have HC : Hid (∀ u, Below w.heap.size w u → u.cell? ⟨b, k * 3, none⟩ = some (.string (ofL (109 :: dec (1 + 3 * (k : Int))))) ∧ u.cell? ⟨b, k * 3 + 1, none⟩ = some (.string (ofL (109 :: dec (1 + 3 * (k : Int) + 1)))) ∧ u.cell? ⟨b, k * 3 + 2, none⟩ = some (.string (ofL (109 :: dec (1 + 3 * (k : Int) + 1 + 1))))) := fun u hu => ⟨(hu.cell (p := ⟨b, k * 3, none⟩) hlt).trans m0, (hu.cell (p := ⟨b, k * 3 + 1, none⟩) hlt).trans m1, (hu.cell (p := ⟨b, k * 3 + 2, none⟩) hlt).trans m2⟩
      obtain ⟨g0, g1, g2⟩ := HC.out wr hb
      clear m0 m1 m2
      go_wp2_with fail
      go_region_with (go_at_call 24; refine (c24 _ _ (by omega) (by omega)).mono ?_; rintro e w1 ⟨rfl, hb1⟩; have hB1 : Below w.heap.size w w1 := (hb.drew).trans (hb1.mono hb.size); obtain ⟨p0, p1, p2⟩ := HC.out w1 hB1)
      all_goals go_wp2_with fail
      all_goals go_region_with (go_at_call 24; refine (c24 _ _ (by omega) (by omega)).mono ?_; rintro e w2 ⟨rfl, hb2⟩; have hB2 : Below w.heap.size w w2 := (hB1.drew).trans (hb2.mono hB1.size); obtain ⟨q0, q1, q2⟩ := HC.out w2 hB2)
      all_goals go_wp2_with fail
      all_goals go_region_with (go_at_call 24; refine (c24 _ _ (by omega) (by omega)).mono ?_; rintro e w3 ⟨rfl, hb3⟩; have hB3 : Below w.heap.size w w3 := (hB2.drew).trans (hb3.mono hB2.size); obtain ⟨s0, s1, s2⟩ := HC.out w3 hB3)
      all_goals go_wp2
      all_goals go_roundw
      all_goals first
        | exact ⟨k + 1, by omega, by go_num, by go_num, hB3⟩
        | (simp [intOf]; omega)
    · obtain rfl : k = n := by omega
      go_wp2
      go_ret
      exact ⟨rfl, hb⟩
end Go.Proofs.YtjcgimlpnmbbbaaGreatDoor

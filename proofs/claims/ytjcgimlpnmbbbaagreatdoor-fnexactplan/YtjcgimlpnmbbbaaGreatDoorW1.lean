import Derived.Test.YtjcgimlpnmbbbaaGreatDoorV5
namespace Go.Proofs.YtjcgimlpnmbbbaaGreatDoor.T
open Go.RowKit
theorem ret_str {a b : ByteArray} (h : a = b) : Ending.returned (.string a) = .returned (.string b) := by rw [h]
/-- the decimal of a number: with fuel -/
def decF : Nat → Int → List UInt8
  | 0, _ => []
  | f + 1, n => if n < 10 then [UInt8.ofNat (48 + n).toNat] else decF f (n / 10) ++ [UInt8.ofNat (48 + n % 10).toNat]
def dec (n : Int) : List UInt8 := decF (n.toNat + 1) n
theorem decF_any (f g : Nat) (n : Int) (h0 : 0 ≤ n) (hf : n.toNat < f) (hg : n.toNat < g) : decF f n = decF g n := by
  induction f generalizing g n with
  | zero => omega
  | succ f ih =>
    cases g with
    | zero => omega
    | succ g =>
      simp only [decF]
      by_cases h : n < 10
      · rw [if_pos h, if_pos h]
      · rw [if_neg h, if_neg h, ih g (n / 10) (by omega) (by omega) (by omega)]
theorem dec_lt (n : Int) (h : n < 10) : dec n = [UInt8.ofNat (48 + n).toNat] := by simp [dec, decF, h]
theorem dec_ge (n : Int) (h : 10 ≤ n) : dec n = dec (n / 10) ++ [UInt8.ofNat (48 + n % 10).toNat] := by
  unfold dec
  rw [decF, if_neg (by omega), decF_any n.toNat ((n / 10).toNat + 1) (n / 10) (by omega) (by omega) (by omega)]
theorem decF_len (f : Nat) (n : Int) : (decF f n).length ≤ f := by
  induction f generalizing n with
  | zero => simp [decF]
  | succ f ih =>
    simp only [decF]
    by_cases h : n < 10
    · rw [if_pos h]; simp
    · rw [if_neg h]; have := ih (n / 10); simp; omega
theorem dec_len (n : Int) (h : 0 ≤ n) (h1 : n ≤ 100000000) : (dec n).length ≤ 100000001 := by
  have := decF_len (n.toNat + 1) n
  unfold dec; omega
theorem conv1 (u : World) (y : Int) : (convert 76 9 (.slice (some ⟨u.heap.size, 0, none⟩) 1 1)).run Tryz.prog (u.alloc (.cells #[.int .u8 y] 5)) = .ok (.string (strOfNums [y])) (u.alloc (.cells #[.int .u8 y] 5)) :=
  run_convert_bytes_arg _ 76 5 Tryz.underlying76 Tryz.underlying5 _ 0 1 1 [y] rfl (fun i hi => by
    obtain rfl : i = 0 := by omega
    simp) 9 Tryz.underlying9
theorem convD (u : World) (y : Int) : (convert 76 9 (.slice (some ⟨u.heap.size, 0, none⟩) 1 1)).run Tryz.prog (u.alloc (.cells #[.int .u8 y] 5)).drew = .ok (.string (strOfNums [y])) (u.alloc (.cells #[.int .u8 y] 5)).drew :=
  run_convert_bytes_arg _ 76 5 Tryz.underlying76 Tryz.underlying5 _ 0 1 1 [y] rfl (fun i hi => by
    obtain rfl : i = 0 := by omega
    simp) 9 Tryz.underlying9
def ofL (l : List UInt8) : ByteArray := ⟨l.toArray⟩
theorem ofL_size (l : List UInt8) : (ofL l).size = l.length := by simp [ofL, ByteArray.size]
/-- All that is there stays, but for one block. -/
structure But (b : Nat) (w w' : World) : Prop where
  os : w'.os = w.os
  tape : w'.tape = w.tape
  output : w'.output = w.output
  size : w.heap.size ≤ w'.heap.size
  block : ∀ k, k < w.heap.size → k ≠ b → w'.heap[k]? = w.heap[k]?
theorem But.refl (b : Nat) (w : World) : But b w w := ⟨rfl, rfl, rfl, Nat.le_refl _, fun _ _ _ => rfl⟩
theorem But.trans {b : Nat} {u v w : World} (h : But b u v) (k : But b v w) : But b u w :=
  ⟨k.os.trans h.os, k.tape.trans h.tape, k.output.trans h.output, Nat.le_trans h.size k.size, fun i hi hne => (k.block i (Nat.lt_of_lt_of_le hi h.size) hne).trans (h.block i hi hne)⟩
theorem But.of_below {b : Nat} {w w' : World} (h : Below w.heap.size w w') : But b w w' := ⟨h.os, h.tape, h.output, h.size, fun k hk _ => h.block k hk⟩
theorem But.below {b B : Nat} {w w' : World} (h : But b w w') (hB : B ≤ b) (hz : B ≤ w.heap.size) : Below B w w' := ⟨h.os, h.tape, h.output, h.size, fun k hk => h.block k (by omega) (by omega)⟩
theorem But.setCell {b : Nat} {w w' : World} (h : But b w w') (j : Nat) (v : Value) : But b w (w'.setCell ⟨b, j, none⟩ v) := by
  have k := (Below.refl b w').setCell (p := ⟨b, j, none⟩) (Nat.le_refl _) v
  refine ⟨k.os.trans h.os, k.tape.trans h.tape, k.output.trans h.output, Nat.le_trans h.size k.size, fun i hi hne => ?_⟩
  rw [← h.block i hi hne]
  exact Below.heap_setCell _ _ _ _ hne
theorem But.cell {b : Nat} {w w' : World} (h : But b w w') {p : Addr} (hp : p.block < w.heap.size) (hne : p.block ≠ b) : w'.cell? p = w.cell? p := by
  unfold World.cell?
  rw [h.block p.block hp hne]

theorem cons_ofL (x : Int) (l : List UInt8) : strOfNums [x] ++ ofL l = ofL (UInt8.ofNat x.toNat :: l) := by
  apply ByteArray.ext
  simp [ofL, strOfNums]
theorem cat_ofLB (a b : List UInt8) : ofL a ++ ofL b = ofL (a ++ b) := by apply ByteArray.ext; simp [ofL]
theorem one_ofLB (c : UInt8) : (⟨#[c]⟩ : ByteArray) = ofL [c] := rfl

set_option maxHeartbeats 400000 in
theorem c24 (K : Int) (w : World) (h1 : 1 ≤ K) (h2 : K ≤ 3000000) :
    Calls Tryz.prog 24 #[.int .i64 K] w fun e w' => e = .returned (.string (ofL (109 :: dec K))) ∧ Below w.heap.size w w' := by
  have hcv := conv1
  have hcd := convD
  have hz : ∀ y, (strOfNums [y]).size = 1 := fun y => strOfNums_size [y]
  have hdl := dec_len K (by omega) (by omega)
  go_enter Tryz.func24, Tryz.ntmps24
  go_wp2_with fail
  go_loopw [0, 3] (fun k o wr => ∃ (m : Int) (l : List UInt8), 0 ≤ m ∧ m ≤ 3000000 ∧ k = .int .i64 m ∧ o = .string (ofL l) ∧ Hid (dec K = if m = 0 then l else dec m ++ l) ∧ Below w.heap.size w wr) (fun k _ _ => (intOf k).toNat)
  case atStart => exact ⟨K, [], by omega, h2, rfl, rfl, by rw [if_neg (by omega)]; simp [Hid], Below.refl _ _⟩
  case round =>
    obtain ⟨m, l, hm0, hm1, rfl, rfl, hl, hb⟩ := hrel
    by_cases hlt : 0 < m
    · have hsz : (ofL l).size ≤ 100000001 := by
        have := hl.out
        rw [if_neg (by omega)] at this
        have := congrArg List.length this
        rw [List.length_append] at this
        rw [ofL_size]; omega
      have HN : Hid (dec K = if m / 10 = 0 then UInt8.ofNat (48 + m % 10).toNat :: l else dec (m / 10) ++ (UInt8.ofNat (48 + m % 10).toNat :: l)) := by
        have h := hl.out
        rw [if_neg (by omega)] at h
        by_cases h10 : m < 10
        · rw [dec_lt m h10] at h
          rw [if_pos (by omega), show m % 10 = m by omega]
          exact h
        · rw [dec_ge m (by omega)] at h
          rw [if_neg (by omega)]
          exact h.trans (by simp)
      go_wp2
      go_roundw
      case rel => exact ⟨m / 10, _, by omega, by omega, rfl, by rw [cons_ofL], HN, hb.alloc hb.size _⟩
      case measure => simp [intOf]; omega
    · obtain rfl : m = 0 := by omega
      have HN : Hid (dec K = l) := by have h := hl.out; rwa [if_pos rfl] at h
      have hsz : (ofL l).size ≤ 100000001 := by rw [ofL_size, ← HN.out]; exact hdl
      go_wp2
      go_ret
      exact ⟨ret_str (by rw [HN.out]; simp only [one_ofLB, cat_ofLB]; rfl), hb⟩

/-- The marks. -/
def mkF (i : Nat) : F2 := ⟨ofL (109 :: dec (1 + 2 * (i : Int))), ofL (109 :: dec (1 + 2 * (i : Int) + 1))⟩
def MarksAt (w : World) (b k : Nat) : Prop := ∀ j, j < k → w.cell? ⟨b, j * 2, none⟩ = some (.string (mkF j).nm) ∧ w.cell? ⟨b, j * 2 + 1, none⟩ = some (.string (mkF j).tx)
def Open2 (w : World) (b n : Nat) : Prop := b < w.heap.size ∧ (∀ j, j < n * 2 → ∃ v, w.cell? ⟨b, j, none⟩ = some v) ∧ ∀ j, w.frozen? ⟨b, j, none⟩ = false
theorem Open2.below {w w' : World} {b n : Nat} (h : Open2 w b n) (hb : Below w.heap.size w w') : Open2 w' b n :=
  ⟨Nat.lt_of_lt_of_le h.1 hb.size, fun j hj => by rw [hb.cell (by exact h.1)]; exact h.2.1 j hj, fun j => by rw [hb.frozen (by exact h.1)]; exact h.2.2 j⟩
theorem Open2.set {w : World} {b n j : Nat} {v : Value} (h : Open2 w b n) (hj : j < n * 2) : Open2 (w.setCell ⟨b, j, none⟩ v) b n := by
  refine ⟨by simpa using h.1, fun i hi => ?_, fun i => by have := h.2.2 i; simpa using this⟩
  by_cases e : i = j
  · subst e
    obtain ⟨x, hx⟩ := h.2.1 i hi
    exact ⟨v, World.cell?_setCell_same _ _ _ hx⟩
  · rw [World.cell?_setCell_other _ _ _ _ (adr_ne (Ne.symm e))]
    exact h.2.1 i hi
theorem marks_below {w w' : World} {b k : Nat} (h : MarksAt w b k) (hlt : b < w.heap.size) (hb : Below w.heap.size w w') : MarksAt w' b k := by
  intro j hj
  rw [hb.cell (by exact hlt), hb.cell (by exact hlt)]
  exact h j hj
theorem marks_set {w : World} {b k j : Nat} {v : Value} (h : MarksAt w b k) (hj : k * 2 ≤ j) : MarksAt (w.setCell ⟨b, j, none⟩ v) b k := by
  intro i hi
  rw [World.cell?_setCell_other _ _ _ _ (adr_ne (by omega)), World.cell?_setCell_other _ _ _ _ (adr_ne (by omega))]
  exact h i hi
theorem marks_snoc {w : World} {b k : Nat} (h : MarksAt w b k) (h0 : w.cell? ⟨b, k * 2, none⟩ = some (.string (mkF k).nm)) (h1 : w.cell? ⟨b, k * 2 + 1, none⟩ = some (.string (mkF k).tx)) : MarksAt w b (k + 1) := by
  intro i hi
  by_cases e : i = k
  · subst e; exact ⟨h0, h1⟩
  · exact h i (by omega)

set_option maxHeartbeats 1000000 in
theorem c23 (a : Option Addr) (b n cap : Nat) (w : World) (ha : n = 0 ∨ a = some ⟨b, 0, none⟩) (hn : n ≤ 1048576) (ho : n = 0 ∨ Open2 w b n) :
    Calls Tryz.prog 23 #[.slice a n cap, .int .i64 1] w fun e w' => e = .returned (.int .i64 (1 + 2 * (n : Int))) ∧ But b w w' ∧ MarksAt w' b n := by
  have HO : Hid (n = 0 ∨ Open2 w b n) := ho
  clear ho
  go_enter Tryz.func23, Tryz.ntmps23
  go_wp2_with fail
  go_loopw [1, 5] (fun q i wr => ∃ (k : Nat), k ≤ n ∧ i = .int .i64 k ∧ q = .int .i64 (1 + 2 * (k : Int)) ∧ But b w wr ∧ Hid (n = 0 ∨ Open2 wr b n) ∧ Hid (MarksAt wr b k)) (fun _ i _ => n - (intOf i).toNat)
  case atStart => exact ⟨0, Nat.zero_le _, rfl, by simp, But.refl _ _, HO, fun j h => absurd h (Nat.not_lt_zero _)⟩
  case round =>
    obtain ⟨k, hk, rfl, rfl, hb, hop', hmk⟩ := hrel
    by_cases hlt : k < n
    · rcases ha with ha | rfl
      · omega
      have hop : Hid (Open2 wr b n) := by
        rcases hop'.out with h | h
        · omega
        · exact h
      clear hop'
      go_wp2_with fail
      refine (c24 _ _ (by omega) (by omega)).mono ?_
      rintro e w1 ⟨rfl, hb1⟩
      have HO1 : Hid (Open2 w1 b n) := hop.out.below hb1
      have HM1 : Hid (MarksAt w1 b k) := marks_below hmk.out hop.out.1 hb1
      have hB1 : But b w w1 := hb.trans (But.of_below hb1)
      obtain ⟨v0, g0⟩ := HO1.out.2.1 (k * 2) (by omega)
      have f0 := HO1.out.2.2 (k * 2)
      clear hb1 hb hop hmk
      go_wp2_with fail
      refine (c24 _ _ (by omega) (by omega)).mono ?_
      rintro e w2 ⟨rfl, hb2⟩
      have HO2 : Hid (Open2 w2 b n) := (HO1.out.set (by omega)).below hb2
      have HM2 : Hid (MarksAt w2 b k) := marks_below (marks_set HM1.out (Nat.le_refl _)) (HO1.out.set (v := .string (mkF k).nm) (by omega : k * 2 < n * 2)).1 hb2
      have hB2 : But b w w2 := (hB1.setCell _ _).trans (But.of_below hb2)
      have x0 : w2.cell? ⟨b, k * 2, none⟩ = some (.string (mkF k).nm) := (hb2.cell (p := ⟨b, k * 2, none⟩) (by simpa using HO1.out.1)).trans (World.cell?_setCell_same _ _ _ g0)
      obtain ⟨v1, g1⟩ := HO2.out.2.1 (k * 2 + 1) (by omega)
      have f1 := HO2.out.2.2 (k * 2 + 1)
      clear hb2 hB1 HO1 HM1 g0 f0
      go_wp2
      go_roundw
      case rel =>
        refine ⟨k + 1, by omega, by go_num, by go_num, hB2.setCell _ _, .inr (HO2.out.set (by omega)), marks_snoc (marks_set HM2.out (by omega)) ?_ ?_⟩
        · rw [World.cell?_setCell_other _ _ _ _ (adr_ne (by omega))]; exact x0
        · exact World.cell?_setCell_same _ _ _ g1
      case measure => simp [intOf]; omega
    · obtain rfl : k = n := by omega
      go_wp2
      go_ret
      exact ⟨rfl, hb, hmk.out⟩

set_option maxHeartbeats 400000 in
theorem c10 (a : Option Addr) (b n cap : Nat) (w : World) (ha : n = 0 ∨ a = some ⟨b, 0, none⟩) (hn : n ≤ 1048576) (ho : n = 0 ∨ Open2 w b n) :
    Calls Tryz.prog 10 #[.agg #[.slice a n cap], .int .i64 1] w fun e w' => e = .returned (.int .i64 (1 + 2 * (n : Int))) ∧ But b w w' ∧ MarksAt w' b n := by
  have hB0 : Below w.heap.size w (w.alloc (.cells #[.slice a n cap] 30)) := (Below.refl _ _).alloc (Nat.le_refl _) _
  have HO : Hid (n = 0 ∨ Open2 (w.alloc (.cells #[.slice a n cap] 30)) b n) := ho.imp id (fun h => h.below hB0)
  clear ho
  go_enter Tryz.func10, Tryz.ntmps10
  go_wp2_with fail
  refine (c23 a b n cap _ ha hn HO.out).mono ?_
  rintro e w1 ⟨rfl, h1, h3⟩
  have H1 : Hid (But b w w1) := (But.of_below hB0).trans h1
  have H3 : Hid (MarksAt w1 b n) := h3
  clear h1 h3
  go_wp2
  go_ret
  exact ⟨rfl, H1.out, H3.out⟩

end Go.Proofs.YtjcgimlpnmbbbaaGreatDoor.T

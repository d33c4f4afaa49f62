import Derived.Test.YtggcgnfockpgmaaGreatDoorV5
namespace Go.Proofs.YtggcgnfockpgmaaGreatDoor.T
open Go.RowKit
theorem ret_str {a b : ByteArray} (h : a = b) : Ending.returned (.string a) = .returned (.string b) := by rw [h]
/-- the decimal of a number: with fuel -/
def decF : Nat → Int → List UInt8
  | 0, _ => []
  | f + 1, n => if n < 10 then [UInt8.ofNat (48 + n).toNat] else decF f (n / 10) ++ [UInt8.ofNat (48 + n % 10).toNat]
def dec (n : Int) : List UInt8 := decF (n.toNat + 1) n
theorem decF_any (f g : Nat) (n : Int) (h0 : 0 ≤ n) (hf : n.toNat < f) (hg : n.toNat < g) : decF f n = decF g n := by
  induction f generalizing g n with
  | zero => omega
  | succ f ih =>
    cases g with
    | zero => omega
    | succ g =>
      simp only [decF]
      by_cases h : n < 10
      · rw [if_pos h, if_pos h]
      · rw [if_neg h, if_neg h, ih g (n / 10) (by omega) (by omega) (by omega)]
theorem dec_lt (n : Int) (h : n < 10) : dec n = [UInt8.ofNat (48 + n).toNat] := by simp [dec, decF, h]
theorem dec_ge (n : Int) (h : 10 ≤ n) : dec n = dec (n / 10) ++ [UInt8.ofNat (48 + n % 10).toNat] := by
  unfold dec
  rw [decF, if_neg (by omega), decF_any n.toNat ((n / 10).toNat + 1) (n / 10) (by omega) (by omega) (by omega)]
theorem decF_len (f : Nat) (n : Int) : (decF f n).length ≤ f := by
  induction f generalizing n with
  | zero => simp [decF]
  | succ f ih =>
    simp only [decF]
    by_cases h : n < 10
    · rw [if_pos h]; simp
    · rw [if_neg h]; have := ih (n / 10); simp; omega
theorem dec_len (n : Int) (h : 0 ≤ n) (h1 : n ≤ 100000000) : (dec n).length ≤ 100000001 := by
  have := decF_len (n.toNat + 1) n
  unfold dec; omega
theorem conv1 (u : World) (y : Int) : (convert 139 9 (.slice (some ⟨u.heap.size, 0, none⟩) 1 1)).run Tryz.prog (u.alloc (.cells #[.int .u8 y] 5)) = .ok (.string (strOfNums [y])) (u.alloc (.cells #[.int .u8 y] 5)) :=
  run_convert_bytes_arg _ 139 5 Tryz.underlying139 Tryz.underlying5 _ 0 1 1 [y] rfl (fun i hi => by
    obtain rfl : i = 0 := by omega
    simp) 9 Tryz.underlying9
theorem convD (u : World) (y : Int) : (convert 139 9 (.slice (some ⟨u.heap.size, 0, none⟩) 1 1)).run Tryz.prog (u.alloc (.cells #[.int .u8 y] 5)).drew = .ok (.string (strOfNums [y])) (u.alloc (.cells #[.int .u8 y] 5)).drew :=
  run_convert_bytes_arg _ 139 5 Tryz.underlying139 Tryz.underlying5 _ 0 1 1 [y] rfl (fun i hi => by
    obtain rfl : i = 0 := by omega
    simp) 9 Tryz.underlying9
def ofL (l : List UInt8) : ByteArray := ⟨l.toArray⟩
theorem ofL_size (l : List UInt8) : (ofL l).size = l.length := by simp [ofL, ByteArray.size]
/-- All that is there stays, but for one block. -/
structure But (b : Nat) (w w' : World) : Prop where
  os : w'.os = w.os
  tape : w'.tape = w.tape
  output : w'.output = w.output
  size : w.heap.size ≤ w'.heap.size
  block : ∀ k, k < w.heap.size → k ≠ b → w'.heap[k]? = w.heap[k]?
theorem But.refl (b : Nat) (w : World) : But b w w := ⟨rfl, rfl, rfl, Nat.le_refl _, fun _ _ _ => rfl⟩
theorem But.trans {b : Nat} {u v w : World} (h : But b u v) (k : But b v w) : But b u w :=
  ⟨k.os.trans h.os, k.tape.trans h.tape, k.output.trans h.output, Nat.le_trans h.size k.size, fun i hi hne => (k.block i (Nat.lt_of_lt_of_le hi h.size) hne).trans (h.block i hi hne)⟩
theorem But.of_below {b : Nat} {w w' : World} (h : Below w.heap.size w w') : But b w w' := ⟨h.os, h.tape, h.output, h.size, fun k hk _ => h.block k hk⟩
theorem But.below {b B : Nat} {w w' : World} (h : But b w w') (hB : B ≤ b) (hz : B ≤ w.heap.size) : Below B w w' := ⟨h.os, h.tape, h.output, h.size, fun k hk => h.block k (by omega) (by omega)⟩
theorem But.setCell {b : Nat} {w w' : World} (h : But b w w') (j : Nat) (v : Value) : But b w (w'.setCell ⟨b, j, none⟩ v) := by
  have k := (Below.refl b w').setCell (p := ⟨b, j, none⟩) (Nat.le_refl _) v
  refine ⟨k.os.trans h.os, k.tape.trans h.tape, k.output.trans h.output, Nat.le_trans h.size k.size, fun i hi hne => ?_⟩
  rw [← h.block i hi hne]
  exact Below.heap_setCell _ _ _ _ hne
theorem But.cell {b : Nat} {w w' : World} (h : But b w w') {p : Addr} (hp : p.block < w.heap.size) (hne : p.block ≠ b) : w'.cell? p = w.cell? p := by
  unfold World.cell?
  rw [h.block p.block hp hne]

theorem cons_ofL (x : Int) (l : List UInt8) : strOfNums [x] ++ ofL l = ofL (UInt8.ofNat x.toNat :: l) := by
  apply ByteArray.ext
  simp [ofL, strOfNums]
theorem cat_ofLB (a b : List UInt8) : ofL a ++ ofL b = ofL (a ++ b) := by apply ByteArray.ext; simp [ofL]
theorem one_ofLB (c : UInt8) : (⟨#[c]⟩ : ByteArray) = ofL [c] := rfl

/-- The marks. -/
def mkF (i : Nat) : F2 := ⟨ofL (109 :: dec (1 + 2 * (i : Int))), ofL (109 :: dec (1 + 2 * (i : Int) + 1))⟩
def MarksAt (w : World) (b k : Nat) : Prop := ∀ j, j < k → w.cell? ⟨b, j * 2, none⟩ = some (.string (mkF j).nm) ∧ w.cell? ⟨b, j * 2 + 1, none⟩ = some (.string (mkF j).tx)
def Open2 (w : World) (b n : Nat) : Prop := b < w.heap.size ∧ (∀ j, j < n * 2 → ∃ v, w.cell? ⟨b, j, none⟩ = some v) ∧ ∀ j, w.frozen? ⟨b, j, none⟩ = false
theorem Open2.below {w w' : World} {b n : Nat} (h : Open2 w b n) (hb : Below w.heap.size w w') : Open2 w' b n :=
  ⟨Nat.lt_of_lt_of_le h.1 hb.size, fun j hj => by rw [hb.cell (by exact h.1)]; exact h.2.1 j hj, fun j => by rw [hb.frozen (by exact h.1)]; exact h.2.2 j⟩
theorem Open2.set {w : World} {b n j : Nat} {v : Value} (h : Open2 w b n) (hj : j < n * 2) : Open2 (w.setCell ⟨b, j, none⟩ v) b n := by
  refine ⟨by simpa using h.1, fun i hi => ?_, fun i => by have := h.2.2 i; simpa using this⟩
  by_cases e : i = j
  · subst e
    obtain ⟨x, hx⟩ := h.2.1 i hi
    exact ⟨v, World.cell?_setCell_same _ _ _ hx⟩
  · rw [World.cell?_setCell_other _ _ _ _ (adr_ne (Ne.symm e))]
    exact h.2.1 i hi
theorem marks_below {w w' : World} {b k : Nat} (h : MarksAt w b k) (hlt : b < w.heap.size) (hb : Below w.heap.size w w') : MarksAt w' b k := by
  intro j hj
  rw [hb.cell (by exact hlt), hb.cell (by exact hlt)]
  exact h j hj
theorem marks_set {w : World} {b k j : Nat} {v : Value} (h : MarksAt w b k) (hj : k * 2 ≤ j) : MarksAt (w.setCell ⟨b, j, none⟩ v) b k := by
  intro i hi
  rw [World.cell?_setCell_other _ _ _ _ (adr_ne (by omega)), World.cell?_setCell_other _ _ _ _ (adr_ne (by omega))]
  exact h i hi
theorem marks_snoc {w : World} {b k : Nat} (h : MarksAt w b k) (h0 : w.cell? ⟨b, k * 2, none⟩ = some (.string (mkF k).nm)) (h1 : w.cell? ⟨b, k * 2 + 1, none⟩ = some (.string (mkF k).tx)) : MarksAt w b (k + 1) := by
  intro i hi
  by_cases e : i = k
  · subst e; exact ⟨h0, h1⟩
  · exact h i (by omega)

end Go.Proofs.YtggcgnfockpgmaaGreatDoor.T

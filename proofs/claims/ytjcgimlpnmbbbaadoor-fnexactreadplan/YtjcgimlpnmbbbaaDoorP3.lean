import Derived.Test.YtjcgimlpnmbbbaaDoorP2
import Derived.Laws.BitsAllLaws
namespace Go.Proofs.YtjcgimlpnmbbbaaDoor
open Go.RowKit

def plainB (c : UInt8) : Bool := decide (32 ≤ (c.toNat : Int)) && decide ((c.toNat : Int) ≤ 126) && !((c.toNat : Int) == 34) && !((c.toNat : Int) == 92)
theorem ret_bool {a b : Bool} (h : a = b) : Ending.returned (.bool a) = .returned (.bool b) := by rw [h]
theorem ret_str {a b : ByteArray} (h : a = b) : Ending.returned (.string a) = .returned (.string b) := by rw [h]

set_option maxHeartbeats 400000 in
theorem c47 (c : UInt8) (w : World) :
    Calls Tryd.prog 47 #[.int .u8 c.toNat] w fun e w' => e = .returned (.bool (plainB c)) ∧ w' = w := by
  go_enter Tryd.func47, Tryd.ntmps47
  go_wp2
  all_goals go_ret
  all_goals refine ⟨ret_bool ?_, rfl⟩
  all_goals unfold plainB
  all_goals simp [*]
  all_goals first | omega | skip
  all_goals (try (simp only [bne]))

/-- The digits. -/
def hexL : List UInt8 := [48, 49, 50, 51, 52, 53, 54, 55, 56, 57, 97, 98, 99, 100, 101, 102]
def hexA : ByteArray := ⟨#[48, 49, 50, 51, 52, 53, 54, 55, 56, 57, 97, 98, 99, 100, 101, 102]⟩
theorem hex_get (n : Nat) (h : n < hexA.size) : hexA[n] = hexL.getD n 0 := by
  have h' : n < 16 := h
  obtain rfl | rfl | rfl | rfl | rfl | rfl | rfl | rfl | rfl | rfl | rfl | rfl | rfl | rfl | rfl | rfl : n = 0 ∨ n = 1 ∨ n = 2 ∨ n = 3 ∨ n = 4 ∨ n = 5 ∨ n = 6 ∨ n = 7 ∨ n = 8 ∨ n = 9 ∨ n = 10 ∨ n = 11 ∨ n = 12 ∨ n = 13 ∨ n = 14 ∨ n = 15 := by omega
  all_goals rfl
/-- What a byte is between quotes. -/
def qb (c : UInt8) : List UInt8 := if plainB c = true then [c] else [92, hexL.getD (c.toNat / 16) 0, hexL.getD (c.toNat % 16) 0]
def quoteL (l : List UInt8) : List UInt8 := 34 :: (l.flatMap qb ++ [34])
theorem qb_len (c : UInt8) : (qb c).length ≤ 3 := by unfold qb; split <;> simp
theorem flat_len (l : List UInt8) : (l.flatMap qb).length ≤ 3 * l.length := by
  induction l with
  | nil => simp
  | cons c l ih => have := qb_len c; simp only [List.flatMap_cons, List.length_append, List.length_cons]; omega
theorem quote_len (l : List UInt8) : (quoteL l).length ≤ 3 * l.length + 2 := by
  have := flat_len l; unfold quoteL; simp only [List.length_cons, List.length_append, List.length_nil]; omega
theorem and15 (c : UInt8) : bits BinOp.and IntKind.u8 (c.toNat : Int) 15 = (c.toNat : Int) % 16 := by
  have hc : c.toNat < 256 := c.toNat_lt
  have h := u8_and_nat c.toNat 15 hc (by omega)
  have e : c.toNat &&& 15 = c.toNat % 16 := Nat.and_two_pow_sub_one_eq_mod c.toNat 4
  rw [e] at h
  simpa using h
theorem take_snoc (s : ByteArray) (k : Nat) (h : k < s.size) : s.data.toList.take (k + 1) = s.data.toList.take k ++ [s[k]] := by
  rw [List.take_succ_eq_append_getElem (by simpa using h)]; rfl
theorem cells_snoc (l r : List UInt8) : Lib.byteCells (l ++ r) = Lib.byteCells l ++ Lib.byteCells r := by simp [Lib.byteCells]
theorem cells_len (l : List UInt8) : (Lib.byteCells l).length = l.length := by simp [Lib.byteCells]

set_option maxHeartbeats 2000000 in
set_option maxRecDepth 100000 in
theorem c34 (s : ByteArray) (w : World) (hs : s.size ≤ 1048700) :
    Calls Tryd.prog 34 #[.string s] w fun e w' => e = .returned (.string ⟨(quoteL s.data.toList).toArray⟩) ∧ Below w.heap.size w w' := by
  have HF : Hid (Lib.IsBuilder 47 5 w.heap.size w.heap.size [] (w.alloc (.cells #[.pointer none, .slice none 0 0] 47))) := Lib.fresh_isBuilder 47 5 w
  go_enter Tryd.func34, Tryd.ntmps34
  go_wp2_with fail
  refine (c46 w.heap.size w.heap.size [] 34 _ HF.out (by simp) (by simp)).mono ?_
  rintro e w1 ⟨rfl, h1, hb1⟩
  have hB1 : Below w.heap.size w w1 := ((Below.refl _ _).alloc (Nat.le_refl _) _).trans hb1
  have hz1 : w.heap.size + 1 ≤ w1.heap.size := by have := hb1.size; simp at this; omega
  have H1 : Hid (Lib.IsBuilder 47 5 w.heap.size w.heap.size (Lib.byteCells [34]) w1) := h1
  clear h1 hb1
  go_wp2_with fail
  go_loopw [9] (fun i wr => ∃ (k : Nat), k ≤ s.size ∧ i = .int .i64 k ∧ Hid (Lib.IsBuilder 47 5 w.heap.size w.heap.size (Lib.byteCells (34 :: (s.data.toList.take k).flatMap qb)) wr) ∧ Below w.heap.size w wr ∧ w.heap.size + 1 ≤ wr.heap.size) (fun i _ => s.size - (intOf i).toNat)
  case atStart => exact ⟨0, Nat.zero_le _, rfl, H1, hB1, hz1⟩
  case round =>
    obtain ⟨k, hk, rfl, hbl, hb, hz⟩ := hrel
    have hL : (Lib.byteCells (34 :: (s.data.toList.take k).flatMap qb)).length ≤ 3 * k + 1 := by
      have := flat_len (s.data.toList.take k)
      have h2 : (s.data.toList.take k).length ≤ k := List.length_take_le _ _
      rw [cells_len, List.length_cons]; omega
    by_cases hlt : k < s.size
    · have HS : Hid (34 :: (s.data.toList.take (k + 1)).flatMap qb = (34 :: (s.data.toList.take k).flatMap qb) ++ qb s[k]) := by rw [take_snoc s k hlt]; simp [Hid]
      generalize hl : (34 :: (s.data.toList.take k).flatMap qb : List UInt8) = l at *
      clear hl
      have hby : (s[k].toNat : Int) < 256 := by have := s[k].toNat_lt; omega
      have hand := and15 s[k]
      go_wp2_with fail
      refine (c47 s[k] wr).mono ?_
      rintro e w2 ⟨rfl, hw⟩
      obtain rfl := hw.symm
      cases hp : plainB s[k]
      · have HQ : Hid (qb s[k] = [92, hexL.getD (s[k].toNat / 16) 0, hexL.getD (s[k].toNat % 16) 0]) := by unfold qb; rw [hp]; rfl
        clear hp
        go_wp2_with fail
        refine (c46 w.heap.size w.heap.size (Lib.byteCells l) 92 _ hbl.out (by omega) (by omega)).mono ?_
        rintro e w3 ⟨rfl, h3, hb3⟩
        have H3 : Hid (Lib.IsBuilder 47 5 w.heap.size w.heap.size (Lib.byteCells l ++ [.int .u8 92]) w3) := h3
        have hB3 : Below w.heap.size w w3 := hb.trans hb3
        have hz3 : w.heap.size + 1 ≤ w3.heap.size := Nat.le_trans hz hb3.size
        clear h3 hb3
        go_wp2_with fail
        refine (c46 w.heap.size w.heap.size (Lib.byteCells l ++ [.int .u8 92]) _ _ H3.out (by simp; omega) (by omega)).mono ?_
        rintro e w4 ⟨rfl, h4, hb4⟩
        have H4 : Hid (Lib.IsBuilder 47 5 w.heap.size w.heap.size (Lib.byteCells l ++ [.int .u8 92] ++ [.int .u8 (hexL.getD (s[k].toNat / 16) 0).toNat]) w4) := by rw [← hex_get _ (by show _ < 16; omega)]; exact h4
        have hB4 : Below w.heap.size w w4 := hB3.trans hb4
        have hz4 : w.heap.size + 1 ≤ w4.heap.size := Nat.le_trans hz3 hb4.size
        clear h4 hb4
        go_wp2_with fail
        refine (c46 w.heap.size w.heap.size (Lib.byteCells l ++ [.int .u8 92] ++ [.int .u8 (hexL.getD (s[k].toNat / 16) 0).toNat]) _ _ H4.out (by simp; omega) (by omega)).mono ?_
        rintro e w5 ⟨rfl, h5, hb5⟩
        have H5 : Hid (Lib.IsBuilder 47 5 w.heap.size w.heap.size (Lib.byteCells l ++ [.int .u8 92] ++ [.int .u8 (hexL.getD (s[k].toNat / 16) 0).toNat] ++ [.int .u8 (hexL.getD (s[k].toNat % 16) 0).toNat]) w5) := by rw [← hex_get (s[k].toNat % 16) (by show _ < 16; omega)]; exact h5
        have hB5 : Below w.heap.size w w5 := hB4.trans hb5
        have hz5 : w.heap.size + 1 ≤ w5.heap.size := Nat.le_trans hz4 hb5.size
        clear h5 hb5
        go_wp2
        go_roundw
        case rel => exact ⟨k + 1, by omega, by go_num, by rw [HS.out, HQ.out, cells_snoc]; exact (by simpa [Lib.byteCells] using H5.out : Lib.IsBuilder 47 5 w.heap.size w.heap.size (Lib.byteCells l ++ Lib.byteCells [92, hexL.getD (s[k].toNat / 16) 0, hexL.getD (s[k].toNat % 16) 0]) w5), hB5, hz5⟩
        case measure => simp [intOf]; omega
      · have HQ : Hid (qb s[k] = [s[k]]) := by unfold qb; rw [hp]; rfl
        clear hp
        go_wp2_with fail
        refine (c46 w.heap.size w.heap.size (Lib.byteCells l) _ _ hbl.out (by omega) (by omega)).mono ?_
        rintro e w3 ⟨rfl, h3, hb3⟩
        have H3 : Hid (Lib.IsBuilder 47 5 w.heap.size w.heap.size (Lib.byteCells l ++ [.int .u8 s[k].toNat]) w3) := h3
        have hB3 : Below w.heap.size w w3 := hb.trans hb3
        have hz3 : w.heap.size + 1 ≤ w3.heap.size := Nat.le_trans hz hb3.size
        clear h3 hb3
        go_wp2
        go_roundw
        case rel => exact ⟨k + 1, by omega, by go_num, by rw [HS.out, HQ.out, cells_snoc]; exact H3.out, hB3, hz3⟩
        case measure => simp [intOf]; omega
    · have HT : Hid (quoteL s.data.toList = (34 :: (s.data.toList.take k).flatMap qb) ++ [34]) := by rw [List.take_of_length_le (by simp; omega)]; rfl
      generalize hl : (34 :: (s.data.toList.take k).flatMap qb : List UInt8) = l at *
      clear hl
      go_wp2_with fail
      refine (c46 w.heap.size w.heap.size (Lib.byteCells l) 34 _ hbl.out (by omega) (by omega)).mono ?_
      rintro e w3 ⟨rfl, h3, hb3⟩
      have H3 : Hid (Lib.IsBuilder 47 5 w.heap.size w.heap.size (Lib.byteCells (l ++ [34])) w3) := by rw [cells_snoc]; exact h3
      have hB3 : Below w.heap.size w w3 := hb.trans hb3
      have hz3 : w.heap.size + 1 ≤ w3.heap.size := Nat.le_trans hz hb3.size
      clear h3 hb3
      go_wp2_with fail
      refine (Tryd.Builder_String_any w.heap.size w.heap.size (l ++ [34]) _ H3.out (by omega)).mono ?_
      rintro e w4 ⟨rfl, hb4⟩
      go_wp2
      go_ret
      exact ⟨by rw [HT.out]; rfl, hB3.trans hb4⟩
end Go.Proofs.YtjcgimlpnmbbbaaDoor

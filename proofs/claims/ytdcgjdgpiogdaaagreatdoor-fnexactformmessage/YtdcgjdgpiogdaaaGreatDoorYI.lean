import Derived.Test.YtdcgjdgpiogdaaaGreatDoorYH
namespace Go.Proofs.YtdcgjdgpiogdaaaGreatDoor
open Go.RowKit
set_option maxHeartbeats 1000000 in
set_option maxRecDepth 100000 in
theorem c121 (B b : Nat) (bs : List Value) (s : ByteArray) (w : World) (h : Lib.IsBuilder 153 5 B b bs w) (hlen : bs.length + s.size ≤ 140737488355328) (hBw : B ≤ w.heap.size) :
    Calls Tryz.prog 121 #[.pointer (some ⟨b, 0, none⟩), .string s] w fun e w' => e = .returned (.tuple #[.int .i64 s.size, .nilIface]) ∧ Lib.IsBuilder 153 5 B b (bs ++ Lib.strCells s) w' ∧ Below B w w' := by
  obtain ⟨i0, hi, hz0, hz1, hz2⟩ := info_parts info5
  have HI : Hid (Lib.IsBuilder 153 5 B b bs w) := h
  clear h
  go_enter Tryz.func121, Tryz.ntmps121
  go_wp2_with fail
  refine (c137 B b bs w HI.out).mono ?_
  rintro e w1 ⟨rfl, h1, hb1, hs1⟩
  obtain ⟨hB, v, hbk, hown, hne⟩ := h1
  have hB1 : B ≤ w1.heap.size := by omega
  have HBK : Hid (w1.heap[b]? = some (.cells #[.pointer (some ⟨b, 0, none⟩), v] 153 (0, 0))) := hbk
  have HNE : Hid (v.ownBlock ≠ some b) := hne
  have c1 : w1.cell? ⟨b, 1, none⟩ = some v := by rw [Lib.cell_of_heap hbk]; rfl
  clear hbk hne hs1
  go_wp2_with (at_builtin; refine Lib.wpList_append_own_string _ rfl _ _ 119 9 rfl B 5 i0 Tryz.underlying119 Tryz.underlying9 hi hz0 hz1 hz2 _ _ _ rfl hown s rfl (by unfold maxLen; omega) (by omega) hB1 ?_; intro v' w2 hown' hgrow _; have HB2 : Hid (w2.heap[b]? = some (.cells #[.pointer (some ⟨b, 0, none⟩), v] 153 (0, 0))) := app_keeps (v := v) HBK.out HNE.out hgrow; have HG : Hid (Below B w w2) := hb1.grown hgrow hB1 (fun k hk => (hown.lt k hk).1); obtain ⟨ao, cp, rfl⟩ := row_form hown'; have d1 : w2.cell? ⟨b, 1, none⟩ = some v := (by rw [Lib.cell_of_heap HB2.out]; rfl); have f1 : w2.frozen? ⟨b, 1, none⟩ = false := Lib.frozen_of_heap HB2.out 1; clear hgrow)
  go_ret2
  refine ⟨rfl, .inr ?_, ?_⟩
  · exact Lib.BuilderAt.put (T := 153) (e := 5) hB HB2.out (bs' := bs ++ Lib.strCells s) (by simpa [Lib.strCells_length] using hown') (by decide)
  · exact HG.out.setCell (p := ⟨b, 1, none⟩) hB _

set_option maxHeartbeats 2000000 in
set_option maxRecDepth 100000 in
theorem c120 (s : ByteArray) (w : World) (hs : s.size ≤ 1048700) :
    Calls Tryz.prog 120 #[.string s] w fun e w' => e = .returned (.string ⟨(quoteL s.data.toList).toArray⟩) ∧ Below w.heap.size w w' := by
  have HF : Hid (Lib.IsBuilder 153 5 w.heap.size w.heap.size [] (w.alloc (.cells #[.pointer none, .slice none 0 0] 153))) := Lib.fresh_isBuilder 153 5 w
  go_enter Tryz.func120, Tryz.ntmps120
  go_wp2_with fail
  refine (c135 w.heap.size w.heap.size [] 34 _ HF.out (by simp) (by simp)).mono ?_
  rintro e w1 ⟨rfl, h1, hb1⟩
  have hB1 : Below w.heap.size w w1 := ((Below.refl _ _).alloc (Nat.le_refl _) _).trans hb1
  have hz1 : w.heap.size + 1 ≤ w1.heap.size := by have := hb1.size; simp at this; omega
  have H1 : Hid (Lib.IsBuilder 153 5 w.heap.size w.heap.size (Lib.byteCells [34]) w1) := h1
  clear h1 hb1
  go_wp2_with fail
  go_loopw [9] (fun i wr => ∃ (k : Nat), k ≤ s.size ∧ i = .int .i64 k ∧ Hid (Lib.IsBuilder 153 5 w.heap.size w.heap.size (Lib.byteCells (34 :: (s.data.toList.take k).flatMap qb)) wr) ∧ Below w.heap.size w wr ∧ w.heap.size + 1 ≤ wr.heap.size) (fun i _ => s.size - (intOf i).toNat)
  case atStart => exact ⟨0, Nat.zero_le _, rfl, H1, hB1, hz1⟩
  case round =>
    obtain ⟨k, hk, rfl, hbl, hb, hz⟩ := hrel
    have hL : (Lib.byteCells (34 :: (s.data.toList.take k).flatMap qb)).length ≤ 3 * k + 1 := by
      have := flat_len (s.data.toList.take k)
      have h2 : (s.data.toList.take k).length ≤ k := List.length_take_le _ _
      rw [cells_len, List.length_cons]; omega
    by_cases hlt : k < s.size
    · have HS : Hid (34 :: (s.data.toList.take (k + 1)).flatMap qb = (34 :: (s.data.toList.take k).flatMap qb) ++ qb s[k]) := by rw [take_snoc s k hlt]; simp [Hid]
      generalize hl : (34 :: (s.data.toList.take k).flatMap qb : List UInt8) = l at *
      clear hl
      have hby : (s[k].toNat : Int) < 256 := by have := s[k].toNat_lt; omega
      have hand := and15 s[k]
      go_wp2_with fail
      refine (c136 s[k] wr).mono ?_
      rintro e w2 ⟨rfl, hw⟩
      obtain rfl := hw.symm
      cases hp : plainB s[k]
      · have HQ : Hid (qb s[k] = [92, hexL.getD (s[k].toNat / 16) 0, hexL.getD (s[k].toNat % 16) 0]) := by unfold qb; rw [hp]; rfl
        clear hp
        go_wp2_with fail
        refine (c135 w.heap.size w.heap.size (Lib.byteCells l) 92 _ hbl.out (by omega) (by omega)).mono ?_
        rintro e w3 ⟨rfl, h3, hb3⟩
        have H3 : Hid (Lib.IsBuilder 153 5 w.heap.size w.heap.size (Lib.byteCells l ++ [.int .u8 92]) w3) := h3
        have hB3 : Below w.heap.size w w3 := hb.trans hb3
        have hz3 : w.heap.size + 1 ≤ w3.heap.size := Nat.le_trans hz hb3.size
        clear h3 hb3
        go_wp2_with fail
        refine (c135 w.heap.size w.heap.size (Lib.byteCells l ++ [.int .u8 92]) _ _ H3.out (by simp; omega) (by omega)).mono ?_
        rintro e w4 ⟨rfl, h4, hb4⟩
        have H4 : Hid (Lib.IsBuilder 153 5 w.heap.size w.heap.size (Lib.byteCells l ++ [.int .u8 92] ++ [.int .u8 (hexL.getD (s[k].toNat / 16) 0).toNat]) w4) := by rw [← hex_get _ (by show _ < 16; omega)]; exact h4
        have hB4 : Below w.heap.size w w4 := hB3.trans hb4
        have hz4 : w.heap.size + 1 ≤ w4.heap.size := Nat.le_trans hz3 hb4.size
        clear h4 hb4
        go_wp2_with fail
        refine (c135 w.heap.size w.heap.size (Lib.byteCells l ++ [.int .u8 92] ++ [.int .u8 (hexL.getD (s[k].toNat / 16) 0).toNat]) _ _ H4.out (by simp; omega) (by omega)).mono ?_
        rintro e w5 ⟨rfl, h5, hb5⟩
        have H5 : Hid (Lib.IsBuilder 153 5 w.heap.size w.heap.size (Lib.byteCells l ++ [.int .u8 92] ++ [.int .u8 (hexL.getD (s[k].toNat / 16) 0).toNat] ++ [.int .u8 (hexL.getD (s[k].toNat % 16) 0).toNat]) w5) := by rw [← hex_get (s[k].toNat % 16) (by show _ < 16; omega)]; exact h5
        have hB5 : Below w.heap.size w w5 := hB4.trans hb5
        have hz5 : w.heap.size + 1 ≤ w5.heap.size := Nat.le_trans hz4 hb5.size
        clear h5 hb5
        go_wp2
        go_roundw
        case rel => exact ⟨k + 1, by omega, by go_num, by rw [HS.out, HQ.out, cells_snoc]; exact (by simpa [Lib.byteCells] using H5.out : Lib.IsBuilder 153 5 w.heap.size w.heap.size (Lib.byteCells l ++ Lib.byteCells [92, hexL.getD (s[k].toNat / 16) 0, hexL.getD (s[k].toNat % 16) 0]) w5), hB5, hz5⟩
        case measure => simp [intOf]; omega
      · have HQ : Hid (qb s[k] = [s[k]]) := by unfold qb; rw [hp]; rfl
        clear hp
        go_wp2_with fail
        refine (c135 w.heap.size w.heap.size (Lib.byteCells l) _ _ hbl.out (by omega) (by omega)).mono ?_
        rintro e w3 ⟨rfl, h3, hb3⟩
        have H3 : Hid (Lib.IsBuilder 153 5 w.heap.size w.heap.size (Lib.byteCells l ++ [.int .u8 s[k].toNat]) w3) := h3
        have hB3 : Below w.heap.size w w3 := hb.trans hb3
        have hz3 : w.heap.size + 1 ≤ w3.heap.size := Nat.le_trans hz hb3.size
        clear h3 hb3
        go_wp2
        go_roundw
        case rel => exact ⟨k + 1, by omega, by go_num, by rw [HS.out, HQ.out, cells_snoc]; exact H3.out, hB3, hz3⟩
        case measure => simp [intOf]; omega
    · have HT : Hid (quoteL s.data.toList = (34 :: (s.data.toList.take k).flatMap qb) ++ [34]) := by rw [List.take_of_length_le (by simp; omega)]; rfl
      generalize hl : (34 :: (s.data.toList.take k).flatMap qb : List UInt8) = l at *
      clear hl
      go_wp2_with fail
      refine (c135 w.heap.size w.heap.size (Lib.byteCells l) 34 _ hbl.out (by omega) (by omega)).mono ?_
      rintro e w3 ⟨rfl, h3, hb3⟩
      have H3 : Hid (Lib.IsBuilder 153 5 w.heap.size w.heap.size (Lib.byteCells (l ++ [34])) w3) := by rw [cells_snoc]; exact h3
      have hB3 : Below w.heap.size w w3 := hb.trans hb3
      have hz3 : w.heap.size + 1 ≤ w3.heap.size := Nat.le_trans hz hb3.size
      clear h3 hb3
      go_wp2_with fail
      refine (Tryz.Builder_String_any w.heap.size w.heap.size (l ++ [34]) _ H3.out (by omega)).mono ?_
      rintro e w4 ⟨rfl, hb4⟩
      go_wp2
      go_ret
      exact ⟨by rw [HT.out]; rfl, hB3.trans hb4⟩
theorem c120' (s : ByteArray) (w : World) (hs : s.size ≤ 1048700) :
    Calls Tryz.prog 120 #[.string s] w fun e w' => e = .returned (.string (ofL (quoteL s.data.toList))) ∧ Below w.heap.size w w' := c120 s w hs

set_option maxHeartbeats 1000000 in
theorem c100 (x : M3) (w : World) (hok : okM x = true) :
    Calls Tryz.prog 100 #[.agg #[.string x.nm, .string x.tl, .string x.ar]] w fun e w' => e = .returned (.string (ofL (bodyL x))) ∧ Below w.heap.size w w' := by
  obtain ⟨hl1, hl2, hl3⟩ : x.nm.size ≤ 20 ∧ x.tl.size ≤ 20 ∧ x.ar.size ≤ 300 := by
    simp [okM, nameOk] at hok
    exact ⟨hok.1.1.1.2, hok.1.2.1.2, by omega⟩
  have s3 : (ofL (quoteL x.ar.data.toList)).size ≤ 902 := by
    have := quote_len x.ar.data.toList
    have e : x.ar.data.toList.length = x.ar.size := by simp
    rw [ofL_size]; omega
  have HV : Hid (ofL (bodyL x) = x.nm ++ (⟨#[32]⟩ : ByteArray) ++ x.tl ++ (⟨#[32]⟩ : ByteArray) ++ ofL (quoteL x.ar.data.toList)) := by
    show ofL (bodyL x) = _
    rw [one_ofL, ← ofL_data x.nm, ← ofL_data x.tl]
    simp only [cat_ofL]
    rfl
  clear hok
  have k1 : ¬ 9223372036854775807 < x.nm.size + 1 := by omega
  have k1' : ¬ 9223372036854775807 ≤ x.nm.size := by omega
  have k2 : ¬ 9223372036854775807 < x.nm.size + 1 + x.tl.size := by omega
  have k3 : ¬ 9223372036854775807 < x.nm.size + 1 + x.tl.size + 1 := by omega
  have k3' : ¬ 9223372036854775807 ≤ x.nm.size + 1 + x.tl.size := by omega
  have k4 : ¬ 9223372036854775807 < x.nm.size + 1 + x.tl.size + 1 + (ofL (quoteL x.ar.data.toList)).size := by omega
  go_enter Tryz.func100, Tryz.ntmps100
  go_wp2_with fail
  have hB0 : Below w.heap.size w (w.alloc (.cells #[.string x.nm, .string x.tl, .string x.ar] 35)) := (Below.refl _ _).alloc (Nat.le_refl _) _
  have f0 : (w.alloc (.cells #[.string x.nm, .string x.tl, .string x.ar] 35)).cell? ⟨w.heap.size, 0, none⟩ = some (.string x.nm) := by simp
  have f1 : (w.alloc (.cells #[.string x.nm, .string x.tl, .string x.ar] 35)).cell? ⟨w.heap.size, 1, none⟩ = some (.string x.tl) := by simp
  have f2 : (w.alloc (.cells #[.string x.nm, .string x.tl, .string x.ar] 35)).cell? ⟨w.heap.size, 2, none⟩ = some (.string x.ar) := by simp
  have hz : w.heap.size < (w.alloc (.cells #[.string x.nm, .string x.tl, .string x.ar] 35)).heap.size := by simp
  generalize (w.alloc (.cells #[.string x.nm, .string x.tl, .string x.ar] 35)) = W at *
  go_region_held3 (fun u => u.cell? ⟨w.heap.size, 0, none⟩ = some (.string x.nm) ∧ u.cell? ⟨w.heap.size, 1, none⟩ = some (.string x.tl) ∧ u.cell? ⟨w.heap.size, 2, none⟩ = some (.string x.ar)) (go_keep) (first | (go_at_call 120; refine (c120' x.ar _ (by omega)).mono ?_; rintro e w1 ⟨rfl, hb1⟩; have HB1 : Hid (Below w.heap.size w w1) := hB0.trans (((Below.refl _ _).drew.trans hb1).mono (Nat.le_of_lt hz)); have e0 := (hb1.cell (p := ⟨w.heap.size, 0, none⟩) (by simpa using hz)).trans f0; have e1 := (hb1.cell (p := ⟨w.heap.size, 1, none⟩) (by simpa using hz)).trans f1; have e2 := (hb1.cell (p := ⟨w.heap.size, 2, none⟩) (by simpa using hz)).trans f2))
  all_goals go_wp2
  all_goals go_ret
  all_goals exact ⟨ret_str HV.out.symm, HB1.out⟩

def lookW (h : Bool) : ByteArray := if h then ⟨#[104, 97, 115]⟩ else ⟨#[97, 115, 107]⟩
theorem c109 (h : Bool) (w : World) :
    Calls Tryz.prog 109 #[.bool h] w fun e w' => e = .returned (.string (lookW h)) ∧ w' = w := by
  cases h
  all_goals
    go_enter Tryz.func109, Tryz.ntmps109
    go_wp2
    go_ret
    exact ⟨rfl, rfl⟩
end Go.Proofs.YtdcgjdgpiogdaaaGreatDoor

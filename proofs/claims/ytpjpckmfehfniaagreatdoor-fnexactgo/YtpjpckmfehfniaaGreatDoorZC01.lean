import Derived.Test.YtpjpckmfehfniaaGreatDoorZC00
import Derived.Laws.Externs
import Derived.Laws.BitsAllLaws
namespace Go.Proofs.YtpjpckmfehfniaaGreatDoor
open Go.RowKit

theorem info162 : (Tryz.prog.info? 162).map (fun i => i.size) = some 2 := by kernel_rfl
theorem info5 : (Tryz.prog.info? 5).map (fun i => (i.zero, i.size, i.bytes)) = some (some (.int .u8 0), 1, 1) := by kernel_rfl
theorem lies162 : liesAt Tryz.prog Tryz.prog.depth 162 (2 / Tryz.prog.cellsOf 162) 0 162 1 = true := by kernel_rfl

set_option maxHeartbeats 1000000 in
set_option maxRecDepth 100000 in
/-- a builder that was written -/
theorem check_used (b : Nat) (w : World) (h0 : w.cell? ⟨b, 0, none⟩ = some (.pointer (some ⟨b, 0, none⟩))) :
    Calls Tryz.prog 200 #[.pointer (some ⟨b, 0, none⟩)] w fun e w' => e = .returned (.tuple #[]) ∧ w' = w := by
  obtain ⟨j, hj, _⟩ := Option.map_eq_some_iff.1 info162
  have kn := Lib.run_neq_ptr_same (P := Tryz.prog) w ⟨b, 0, none⟩ Tryz.underlying160 hj
  go_enter Tryz.func200, Tryz.ntmps200
  go_wp2
  go_end0
  exact ⟨rfl, rfl⟩

set_option maxHeartbeats 1000000 in
/-- a fresh one -/
theorem check_fresh (b : Nat) (w : World) (h0 : w.cell? ⟨b, 0, none⟩ = some (.pointer none)) (hsh : w.shape? b = some (162, 2)) (hfz : w.frozen? ⟨b, 0, none⟩ = false) :
    Calls Tryz.prog 200 #[.pointer (some ⟨b, 0, none⟩)] w fun e w' => e = .returned (.tuple #[]) ∧ w' = w.setCell ⟨b, 0, none⟩ (.pointer (some ⟨b, 0, none⟩)) := by
  obtain ⟨j, hj, hjs⟩ := Option.map_eq_some_iff.1 info162
  have k1 := Lib.run_to_unsafe (P := Tryz.prog) w ⟨b, 0, none⟩ Tryz.underlying160 Tryz.underlying255 hj (by rw [hjs]; decide) hsh (Nat.zero_lt_succ 1)
  have k3 := Lib.run_from_unsafe (P := Tryz.prog) w ⟨b, 0, none⟩ Tryz.underlying255 Tryz.underlying160 hj hsh lies162
  have k2 : ∀ x, Sem.run Tryz.prog (callFunc 217 #[x]) w = .ok (.value x) w := fun x => by
    rw [run_callFunc_extern Tryz.func217 (by kernel_rfl) (by kernel_rfl) (by kernel_rfl) (e := Extern.AbiNoEscape.same) (by kernel_rfl)]
    rw [Lib.run_noEscape]
    rfl
  go_enter Tryz.func200, Tryz.ntmps200
  go_wp2
  go_end0
  exact ⟨rfl, rfl⟩

theorem c200 (B b : Nat) (bs : List Value) (w : World) (h : Lib.IsBuilder 162 5 B b bs w) :
    Calls Tryz.prog 200 #[.pointer (some ⟨b, 0, none⟩)] w fun e w' => e = .returned (.tuple #[]) ∧ Lib.BuilderAt 162 5 B b (.pointer (some ⟨b, 0, none⟩)) bs w' ∧ Below B w w' ∧ w'.heap.size = w.heap.size := by
  rcases h with h | h
  · refine (check_fresh b w h.cell0 h.shape h.frozen0).mono ?_
    rintro e w' ⟨rfl, rfl⟩
    exact ⟨rfl, h.used _, (Below.refl B w).setCell (p := ⟨b, 0, none⟩) h.1 _, by simp⟩
  · refine (check_used b w h.cell0).mono ?_
    rintro e w' ⟨rfl, rfl⟩
    exact ⟨rfl, h, Below.refl B _, rfl⟩

theorem blk_lt {w : World} {b : Nat} {o : Obj} (h : w.heap[b]? = some o) : b < w.heap.size := by
  rcases Nat.lt_or_ge b w.heap.size with h' | h'
  · exact h'
  · simp [Array.getElem?_eq_none h'] at h

theorem row_form {w : World} {B : Nat} {e : TypeId} {v : Value} {n : Nat} {xs : List Value} (h : w.ownsRow B e 1 v n xs) : ∃ ao c, v = .slice ao n c := by
  rcases h.2 with ⟨hv, h0⟩ | ⟨g, cap, cur, hv, _⟩
  · exact ⟨none, 0, by rw [hv, h0]⟩
  · exact ⟨_, _, hv⟩
theorem app_keeps {w1 w2 : World} {b : Nat} {o : Obj} {v : Value} (hbk : w1.heap[b]? = some o) (hne : v.ownBlock ≠ some b) (hg : w1.grownBy w2 v.ownBlock) : w2.heap[b]? = some o := by
  rw [hg.block b (blk_lt hbk) (fun e => hne e.symm)]; exact hbk

set_option maxHeartbeats 1000000 in
set_option maxRecDepth 100000 in
theorem c191 (B b : Nat) (bs : List Value) (s : ByteArray) (w : World) (h : Lib.IsBuilder 162 5 B b bs w) (hlen : bs.length + s.size ≤ 140737488355328) (hBw : B ≤ w.heap.size) :
    Calls Tryz.prog 191 #[.pointer (some ⟨b, 0, none⟩), .string s] w fun e w' => e = .returned (.tuple #[.int .i64 s.size, .nilIface]) ∧ Lib.IsBuilder 162 5 B b (bs ++ Lib.strCells s) w' ∧ Below B w w' := by
  obtain ⟨i0, hi, hz0, hz1, hz2⟩ := info_parts info5
  have HI : Hid (Lib.IsBuilder 162 5 B b bs w) := h
  clear h
  go_enter Tryz.func191, Tryz.ntmps191
  go_wp2_with fail
  refine (c200 B b bs w HI.out).mono ?_
  rintro e w1 ⟨rfl, h1, hb1, hs1⟩
  obtain ⟨hB, v, hbk, hown, hne⟩ := h1
  have hB1 : B ≤ w1.heap.size := by omega
  have HBK : Hid (w1.heap[b]? = some (.cells #[.pointer (some ⟨b, 0, none⟩), v] 162 (0, 0))) := hbk
  have HNE : Hid (v.ownBlock ≠ some b) := hne
  have c1 : w1.cell? ⟨b, 1, none⟩ = some v := by rw [Lib.cell_of_heap hbk]; rfl
  clear hbk hne hs1
  go_wp2_with (at_builtin; refine Lib.wpList_append_own_string _ rfl _ _ 60 9 rfl B 5 i0 Tryz.underlying60 Tryz.underlying9 hi hz0 hz1 hz2 _ _ _ rfl hown s rfl (by unfold maxLen; omega) (by omega) hB1 ?_; intro v' w2 hown' hgrow _; have HB2 : Hid (w2.heap[b]? = some (.cells #[.pointer (some ⟨b, 0, none⟩), v] 162 (0, 0))) := app_keeps (v := v) HBK.out HNE.out hgrow; have HG : Hid (Below B w w2) := hb1.grown hgrow hB1 (fun k hk => (hown.lt k hk).1); obtain ⟨ao, cp, rfl⟩ := row_form hown'; have d1 : w2.cell? ⟨b, 1, none⟩ = some v := (by rw [Lib.cell_of_heap HB2.out]; rfl); have f1 : w2.frozen? ⟨b, 1, none⟩ = false := Lib.frozen_of_heap HB2.out 1; clear hgrow)
  go_ret2
  refine ⟨rfl, .inr ?_, ?_⟩
  · exact Lib.BuilderAt.put (T := 162) (e := 5) hB HB2.out (bs' := bs ++ Lib.strCells s) (by simpa [Lib.strCells_length] using hown') (by decide)
  · exact HG.out.setCell (p := ⟨b, 1, none⟩) hB _

set_option maxHeartbeats 1000000 in
set_option maxRecDepth 100000 in
theorem c169 (B b : Nat) (bs : List Value) (c : Int) (w : World) (h : Lib.IsBuilder 162 5 B b bs w) (hlen : bs.length + 1 ≤ 140737488355328) (hBw : B ≤ w.heap.size) :
    Calls Tryz.prog 169 #[.pointer (some ⟨b, 0, none⟩), .int .u8 c] w fun e w' => e = .returned .nilIface ∧ Lib.IsBuilder 162 5 B b (bs ++ [.int .u8 c]) w' ∧ Below B w w' := by
  obtain ⟨i0, hi, hz0, hz1, hz2⟩ := info_parts info5
  have HI : Hid (Lib.IsBuilder 162 5 B b bs w) := h
  clear h
  go_enter Tryz.func169, Tryz.ntmps169
  go_wp2_with fail
  refine (c200 B b bs w HI.out).mono ?_
  rintro e w1 ⟨rfl, h1, hb1, hs1⟩
  obtain ⟨hB, v, hbk, hown, hne⟩ := h1
  have hB1 : B ≤ w1.heap.size := by omega
  have HBK : Hid (w1.heap[b]? = some (.cells #[.pointer (some ⟨b, 0, none⟩), v] 162 (0, 0))) := hbk
  have HNE : Hid (v.ownBlock ≠ some b) := hne
  have c1 : w1.cell? ⟨b, 1, none⟩ = some v := by rw [Lib.cell_of_heap hbk]; rfl
  clear hbk hne hs1
  go_wp2_with (at_builtin; refine wpList_append_own _ rfl _ _ 60 rfl B 5 i0 (.int .u8 0) 1 1 Tryz.underlying60 hi hz0 hz1 hz2 rfl (by decide) _ _ _ rfl (hown.alloc _) ⟨w1.heap.size, 0, none⟩ 1 1 [.int .u8 c] rfl rfl (cell_one_new _ _ _) (by intro u hu; simp at hu; subst hu; rfl) (by unfold maxLen; omega) (by omega) (by simp; omega) ?_; intro v' w2 hown' hgrow _; have HB2 : Hid (w2.heap[b]? = some (.cells #[.pointer (some ⟨b, 0, none⟩), v] 162 (0, 0))) := app_keeps (v := v) (by rw [Below.heap_alloc w1 _ b (blk_lt HBK.out)]; exact HBK.out) HNE.out hgrow; have HG : Hid (Below B w w2) := (hb1.alloc hB1 _).grown hgrow (by simp; omega) (fun k hk => (hown.lt k hk).1); obtain ⟨ao, cp, rfl⟩ := row_form hown'; have d1 : w2.cell? ⟨b, 1, none⟩ = some v := (by rw [Lib.cell_of_heap HB2.out]; rfl); have f1 : w2.frozen? ⟨b, 1, none⟩ = false := Lib.frozen_of_heap HB2.out 1; clear hgrow)
  go_ret
  refine ⟨rfl, .inr ?_, ?_⟩
  · exact Lib.BuilderAt.put (T := 162) (e := 5) hB HB2.out (bs' := bs ++ [.int .u8 c]) (by simpa using hown') (by decide)
  · exact HG.out.setCell (p := ⟨b, 1, none⟩) hB _

/-- A builder stands behind whatever only makes new memory. -/
theorem ownsRow_below {w w' : World} {base : Nat} {e : TypeId} {size : Nat} {v : Value} {n : Nat} {xs : List Value} (h : w.ownsRow base e size v n xs) (hb : Below w.heap.size w w') : w'.ownsRow base e size v n xs := by
  obtain ⟨h1, h2⟩ := h
  refine ⟨h1, ?_⟩
  rcases h2 with h | ⟨g, cap, cur, hv, hg, hh, hr⟩
  · exact .inl h
  · exact .inr ⟨g, cap, cur, hv, hg, by rw [hb.block g (blk_lt hh)]; exact hh, hr⟩
theorem bld_later {w w' : World} {B b : Nat} {bs : List Value} (h : Lib.IsBuilder 162 5 B b bs w) (hb : Below w.heap.size w w') : Lib.IsBuilder 162 5 B b bs w' := by
  rcases h with ⟨hB, v, hbk, hown, hne⟩ | ⟨hB, v, hbk, hown, hne⟩
  · exact .inl ⟨hB, v, by rw [hb.block b (blk_lt hbk)]; exact hbk, ownsRow_below hown hb, hne⟩
  · exact .inr ⟨hB, v, by rw [hb.block b (blk_lt hbk)]; exact hbk, ownsRow_below hown hb, hne⟩
theorem bld_lt {w : World} {B b : Nat} {bs : List Value} (h : Lib.IsBuilder 162 5 B b bs w) : b < w.heap.size := by
  rcases h with ⟨hB, v, hbk, hown, hne⟩ | ⟨hB, v, hbk, hown, hne⟩
  · exact blk_lt hbk
  · exact blk_lt hbk
end Go.Proofs.YtpjpckmfehfniaaGreatDoor
namespace Go.Proofs.YtpjpckmfehfniaaGreatDoor
open Go.RowKit

def plainB (c : UInt8) : Bool := decide (32 ≤ (c.toNat : Int)) && decide ((c.toNat : Int) ≤ 126) && !((c.toNat : Int) == 34) && !((c.toNat : Int) == 92)
theorem ret_bool {a b : Bool} (h : a = b) : Ending.returned (.bool a) = .returned (.bool b) := by rw [h]
theorem ret_str {a b : ByteArray} (h : a = b) : Ending.returned (.string a) = .returned (.string b) := by rw [h]

set_option maxHeartbeats 400000 in
theorem c168 (c : UInt8) (w : World) :
    Calls Tryz.prog 168 #[.int .u8 c.toNat] w fun e w' => e = .returned (.bool (plainB c)) ∧ w' = w := by
  go_enter Tryz.func168, Tryz.ntmps168
  go_wp2
  all_goals go_ret
  all_goals refine ⟨ret_bool ?_, rfl⟩
  all_goals unfold plainB
  all_goals simp [*]
  all_goals first | omega | skip
  all_goals (try (simp only [bne]))

/-- The digits. -/
def hexL : List UInt8 := [48, 49, 50, 51, 52, 53, 54, 55, 56, 57, 97, 98, 99, 100, 101, 102]
def hexA : ByteArray := ⟨#[48, 49, 50, 51, 52, 53, 54, 55, 56, 57, 97, 98, 99, 100, 101, 102]⟩
theorem hex_get (n : Nat) (h : n < hexA.size) : hexA[n] = hexL.getD n 0 := by
  have h' : n < 16 := h
  obtain rfl | rfl | rfl | rfl | rfl | rfl | rfl | rfl | rfl | rfl | rfl | rfl | rfl | rfl | rfl | rfl : n = 0 ∨ n = 1 ∨ n = 2 ∨ n = 3 ∨ n = 4 ∨ n = 5 ∨ n = 6 ∨ n = 7 ∨ n = 8 ∨ n = 9 ∨ n = 10 ∨ n = 11 ∨ n = 12 ∨ n = 13 ∨ n = 14 ∨ n = 15 := by omega
  all_goals rfl
/-- What a byte is between quotes. -/
def qb (c : UInt8) : List UInt8 := if plainB c = true then [c] else [92, hexL.getD (c.toNat / 16) 0, hexL.getD (c.toNat % 16) 0]
def quoteL (l : List UInt8) : List UInt8 := 34 :: (l.flatMap qb ++ [34])
theorem qb_len (c : UInt8) : (qb c).length ≤ 3 := by unfold qb; split <;> simp
theorem flat_len (l : List UInt8) : (l.flatMap qb).length ≤ 3 * l.length := by
  induction l with
  | nil => simp
  | cons c l ih => have := qb_len c; simp only [List.flatMap_cons, List.length_append, List.length_cons]; omega
theorem quote_len (l : List UInt8) : (quoteL l).length ≤ 3 * l.length + 2 := by
  have := flat_len l; unfold quoteL; simp only [List.length_cons, List.length_append, List.length_nil]; omega
theorem and15 (c : UInt8) : bits BinOp.and IntKind.u8 (c.toNat : Int) 15 = (c.toNat : Int) % 16 := by
  have hc : c.toNat < 256 := c.toNat_lt
  have h := u8_and_nat c.toNat 15 hc (by omega)
  have e : c.toNat &&& 15 = c.toNat % 16 := Nat.and_two_pow_sub_one_eq_mod c.toNat 4
  rw [e] at h
  simpa using h
theorem take_snoc (s : ByteArray) (k : Nat) (h : k < s.size) : s.data.toList.take (k + 1) = s.data.toList.take k ++ [s[k]] := by
  rw [List.take_succ_eq_append_getElem (by simpa using h)]; rfl
theorem cells_snoc (l r : List UInt8) : Lib.byteCells (l ++ r) = Lib.byteCells l ++ Lib.byteCells r := by simp [Lib.byteCells]
theorem cells_len (l : List UInt8) : (Lib.byteCells l).length = l.length := by simp [Lib.byteCells]

set_option maxHeartbeats 2000000 in
set_option maxRecDepth 100000 in
theorem c206 (s : ByteArray) (w : World) (hs : s.size ≤ 1048700) :
    Calls Tryz.prog 206 #[.string s] w fun e w' => e = .returned (.string ⟨(quoteL s.data.toList).toArray⟩) ∧ Below w.heap.size w w' := by
  have HF : Hid (Lib.IsBuilder 162 5 w.heap.size w.heap.size [] (w.alloc (.cells #[.pointer none, .slice none 0 0] 162))) := Lib.fresh_isBuilder 162 5 w
  go_enter Tryz.func206, Tryz.ntmps206
  go_wp2_with fail
  refine (c169 w.heap.size w.heap.size [] 34 _ HF.out (by simp) (by simp)).mono ?_
  rintro e w1 ⟨rfl, h1, hb1⟩
  have hB1 : Below w.heap.size w w1 := ((Below.refl _ _).alloc (Nat.le_refl _) _).trans hb1
  have hz1 : w.heap.size + 1 ≤ w1.heap.size := by have := hb1.size; simp at this; omega
  have H1 : Hid (Lib.IsBuilder 162 5 w.heap.size w.heap.size (Lib.byteCells [34]) w1) := h1
  clear h1 hb1
  go_wp2_with fail
  go_loopw [9] (fun i wr => ∃ (k : Nat), k ≤ s.size ∧ i = .int .i64 k ∧ Hid (Lib.IsBuilder 162 5 w.heap.size w.heap.size (Lib.byteCells (34 :: (s.data.toList.take k).flatMap qb)) wr) ∧ Below w.heap.size w wr ∧ w.heap.size + 1 ≤ wr.heap.size) (fun i _ => s.size - (intOf i).toNat)
  case atStart => exact ⟨0, Nat.zero_le _, rfl, H1, hB1, hz1⟩
  case round =>
    obtain ⟨k, hk, rfl, hbl, hb, hz⟩ := hrel
    have hL : (Lib.byteCells (34 :: (s.data.toList.take k).flatMap qb)).length ≤ 3 * k + 1 := by
      have := flat_len (s.data.toList.take k)
      have h2 : (s.data.toList.take k).length ≤ k := List.length_take_le _ _
      rw [cells_len, List.length_cons]; omega
    by_cases hlt : k < s.size
    · have HS : Hid (34 :: (s.data.toList.take (k + 1)).flatMap qb = (34 :: (s.data.toList.take k).flatMap qb) ++ qb s[k]) := by rw [take_snoc s k hlt]; simp [Hid]
      generalize hl : (34 :: (s.data.toList.take k).flatMap qb : List UInt8) = l at *
      clear hl
      have hby : (s[k].toNat : Int) < 256 := by have := s[k].toNat_lt; omega
      have hand := and15 s[k]
      go_wp2_with fail
      refine (c168 s[k] wr).mono ?_
      rintro e w2 ⟨rfl, hw⟩
      obtain rfl := hw.symm
      cases hp : plainB s[k]
      · have HQ : Hid (qb s[k] = [92, hexL.getD (s[k].toNat / 16) 0, hexL.getD (s[k].toNat % 16) 0]) := by unfold qb; rw [hp]; rfl
        clear hp
        go_wp2_with fail
        refine (c169 w.heap.size w.heap.size (Lib.byteCells l) 92 _ hbl.out (by omega) (by omega)).mono ?_
        rintro e w3 ⟨rfl, h3, hb3⟩
        have H3 : Hid (Lib.IsBuilder 162 5 w.heap.size w.heap.size (Lib.byteCells l ++ [.int .u8 92]) w3) := h3
        have hB3 : Below w.heap.size w w3 := hb.trans hb3
        have hz3 : w.heap.size + 1 ≤ w3.heap.size := Nat.le_trans hz hb3.size
        clear h3 hb3
        go_wp2_with fail
        refine (c169 w.heap.size w.heap.size (Lib.byteCells l ++ [.int .u8 92]) _ _ H3.out (by simp; omega) (by omega)).mono ?_
        rintro e w4 ⟨rfl, h4, hb4⟩
        have H4 : Hid (Lib.IsBuilder 162 5 w.heap.size w.heap.size (Lib.byteCells l ++ [.int .u8 92] ++ [.int .u8 (hexL.getD (s[k].toNat / 16) 0).toNat]) w4) := by rw [← hex_get _ (by show _ < 16; omega)]; exact h4
        have hB4 : Below w.heap.size w w4 := hB3.trans hb4
        have hz4 : w.heap.size + 1 ≤ w4.heap.size := Nat.le_trans hz3 hb4.size
        clear h4 hb4
        go_wp2_with fail
        refine (c169 w.heap.size w.heap.size (Lib.byteCells l ++ [.int .u8 92] ++ [.int .u8 (hexL.getD (s[k].toNat / 16) 0).toNat]) _ _ H4.out (by simp; omega) (by omega)).mono ?_
        rintro e w5 ⟨rfl, h5, hb5⟩
        have H5 : Hid (Lib.IsBuilder 162 5 w.heap.size w.heap.size (Lib.byteCells l ++ [.int .u8 92] ++ [.int .u8 (hexL.getD (s[k].toNat / 16) 0).toNat] ++ [.int .u8 (hexL.getD (s[k].toNat % 16) 0).toNat]) w5) := by rw [← hex_get (s[k].toNat % 16) (by show _ < 16; omega)]; exact h5
        have hB5 : Below w.heap.size w w5 := hB4.trans hb5
        have hz5 : w.heap.size + 1 ≤ w5.heap.size := Nat.le_trans hz4 hb5.size
        clear h5 hb5
        go_wp2
        go_roundw
        case rel => exact ⟨k + 1, by omega, by go_num, by rw [HS.out, HQ.out, cells_snoc]; exact (by simpa [Lib.byteCells] using H5.out : Lib.IsBuilder 162 5 w.heap.size w.heap.size (Lib.byteCells l ++ Lib.byteCells [92, hexL.getD (s[k].toNat / 16) 0, hexL.getD (s[k].toNat % 16) 0]) w5), hB5, hz5⟩
        case measure => simp [intOf]; omega
      · have HQ : Hid (qb s[k] = [s[k]]) := by unfold qb; rw [hp]; rfl
        clear hp
        go_wp2_with fail
        refine (c169 w.heap.size w.heap.size (Lib.byteCells l) _ _ hbl.out (by omega) (by omega)).mono ?_
        rintro e w3 ⟨rfl, h3, hb3⟩
        have H3 : Hid (Lib.IsBuilder 162 5 w.heap.size w.heap.size (Lib.byteCells l ++ [.int .u8 s[k].toNat]) w3) := h3
        have hB3 : Below w.heap.size w w3 := hb.trans hb3
        have hz3 : w.heap.size + 1 ≤ w3.heap.size := Nat.le_trans hz hb3.size
        clear h3 hb3
        go_wp2
        go_roundw
        case rel => exact ⟨k + 1, by omega, by go_num, by rw [HS.out, HQ.out, cells_snoc]; exact H3.out, hB3, hz3⟩
        case measure => simp [intOf]; omega
    · have HT : Hid (quoteL s.data.toList = (34 :: (s.data.toList.take k).flatMap qb) ++ [34]) := by rw [List.take_of_length_le (by simp; omega)]; rfl
      generalize hl : (34 :: (s.data.toList.take k).flatMap qb : List UInt8) = l at *
      clear hl
      go_wp2_with fail
      refine (c169 w.heap.size w.heap.size (Lib.byteCells l) 34 _ hbl.out (by omega) (by omega)).mono ?_
      rintro e w3 ⟨rfl, h3, hb3⟩
      have H3 : Hid (Lib.IsBuilder 162 5 w.heap.size w.heap.size (Lib.byteCells (l ++ [34])) w3) := by rw [cells_snoc]; exact h3
      have hB3 : Below w.heap.size w w3 := hb.trans hb3
      have hz3 : w.heap.size + 1 ≤ w3.heap.size := Nat.le_trans hz hb3.size
      clear h3 hb3
      go_wp2_with fail
      refine (Tryz.Builder_String_any w.heap.size w.heap.size (l ++ [34]) _ H3.out (by omega)).mono ?_
      rintro e w4 ⟨rfl, hb4⟩
      go_wp2
      go_ret
      exact ⟨by rw [HT.out]; rfl, hB3.trans hb4⟩
end Go.Proofs.YtpjpckmfehfniaaGreatDoor

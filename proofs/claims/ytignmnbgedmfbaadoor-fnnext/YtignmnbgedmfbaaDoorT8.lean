import Derived.Test.YtignmnbgedmfbaaDoorT4
import Derived.Test.YtignmnbgedmfbaaDoorT7
namespace Go.Proofs.YtignmnbgedmfbaaDoor
open Go.RowKit

/-- A line. -/
def toL (x : I3) : List UInt8 := if usesTo x.op = true then 32 :: Lib.decDigits x.to.toNat else []
def txL (x : I3) : List UInt8 := if usesTx x.op = true then 32 :: quoteL x.tx.data.toList else []
def lineL (x : I3) : List UInt8 := word x.op ++ toL x ++ txL x ++ [10]
theorem decLen (n : Nat) (h : n < 100) : (Lib.decDigits n).length ≤ 2 := by
  by_cases h10 : n < 10
  · rw [dec_small n h10]; simp
  · rw [dec_two n h10, dec_small (n / 10) (by omega)]; simp
theorem line_len {x : I3} (h : okI x = true) : (word x.op).length ≤ 4 ∧ (toL x).length ≤ 3 ∧ (txL x).length ≤ 903 ∧ (lineL x).length ≤ 911 := by
  obtain ⟨h1, _, _, h4, h5, h6⟩ := okI_bad h
  have a := (word_in x.op h1).2
  have b : (toL x).length ≤ 3 := by
    unfold toL; split
    · have := decLen x.to.toNat (by omega); simp; omega
    · simp
  have c : (txL x).length ≤ 903 := by
    unfold txL; split
    · have := quote_len x.tx.data.toList
      have e : x.tx.data.toList.length = x.tx.size := by simp
      simp; omega
    · simp
  refine ⟨a, b, c, ?_⟩
  unfold lineL; simp only [List.length_append, List.length_cons, List.length_nil]; omega
theorem cat_ofL (a b : List UInt8) : ofL a ++ ofL b = ofL (a ++ b) := by apply ByteArray.ext; simp [ofL]
theorem one_ofL (c : UInt8) : (⟨#[c]⟩ : ByteArray) = ofL [c] := rfl
theorem wordA_ofL (op : Int) : wordA op = ofL (word op) := rfl
theorem nil_ofL : (⟨#[]⟩ : ByteArray) = ofL [] := rfl

theorem c67' (s : ByteArray) (w : World) (hs : s.size ≤ 1048700) :
    Calls Tryd.prog 67 #[.string s] w fun e w' => e = .returned (.string (ofL (quoteL s.data.toList))) ∧ Below w.heap.size w w' := c67 s w hs
theorem c28' (s : ByteArray) (w : World) (hs : s.size ≤ 1048700) :
    Calls Tryd.prog 28 #[.string s] w fun e w' => e = .returned (.string (ofL (quoteL s.data.toList))) ∧ Below w.heap.size w w' := c28 s w hs
theorem c66 (i : Nat) (hi : i < 100) (w : World) :
    Calls Tryd.prog 66 #[.int .i64 i] w fun e w' => e = .returned (.string (ofL (Lib.decDigits i))) ∧ w' = w := Tryd.strconv_Itoa_small i hi w

set_option maxHeartbeats 2000000 in
theorem c32 (x : I3) (w : World) (hok : okI x = true) (hsh : ShapesAt w) :
    Calls Tryd.prog 32 #[.agg #[.int .i64 x.op, .string x.tx, .int .i64 x.to]] w fun e w' => e = .returned (.string (ofL (lineL x))) ∧ Below w.heap.size w w' := by
  obtain ⟨ho, _, _, h4, h5, h6⟩ := okI_bad hok
  obtain ⟨l1, l2, l3, l4⟩ := line_len hok
  obtain ⟨op, tx, to⟩ := x
  obtain ⟨n, rfl⟩ := Int.eq_ofNat_of_zero_le (show 0 ≤ op by simp at ho; omega)
  obtain ⟨m, rfl⟩ := Int.eq_ofNat_of_zero_le h4
  simp only at ho h4 h5 h6 l1
  obtain ⟨a0, b0, c0⟩ := hsh n (by omega) (by omega)
  have h0 := shapes_pos hsh
  have a := cell_past h0 a0
  have b := cell_past h0 b0
  have c := cell_past h0 c0
  have HL : Hid (lineL ⟨n, tx, m⟩ = word n ++ (if usesTo n = true then 32 :: Lib.decDigits m else []) ++ (if usesTx n = true then 32 :: quoteL tx.data.toList else []) ++ [10]) := rfl
  have hw : (wordA n).size ≤ 4 := by rw [wordA_ofL, ofL_size]; exact l1
  have hdz : (ofL (Lib.decDigits m)).size ≤ 2 := by rw [ofL_size]; exact decLen m (by omega)
  have hqz : (ofL (quoteL tx.data.toList)).size ≤ 902 := by
    have := quote_len tx.data.toList
    have e : tx.data.toList.length = tx.size := by simp
    rw [ofL_size]; omega
  have hm : m < 100 := by omega
  have hts : tx.size ≤ 1048700 := by omega
  clear hsh a0 b0 c0 l1 l2 l3 l4 hok
  generalize usesTo n = tO at *
  generalize usesTx n = tX at *
  have hB0 : ∀ o1 o2 : Obj, Below w.heap.size w ((w.alloc o1).alloc o2) := fun o1 o2 => ((Below.refl _ _).alloc (Nat.le_refl _) _).alloc (by simp) _
  cases tO <;> cases tX
  · go_enter Tryd.func32, Tryd.ntmps32
    go_wp2
    go_ret
    exact ⟨ret_str (by rw [HL.out]; simp only [wordA_ofL, one_ofL, cat_ofL]; simp), hB0 _ _⟩
  · go_enter Tryd.func32, Tryd.ntmps32
    go_wp2_with fail
    refine (c67' tx _ hts).mono ?_
    rintro e w1 ⟨rfl, hb1⟩
    have hB1 := (hB0 _ _).trans (hb1.mono (hB0 _ _).size)
    go_wp2
    go_ret
    exact ⟨ret_str (by rw [HL.out]; simp only [wordA_ofL, one_ofL, cat_ofL]; simp), hB1⟩
  · go_enter Tryd.func32, Tryd.ntmps32
    go_wp2_with fail
    refine (c66 m hm _).mono ?_
    rintro e w1 ⟨rfl, rfl⟩
    go_wp2
    go_ret
    exact ⟨ret_str (by rw [HL.out]; simp only [wordA_ofL, one_ofL, cat_ofL]; simp), hB0 _ _⟩
  · go_enter Tryd.func32, Tryd.ntmps32
    go_wp2_with fail
    refine (c66 m hm _).mono ?_
    rintro e w1 ⟨rfl, rfl⟩
    go_wp2_with fail
    refine (c67' tx _ hts).mono ?_
    rintro e w1 ⟨rfl, hb1⟩
    have hB1 := (hB0 _ _).trans (hb1.mono (hB0 _ _).size)
    go_wp2
    go_ret
    exact ⟨ret_str (by rw [HL.out]; simp only [wordA_ofL, one_ofL, cat_ofL]; simp), hB1⟩

/-- What FormTool comes to. -/
def formL (is : List I3) : List UInt8 := if okT is = true ∧ (is.flatMap lineL).length ≤ 300 then is.flatMap lineL else []
theorem lines_len (is : List I3) (h : is.all okI = true) : (is.flatMap lineL).length ≤ 911 * is.length := by
  induction is with
  | nil => simp
  | cons x r ih =>
    simp only [List.all_cons, Bool.and_eq_true] at h
    have := ih h.2
    have h4 := (line_len h.1).2.2.2
    simp only [List.flatMap_cons, List.length_append, List.length_cons]; omega
theorem okT_facts {is : List I3} (h : okT is = true) : (1 ≤ is.length ∧ is.length ≤ 40) ∧ is.all okI = true := by
  unfold okT at h
  simp only [Bool.and_eq_true, decide_eq_true_eq] at h
  exact h
theorem take_all {is : List I3} (h : is.all okI = true) (k : Nat) : (is.take k).all okI = true := by
  rw [List.all_eq_true] at h ⊢
  exact fun x hx => h x (List.mem_of_mem_take hx)
theorem get_ok {is : List I3} (h : is.all okI = true) {k : Nat} (hk : k < is.length) : okI (is.getD k i3z) = true := by
  have e : is.getD k i3z = is[k] := by simp [hk]
  rw [e]; rw [List.all_eq_true] at h
  exact h _ (List.getElem_mem hk)
theorem flat_snoc {is : List I3} {k : Nat} (hk : k < is.length) : (is.take (k + 1)).flatMap lineL = (is.take k).flatMap lineL ++ lineL (is.getD k i3z) := by
  have e : is.getD k i3z = is[k] := by simp [hk]
  rw [List.take_succ_eq_append_getElem hk, List.flatMap_append, e]; simp

set_option maxHeartbeats 2000000 in
theorem c10 (a : Option Addr) (cap : Nat) (is : List I3) (w : World) (hs : ∀ i, (is.getD i i3z).tx.size ≤ 1048700) (hl : is.length ≤ 1048576) (hat : InsAt w a is) (hsh : ShapesAt w) :
    Calls Tryd.prog 10 #[.agg #[.slice a is.length cap]] w fun e w' => e = .returned (.string (ofL (formL is))) ∧ Below w.heap.size w w' := by
  have HAT : Hid (InsAt w a is) := hat
  have HSH : Hid (ShapesAt w) := hsh
  have hB0 : Below w.heap.size w (w.alloc (.cells #[.slice a is.length cap] 29)) := (Below.refl _ _).alloc (Nat.le_refl _) _
  clear hat hsh
  go_enter Tryd.func10, Tryd.ntmps10
  go_wp2_with fail
  refine (c30 a cap is _ hs hl (ins_below HAT.out hB0) (shapes_below HSH.out hB0)).mono ?_
  rintro e w1 ⟨rfl, hb1⟩
  have hB1 : Below w.heap.size w w1 := hB0.trans (hb1.mono hB0.size)
  have hcode : w1.cell? ⟨w.heap.size, 0, none⟩ = some (.slice a is.length cap) := (hb1.cell (p := ⟨w.heap.size, 0, none⟩) (by simp)).trans (by simp [go_sem])
  have hz1 : w.heap.size + 1 ≤ w1.heap.size := by have := hb1.size; simp at this; omega
  clear hb1
  cases hok : okT is
  · have HN : Hid (formL is = []) := by unfold formL; rw [if_neg (by simp [hok])]; rfl
    clear hok
    go_wp2
    go_ret
    exact ⟨ret_str (by rw [HN.out]; rfl), hB1⟩
  · obtain ⟨⟨hn1, hn2⟩, hall⟩ := okT_facts hok
    have HALL : Hid (is.all okI = true) := hall
    have HOK : Hid (okT is = true) := hok
    clear hok hall
    have HF : Hid (Lib.IsBuilder 64 5 w1.heap.size w1.heap.size [] (w1.alloc (.cells #[.pointer none, .slice none 0 0] 64))) := Lib.fresh_isBuilder 64 5 w1
    obtain ⟨b, off, hc⟩ := ins_some HAT.out
    rcases hc with hc | ⟨rfl, hbw, hcell⟩
    · rw [hc] at hn1; simp at hn1
    have HCE : Hid (∀ i, i < is.length → w.cell? ⟨b, off + i * 3, none⟩ = some (.int .i64 (is.getD i i3z).op) ∧ w.cell? ⟨b, off + i * 3 + 1, none⟩ = some (.string (is.getD i i3z).tx) ∧ w.cell? ⟨b, off + i * 3 + 2, none⟩ = some (.int .i64 (is.getD i i3z).to)) := hcell
    clear hcell
    have hcode2 : ∀ o, (w1.alloc o).cell? ⟨w.heap.size, 0, none⟩ = some (.slice (some ⟨b, off, none⟩) is.length cap) := fun o => by
      rw [((Below.refl w1.heap.size w1).alloc (Nat.le_refl _) o).cell (by exact Nat.lt_of_lt_of_le (Nat.lt_succ_self _) hz1)]; exact hcode
    go_wp2_with fail
    go_loopw [12] (fun i wr => ∃ (k : Nat), k ≤ is.length ∧ i = .int .i64 k ∧ Hid (Lib.IsBuilder 64 5 w1.heap.size w1.heap.size (Lib.byteCells ((is.take k).flatMap lineL)) wr) ∧ Below w1.heap.size w1 wr ∧ w1.heap.size + 1 ≤ wr.heap.size) (fun i _ => is.length - (intOf i).toNat)
    case atStart => exact ⟨0, Nat.zero_le _, rfl, HF, (Below.refl _ _).alloc (Nat.le_refl _) _, by simp⟩
    case round =>
      obtain ⟨k, hk, rfl, hbl, hbx, hzr⟩ := hrel
      have hb : Below w.heap.size w wr := hB1.trans (hbx.mono hB1.size)
      have hL : ((is.take k).flatMap lineL).length ≤ 911 * 40 := by
        have h1 := lines_len (is.take k) (take_all HALL.out k)
        have h2 : (is.take k).length ≤ 40 := by rw [List.length_take]; omega
        omega
      by_cases hlt : k < is.length
      · have g0 := (hb.cell (p := ⟨b, off + k * 3, none⟩) hbw).trans (HCE.out k hlt).1
        have g1 := (hb.cell (p := ⟨b, off + k * 3 + 1, none⟩) hbw).trans (HCE.out k hlt).2.1
        have g2 := (hb.cell (p := ⟨b, off + k * 3 + 2, none⟩) hbw).trans (HCE.out k hlt).2.2
        have HG : Hid (okI (is.getD k i3z) = true) := get_ok HALL.out hlt
        have HS : Hid ((is.take (k + 1)).flatMap lineL = (is.take k).flatMap lineL ++ lineL (is.getD k i3z)) := flat_snoc hlt
        generalize is.getD k i3z = x at *
        generalize (is.take k).flatMap lineL = l at *
        have h911 := (line_len HG.out).2.2.2
        go_wp2_with fail
        refine (c32 x _ HG.out (shapes_below HSH.out (hb.alloc hb.size _))).mono ?_
        rintro e w2 ⟨rfl, hb2⟩
        have HB2 : Hid (Lib.IsBuilder 64 5 w1.heap.size w1.heap.size (Lib.byteCells l) w2) := bld_later (bld_later hbl.out ((Below.refl _ _).alloc (Nat.le_refl _) _)) hb2
        have hbx2 : Below w1.heap.size w1 w2 := (hbx.alloc (by omega) _).trans (hb2.mono (by simp; omega))
        have hz2 : w1.heap.size + 1 ≤ w2.heap.size := by have := hb2.size; simp at this; omega
        clear hb2 hbl g0 g1 g2
        go_wp2_with fail
        refine (c31 w1.heap.size w1.heap.size (Lib.byteCells l) (ofL (lineL x)) _ HB2.out (by rw [cells_len, ofL_size]; omega) (by omega)).mono ?_
        rintro e w3 ⟨rfl, h3, hb3⟩
        have H3 : Hid (Lib.IsBuilder 64 5 w1.heap.size w1.heap.size (Lib.byteCells (l ++ lineL x)) w3) := by rw [cells_snoc]; exact h3
        have hbx3 : Below w1.heap.size w1 w3 := hbx2.trans hb3
        have hz3 : w1.heap.size + 1 ≤ w3.heap.size := Nat.le_trans hz2 hb3.size
        clear h3 hb3
        go_wp2
        go_roundw
        case rel => exact ⟨k + 1, by omega, by go_num, by rw [HS.out]; exact H3, hbx3, hz3⟩
        case measure => simp [intOf]; omega
      · have HT : Hid ((is.take k).flatMap lineL = is.flatMap lineL) := by rw [List.take_of_length_le (by omega)]; rfl
        have HV : Hid (formL is = if (is.flatMap lineL).length ≤ 300 then is.flatMap lineL else []) := by unfold formL; simp only [HOK.out, true_and]; trivial
        rw [HT.out] at hbl hL
        generalize is.flatMap lineL = l at *
        go_wp2_with fail
        refine (Tryd.Builder_Len w1.heap.size w1.heap.size (Lib.byteCells l) _ hbl.out).mono ?_
        rintro e w4 ⟨rfl, hw4⟩
        obtain rfl := hw4.symm
        rw [cells_len]
        by_cases h300 : 300 < l.length
        · go_wp2
          go_ret
          exact ⟨ret_str (by rw [HV.out, if_neg (by omega)]; rfl), hb⟩
        · go_wp2_with fail
          refine (Tryd.Builder_String_any w1.heap.size w1.heap.size l _ hbl.out (by omega)).mono ?_
          rintro e w5 ⟨rfl, hb5⟩
          go_wp2
          go_ret
          exact ⟨ret_str (by rw [HV.out, if_pos (by omega)]; rfl), hb.trans (hb5.mono hB1.size)⟩
end Go.Proofs.YtignmnbgedmfbaaDoor

import Derived.Test.YtjcgimlpnmbbbaaDoorP8
import Derived.Test.YtjcgimlpnmbbbaaDoorPE
namespace Go.Proofs.YtjcgimlpnmbbbaaDoor
set_option linter.unusedSimpArgs false
open Go.RowKit

/-- What the package's variables hold. -/
structure VarsAt (w : World) : Prop where
  g0 : ∃ t v, w.cell? ⟨0, 0, none⟩ = some (.iface t v)
  g1 : ∃ t v, w.cell? ⟨1, 0, none⟩ = some (.iface t v)
  g2 : ∃ t v, w.cell? ⟨2, 0, none⟩ = some (.iface t v)
  g6 : w.cell? ⟨6, 0, none⟩ = some (.iface 96 (.agg #[.pointer (some ⟨10, 42, none⟩)]))
theorem VarsAt.pos {w : World} (h : VarsAt w) : 6 < w.heap.size := by
  have h6 := h.g6
  rcases Nat.lt_or_ge 6 w.heap.size with h | h
  · exact h
  · simp [World.cell?, Array.getElem?_eq_none h] at h6
theorem VarsAt.below {w w' : World} (h : VarsAt w) (hb : Below w.heap.size w w') : VarsAt w' := by
  have hp := h.pos
  obtain ⟨t0, v0, h0⟩ := h.g0
  obtain ⟨t1, v1, h1⟩ := h.g1
  obtain ⟨t2, v2, h2⟩ := h.g2
  exact ⟨⟨t0, v0, (hb.cell (p := ⟨0, 0, none⟩) (by show 0 < w.heap.size; omega)).trans h0⟩, ⟨t1, v1, (hb.cell (p := ⟨1, 0, none⟩) (by show 1 < w.heap.size; omega)).trans h1⟩, ⟨t2, v2, (hb.cell (p := ⟨2, 0, none⟩) (by show 2 < w.heap.size; omega)).trans h2⟩, (hb.cell (p := ⟨6, 0, none⟩) hp).trans h.g6⟩
theorem line_eq2 (x : M3) : (⟨#[109, 97, 107, 101, 32]⟩ : ByteArray) ++ ofL (bodyL x) ++ (⟨#[10]⟩ : ByteArray) = ofL (makeL x) := by
  apply ByteArray.ext
  simp [ofL, makeL]

set_option maxHeartbeats 4000000 in
theorem c8 (a : Option Addr) (cap : Nat) (is : List M3) (w : World) (hs : ∀ i, (is.getD i m3z).le 1048576) (hl : is.length ≤ 1048576) (hat : MksAt w a is) (hv : VarsAt w) :
    Calls Tryd.prog 8 #[.slice a is.length cap] w fun e w' => e = .returned (.string (ofL (formP is))) ∧ Below w.heap.size w w' := by
  have HAT : Hid (MksAt w a is) := hat
  have HVA : Hid (VarsAt w) := hv
  obtain ⟨t0, v0, h0⟩ := hv.g0
  obtain ⟨t1, v1, h1⟩ := hv.g1
  obtain ⟨t2, v2, h2⟩ := hv.g2
  have H19 : Hid (Calls Tryd.prog 19 #[.slice a is.length cap] w fun e w' => CkEnd is e ∧ Below w.heap.size w w') := c19 a cap is w hs hl hat t0 t1 t2 v0 v1 v2 h0 h1 h2
  clear hat hv h0 h1 h2
  go_enter Tryd.func8, Tryd.ntmps8
  go_wp2_with fail
  refine H19.out.mono ?_
  rintro e w0 ⟨hend, hb0⟩
  rcases hend with ⟨hok, rfl⟩ | ⟨hno, n, ty, va, rfl⟩
  rotate_left
  · have HN : Hid (formP is = []) := by unfold formP; rw [if_neg (by simp [hno])]; rfl
    clear hno
    go_wp2_with fail
    refine (c18_hit n ty va w0 (HVA.out.below hb0).g6).mono ?_
    rintro e w1 ⟨rfl, hb1⟩
    have hB1 : Below w.heap.size w w1 := hb0.trans (hb1.mono hb0.size)
    go_wp2
    go_ret
    exact ⟨ret_str (by rw [HN.out]; rfl), hB1⟩
  · obtain ⟨hn2, hall⟩ := (plan_iff is).1 hok
    have HALL : Hid (∀ k, k < is.length → stepM is k = true) := hall
    have HOK : Hid (planOk is = true) := hok
    clear hok hall
    go_wp2_with fail
    refine (c18_nil w0).mono ?_
    rintro e w1 ⟨rfl, hb1⟩
    have hB1 : Below w.heap.size w w1 := hb0.trans (hb1.mono hb0.size)
    clear hb0 hb1
    have HF : Hid (Lib.IsBuilder 47 5 w1.heap.size w1.heap.size [] (w1.alloc (.cells #[.pointer none, .slice none 0 0] 47))) := Lib.fresh_isBuilder 47 5 w1
    obtain ⟨b, off, hc⟩ := mks_some HAT.out
    have HC : Hid (is = [] ∨ (a = some ⟨b, off, none⟩ ∧ b < w.heap.size ∧ ∀ i, i < is.length → w.cell? ⟨b, off + i * 3, none⟩ = some (.string (is.getD i m3z).nm) ∧ w.cell? ⟨b, off + i * 3 + 1, none⟩ = some (.string (is.getD i m3z).tl) ∧ w.cell? ⟨b, off + i * 3 + 2, none⟩ = some (.string (is.getD i m3z).ar))) := hc
    clear hc
    go_wp2_with fail
    go_loopw [11] (fun i wr => ∃ (k : Nat), k ≤ is.length ∧ i = .int .i64 k ∧ Hid (Lib.IsBuilder 47 5 w1.heap.size w1.heap.size (Lib.byteCells ((is.take k).flatMap makeL)) wr) ∧ Below w1.heap.size w1 wr ∧ w1.heap.size + 1 ≤ wr.heap.size) (fun i _ => is.length - (intOf i).toNat)
    case atStart => exact ⟨0, Nat.zero_le _, rfl, HF, (Below.refl _ _).alloc (Nat.le_refl _) _, by simp⟩
    case round =>
      obtain ⟨k, hk, rfl, hbl, hbx, hzr⟩ := hrel
      have hb : Below w.heap.size w wr := hB1.trans (hbx.mono hB1.size)
      have hL : ((is.take k).flatMap makeL).length ≤ 950 * 30 := by
        have := flat_lenM k hk (fun j hj => HALL.out j (by omega))
        omega
      by_cases hlt : k < is.length
      · rcases HC.out with hss | ⟨ha, hbw, hcell⟩
        · rw [hss] at hlt; exact absurd hlt (Nat.not_lt_zero _)
        subst ha
        have g0 := (hb.cell (p := ⟨b, off + k * 3, none⟩) hbw).trans (hcell k hlt).1
        have g1 := (hb.cell (p := ⟨b, off + k * 3 + 1, none⟩) hbw).trans (hcell k hlt).2.1
        have g2 := (hb.cell (p := ⟨b, off + k * 3 + 2, none⟩) hbw).trans (hcell k hlt).2.2
        have HG : Hid (okM (is.getD k m3z) = true) := step_ok (HALL.out k hlt)
        have HS : Hid ((is.take (k + 1)).flatMap makeL = (is.take k).flatMap makeL ++ makeL (is.getD k m3z)) := flat_snocM hlt
        clear hcell
        generalize is.getD k m3z = x at *
        generalize (is.take k).flatMap makeL = l at *
        have h950 := make_len HG.out
        have hbody : (ofL (bodyL x)).size ≤ 950 := by
          rw [ofL_size]
          have : (makeL x).length = 5 + (bodyL x).length + 1 := by simp [makeL]; omega
          omega
        go_wp2_with fail
        refine (c21 x _ HG.out).mono ?_
        rintro e w2 ⟨rfl, hb2⟩
        have HB2 : Hid (Lib.IsBuilder 47 5 w1.heap.size w1.heap.size (Lib.byteCells l) w2) := bld_later (bld_later hbl.out ((Below.refl _ _).alloc (Nat.le_refl _) _)) hb2
        have hbx2 : Below w1.heap.size w1 w2 := (hbx.alloc (by omega) _).trans (hb2.mono (by simp; omega))
        have hz2 : w1.heap.size + 1 ≤ w2.heap.size := by have := hb2.size; simp at this; omega
        clear hb2 hbl g0 g1 g2
        go_wp2_with fail
        rw [line_eq2]
        refine (c20 w1.heap.size w1.heap.size (Lib.byteCells l) (ofL (makeL x)) _ HB2.out (by rw [cells_len, ofL_size]; omega) (by omega)).mono ?_
        rintro e w3 ⟨rfl, h3, hb3⟩
        have H3 : Hid (Lib.IsBuilder 47 5 w1.heap.size w1.heap.size (Lib.byteCells (l ++ makeL x)) w3) := by rw [cells_snoc]; exact h3
        have hbx3 : Below w1.heap.size w1 w3 := hbx2.trans hb3
        have hz3 : w1.heap.size + 1 ≤ w3.heap.size := Nat.le_trans hz2 hb3.size
        clear h3 hb3
        go_wp2
        go_roundw
        case rel => exact ⟨k + 1, by omega, by go_num, by rw [HS.out]; exact H3, hbx3, hz3⟩
        case measure => simp [intOf]; omega
      · have HT : Hid ((is.take k).flatMap makeL = is.flatMap makeL) := by rw [List.take_of_length_le (by omega)]; rfl
        have HV : Hid (formP is = if (is.flatMap makeL).length ≤ 300 then is.flatMap makeL else []) := by unfold formP; simp only [HOK.out, true_and]; trivial
        rw [HT.out] at hbl hL
        generalize is.flatMap makeL = l at *
        go_wp2_with fail
        refine (Tryd.Builder_Len w1.heap.size w1.heap.size (Lib.byteCells l) _ hbl.out).mono ?_
        rintro e w4 ⟨rfl, hw4⟩
        obtain rfl := hw4.symm
        rw [cells_len]
        by_cases h300 : 300 < l.length
        · go_wp2
          go_ret
          exact ⟨ret_str (by rw [HV.out, if_neg (by omega)]; rfl), hb⟩
        · go_wp2_with fail
          refine (Tryd.Builder_String_any w1.heap.size w1.heap.size l _ hbl.out (by omega)).mono ?_
          rintro e w5 ⟨rfl, hb5⟩
          go_wp2
          go_ret
          exact ⟨ret_str (by rw [HV.out, if_pos (by omega)]; rfl), hb.trans (hb5.mono hB1.size)⟩
end Go.Proofs.YtjcgimlpnmbbbaaDoor

import Derived.Test.YtpjpckmfehfniaaGreatDoorRA
import Derived.Test.YtpjpckmfehfniaaGreatDoorZC05
namespace Go.Proofs.YtpjpckmfehfniaaGreatDoor
open Go.RowKit

/-- All that is there stays, but for one block. -/
structure But (b : Nat) (w w' : World) : Prop where
  os : w'.os = w.os
  tape : w'.tape = w.tape
  output : w'.output = w.output
  size : w.heap.size ≤ w'.heap.size
  block : ∀ k, k < w.heap.size → k ≠ b → w'.heap[k]? = w.heap[k]?
theorem But.refl (b : Nat) (w : World) : But b w w := ⟨rfl, rfl, rfl, Nat.le_refl _, fun _ _ _ => rfl⟩
theorem But.trans {b : Nat} {u v w : World} (h : But b u v) (k : But b v w) : But b u w :=
  ⟨k.os.trans h.os, k.tape.trans h.tape, k.output.trans h.output, Nat.le_trans h.size k.size, fun i hi hne => (k.block i (Nat.lt_of_lt_of_le hi h.size) hne).trans (h.block i hi hne)⟩
theorem But.of_below {b : Nat} {w w' : World} (h : Below w.heap.size w w') : But b w w' := ⟨h.os, h.tape, h.output, h.size, fun k hk _ => h.block k hk⟩
theorem But.below {b B : Nat} {w w' : World} (h : But b w w') (hB : B ≤ b) (hz : B ≤ w.heap.size) : Below B w w' := ⟨h.os, h.tape, h.output, h.size, fun k hk => h.block k (by omega) (by omega)⟩
theorem But.setCell {b : Nat} {w w' : World} (h : But b w w') (j : Nat) (v : Value) : But b w (w'.setCell ⟨b, j, none⟩ v) := by
  have k := (Below.refl b w').setCell (p := ⟨b, j, none⟩) (Nat.le_refl _) v
  refine ⟨k.os.trans h.os, k.tape.trans h.tape, k.output.trans h.output, Nat.le_trans h.size k.size, fun i hi hne => ?_⟩
  rw [← h.block i hi hne]
  exact Below.heap_setCell _ _ _ _ hne
theorem But.cell {b : Nat} {w w' : World} (h : But b w w') {p : Addr} (hp : p.block < w.heap.size) (hne : p.block ≠ b) : w'.cell? p = w.cell? p := by
  unfold World.cell?
  rw [h.block p.block hp hne]

theorem cons_ofL (x : Int) (l : List UInt8) : strOfNums [x] ++ ofL l = ofL (UInt8.ofNat x.toNat :: l) := by
  apply ByteArray.ext
  simp [ofL, strOfNums]
theorem cat_ofLB (a b : List UInt8) : ofL a ++ ofL b = ofL (a ++ b) := by apply ByteArray.ext; simp [ofL]
theorem one_ofLB (c : UInt8) : (⟨#[c]⟩ : ByteArray) = ofL [c] := rfl

set_option maxHeartbeats 400000 in
theorem c52 (K : Int) (w : World) (h1 : 1 ≤ K) (h2 : K ≤ 1000000) :
    Calls Tryz.prog 52 #[.int .i64 K] w fun e w' => e = .returned (.string (ofL (109 :: dec K))) ∧ Below w.heap.size w w' := by
  have hcv := conv1
  have hcd := convD
  have hz : ∀ y, (strOfNums [y]).size = 1 := fun y => strOfNums_size [y]
  have hdl := dec_len K (by omega) (by omega)
  go_enter Tryz.func52, Tryz.ntmps52
  go_wp2_with fail
  go_loopw [0, 3] (fun k o wr => ∃ (m : Int) (l : List UInt8), 0 ≤ m ∧ m ≤ 1000000 ∧ k = .int .i64 m ∧ o = .string (ofL l) ∧ Hid (dec K = if m = 0 then l else dec m ++ l) ∧ Below w.heap.size w wr) (fun k _ _ => (intOf k).toNat)
  case atStart => exact ⟨K, [], by omega, h2, rfl, rfl, by rw [if_neg (by omega)]; simp [Hid], Below.refl _ _⟩
  case round =>
    obtain ⟨m, l, hm0, hm1, rfl, rfl, hl, hb⟩ := hrel
    by_cases hlt : 0 < m
    · have hsz : (ofL l).size ≤ 100000001 := by
        have := hl.out
        rw [if_neg (by omega)] at this
        have := congrArg List.length this
        rw [List.length_append] at this
        rw [ofL_size]; omega
      have HN : Hid (dec K = if m / 10 = 0 then UInt8.ofNat (48 + m % 10).toNat :: l else dec (m / 10) ++ (UInt8.ofNat (48 + m % 10).toNat :: l)) := by
        have h := hl.out
        rw [if_neg (by omega)] at h
        by_cases h10 : m < 10
        · rw [dec_lt m h10] at h
          rw [if_pos (by omega), show m % 10 = m by omega]
          exact h
        · rw [dec_ge m (by omega)] at h
          rw [if_neg (by omega)]
          exact h.trans (by simp)
      go_wp2
      go_roundw
      case rel => exact ⟨m / 10, _, by omega, by omega, rfl, by rw [cons_ofL], HN, hb.alloc hb.size _⟩
      case measure => simp [intOf]; omega
    · obtain rfl : m = 0 := by omega
      have HN : Hid (dec K = l) := by have h := hl.out; rwa [if_pos rfl] at h
      have hsz : (ofL l).size ≤ 100000001 := by rw [ofL_size, ← HN.out]; exact hdl
      go_wp2
      go_ret
      exact ⟨ret_str (by rw [HN.out]; simp only [one_ofLB, cat_ofLB]; rfl), hb⟩

/-- The marks. -/
def mkI (i : Nat) : I3 := ⟨1 + 3 * (i : Int), ofL (109 :: dec (1 + 3 * (i : Int) + 1)), 1 + 3 * (i : Int) + 1 + 1⟩
def MarksAt (w : World) (b k : Nat) : Prop := ∀ j, j < k → w.cell? ⟨b, j * 3, none⟩ = some (.int .i64 (mkI j).op) ∧ w.cell? ⟨b, j * 3 + 1, none⟩ = some (.string (mkI j).tx) ∧ w.cell? ⟨b, j * 3 + 2, none⟩ = some (.int .i64 (mkI j).to)
def Open3 (w : World) (b n : Nat) : Prop := b < w.heap.size ∧ (∀ j, j < n * 3 → ∃ v, w.cell? ⟨b, j, none⟩ = some v) ∧ ∀ j, w.frozen? ⟨b, j, none⟩ = false
theorem Open3.below {w w' : World} {b n : Nat} (h : Open3 w b n) (hb : Below w.heap.size w w') : Open3 w' b n :=
  ⟨Nat.lt_of_lt_of_le h.1 hb.size, fun j hj => by rw [hb.cell (by exact h.1)]; exact h.2.1 j hj, fun j => by rw [hb.frozen (by exact h.1)]; exact h.2.2 j⟩
theorem Open3.set {w : World} {b n j : Nat} {v : Value} (h : Open3 w b n) (hj : j < n * 3) : Open3 (w.setCell ⟨b, j, none⟩ v) b n := by
  refine ⟨by simpa using h.1, fun i hi => ?_, fun i => by have := h.2.2 i; simpa using this⟩
  by_cases e : i = j
  · subst e
    obtain ⟨x, hx⟩ := h.2.1 i hi
    exact ⟨v, World.cell?_setCell_same _ _ _ hx⟩
  · rw [World.cell?_setCell_other _ _ _ _ (adr_ne (Ne.symm e))]
    exact h.2.1 i hi
theorem marks_below {w w' : World} {b k : Nat} (h : MarksAt w b k) (hlt : b < w.heap.size) (hb : Below w.heap.size w w') : MarksAt w' b k := by
  intro j hj
  rw [hb.cell (by exact hlt), hb.cell (by exact hlt), hb.cell (by exact hlt)]
  exact h j hj
theorem marks_set {w : World} {b k j : Nat} {v : Value} (h : MarksAt w b k) (hj : k * 3 ≤ j) : MarksAt (w.setCell ⟨b, j, none⟩ v) b k := by
  intro i hi
  rw [World.cell?_setCell_other _ _ _ _ (adr_ne (by omega)), World.cell?_setCell_other _ _ _ _ (adr_ne (by omega)), World.cell?_setCell_other _ _ _ _ (adr_ne (by omega))]
  exact h i hi
theorem marks_snoc {w : World} {b k : Nat} (h : MarksAt w b k) (h0 : w.cell? ⟨b, k * 3, none⟩ = some (.int .i64 (mkI k).op)) (h1 : w.cell? ⟨b, k * 3 + 1, none⟩ = some (.string (mkI k).tx)) (h2 : w.cell? ⟨b, k * 3 + 2, none⟩ = some (.int .i64 (mkI k).to)) : MarksAt w b (k + 1) := by
  intro i hi
  by_cases e : i = k
  · subst e; exact ⟨h0, h1, h2⟩
  · exact h i (by omega)

end Go.Proofs.YtpjpckmfehfniaaGreatDoor
namespace Go.Proofs.YtpjpckmfehfniaaGreatDoor
open Go.RowKit

theorem to_yes {x : I3} (h : usesTo x.op = true) : toL x = 32 :: Lib.decDigits x.to.toNat := by unfold toL; rw [if_pos h]
theorem to_no {x : I3} (h : usesTo x.op = false) : toL x = [] := by unfold toL; rw [if_neg (by simp [h])]
theorem tx_yes {x : I3} (h : usesTx x.op = true) : txL x = 32 :: quoteL x.tx.data.toList := by unfold txL; rw [if_pos h]
theorem tx_no {x : I3} (h : usesTx x.op = false) : txL x = [] := by unfold txL; rw [if_neg (by simp [h])]

set_option maxHeartbeats 4000000 in
theorem c85 (a : Option Addr) (cap : Nat) (is : List I3) (w : World) (hs : ∀ i, (is.getD i i3z).tx.size ≤ 1048700) (hl : is.length ≤ 1048576) (hat : InsAt w a is) :
    Calls Tryz.prog 85 #[.agg #[.slice a is.length cap]] w fun e w' => e = .returned (.string (ofL (formL is))) ∧ Below w.heap.size w w' := by
  have HAT : Hid (InsAt w a is) := hat
  have hB0 : Below w.heap.size w (w.alloc (.cells #[.slice a is.length cap] 74)) := (Below.refl _ _).alloc (Nat.le_refl _) _
  clear hat
  go_enter Tryz.func85, Tryz.ntmps85
  go_wp2_with fail
  refine (c75 a cap is _ hs hl (ins_below HAT.out hB0)).mono ?_
  rintro e w1 ⟨rfl, hb1⟩
  have hB1 : Below w.heap.size w w1 := hB0.trans (hb1.mono hB0.size)
  have hcode : w1.cell? ⟨w.heap.size, 0, none⟩ = some (.slice a is.length cap) := (hb1.cell (p := ⟨w.heap.size, 0, none⟩) (by simp)).trans (by simp [go_sem])
  have hz1 : w.heap.size + 1 ≤ w1.heap.size := by have := hb1.size; simp at this; omega
  clear hb1
  cases hok : okT is
  · have HN : Hid (formL is = []) := by unfold formL; rw [if_neg (by simp [hok])]; rfl
    clear hok
    go_wp2
    go_ret
    exact ⟨ret_str (by rw [HN.out]; rfl), hB1⟩
  · obtain ⟨⟨hn1, hn2⟩, hall⟩ := okT_facts hok
    have HALL : Hid (is.all okI = true) := hall
    have HOK : Hid (okT is = true) := hok
    clear hok hall
    obtain ⟨b, off, hc⟩ := ins_some HAT.out
    rcases hc with hc | ⟨rfl, hbw, hcell⟩
    · rw [hc] at hn1; simp at hn1
    have HCE : Hid (∀ i, i < is.length → w.cell? ⟨b, off + i * 3, none⟩ = some (.int .i64 (is.getD i i3z).op) ∧ w.cell? ⟨b, off + i * 3 + 1, none⟩ = some (.string (is.getD i i3z).tx) ∧ w.cell? ⟨b, off + i * 3 + 2, none⟩ = some (.int .i64 (is.getD i i3z).to)) := hcell
    clear hcell
    go_wp2_with fail
    go_loopw [3, 4] (fun o i wr => ∃ (k : Nat), k ≤ is.length ∧ i = .int .i64 k ∧ o = .string (ofL ((is.take k).flatMap lineL)) ∧ Below w1.heap.size w1 wr) (fun _ i _ => is.length - (intOf i).toNat)
    case atStart => exact ⟨0, Nat.zero_le _, rfl, rfl, Below.refl _ _⟩
    case round =>
      obtain ⟨k, hk, rfl, rfl, hbx⟩ := hrel
      have hb : Below w.heap.size w wr := hB1.trans (hbx.mono hB1.size)
      have hcoder : wr.cell? ⟨w.heap.size, 0, none⟩ = some (.slice (some ⟨b, off, none⟩) is.length cap) := (hbx.cell (p := ⟨w.heap.size, 0, none⟩) (Nat.lt_of_lt_of_le (Nat.lt_succ_self _) hz1)).trans hcode
      have hL : ((is.take k).flatMap lineL).length ≤ 911 * 40 := by
        have h1 := lines_len (is.take k) (take_all HALL.out k)
        have h2 : (is.take k).length ≤ 40 := by rw [List.length_take]; omega
        omega
      by_cases hlt : k < is.length
      · have g0 := (hb.cell (p := ⟨b, off + k * 3, none⟩) hbw).trans (HCE.out k hlt).1
        have g1 := (hb.cell (p := ⟨b, off + k * 3 + 1, none⟩) hbw).trans (HCE.out k hlt).2.1
        have g2 := (hb.cell (p := ⟨b, off + k * 3 + 2, none⟩) hbw).trans (HCE.out k hlt).2.2
        have HG : Hid (okI (is.getD k i3z) = true) := get_ok HALL.out hlt
        have HS : Hid ((is.take (k + 1)).flatMap lineL = (is.take k).flatMap lineL ++ lineL (is.getD k i3z)) := flat_snoc hlt
        have hxs := hs k
        generalize is.getD k i3z = x at *
        generalize (is.take k).flatMap lineL = l at *
        obtain ⟨l1, l2, l3, l4⟩ := line_len HG.out
        obtain ⟨ho, _, _, h4, h5, h6⟩ := okI_bad HG.out
        obtain ⟨m, hm⟩ := Int.eq_ofNat_of_zero_le h4
        have hm' : m < 100 := by omega
        have s0 : (ofL l).size ≤ 911 * 40 := by rw [ofL_size]; exact hL
        have s1 : (wordA x.op).size ≤ 4 := by rw [wordA_ofL, ofL_size]; exact l1
        have s2 : (ofL (Lib.decDigits m)).size ≤ 2 := by rw [ofL_size]; exact decLen m hm'
        have s3 : (ofL (quoteL x.tx.data.toList)).size ≤ 902 := by
          have := quote_len x.tx.data.toList
          have e : x.tx.data.toList.length = x.tx.size := by simp
          rw [ofL_size]; omega
        have HM : Hid (x.to = (m : Int)) := hm
        have HLine : Hid (lineL x = word x.op ++ toL x ++ txL x ++ [10]) := rfl
        clear hm l2 l3 l4 h4 h5
        go_wp2_with fail
        refine (c82 x.op _).mono ?_
        rintro e w2 ⟨rfl, hw2⟩
        obtain rfl := hw2.symm
        go_wp2_with fail
        refine (c81 x.op _).mono ?_
        rintro e w2 ⟨rfl, hb2⟩
        have p0 : w2.cell? ⟨wr.heap.size, 0, none⟩ = some (.int .i64 x.op) := (hb2.cell (p := ⟨wr.heap.size, 0, none⟩) (by simp)).trans (by simp [go_sem])
        have p1 : w2.cell? ⟨wr.heap.size, 1, none⟩ = some (.string x.tx) := (hb2.cell (p := ⟨wr.heap.size, 1, none⟩) (by simp)).trans (by simp [go_sem])
        have p2 : w2.cell? ⟨wr.heap.size, 2, none⟩ = some (.int .i64 x.to) := (hb2.cell (p := ⟨wr.heap.size, 2, none⟩) (by simp)).trans (by simp [go_sem])
        have hbx2 : Below w1.heap.size w1 w2 := (hbx.alloc hbx.size _).trans (hb2.mono (by have := hbx.size; simp; omega))
        have hz2 : wr.heap.size + 1 ≤ w2.heap.size := by have := hb2.size; simp at this; omega
        clear hb2 g0 g1 g2 hbx
        cases hO : usesTo x.op <;> cases hX : usesTx x.op
        · have HT1 : Hid (toL x = []) := to_no hO
          have HT2 : Hid (txL x = []) := tx_no hX
          clear hO hX
          go_wp2
          go_roundw
          case rel => exact ⟨k + 1, by omega, by go_num, by rw [HS.out, HLine.out, HT1.out, HT2.out]; simp only [wordA_ofL, one_ofL, cat_ofL]; simp, hbx2⟩
          case measure => simp [intOf]; omega
        · have HT1 : Hid (toL x = []) := to_no hO
          have HT2 : Hid (txL x = 32 :: quoteL x.tx.data.toList) := tx_yes hX
          clear hO hX
          go_wp2_with fail
          refine (c111' x.tx _ hxs).mono ?_
          rintro e w3 ⟨rfl, hb3⟩
          have hbx3 : Below w1.heap.size w1 w3 := hbx2.trans (hb3.mono hbx2.size)
          go_wp2
          go_roundw
          case rel => exact ⟨k + 1, by omega, by go_num, by rw [HS.out, HLine.out, HT1.out, HT2.out]; simp only [wordA_ofL, one_ofL, cat_ofL]; simp, hbx3⟩
          case measure => simp [intOf]; omega
        · have HT1 : Hid (toL x = 32 :: Lib.decDigits m) := by rw [to_yes hO, HM.out]; rfl
          have HT2 : Hid (txL x = []) := tx_no hX
          clear hO hX
          go_wp2_with fail
          rw [HM.out]
          refine (c77 m _ hm').mono ?_
          rintro e w3 ⟨rfl, hb3⟩
          have hbx3 : Below w1.heap.size w1 w3 := hbx2.trans (hb3.mono hbx2.size)
          go_wp2
          go_roundw
          case rel => exact ⟨k + 1, by omega, by go_num, by rw [HS.out, HLine.out, HT1.out, HT2.out]; simp only [wordA_ofL, one_ofL, cat_ofL]; simp, hbx3⟩
          case measure => simp [intOf]; omega
        · have HT1 : Hid (toL x = 32 :: Lib.decDigits m) := by rw [to_yes hO, HM.out]; rfl
          have HT2 : Hid (txL x = 32 :: quoteL x.tx.data.toList) := tx_yes hX
          clear hO hX
          go_wp2_with fail
          rw [HM.out]
          refine (c77 m _ hm').mono ?_
          rintro e w3 ⟨rfl, hb3⟩
          have hbx3 : Below w1.heap.size w1 w3 := hbx2.trans (hb3.mono hbx2.size)
          have q1 : w3.cell? ⟨wr.heap.size, 1, none⟩ = some (.string x.tx) := (hb3.cell (p := ⟨wr.heap.size, 1, none⟩) (Nat.lt_of_lt_of_le (Nat.lt_succ_self _) hz2)).trans p1
          go_wp2_with fail
          refine (c111' x.tx _ hxs).mono ?_
          rintro e w4 ⟨rfl, hb4⟩
          have hbx4 : Below w1.heap.size w1 w4 := hbx3.trans (hb4.mono hbx3.size)
          go_wp2
          go_roundw
          case rel => exact ⟨k + 1, by omega, by go_num, by rw [HS.out, HLine.out, HT1.out, HT2.out]; simp only [wordA_ofL, one_ofL, cat_ofL]; simp, hbx4⟩
          case measure => simp [intOf]; omega
      · have HT : Hid ((is.take k).flatMap lineL = is.flatMap lineL) := by rw [List.take_of_length_le (by omega)]; rfl
        have HV : Hid (formL is = if (is.flatMap lineL).length ≤ 300 then is.flatMap lineL else []) := by unfold formL; simp only [HOK.out, true_and]; trivial
        rw [HT.out] at hL ⊢
        generalize is.flatMap lineL = l at *
        have s0 : (ofL l).size = l.length := ofL_size l
        by_cases h300 : 300 < l.length
        · go_wp2
          go_ret
          exact ⟨ret_str (by rw [HV.out, if_neg (by omega)]; rfl), hb⟩
        · go_wp2
          go_ret
          exact ⟨ret_str (by rw [HV.out, if_pos (by omega)]), hb⟩
end Go.Proofs.YtpjpckmfehfniaaGreatDoor
